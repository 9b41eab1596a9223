import PyProof.Rows.All
import Wide.All
import OpenK.AllK
import Wide.FinOn
import Lean
import PyProof.EqAt
import PyProof.EqKinds
import PyProof.TupleCall
import PyProof.ExcAttrAll.Exception
import PyProof.InstStoreFacts
import PyProof.Rows.SetFrom
import PyProof.SetKind
import KE.KSetInts
import KE.KSortTup
import KE.KDictList
import PySem.Challenge.RW_pagenook_k09_texts
set_option Elab.async false
set_option linter.all false
set_option maxRecDepth 100000
open Array renaming length_toList→EM,getElem?_toList→Fb,getD_eq_getD_getElem?→F5,toList_append→F9,toList_inj→JC,perm_iff_toList_perm→LV,toList_push→Lj,toList_reverse→T7,toList_extract→T8
open Bool renaming false_ne_true→CS,false_eq_true→DA,and_eq_true→E2,and_false→KJ,true_eq_false→Lg,false_and→Ln,eq_iff_iff→Nj,not_true→Qn,false_or→Qo
open Int renaming toNat_natCast→Gu,emod_lt_of_pos→QH,emod_nonneg→Qd
open List renaming length_map→AL,getElem?_eq_getElem→Ar,map_cons→Au,getElem?_map→Az,length_append→BC,getElem?_eq_some_iff→BW,map_append→BX,mem_map→BY,length_take→Bg,map_map→Bh,mem_cons→Bk,append_assoc→Bu,mem_singleton→CA,mem_append→CB,mem_of_getElem?→CL,sum_cons→CM,size_toArray→CU,length_cons→CV,getD_eq_getElem?_getD→Cj,take_length→Cv,find?_cons→Cw,append_nil→Cy,getElem?_append_right→C4,getElem?_append_left→C9,mem_cons_of_mem→DU,take_append_drop→De,mem_append_right→Df,take_add_one→Dm,length_drop→Dq,length_singleton→EK,getElem?_eq_none→EL,mem_cons_self→Ed,getElem_mem→E1,map_congr_left→Fc,filter_cons_of_pos→F6,take_of_length_le→F7,length_filter_le→F8,lookup_cons→GC,filter_cons_of_neg→Gs,mem_of_mem_take→HY,mem_iff_getElem→HZ,mem_append_left→Ha,length_take_le'→Hb,any_cons→Hg,perm_append_comm→IB,nodup_cons→IG,mem_filter→IH,ext_getElem?→JA,not_mem_nil→JB,mem_of_mem_drop→J7,getElem?_drop→J8,any_eq_true→KA,length_nil→KG,take_zero→KH,mem_range→KI,all_cons→KN,map_nil→KQ,find?_cons_of_pos→LY,find?_cons_of_neg→LZ,drop_eq_nil_of_le→La,pairwise_iff_getElem→NL,getElem?_eq_none_iff→NM,drop_eq_getElem_cons→NN,getElem?_set_self→NP,getElem?_set_ne→NT,pairwise_cons→NW,filter_append→NX,cons_append→Nf,all_eq_true→Ng,nodup_nil→Nm,drop_zero→Np,map_take→Nu,map_drop→Nv,map_id→N3,drop_append_of_le_length→P1,length_eq_zero_iff→P4,filterMap_cons→QB,mem_filterMap→QE,getElem?_take→QF,contains_cons→QG,nodup_append→QO,length_range→QP,find?_append→QQ,countP_cons→QX,nil_append→Qc,take_take→Qh,extract_eq_drop_take→To,pairwise_singleton→Ts,head_eq_of_cons_eq→Tt,length_pos_of_mem→Tv,getElem?_toArray→T3,getElem?_of_mem→T5,getElem?_range→UB,set_cons_succ→UE,find?_eq_none→UG
open List.Perm renaming refl→Nq,append_left→P7,append_right→Tw
open List.cons renaming inj→Hf
open Nat renaming le_refl→Ac,ne_of_lt→BH,le_trans→BI,zero_le→CF,lt_of_lt_of_le→Cu,ne_of_gt→EN,le_succ→EO,sub_self→E3,le_of_lt→E4,lt_succ_self→Ll,min_eq_left→Lm,lt_irrefl→Lo,lt_succ_of_lt→Na,le_of_not_lt→Nd,not_lt→N5,mul_le_mul_left→QA
open Ne renaming symm→C5
open Option renaming bind_some→Lk,map_eq_some_iff→NO,map_some→Ni
open Option.some renaming inj→Ah
open Or renaming inl→Ad,inr→Co
open Prod.mk renaming injEq→KL,inj→KS
open PyProof.Rows renaming wpS_bind→Ai,wpS_pure→Ap,wpS_forRange→Ee,wpS_get→HF,wpS_modify→JG,wpS_lift→Kf,split_weight→Lp,boot_sorted→Lr,slot_tuple_getitem→Ti,callWith_type1→Tj
open PyProof.Rows.F renaming plain_set_update_loop→Tu
open PySem renaming wpAny_bind→AJ,wpAny_pure→Af,sizeLine_eq→BA,wpAny_mono→Cz,boot_len→Dg,wpAny_holding→Fd,strLen_append→Gx,wpAny_rule→Gy,wpAny_newObj_type→Hc,codeAny_builtin→He,mem_of_lookup→ID,wpAny_loadPart_at→IE,wpAny_field→JF,call_meets→JH,wpAny_passesOwn→KC,codeAny_mono→KP,typeIs_str→KW,wpAny_isSubtype_exc→Lc,wpAny_setField_rec→Le,wpAny_Call_Name_kw→Lf,wpAny_truthy_bool→Lh,wpAny_setState_of→Li,wpAny_call→Lu,tupleKind_room_in1→NV,wpAny_call_entry→Nb,wpAny_execs_nil→Nh,wpAny_setField→Nl,wpAny_standAt→Nr,plainId_quiet→Nt,call_meetsIn→Nx,wpAny_getItem_str_slice→P2,post_val_or_str→Qb,wpAny_newList→Qm,codeAny_call_builtin→T4
open PySem.Around renaming under_plainId→Lb
open PySem.Calls renaming callWith_builtin→P5,spliced_cons→QI,evalArgs_plain→T6,Constant_str→UI
open PySem.Code renaming quiet_builtin→NY
open PySem.F renaming plainAttrs_list→EJ,type_list_append→FY,slot_list_append→FZ,excBase_Exception→IA,called_set→I8,plainAttrs_dict→LW,plainAttrs_str→LX,plain_extend_loop→NK,slot_dict_values→Tp,slot_dict_items→Tr,slot_dict_get→T1,args_str_split_2→UH,slot_dict_itemiterator_iter→Zq
open PySem.Heap renaming lt_size→Aw,get?_push_of_some→A7,get?_push_size→Bx,get?_update_other→Dc,size_push→GF,get?_update_self→IC,get?_update_ne→Ld,size_after_update→NQ,size_update→QY
open PySem.Heap.SameBut renaming update→UC
open PySem.Paired renaming length→IK
open PySem.PassesOwn renaming never→Dr
open PySem.Txt renaming slice_le→Ny
open PySem.W renaming kia_tup→Gv,kia_one→Gw,mg_of→IJ,looks_findIn→NS,callWith_K0→P9,kitx_list→QM,kitx_dict→QN,methodCall_KW→Tz,plainGet_of→T9,looks_clsIn→UA,callWith_K→UD
open True renaming intro→Cm
noncomputable section
namespace L2
open PySem PySem.Spec PyProof.Rows
open PySem.W (InitBack InstAt any_some bind_fn cellsFrom_some check_slot clsIn cls_value codeIn codeRec_of emptyDict eq_bytes findCls findIn findObj findObj_own fnOf get_value handedIn handedOut_of hasDictIn hideAll hideAll_get hideAll_none hideAll_size holds_open instObj isFn keepIn ki_setAt ki_setBack kitAny kitOne kitx_bool kitx_float kitx_int kitx_none kitx_own kitx_str kitx_tuple lookIn looks_find looks_mroIn make_core makesIn makes_of methodObj method_cls method_fn mg_none_of mroIn ne_bytes of_hideAll osa_eq osa_open plainGet plainOver readsIn set_plain specialIn takerIn takesIn typeIn)
abbrev AG:=@if_neg
abbrev AH:=@if_pos
abbrev BK:=@decide_eq_false
abbrev BZ:=@congrArg
abbrev Bj:=@decide_eq_true
abbrev Bp:=@if_false
abbrev CG:=@if_true
abbrev DB:=@ite_congr
abbrev Fe:=@getElem?_pos
abbrev Fg:=@beq_iff_eq
abbrev IF:=@beq_self_eq_true
abbrev I9:=@bne_self_eq_false
abbrev JM:=@or_false
abbrev J9:=@of_decide_eq_true
abbrev KD:=@beq_false_of_ne
abbrev KO:=@decide_false
abbrev KR:=@decide_true
abbrev NU:=@beq_eq_false_iff_ne
abbrev NZ:=@decide_eq_true_eq
abbrev QD:=@of_decide_eq_false
abbrev Tq:=@decide_eq_false_iff_not
local macro_rules|`(tactic|ac_rfl)=>`(tactic|first|decide+kernel|exact⟨rfl,rfl,rfl,by decide+kernel,rfl,by decide+kernel,by decide+kernel⟩)
noncomputable def inClass(s:Stmt)(j:Nat):Stmt:=match s with
 |.ClassDef _ _ _ body _ _ _ _ _ _ _=>body.getD j (.Pass ⟨0,0,0,0⟩)
 |_=>.Pass ⟨0,0,0,0⟩
noncomputable def JP(s:Stmt):Arguments:=match s with
 |.FunctionDef _ a _ _ _ _ _ _ _ _=>a
 |_=>{posonlyargs:=[],args:=[],vararg:=none,kwonlyargs:=[],kw_defaults:=[],kwarg:=none,defaults:=[]}
noncomputable def Ft(s:Stmt):List Stmt:=match s with
 |.FunctionDef _ _ b _ _ _ _ _ _ _=>b
 |_=>[]
noncomputable def Ao(s:Stmt):Scope:=match s with
 |.FunctionDef _ _ _ _ _ _ sc _ _ _=>sc
 |_=>{kind:=.function,names:=[],isGenerator:=false,isCoroutine:=false}
noncomputable def top(i:Nat):Stmt:=PySem.Challenge.pw_pagenook_k09_texts.main.body.getD i (.Pass ⟨0,0,0,0⟩)
abbrev JD:Stmt:=inClass (top 2) 0
abbrev Ql:Stmt:=inClass (top 3) 0
abbrev Qk:Stmt:=inClass (top 4) 0
abbrev Qa:Stmt:=inClass (top 5) 0
abbrev Qq:Stmt:=inClass (top 6) 0
abbrev Qf:Stmt:=inClass (top 7) 0
abbrev Qg:Stmt:=inClass (top 8) 0
abbrev UJ:Stmt:=top 10
abbrev Uh:Stmt:=top 11
abbrev QW:Stmt:=top 13
abbrev QR:Stmt:=top 14
abbrev N0:Stmt:=top 15
abbrev Qr:Stmt:=top 16
abbrev Uu:Stmt:=top 18
abbrev US:Stmt:=top 19
abbrev Ul:Stmt:=top 20
abbrev N2:Stmt:=top 21
abbrev Qt:Stmt:=top 22
abbrev Ls:Stmt:=top 24
abbrev Qu:Stmt:=inClass (top 25) 0
abbrev QU:Stmt:=inClass (top 25) 1
abbrev P6:Stmt:=inClass (top 25) 2
abbrev P8:Stmt:=inClass (top 25) 3
abbrev QJ:Stmt:=inClass (top 25) 4
abbrev QC:Stmt:=inClass (top 25) 5
abbrev QL:Stmt:=inClass (top 25) 6
abbrev QZ:Stmt:=inClass (top 25) 7
abbrev QT:Stmt:=inClass (top 25) 8
abbrev Qe:Stmt:=inClass (top 25) 9
abbrev QS:Stmt:=inClass (top 25) 10
abbrev QK:Stmt:=inClass (top 25) 11
abbrev QV:Stmt:=inClass (top 25) 12
abbrev Q5:Stmt:=top 27
abbrev Qi:Stmt:=top 28
abbrev Qp:Stmt:=top 29
abbrev Qj:Stmt:=top 30
abbrev OX:Stmt:=top 31
abbrev O2:Stmt:=top 33
abbrev O8:Stmt:=top 34
abbrev XJ:Stmt:=top 35
abbrev TC:Stmt:=top 36
abbrev Pp:Stmt:=top 37
abbrev PY:Stmt:=top 38
abbrev MJ:Stmt:=top 39
abbrev MP:Stmt:=top 40
abbrev Oj:Stmt:=top 41
abbrev MG:Stmt:=top 42
abbrev Ou:Stmt:=top 43
abbrev MZ:Stmt:=top 44
abbrev Oo:Stmt:=top 45
abbrev Mu:Stmt:=top 46
abbrev MH:Stmt:=top 47
abbrev N6:Stmt:=top 48
abbrev OO:Stmt:=top 49
abbrev Ov:Stmt:=top 50
abbrev Of:Stmt:=top 51
abbrev Og:Stmt:=top 52
abbrev Oc:Stmt:=top 53
abbrev OJ:Stmt:=top 54
abbrev OY:Stmt:=top 55
abbrev Om:Stmt:=top 56
abbrev K3:Stmt:=top 57
section
open PySem.W
noncomputable def hRf:Option (Option Value)->Addr
 |some (some (.ref a))=>a
 |_=>0
noncomputable def NG:Option (Option Value)->Bool
 |some (some (.ref _))=>true
 |_=>false
abbrev Zd:=Option (Str×Str×Arguments×FuncBody×Scope×Addr×List (Str×Addr)×Value×Addr×Bool)
noncomputable def LN(K:PySem.W.Frag)(f:Addr)(q:Str):Zd:=match K.lookup f with
 |some ⟨_,_,.func d,_⟩=>some (d.name,d.qualname,d.params,d.body,d.scope,d.globals,d.closure,d.defaults,d.builtins,codeIn K d.code q&&keepIn K (.ref f)&&isFn K (.ref f))
 |_=>none
def LB(x q:Str)(st:Stmt):Zd:=some (x,q,JP st,.stmts (Ft st),Ao st,mainGlobals,[],.none,builtinsNs,true)
noncomputable def Pz(K:PySem.W.Frag)(C:Addr):Option (Value×List Value×Bool×Option (Option Value)):=match K.lookup C with
 |some ⟨c,_,.cls d,sl⟩=>some (c,d.mro,d.hasDel,match sl.toList with|[_,_,_,_,k,_]=>some k|_=>none)
 |_=>none
noncomputable def Pc(C:Addr)(bm:List Value):Option (Value×List Value×Bool×Option (Option Value)):=some (.type "type",.ref C::bm,false,some (some (.builtin "Exception.__new__")))
abbrev Zb:List Value:=[.type "Exception",.type "BaseException",.type "object"]
def Zg(K:PySem.W.Frag)(x q:Str)(C:Addr):=(PySem.W.nsIn K mainGlobals x,Pz K C,hasDictIn K C,findIn K (.ref C) "answer",findIn K (.ref C) "__setattr__",findIn K (.ref C) "__getattribute__",
 findIn K (.ref C) "__getattr__",keepIn K (.ref C),NG (findIn K (.ref C) "__init__"),LN K (hRf (findIn K (.ref C) "__init__")) q)
def ZZ(q:Str)(st:Stmt)(R C:Addr):=(some (some (Value.ref C)),Pc C (.ref R::Zb),true,(some none:Option (Option Value)),some (some (Value.builtin "object.__setattr__")),some (some (Value.builtin "BaseException.__getattribute__")),
 (some none:Option (Option Value)),true,true,LB "__init__" q st)
def Ze(K:PySem.W.Frag)(L:List (Str×Str×Stmt×Addr)):=L.map fun z=>Zg K z.1 z.2.1 z.2.2.2
def ZX(R:Addr)(L:List (Str×Str×Stmt×Addr)):=L.map fun z=>ZZ z.2.1 z.2.2.1 R z.2.2.2
def Zo(K:PySem.W.Frag)(C:Addr)(L:List (Str×Str×Stmt)):=L.map fun z=>(NG (findIn K (.ref C) z.1),LN K (hRf (findIn K (.ref C) z.1)) z.2.1)
def Zh(L:List (Str×Str×Stmt)):=L.map fun z=>(true,LB z.1 z.2.1 z.2.2)
def S8(K:PySem.W.Frag)(L:List (Str×Stmt)):=L.map fun z=>(NG (PySem.W.nsIn K mainGlobals z.1),LN K (hRf (PySem.W.nsIn K mainGlobals z.1)) z.1)
def Ta(L:List (Str×Stmt)):=L.map fun z=>(true,LB z.1 z.1 z.2)
def ZT(K:PySem.W.Frag)(R:Addr):=(PySem.W.nsIn K mainGlobals "Refusal",Pz K R,readsIn K R (.type "type"),specialIn K (.ref R) "__getattribute__",
 (match findCls K (.ref R) (.type "type") "__init__" with|some (.val (.ref f))=>LN K f "Refusal.__init__" |_=>none))
def ZO(st:Stmt)(R:Addr):=(some (some (Value.ref R)),Pc R Zb,true,some (some (Value.builtin "type.__getattribute__")),LB "__init__" "Refusal.__init__" st)
noncomputable def Zl(K:PySem.W.Frag)(C:Addr):=(PySem.W.nsIn K mainGlobals "Nook",plainGet K C Str.empty&&hasDictIn K C&&plainOver K C&&makesIn K C&&keepIn K (.ref C),findIn K (.ref C) "__setattr__",findIn K (.ref C) "pages")
noncomputable def Zj(C:Addr):=(some (some (Value.ref C)),true,some (some (Value.builtin "object.__setattr__")),(some none:Option (Option Value)))
noncomputable def O4(h:Heap):PySem.W.Frag:=(List.range h.objs.size).filterMap fun a=>(h.get? a).map fun o=>(a,o)
def Tb:List (Str×Str×Stmt×Addr):=[("NoPage","NoPage.__init__",Ql,58),("NoName","NoName.__init__",Qk,77),("SamePage","SamePage.__init__",Qa,96),("Taken","Taken.__init__",Qq,115),("NoPlace","NoPlace.__init__",Qf,134),("NoWords","NoWords.__init__",Qg,153)]
def TM:List (Str×Str×Stmt):=[("__init__","Nook.__init__",Qu),("need_page","Nook.need_page",QU),("need_free_name","Nook.need_free_name",P6),("point_all_on","Nook.point_all_on",P8),("write_page","Nook.write_page",QJ),("rename_page","Nook.rename_page",QC),("join_pages","Nook.join_pages",QL),("cut_page","Nook.cut_page",QZ),("drop_page","Nook.drop_page",QT),("text_of","Nook.text_of",Qe),("back_from","Nook.back_from",QS),("find_pages","Nook.find_pages",QK),("all_texts","Nook.all_texts",QV)]
def TR:List (Str×Stmt):=[("law",K3),("places_in_order",UJ),("shortest",Uh),("count_pointers",QW),("pages_pointing",QR),("places_of",N0),("pages_near",Qr),("is_name",Uu),("read_word",US),("split_up",Ul),("tell_word",N2),("tell_text",Qt),("point_on",Ls),("do_deed",Q5),("answer_deed",Qi),("answer_all",Qp),("nook_behind",Qj),("texts",OX),("_law_room",O2),("_law_draw",O8),("_law_whole",XJ)]
def Sf:List (Str×Stmt):=[("_law_alike",TC),("_law_odd_word",PY),("_law_penned",MJ),("_law_sought",MP),("_law_deeds",Oj),("_law_is_name",MG),("_law_begun",Ou),("_law_named",MZ),("_law_added",Oo),("_law_led",Mu),("_law_turned",MH),("_law_penned_in",N6),("_law_name_of",OO),("_law_shown",Ov),("_law_barred",Og),("_law_joined",Oc),("_law_changed",OJ),("_law_at",Pp),("_law_text_of",Of),("_law_played",OY),("_law_texts",Om)]
noncomputable def ZY:List Str:=["isinstance","list","tuple","str","int","bool","len","range","sum","sorted","set","enumerate","all","min"]
def Jo(K:Frag):=(ZT K 38,Ze K Tb,Zl K 327,Zo K 327 TM,S8 K TR,S8 K Sf,ZY.map (nsIn K mainGlobals))
def Ju:=(ZO JD 38,ZX 38 Tb,Zj 327,Zh TM,Ta TR,Ta Sf,ZY.map fun _=>(some none:Option (Option Value)))
def TH(_:World)(h:Heap):Prop:=∃K:Frag,K.In h/\Jo K=Ju
abbrev C3:Program:=PySem.Challenge.pw_pagenook_k09_texts
noncomputable def FK:Program:=view C3 ((List.range 58).filter fun i=> !([1,9,12,17,23,26,32]:List Nat).contains i)
noncomputable def hZ:Pos:=⟨0,0,0,0⟩
noncomputable def K7:Env:={scope:=C3.main.scope,locals:=mainNs,globals:=mainNs,cells:=[],code:=.ref 13,frame:=some 14}
def hC:Code:=.body (behindTheImports C3) K7
noncomputable def hO(cls:Value)(d:Data)(sl:Array (Option Value)):Obj:={cls:=cls,data:=d,slots:=sl}
noncomputable def jt(P:Params):BT:=
 let n (o:Obj):=BT.node o .nil .nil
 .node (boot_o_0 P) (.node (boot_o_1 P) (.node (boot_o_3 P) (n (boot_o_7 P)) (n (hO (.type "tuple") (.seq #[] 0) #[]))) (.node (boot_o_5 P) (n (boot_o_9 P))
  (n (hO (.type "code") (.fields #[.str "<module>" 182,.str "<module>" 183,.str "/claim/cut.py" 184,.int 1 0,.int 0 0,.int 0 0,.int 0 0,.int 0 0,.ref 11,.bool false,.int 181 0,.ref 12,.none,.none,.none,.none,.int 185 0,.int 1 0,.str "/claim/cut.py" 186]) #[]))))
  (.node (boot_o_2 P) (.node (boot_o_4 P) (n (boot_o_8 P)) (n (hO .none (.fields #[]) #[]))) (.node (boot_o_6 P) (n (boot_o_10 P)) (n (hO (.type "frame") .plain #[some (.ref 13),some (.ref 3),some (.ref 3),none,some (.str "__main__" 164),none,some (.ref 0)]))))
noncomputable def hS(w:World)(os:OsState):SharedT:=⟨jt w.params,15,(boot_heap w.params).life,#[],boot_drawn,187,os⟩
noncomputable def Hv(w:World)(os:OsState):Option (Flow×SharedT×Code×Pos):=Fast.tw10110043849684766642 Fast.tw14364793385576792824 C3 w 11 (some (.ref 6)) 1 3682 (hS w os) (piecesOf (behindTheImports C3) K7 hC hZ [topFrame hZ])
set_option maxHeartbeats 0 in
theorem kW(w:World):(fun os=>(Hv w os).map fun z=>(z.1,z.2.2.1,staticsOk (importedModules C3.main.body) (boot_heap w.params) z.2.1.abs.heap&&namesBound C3 z.2.1.abs.heap&&gensDone z.2.1.abs&&laidKept (boot_heap w.params) z.2.1.abs.heap))=fun _=>some (Flow.next,hC,true):=by kernel_rfl
set_option maxHeartbeats 0 in
theorem k7(w:World):(fun os=>(Hv w os).map fun z=>Fast.tw4187177175401517315 FK [] (importedModules C3.main.body) (fun s=>xlAt FK [] s&&recOk [] s) true z.2.1.abs)=fun _=>some (openGood FK []):=by kernel_rfl
set_option maxHeartbeats 0 in
theorem lD(w:World):(fun os=>(Hv w os).map fun z=>Jo (O4 z.2.1.abs.heap))=fun _=>some Ju:=by kernel_rfl
set_option maxHeartbeats 0 in
theorem ma(w:World):(fun os=>topGo treeTable C3 w 11 (some (.ref 6)) 12 ⟨boot_heap w.params,#[],boot_drawn,boot_toks,os⟩ (topStub C3))=fun os=>some ((hS w os).abs,⟨denote treeTable hC,hC,hZ,[topFrame hZ]⟩):=by kernel_rfl
set_option maxHeartbeats 0 in
theorem ki(w:World):((boot_heap w.params).isNs mainGlobals&&(#[]:Array GenState).size==0,(boot_heap w.params).objs.size,(boot_heap w.params).nsMap mainGlobals "__annotations__")=(true,11,some (.ref 6)):=by kernel_rfl
theorem lF:PySem.Challenge.rw_pagenook_k09_texts.wellSaid=true:=by ac_rfl
theorem lU(w:World)(os:OsState):segRunT treeTable C3 w 11 (some (.ref 6)) 1 3682 (hS w os) (piecesOf (behindTheImports C3) K7 hC hZ [topFrame hZ])=Hv w os:=by unfold Hv;rw[<-Fast.te10110043849684766642,<-Fast.te14364793385576792824]
end
variable{w:World}{os:OsState}
section
open PySem.W
theorem iL{s:SharedT}{q:Pos}(h:Hv w os=some (.next,s,hC,q)):
 topRun treeTable C3 w 11 (some (.ref 6)) (12+(1+(3682+2))) ⟨boot_heap w.params,#[],boot_drawn,boot_toks,os⟩ (topStub C3)=some s.abs:=by
 refine go_top (congrFun (ma w) os) (piece_block (s':=(hS w os).abs) (p':=hZ) (env:=K7) (b:=behindTheImports C3) rfl ?_);have k:=piece_app (env:=K7) (rest:=[]) (segRun_of ((lU w os).trans h)) (piece_nil (env:=K7) (N:=2) (r:=s.abs) rfl);rw[Cy] at k;exact k
theorem nJ:opening C3=plainProg C3.main.scope.names:=by kernel_rfl
theorem nL(s:Shared):fenceModules? C3 s=some s:=by kernel_rfl
theorem nr(w:World):∃os,fencedOpening treeTable C3 w 7488=some ⟨boot_heap w.params,#[],boot_drawn,boot_toks,os⟩:=by obtain⟨⟨h,gs,d,k,os⟩,e,e'⟩:=NO.mp (boot_open nJ (N:=7488) (by decide) nL w);cases e';exact⟨os,e⟩
end
variable{ann:Option Value}{s:Shared}
section
open PySem.W
theorem nZ{p:Program}{n₀ n N:Nat}{r:Shared}{t:Thread}(h:topRun treeTable p w n₀ ann n s t=some r)(k:n+(N-n)=N):topRun treeTable p w n₀ ann N s t=some r:=
 k▸topRun_mono (N-n) n s t r h
end
variable{α β:Type}
section
open PySem.W
theorem Zf{o:Option α}{f:α->β}{z:α}{y:β}(e:o=some z)(r:o.map f=some y):f z=y:=by subst e;exact Ah r
theorem l7{p q:Program}{N n₀:Nat}{X:Shared->Bool}{Y:Shared->α}{y:α}{s₀ s₁:Shared}(e:fencedOpening treeTable p w N=some s₀)
 (z:(s₀.heap.isNs mainGlobals&&s₀.gens.size==0,s₀.heap.objs.size,s₀.heap.nsMap mainGlobals "__annotations__")=(true,n₀,ann))(t:topRun treeTable p w n₀ ann N s₀ (topStub p)=some s₁)
 (g:(staticsOk (importedModules p.main.body) s₀.heap s₁.heap&&namesBound p s₁.heap&&gensDone s₁&&laidKept s₀.heap s₁.heap)=true)(r1:openSeen q [] (importedModules p.main.body) X true s₁=openGood q [])(r2:Y s₁=y):
 (openEnds treeTable p w N).map (fun s=>(openSeen q [] (importedModules p.main.body) X true s,Y s))=some (openGood q [],y):=by
 obtain⟨z1,z2,z3⟩:_/\_/\_:=by simpa only[KL] using z
 subst z2 z3;unfold openEnds;rw[e,Lk];unfold topFrom;rw[z1];dsimp only;rw[t,Lk,g];dsimp only;rw[Ni,r1,r2]
theorem nQ{s:SharedT}{q:Pos}(h:Hv w os=some (.next,s,hC,q)):openSeen FK [] (importedModules C3.main.body) (fun s=>xlAt FK [] s&&recOk [] s) true s.abs=openGood FK []:=by rw[Fast.te4187177175401517315];have k:=Zf h (congrFun (k7 w) os);exact k
theorem ng{s:SharedT}{q:Pos}(h:Hv w os=some (.next,s,hC,q)):Jo (O4 s.abs.heap)=Ju:=
 have k:=Zf h (congrFun (lD w) os)
 k
theorem nX(w:World)(os:OsState):∃s q,Hv w os=some (.next,s,hC,q)/\(staticsOk (importedModules C3.main.body) (boot_heap w.params) s.abs.heap&&namesBound C3 s.abs.heap&&gensDone s.abs&&laidKept (boot_heap w.params) s.abs.heap)=true:=by obtain⟨⟨f,s,c,q⟩,er,r0⟩:=NO.mp (congrFun (kW w) os);obtain⟨e1,e2⟩:=KS r0;obtain⟨e3,e4⟩:=KS e2;dsimp only at e1 e3;subst e1 e3;exact⟨s,q,er,e4⟩
theorem lJ:LeftO C3 FK [] (fun s=>xlAt FK [] s&&recOk [] s) (fun s=>Jo (O4 s.heap)) (fun _=>Ju) 7488:=fun w=>
 have⟨os,e⟩:=nr w;have⟨_,_,er,g⟩:=nX w os
 l7 e (ki w) (nZ (iL er) (by decide)) g (nQ er) (ng er)
theorem gI(h:Heap):(O4 h).In h:=by
 intro a o e;have m:∀{l:List (Addr×Obj)},l.lookup a=some o->(a,o)∈l:=by
  intro l
  induction l with
  |nil=>intro z;cases z
  |cons p l ih=>
   intro z;obtain⟨b,u⟩:=p;rw[GC] at z
   cases hb:a==b with
   |true=>rw[hb] at z;cases z;rw[Fg.mp hb];exact Ed
   |false=>rw[hb] at z;exact DU _ (ih z)
 obtain⟨b,_,q⟩:=QE.mp (m e);obtain⟨u,hu,q⟩:=NO.mp q;cases q;exact hu
set_option maxHeartbeats 0 in
theorem n9(hc:∀d:DefRec,d.name="law" ->d.params.defaults=[]->WalkO FK [] (XL FK []) TH PySem.Challenge.rw_pagenook_k09_texts.row.toRowW d [] (fun f vs=>PySem.call f vs)):PySem.Challenge.rw_pagenook_k09_texts.Holds:=by
 refine holds_law lF fun said=>?_;refine holds_open (q:=FK) (loose:=[]) (Xt:=fun s=>xlAt FK [] s&&recOk [] s) (XP:=XL FK []) (YP:=TH) (N:=7488) lJ (fun _ s e=>⟨_,gI s.heap,e⟩) (fun _ _ _ ⟨K,k,e⟩ q=>⟨K,fun a o z=>q a o (k a o z),e⟩)
  (fun s e=>xl_of s (Bool.and_eq_true_iff.mp e).1) XL.keeps (by rfl) (by rfl) (by rfl) (fun s e=>recFacts_of (Bool.and_eq_true_iff.mp e).2) (by rfl) said (by ac_rfl) ⟨rfl,rfl,rfl,rfl,rfl,by ac_rfl⟩ ?hw ?hc;case hw=>w_witness2
 case hc=>exact hc _ rfl rfl
end
abbrev Key:=Sum Int Str
noncomputable def Ib:Key->Value->Bool
 |.inl k,v=>Value.isInt k v
 |.inr x,v=>Value.isStrOf x v
noncomputable def nE(w:World):Key->Int
 |.inl k=>hashInt k
 |.inr x=>hashStr w x
theorem Ff:∀{k:Key}{v:Value},Ib k v=true->(∃i t,k=Sum.inl i/\v=Value.int i t)\/(∃x t,k=Sum.inr x/\v=Value.str x t)
 |.inl i,v,h=>by obtain⟨t,e⟩:=Value.isInt_shape (k:=i) (v:=v) h;exact .inl ⟨i,t,rfl,e⟩
 |.inr x,v,h=>by obtain⟨t,e⟩:=Value.isStrOf_shape (x:=x) (v:=v) h;exact .inr ⟨x,t,rfl,e⟩
theorem bY(i:Int)(t:Tok):Ib (.inl i) (.int i t)=true:=by simp[Ib,Value.isInt]
theorem cQ(x:Str)(t:Tok):Ib (.inr x) (.str x t)=true:=by simp[Ib,Value.isStrOf]
theorem Xv(a b:Int):decide ((Sum.inl a:Key)=Sum.inl b)=(a==b):=by
 by_cases e:a=b
 ·subst e;simp
 ·have h:¬(Sum.inl a:Key)=Sum.inl b:=fun q=>e (Sum.inl.inj q);rw[BK h];exact(NU.mpr e).symm
theorem Xx(a b:Str):decide ((Sum.inr a:Key)=Sum.inr b)=decide (a=b):=by
 by_cases e:a=b
 ·subst e;simp
 ·have h:¬(Sum.inr a:Key)=Sum.inr b:=fun q=>e (Sum.inr.inj q);rw[BK h,BK e]
theorem iR(a:Int)(b:Str):decide ((Sum.inl a:Key)=Sum.inr b)=false:=BK (fun q=>nomatch q)
theorem iW(a:Str)(b:Int):decide ((Sum.inr a:Key)=Sum.inl b)=false:=BK (fun q=>nomatch q)
def CW(prog:Program)(w:World):PySem.KeyKind prog w Key where
 is:=Ib
 hash:=nE w
 inj:=fun v a b ha hb=>by
  rcases Ff ha with⟨i,t,rfl,rfl⟩|⟨x,t,rfl,rfl⟩
  ·rcases Ff hb with⟨j,u,rfl,e⟩|⟨y,u,rfl,e⟩
   ·injection e with e1 _;rw[e1]
   ·exact nomatch e
  ·rcases Ff hb with⟨j,u,rfl,e⟩|⟨y,u,rfl,e⟩
   ·exact nomatch e
   ·injection e with e1 _;rw[e1]
 byValue:=fun k v h=>by rcases Ff h with⟨i,t,rfl,rfl⟩|⟨x,t,rfl,rfl⟩<;>rfl
 pyHash:=fun hv h=>by
  rcases Ff hv with⟨i,t,rfl,rfl⟩|⟨x,t,rfl,rfl⟩
  ·exact wpAny_pyHash_int h
  ·exact wpAny_pyHash_str h
 eqBool:=fun hu hv h=>by
  rcases Ff hu with⟨i,t,rfl,rfl⟩|⟨x,t,rfl,rfl⟩
  ·rcases Ff hv with⟨j,u,rfl,rfl⟩|⟨y,u,rfl,rfl⟩
   ·rw[Xv] at h;exact wpAny_eqBool_int h
   ·rw[iR] at h;exact SeqAt.EqAt.int_str i t y u _ _ _ _ h
  ·rcases Ff hv with⟨j,u,rfl,rfl⟩|⟨y,u,rfl,rfl⟩
   ·rw[iW] at h;exact SeqAt.EqAt.str_int x t j u _ _ _ _ h
   ·rw[Xx] at h;exact wpAny_eqBool_str h
 «strs»:=fun k x t v h=>by
  rcases Ff h with⟨i,u,rfl,e⟩|⟨y,u,rfl,e⟩
  ·exact nomatch e
  ·injection e with e1 _;subst e1;cases v<;>rfl
theorem Z8(prog:Program)(w:World)(i:Int)(t:Tok):(CW prog w).is (.inl i) (.int i t)=true:=bY i t
theorem aD(prog:Program)(w:World)(x:Str)(t:Tok):(CW prog w).is (.inr x) (.str x t)=true:=cQ x t
inductive V where
 |A3|bl (b:Bool)|int (i:Int)|str (x:Str)|FN (b:Array UInt8)|Hy (b:UInt64)|ref (a:Addr)|ty (n:String)
 deriving DecidableEq
def RelV:V->Value->Prop
 |.A3,u=>u=Value.none
 |.bl b,u=>u=Value.bool b
 |.int i,u=>∃t,u=Value.int i t
 |.str x,u=>∃t,u=Value.str x t
 |.FN b,u=>∃t,u=Value.bytes b t
 |.Hy b,u=>∃t,u=Value.float b t
 |.ref a,u=>u=Value.ref a
 |.ty n,u=>u=Value.type n
abbrev Vals:List V->List Value->Prop:=Paired RelV
theorem Vals.length{xs:List V}{us:List Value}(r:Vals xs us):xs.length=us.length:=IK r
theorem Vals.get:∀{xs:List V}{us:List Value}{i:Nat}{x:V},Vals xs us->xs[i]? =some x->∃u,us[i]? =some u/\RelV x u
 |_,_,_,_,.nil,e=>by simp at e
 |_,_,0,_,.cons r _,e=>by simp at e;subst e;exact⟨_,rfl,r⟩
 |_,_,i+1,x,.cons _ t,e=>by obtain⟨u,h1,h2⟩:=Vals.get (i:=i) (x:=x) t (by simpa using e);exact⟨u,by simpa using h1,h2⟩
theorem Vals.set{x:V}{u:Value}(r:RelV x u):∀{xs:List V}{us:List Value}(i:Nat),Vals xs us->Vals (xs.set i x) (us.set i u)
 |_,_,_,.nil=>.nil
 |_,_,0,.cons _ t=>.cons r t
 |_,_,i+1,.cons q t=>.cons q (Vals.set r i t)
theorem Vals.append:∀{xs ys:List V}{us ws:List Value},Vals xs us->Vals ys ws->Vals (xs++ys) (us++ws)
 |_,_,_,_,.nil,s=>s
 |_,_,_,_,.cons r t,s=>.cons r (Vals.append t s)
theorem Vals.take:∀{xs:List V}{us:List Value}(n:Nat),Vals xs us->Vals (xs.take n) (us.take n)
 |_,_,0,_=>.nil
 |_,_,_+1,.nil=>.nil
 |_,_,n+1,.cons r t=>.cons r (Vals.take n t)
theorem Vals.drop:∀{xs:List V}{us:List Value}(n:Nat),Vals xs us->Vals (xs.drop n) (us.drop n)
 |_,_,0,r=>r
 |_,_,_+1,.nil=>.nil
 |_,_,n+1,.cons _ t=>Vals.drop n t
def DN:Option V->Option Value->Prop
 |some v,some u=>RelV v u
 |none,none=>True
 |_,_=>False
def KV{κ:Type}:List (κ×V)->List (κ×Value)->Prop:=Paired fun(p:κ×V)(q:κ×Value)=>p.1=q.1/\RelV p.2 q.2
noncomputable def kV:Key->V
 |.inl i=>.int i
 |.inr x=>.str x
inductive HO where
 |lst (xs:List V)
 |tup (xs:List V)
 |dK (AA:List (Key×V))|dT (AA:List (List Key×V))
 |set (S:Int->Bool) (n:Nat)
 |ins (C dx:Addr) (fs:List (Str×V))
 |own (x:Addr)
 |xd (fs:List (Str×V))
 |met (f x:Addr)
 |J0 (lo hi:Int)
 |BO (o:Obj) (u:HO)
 |Iw (ps:Array Value)
 |ext (φ:Heap->Prop)
abbrev Hp:=Addr->Option HO
noncomputable def upd(H:Hp)(a:Addr)(o:HO):Hp:=fun b=>if b=a then some o else H b
variable{H:Hp}{a:Addr}
theorem AR{o:HO}:upd H a o a=some o:=by unfold upd;rw[AH rfl]
variable{b:Addr}
theorem AO{o:HO}(h:b≠a):upd H a o b=H b:=by unfold upd;rw[AG h]
theorem JN{o u:HO}:upd (upd H a o) a u=upd H a u:=by funext b;unfold upd;split<;>rfl
theorem CT{o u:HO}(h:H a=some o)(h':H b=some u)(d:o≠u):a≠b:=by intro e;subst e;rw[h] at h';exact d (Ah h')
theorem A2{o:HO}(h:H a=some o)(h':H b=none):a≠b:=by intro e;subst e;rw[h] at h';cases h'
section
variable(P:Program)(w:World)
def BL(H:Hp)(h:Heap)(a:Addr):HO->Prop
 |.lst xs=>xs.length<=sizeLine/\∃(AM:List Value)(n:Nat),Vals xs AM/\h.get? a=some {cls:=.type "list",data:=.seq AM.toArray n}
 |.tup xs=>xs.length<=sizeLine/\∃AM:List Value,Vals xs AM/\IsTup h a AM.toArray
 |.dK AA=>AA.length<=sizeLine/\(a==sysModules)=false/\∃vs,KV AA vs/\h.DictOf (CW P w) a vs
 |.dT AA=>AA.length<=sizeLine/\(a==sysModules)=false/\∃xs:List (List Key×Addr×Value),
  Paired (fun(p:List Key×V)(q:List Key×Addr×Value)=>p.1=q.1/\H q.2.1=some (.tup (p.1.map kV))/\RelV p.2 q.2.2) AA xs/\
  ∃o es ep,h.get? a=some o/\o.ExactDict/\o.data=.dict es ep/\es.toList=xs.map (entryOfKey (tupleKind (CW P w)))/\(xs.map (·.1)).Nodup
 |.set S n=>h.SetOf (intKind P w) a S n
 |.ins C dx fs=>H dx=some (.own a)/\fs.length<=1000/\dx≠a/\h.get? a=some (instObj C dx)/\
  ∃mA,h.Ns1 dx mA/\(∀f,DN (fs.lookup f) (mA f))/\PySem.Within mA (fs.map (·.1))
 |.own _=>∃o,h.get? a=some o
 |.xd fs=>∃mA,h.Ns1 a mA/\∀f,DN (fs.lookup f) (mA f)
 |.J0 lo hi=>∃t u v,h.get? a=some {cls:=.type "range",data:=.fields #[.int lo t,.int hi u,.int 1 v]}
 |.BO o u=>h.get? a=some o/\BL H h a u
 |.Iw ps=>h.get? a=some {cls:=.none,data:=.fields ps}
 |.met f x=>h.get? a=some (methodObj (.ref f) (.ref x))
 |.ext φ=>φ h/\(∃o,h.get? a=some o)/\∀h1 h2:Heap,φ h1->(∀o,h1.get? a=some o->h2.get? a=some o)->φ h2
def Bt(H:Hp)(h:Heap):Prop:=∀a o,H a=some o->BL P w H h a o
end
variable{P:Program}{h:Heap}
section
variable{o:HO}
theorem BL.lt(x:BL P w H h a o):a<h.objs.size:=by
 cases o with
 |lst xs=>obtain⟨_,_,_,_,e⟩:=x;exact Aw e
 |tup xs=>obtain⟨_,_,_,p⟩:=x;exact p.lt
 |dK AA=>obtain⟨_,_,_,_,o,_,_,e,_⟩:=x;exact Aw e
 |dT AA=>obtain⟨_,_,_,_,o,_,_,e,_⟩:=x;exact Aw e
 |set S n=>obtain⟨o,_,_,_,e,_⟩:=x;exact Aw e
 |ins C dx fs=>obtain⟨_,_,_,e,_⟩:=x;exact Aw e
 |own y=>obtain⟨_,e⟩:=x;exact Aw e
 |xd fs=>obtain⟨_,⟨_,_,_,e,_⟩,_⟩:=x;exact Aw e
 |J0 lo hi=>obtain⟨_,_,_,e⟩:=x;exact Aw e
 |BO ob u=>obtain⟨e,_⟩:=x;exact Aw e
 |Iw ps=>exact Aw (show h.get? a=some _ from x)
 |met f y=>exact Aw (show h.get? a=some _ from x)
 |ext φ=>obtain⟨_,⟨_,e⟩,_⟩:=x;exact Aw e
theorem Paired.Sn{α β:Type}{F G:α->β->Prop}:∀{l₁:List α}{l₂:List β},Paired F l₁ l₂->(∀a b,F a b->G a b)->Paired G l₁ l₂
 |_,_,.nil,_=>.nil
 |_,_,.cons r t,f=>.cons (f _ _ r) (Paired.Sn t f)
end
variable{H':Hp}{h':Heap}
section
variable{o:HO}
theorem BL.EB(x:BL P w H h a o)(k:∀b u,(b=a\/H b=some (.own a))->h.get? b=some u->h'.get? b=some u)
 (ho:∀b,H b=some (.own a)->H' b=some (.own a))(ht:∀b xs,H b=some (.tup xs)->H' b=some (.tup xs)):BL P w H' h' a o:=by
 induction o with
 |lst xs=>obtain⟨z,AM,n,r,e⟩:=x;exact⟨z,AM,n,r,k _ _ (.inl rfl) e⟩
 |tup xs=>obtain⟨z,AM,r,ob,e,c⟩:=x;exact⟨z,AM,r,ob,k _ _ (.inl rfl) e,c⟩
 |dK AA=>obtain⟨z,y,vs,r,ob,es,ep,e,c⟩:=x;exact⟨z,y,vs,r,ob,es,ep,k _ _ (.inl rfl) e,c⟩
 |dT AA=>obtain⟨z,y,xs,r,ob,es,ep,e,c⟩:=x;exact⟨z,y,xs,Paired.Sn r fun p q z=>⟨z.1,ht _ _ z.2.1,z.2.2⟩,ob,es,ep,k _ _ (.inl rfl) e,c⟩
 |set S n=>obtain⟨ob,es,ep,t,e,c⟩:=x;exact⟨ob,es,ep,t,k _ _ (.inl rfl) e,c⟩
 |ins C dx fs=>obtain⟨d,z,ne,e,mA,⟨od,es,ep,e2,c⟩,r⟩:=x;exact⟨ho _ d,z,ne,k _ _ (.inl rfl) e,mA,⟨od,es,ep,k _ _ (.inr d) e2,c⟩,r⟩
 |own y=>obtain⟨ob,e⟩:=x;exact⟨ob,k _ _ (.inl rfl) e⟩
 |xd fs=>obtain⟨mA,⟨od,es,ep,e,c⟩,r⟩:=x;exact⟨mA,⟨od,es,ep,k _ _ (.inl rfl) e,c⟩,r⟩
 |J0 lo hi=>obtain⟨t,u,v,e⟩:=x;exact⟨t,u,v,k _ _ (.inl rfl) e⟩
 |BO ob u ih=>obtain⟨e,q⟩:=x;exact⟨k _ _ (.inl rfl) e,ih q⟩
 |Iw ps=>have e:h.get? a=some {cls:=.none,data:=.fields ps}:=x;show h'.get? a=some {cls:=.none,data:=.fields ps};exact k a _ (.inl rfl) e
 |met f y=>have e:h.get? a=some (methodObj (.ref f) (.ref y)):=x;show h'.get? a=some (methodObj (.ref f) (.ref y));exact k a _ (.inl rfl) e
 |ext φ=>obtain⟨p,⟨o,e⟩,st⟩:=x;exact⟨st _ _ p fun o q=>k _ _ (.inl rfl) q,⟨o,k _ _ (.inl rfl) e⟩,st⟩
theorem Bt.lt(x:Bt P w H h)(e:H a=some o):a<h.objs.size:=(x a o e).lt
theorem Bt.fresh(x:Bt P w H h)(e:h.objs.size<=a):H a=none:=by
 cases q:H a with
 |none=>rfl
 |some u=>exact absurd (Cu (x.lt q) e) (Lo _)
theorem Bt.kept(x:Bt P w H h)(k:∀b u,h.get? b=some u->h'.get? b=some u):Bt P w H h':=fun a o e=>(x a o e).EB (fun b u _ q=>k b u q) (fun _ q=>q) fun _ _ q=>q
theorem Bt.laid(x:Bt P w H h)(k:∀b u,h.get? b=some u->h'.get? b=some u)(hp:h.objs.size<=a)(new:BL P w (upd H a o) h' a o):Bt P w (upd H a o) h':=fun b u e=>by
 have hn:=x.fresh hp;by_cases hb:b=a
 ·subst hb;rw[AR] at e;cases e;exact new
 ·rw[AO hb] at e;exact(x b u e).EB (fun c v _ q=>k c v q) (fun c q=>by rw[AO (A2 q hn)];exact q) fun c xs q=>by rw[AO (A2 q hn)];exact q
end
def Rd(H:Hp)(a:Addr)(u:HO):Prop:=H a=some u\/∃o,H a=some (.BO o u)
theorem Rd.ok{u:HO}(r:Rd H a u)(x:Bt P w H h):BL P w H h a u:=by
 rcases r with r|⟨o,r⟩
 ·exact x a u r
 ·obtain⟨_,q⟩:=x a _ r;exact q
def NF:Option HO->Prop
 |some (.lst _)=>True
 |some (.dK _)=>True
 |some (.dT _)=>True
 |some (.set _ _)=>True
 |some (.ins _ _ _)=>True
 |some (.ext _)=>True
 |_=>False
section
variable{x e:Addr}{o':HO}
theorem Bt.write(ok:Bt P w H h)(mu:NF (H x))(he:e=x\/H e=some (.own x))(k:∀b u,b≠e->h.get? b=some u->h'.get? b=some u)(heo:∃u,h'.get? e=some u)
 (new:BL P w (upd H x o') h' x o'):Bt P w (upd H x o') h':=fun b u q=>by
 have nown:∀c y,H c=some (.own y)->c≠x:=fun c y r z=>by subst z;rw[r] at mu;exact mu
 have ntup:∀c xs,H c=some (.tup xs)->c≠x:=fun c xs r z=>by subst z;rw[r] at mu;exact mu
 by_cases hb:b=x
 ·subst hb;rw[AR] at q;cases q;exact new
 ·rw[AO hb] at q;by_cases hbe:b=e
  ·have q':H b=some (.own x):=by
    rcases he with z|z
    ·exact absurd (hbe.trans z) hb
    ·rw[hbe];exact z
   rw[q] at q';cases q';obtain⟨v,hv⟩:=heo;exact⟨v,by rw[hbe];exact hv⟩
  ·refine(ok b u q).EB (fun c v hc r=>k c v ?_ r) (fun c r=>by rw[AO (nown c b r)];exact r) fun c xs r=>by rw[AO (ntup c xs r)];exact r
   rcases hc with rfl|hc
   ·exact hbe
   ·rintro rfl;rcases he with z|z
    ·exact nown c b hc z
    ·rw[hc] at z;cases z;exact hb rfl
end
structure Un(fs ex:List Addr)(H H':Hp)(h h':Heap):Prop where
 keep:∀b o,h.get? b=some o->H b=none->b∉fs->b∉ex->h'.get? b=some o
 slot:∀b o,h.get? b=some o->H b=none->b∈fs->b∉ex->∃sl,h'.get? b=some {o with slots:=sl}
 free:∀b o,h.get? b=some o->H b=none->b∉ex->H' b=none
 there:∀b o,h.get? b=some o->b∉ex->∃o',h'.get? b=some o'
 EY:∀b xs,H b=some (.tup xs)->H' b=some (.tup xs)
 Dk:∀b o u,H b=some (.BO o u)->H' b=some (.BO o u)
 EX:∀b ps,H b=some (.Iw ps)->∃more,H' b=some (.Iw (ps++more))
variable{H1:Hp}
section
variable{fs fs' ex ex':List Addr}{h1 h2:Heap}{x e:Addr}{o:HO}
theorem Un.any(u:Un fs ex H H1 h h1){ob:Obj}(q:h.get? b=some ob)(n:H b=none)(hx:b∉ex):∃sl,h1.get? b=some {ob with slots:=sl}:=by
 by_cases hb:b∈fs
 ·exact u.slot b ob q n hb hx
 ·exact⟨ob.slots,u.keep b ob q n hb hx⟩
theorem Un.kept(k:∀b u,h.get? b=some u->h'.get? b=some u):Un fs ex H H h h':=
 ⟨fun b ob q _ _ _=>k b ob q,fun b ob q _ _ _=>⟨ob.slots,k b ob q⟩,fun _ _ _ n _=>n,fun b ob q _=>⟨ob,k b ob q⟩,fun _ _ q=>q,fun _ _ _ q=>q,fun _ ps q=>⟨#[],by rw[q];simp⟩⟩
theorem Un.refl:Un fs ex H H h h:=Un.kept fun _ _ q=>q
theorem Un.laid(k:∀b u,h.get? b=some u->h'.get? b=some u)(hp:h.objs.size<=a)(hn:H a=none):Un fs ex H (upd H a o) h h' where
 keep:=fun b u q _ _ _=>k b u q
 slot:=fun b u q _ _ _=>⟨u.slots,k b u q⟩
 free:=fun b u q n _=>by rw[AO (BH (Cu (Aw q) hp))];exact n
 there:=fun b u q _=>⟨u,k b u q⟩
 EY:=fun b xs q=>by rw[AO (A2 q hn)];exact q
 Dk:=fun b u xs q=>by rw[AO (A2 q hn)];exact q
 EX:=fun b ps q=>⟨#[],by rw[AO (A2 q hn),q];simp⟩
theorem Un.write(mu:NF (H x))(he:e=x\/H e=some (.own x))(k:∀b u,b≠e->h.get? b=some u->h'.get? b=some u)(heo:∃u,h'.get? e=some u):Un fs ex H (upd H x o) h h':=by
 have hx:∀b,H b=none->b≠x:=fun b n z=>by subst z;rw[n] at mu;exact mu
 have hb:∀b,H b=none->b≠e:=fun b n z=>by
  subst z;rcases he with r|r
  ·exact hx b n r
  ·rw[n] at r;cases r
 have hm:∀b u,H b=some u->¬NF (some u)->b≠x:=fun b u q nm z=>by subst z;rw[q] at mu;exact nm mu
 refine⟨fun b u q n _ _=>k b u (hb b n) q,fun b u q n _ _=>⟨u.slots,k b u (hb b n) q⟩,fun b u q n _=>by rw[AO (hx b n)];exact n,fun b u q _=>?_,
  fun b xs q=>by rw[AO (hm b _ q fun z=>z)];exact q,fun b u xs q=>by rw[AO (hm b _ q fun z=>z)];exact q,fun b ps q=>⟨#[],by rw[AO (hm b _ q fun z=>z),q];simp⟩⟩;by_cases hbe:b=e
 ·subst hbe;exact heo
 ·exact⟨u,k b u hbe q⟩
end
noncomputable def Pq(h:Heap)(H:Hp):List Addr:=(List.range h.objs.size).filter fun a=>(H a).isSome
def Hw(h:Heap)(H:Hp):Heap:=hideAll h (Pq h H)
theorem bz(h:Heap)(H:Hp):(Hw h H).objs.size=h.objs.size:=hideAll_size _ _
variable{o:Obj}
theorem fM(e:h.get? b=some o)(n:H b=none):(Hw h H).get? b=some o:=
 hideAll_get _ e fun hm=>by have q:(H b).isSome=true:=(IH.mp hm).2;rw[n] at q;simp at q
theorem fk(e:(Hw h H).get? b=some o):h.get? b=some o/\H b=none:=by
 have e':h.get? b=some o:=of_hideAll (Pq h H) e;refine⟨e',?_⟩
 cases q:H b with
 |none=>rfl
 |some x=>have hm:b∈Pq h H:=IH.mpr ⟨KI.mpr (Aw e'),by simp[q]⟩;have z:(Hw h H).get? b=none:=hideAll_none (Pq h H) hm;rw[z] at e;cases e
structure Mod(K:PySem.W.Frag)(mg:Str->Option Value)(base:Heap):Prop where
 NJ:K.In base
 glob:base.Ns mainGlobals mg
 blt:∃mb,base.Ns builtinsNs mb/\∀x:Str,x≠ "__name__" ->mb x=bootBuiltins x
 nolimit:base.NoLimit
structure Cx where
 prog:Program
 w:World
 K:PySem.W.Frag
 mg:Str->Option Value
 base:Heap
 A:Around
 N:List Str
 s₀:Shared
 H₀:Hp
 env:Env
 outer:List Env
 stack:List Env
 ex:List Addr
 fn:Str->Bool
 calm:Bool
 pn:List (Addr×Obj)
 xe:Value->Shared->Prop
noncomputable def Ci(l:List Env):List Addr:=l.filterMap (·.frame)
abbrev Cx.fs(X:Cx):List Addr:=Ci X.outer
def Px(sc:Scope)(x:Str):Prop:=sc.names.lookup x=some .local\/sc.names.lookup x=some .cell\/sc.names.lookup x=some .free
def Loc(sc:Scope)(x:Str):Prop:=sc.names.lookup x=some .local\/sc.names.lookup x=some .cell
def Look(env:Env)(h:Heap)(m:Str->Option Value)(x:Str)(u:Value):Prop:=
 (env.kindOf x=some .local/\m x=some u)\/((env.kindOf x=some .cell\/env.kindOf x=some .free)/\∃c,env.cells.lookup x=some c/\h.IsCell c (some u))
structure Cx.Ok(X:Cx):Prop where
 mod:Mod X.K X.mg X.base
 kind:X.env.scope.kind=.function
 glob:X.env.globals=mainGlobals
 blt:X.env.builtins=builtinsNs
 above:X.s₀.heap.objs.size<=X.env.locals
 inj:∀x y c,X.env.cells.lookup x=some c->X.env.cells.lookup y=some c->x=y
 has:∀x,(X.env.kindOf x=some .cell\/X.env.kindOf x=some .free)->∃c,X.env.cells.lookup x=some c
 J1:∀x c,X.fn x=true->X.env.cells.lookup x=some c->X.s₀.heap.objs.size<=c
 hd:X.calm=true->X.A.handled=none
 frames:X.A.frames=some X.stack
 K9:X.stack=X.outer\/(X.stack=X.env::X.outer/\X.env.frame=some X.env.locals)
 Pm:∀b∈X.ex,b≠X.env.locals/\∀x c,X.env.cells.lookup x=some c->c≠b
 bs:∀b o,X.base.get? b=some o->X.s₀.heap.get? b=some o/\X.H₀ b=none
 F3:X.base.objs.size<=X.s₀.heap.objs.size
 Jj:∀b o,X.base.get? b=some o->b∉X.ex
 Jk:∀b∈X.ex,b∉X.fs
 Ea:X.s₀.heap.FunFrames X.base X.outer
 HU:∀b∈X.fs,X.H₀ b=none
structure Inv(X:Cx)(pins:List (Addr×Obj))(σ:List (Option V))(H:Hp)(s:Shared):Prop where
 ok:X.Ok
 os:s.os=X.s₀.os
 bare:AllBare s.gens
 base:Un X.fs X.ex X.H₀ H X.s₀.heap s.heap
 loc:∃m,s.heap.Ns X.env.locals m/\∀(i:Nat)(x:Str)(v:V),X.N[i]? =some x->σ[i]? =some (some v)->Px X.env.scope x->∃u,RelV v u/\Look X.env s.heap m x u
 cell:∀x c,X.env.cells.lookup x=some c->∃v,s.heap.IsCell c v
 free:H X.env.locals=none
 C8:∀x c,X.env.cells.lookup x=some c->H c=none
 pin:∀p∈X.pn++pins,s.heap.get? p.1=some p.2/\H p.1=none/\p.1≠X.env.locals/\p.1∉X.fs/\∀v,p.2.data≠.cell v
 hok:Bt X.prog X.w H s.heap
 len:σ.length=X.N.length
variable{X:Cx}
section
variable{σ:List (Option V)}
theorem Cx.Ok.mU(ok:X.Ok)(e:X.base.get? b=some o):b∉X.fs:=fun hb=>by have:=(ok.Ea.mem hb).1;rw[e] at this;cases this
end
variable{pins:List (Addr×Obj)}
section
variable{σ:List (Option V)}
theorem Inv.bs(I:Inv X pins σ H s):∀b o,X.base.get? b=some o->s.heap.get? b=some o/\H b=none:=fun b o e=>⟨I.base.keep b o (I.ok.bs b o e).1 (I.ok.bs b o e).2 (I.ok.mU e) (I.ok.Jj b o e),I.base.free b o (I.ok.bs b o e).1 (I.ok.bs b o e).2 (I.ok.Jj b o e)⟩
theorem Inv.bk(I:Inv X pins σ H s):∀b o,X.base.get? b=some o->s.heap.get? b=some o:=fun b o e=>(I.bs b o e).1
theorem Inv.mod(I:Inv X pins σ H s):Mod X.K X.mg X.base:=I.ok.mod
theorem Inv.BP(I:Inv X pins σ H s):X.K.In s.heap:=I.ok.mod.NJ.keeps I.bk
theorem Inv.fr(I:Inv X pins σ H s):∃m,Fr X.base X.env.locals s.heap m:=
 let⟨m,hn,_⟩:=I.loc
 ⟨m,hn,I.bk,BI I.ok.F3 I.ok.above⟩
theorem Inv.lt(I:Inv X pins σ H s):X.env.locals<s.heap.objs.size:=let⟨_,hn,_⟩:=I.loc;hn.lt
theorem Inv.sz(I:Inv X pins σ H s):X.s₀.heap.objs.size<=s.heap.objs.size:=BI I.ok.above (E4 I.lt)
theorem Inv.lZ(I:Inv X pins σ H s)(h:s.heap.objs.size<=a):a∉X.fs:=fun hb=>by obtain⟨_,o,ho,_⟩:=I.ok.Ea.mem hb;exact absurd (Cu (Aw ho) (BI I.sz h)) (Lo _)
theorem Inv.Iu(I:Inv X pins σ H s):∀x c,X.env.cells.lookup x=some c->c≠X.env.locals:=fun x c e z=>by obtain⟨v,o,ho,hd⟩:=I.cell x c e;obtain⟨m,⟨o',es,ep,ho',hd',_⟩,_⟩:=I.loc;rw[z,ho'] at ho;cases ho;rw[hd'] at hd;cases hd
theorem Inv.Ea(I:Inv X pins σ H s):s.heap.FunFrames X.base X.outer:=by
 have all:∀(l:List Env),(∀b∈Ci l,b∈X.fs)->X.s₀.heap.FunFrames X.base l->s.heap.FunFrames X.base l:=by
  intro l
  induction l with
  |nil=>intro _ _;trivial
  |cons env r ih=>intro hs hl;obtain⟨hk,⟨L,o,hf,hn,ho,hd⟩,hr⟩:=hl;have hL:L∈X.fs:=hs L (by unfold Ci;rw[QB,hf];exact Ed);obtain⟨sl,e⟩:=I.base.slot L o ho (I.ok.HU L hL) hL fun z=>I.ok.Jk L z hL;exact⟨hk,⟨L,_,hf,hn,e,hd⟩,ih (fun b hb=>hs b (by unfold Ci;rw[QB,hf];exact DU _ hb)) hr⟩
 exact all X.outer (fun _ hb=>hb) I.ok.Ea
theorem Inv.stack(I:Inv X pins σ H s):s.heap.FunFrames X.base X.stack:=by
 rcases I.ok.K9 with e|⟨e,hf⟩
 ·rw[e];exact I.Ea
 ·rw[e];obtain⟨m,hn,_⟩:=I.loc;refine .cons (by rw[I.ok.kind];decide) hf hn ?_ I.Ea;exact Heap.get?_none_of_le (BI I.ok.F3 I.ok.above)
theorem Inv.Md(I:Inv X pins σ H s):∀b∈Ci X.stack,b∈X.env.locals::X.fs:=fun b hb=>by
 rcases I.ok.K9 with e|⟨e,hf⟩
 ·rw[e] at hb;exact DU _ hb
 ·rw[e] at hb;unfold Ci at hb;rw[QB,hf] at hb;exact hb
theorem Inv.Oi(I:Inv X pins σ H s):∀b∈Ci X.stack,H b=none:=fun b hb=>by
 rcases Bk.mp (I.Md b hb) with e|hb
 ·rw[e];exact I.free
 ·obtain⟨_,o,ho,_⟩:=I.ok.Ea.mem hb;exact I.base.free b o ho (I.ok.HU b hb) fun z=>I.ok.Jk b z hb
end
variable{g':Array GenState}{t':Nat}{ch:List Addr}
section
variable{σ:List (Option V)}
theorem Inv.step{d':Drawn}(I:Inv X pins σ H s)
 (hch:∀b∈ch,(b∈X.ex\/X.s₀.heap.objs.size<=b)/\b≠X.env.locals/\(∀x c,X.env.cells.lookup x=some c->c≠b)/\∀p∈X.pn++pins,p.1≠b)
 (keep:∀b o,b≠X.env.locals->b∉X.fs->b∉ch->s.heap.get? b=some o->H b=none->h'.get? b=some o)
 (slot:∀b o,b≠X.env.locals->b∈X.fs->b∉ch->s.heap.get? b=some o->H b=none->∃sl,h'.get? b=some {o with slots:=sl})(free:∀b o,b∉ch->s.heap.get? b=some o->H b=none->H' b=none)
 (there:∀b o,b∉ch->s.heap.get? b=some o->∃o',h'.get? b=some o')
 (EY:∀b xs,H b=some (.tup xs)->H' b=some (.tup xs))(Dk:∀b o u,H b=some (.BO o u)->H' b=some (.BO o u))(EX:∀b ps,H b=some (.Iw ps)->∃more,H' b=some (.Iw (ps++more)))
 (ns:∀m,s.heap.Ns X.env.locals m->h'.Ns X.env.locals m)(hok:Bt X.prog X.w H' h')(hg:AllBare g'):
 Inv X pins σ H' {s with heap:=h',gens:=g',drawn:=d',toks:=t'}:=by
 have neL:∀b o,X.s₀.heap.get? b=some o->b≠X.env.locals:=fun b o e=>BH (Cu (Aw e) I.ok.above);have neC:∀b o,X.s₀.heap.get? b=some o->b∉X.ex->b∉ch:=fun b o e hx hb=>by
  rcases(hch b hb).1 with z|z
  ·exact hx z
  ·exact absurd (Cu (Aw e) z) (Lo _)
 have cellK:∀x c,X.env.cells.lookup x=some c->∀v,s.heap.IsCell c v->h'.IsCell c v:=fun x c e v ⟨o,ho,hd⟩=>by
  have nch:c∉ch:=fun z=>(hch c z).2.2.1 x c e rfl;by_cases hc:c∈X.fs
  ·obtain⟨sl,q⟩:=slot c o (I.Iu x c e) hc nch ho (I.C8 x c e);exact⟨_,q,hd⟩
  ·exact⟨o,keep c o (I.Iu x c e) hc nch ho (I.C8 x c e),hd⟩
 refine⟨I.ok,I.os,hg,⟨fun b o e n hb hx=>?_,fun b o e n hb hx=>?_,fun b o e n hx=>?_,fun b o e hx=>?_,fun b xs e=>EY b xs (I.base.EY b xs e),fun b o xs e=>Dk b o xs (I.base.Dk b o xs e),fun b ps e=>?_⟩,?_,fun x c e=>?_,?_,fun x c e=>?_,fun p hp=>?_,hok,I.len⟩
 ·exact keep b o (neL b o e) hb (neC b o e hx) (I.base.keep b o e n hb hx) (I.base.free b o e n hx)
 ·obtain⟨sl,e1⟩:=I.base.slot b o e n hb hx;obtain⟨sl',e2⟩:=slot b _ (neL b o e) hb (neC b o e hx) e1 (I.base.free b o e n hx);exact⟨sl',e2⟩
 ·obtain⟨o',e1⟩:=I.base.there b o e hx;exact free b o' (neC b o e hx) e1 (I.base.free b o e n hx)
 ·obtain⟨o',e1⟩:=I.base.there b o e hx;exact there b o' (neC b o e hx) e1
 ·obtain⟨m1,e1⟩:=I.base.EX b ps e;obtain⟨m2,e2⟩:=EX b _ e1;exact⟨m1++m2,by rw[e2,Array.append_assoc]⟩
 ·obtain⟨m,hn,hl⟩:=I.loc;refine⟨m,ns m hn,fun i x v e1 e2 e3=>?_⟩;obtain⟨u,r,l⟩:=hl i x v e1 e2 e3;refine⟨u,r,?_⟩;rcases l with l|⟨k,c,e,z⟩
  ·exact .inl l
  ·exact .inr ⟨k,c,e,cellK x c e _ z⟩
 ·obtain⟨v,z⟩:=I.cell x c e;exact⟨v,cellK x c e v z⟩
 ·obtain⟨m,⟨o,_,_,ho,_⟩,_⟩:=I.loc;exact free _ o (fun z=>(hch _ z).2.1 rfl) ho I.free
 ·obtain⟨v,o,ho,hd⟩:=I.cell x c e;exact free c o (fun z=>(hch c z).2.2.1 x c e rfl) ho (I.C8 x c e)
 ·obtain⟨e,n,ne,nf,d⟩:=I.pin p hp;have nch:p.1∉ch:=fun z=>(hch p.1 z).2.2.2 p hp rfl;exact⟨keep p.1 p.2 ne nf nch e n,free p.1 p.2 nch e n,ne,nf,d⟩
theorem Inv.un(I:Inv X pins σ H s)(u:Un X.fs [] H H' s.heap h')(hok:Bt X.prog X.w H' h'):Inv X pins σ H' {s with heap:=h',toks:=t'}:=by
 obtain⟨m,⟨o,es,ep,ho,r⟩,_⟩:=id I.loc;obtain⟨sl,hL⟩:=u.any ho I.free (by simp);exact I.step (g':=s.gens) (d':=s.drawn) (ch:=[]) (fun _ z=>nomatch z) (fun b o _ hb _ e n=>u.keep b o e n hb (by simp)) (fun b o _ hb _ e n=>u.slot b o e n hb (by simp)) (fun b o _ e n=>u.free b o e n (by simp)) (fun b o _ e=>u.there b o e (by simp)) u.EY u.Dk u.EX (fun m' hm=>by obtain⟨o',es',ep',ho',r'⟩:=hm;rw[ho] at ho';cases ho';exact⟨_,es',ep',hL,r'⟩) hok I.bare
theorem Inv.call{d':Drawn}(I:Inv X pins σ H s)(u:Un (Ci X.stack) ch H H' s.heap h')(hok:Bt X.prog X.w H' h')(hg:AllBare g')
 (hch:∀b∈ch,(b∈X.ex\/X.s₀.heap.objs.size<=b)/\b≠X.env.locals/\(∀x c,X.env.cells.lookup x=some c->c≠b)/\∀p∈X.pn++pins,p.1≠b):
 Inv X pins σ H' {s with heap:=h',gens:=g',drawn:=d',toks:=t'}:=by
 obtain⟨m,⟨o,es,ep,ho,r⟩,_⟩:=id I.loc;obtain⟨sl,hL⟩:=u.any ho I.free fun z=>(hch _ z).2.1 rfl;exact I.step (ch:=ch) hch (fun b o hL hb hc e n=>u.keep b o e n (fun z=>(Bk.mp (I.Md b z)).elim hL hb) hc) (fun b o _ _ hc e n=>u.any e n hc) (fun b o hc e n=>u.free b o e n hc) (fun b o hc e=>u.there b o e hc) u.EY u.Dk u.EX (fun m' hm=>by obtain⟨o',es',ep',ho',r'⟩:=hm;rw[ho] at ho';cases ho';exact⟨_,es',ep',hL,r'⟩) hok hg
theorem Inv.turned{it:Addr}(I:Inv X pins σ H s)(k:∀b o,b≠it->s.heap.get? b=some o->h'.get? b=some o)(hn:H it=none)(hL:it≠X.env.locals)
 (h1:it∈X.ex\/X.s₀.heap.objs.size<=it)(h2:∀x c,X.env.cells.lookup x=some c->c≠it)(h3:∀p∈X.pn++pins,p.1≠it):Inv X pins σ H {s with heap:=h',toks:=t'}:=by
 have nit:∀b u,H b=some u->b≠it:=fun b u e z=>by rw[z,hn] at e;cases e
 refine I.step (g':=s.gens) (d':=s.drawn) (ch:=[it]) (fun b hb=>?_) (fun b o _ _ hc e _=>k b o (fun z=>hc (by simp[z])) e) (fun b o _ _ hc e _=>⟨o.slots,k b o (fun z=>hc (by simp[z])) e⟩) (fun _ _ _ _ n=>n)
  (fun b o hc e=>⟨o,k b o (fun z=>hc (by simp[z])) e⟩) (fun _ _ e=>e) (fun _ _ _ e=>e) (fun b ps e=>⟨#[],by rw[e];simp⟩) (fun m hm=>?_) (fun b u e=>?_) I.bare
 ·have e:b=it:=by simpa using hb
  subst e;exact⟨h1,hL,h2,h3⟩
 ·obtain⟨o,es,ep,ho,r⟩:=hm;exact⟨o,es,ep,k _ o (C5 hL) ho,r⟩
 ·refine(I.hok b u e).EB (fun c v hc q=>k c v ?_ q) (fun _ q=>q) fun _ _ q=>q;rcases hc with z|z
  ·rw[z];exact nit b u e
  ·exact nit c _ z
theorem Inv.tok(I:Inv X pins σ H s)(t:Nat):Inv X pins σ H {s with toks:=t}:=I.un (h':=s.heap) (t':=t) Un.refl I.hok
theorem Inv.kept{t':Nat}(I:Inv X pins σ H s)(k:∀b u,s.heap.get? b=some u->h'.get? b=some u):Inv X pins σ H {s with heap:=h',toks:=t'}:=I.un (Un.kept k) (I.hok.kept k)
theorem Inv.laid{a:Addr}{o:HO}{t':Nat}(I:Inv X pins σ H s)(k:∀b u,s.heap.get? b=some u->h'.get? b=some u)(hp:s.heap.objs.size<=a)(new:BL X.prog X.w (upd H a o) h' a o):
 Inv X pins σ (upd H a o) {s with heap:=h',toks:=t'}:=I.un (Un.laid k hp (I.hok.fresh hp)) (I.hok.laid k hp new)
theorem Inv.write{x e:Addr}{o:HO}{t':Nat}(I:Inv X pins σ H s)(mu:NF (H x))(he:e=x\/H e=some (.own x))(k:∀b u,b≠e->s.heap.get? b=some u->h'.get? b=some u)(heo:∃u,h'.get? e=some u)
 (new:BL X.prog X.w (upd H x o) h' x o):Inv X pins σ (upd H x o) {s with heap:=h',toks:=t'}:=I.un (Un.write mu he k heo) (I.hok.write mu he k heo new)
theorem Inv.weak{σ':List (Option V)}(I:Inv X pins σ H s)(hl:σ'.length=σ.length)(w:∀(i:Nat) v,σ'[i]? =some (some v)->σ[i]? =some (some v)):Inv X pins σ' H s:=
 ⟨I.ok,I.os,I.bare,I.base,let⟨m,hn,hl'⟩:=I.loc;⟨m,hn,fun i x v e1 e2 e3=>hl' i x v e1 (w i v e2) e3⟩,I.cell,I.free,I.C8,I.pin,I.hok,hl.trans I.len⟩
theorem Inv.W2{pins':List (Addr×Obj)}(I:Inv X pins σ H s)(h:∀p∈pins',s.heap.get? p.1=some p.2/\H p.1=none/\p.1≠X.env.locals/\p.1∉X.fs/\∀v,p.2.data≠.cell v):Inv X pins' σ H s:=
 ⟨I.ok,I.os,I.bare,I.base,I.loc,I.cell,I.free,I.C8,fun p hp=>(CB.mp hp).elim (fun z=>I.pin p (Ha _ z)) (h p),I.hok,I.len⟩
end
variable{N:List Str}{i j:Nat}{x:Str}
section
variable{σ:List (Option V)}
theorem V7(hN:N.Nodup)(a:N[i]? =some x)(b:N[j]? =some x):i=j:=by obtain⟨h1,e1⟩:=BW.mp a;obtain⟨h2,e2⟩:=BW.mp b;exact(List.getElem_inj hN).mp (e1.trans e2.symm)
end
variable{M:Model}{A:Around}{E:Value->Shared->Prop}{v:V}{u:Value}
section
variable{σ:List (Option V)}
theorem VQ{Q:Unit->Shared->Prop}(I:Inv X pins σ H s)(hN:X.N.Nodup)(hi:X.N[i]? =some x)(hx:Loc X.env.scope x)(r:RelV v u)
 (h:∀s',Inv X pins (σ.set i (some v)) H s'->(∃a,Heap.SameBut a s.heap s'.heap/\(a=X.env.locals\/X.env.cells.lookup x=some a))->Q () s')(hf:X.fn x=true\/X.env.scope.names.lookup x=some .local:=by first|exact .inl rfl|exact .inr rfl|assumption):wpAny M A (storeName X.env x u) Q E s:=by
 obtain⟨m,hn,hl⟩:=id I.loc;have hcls:(X.env.scope.kind==.class||(X.env.scope.kind==.module&&X.env.locals !=X.env.globals))=false:=by rw[I.ok.kind];rfl
 have hiσ:i<σ.length:=by rw[I.len];exact(BW.mp hi).1
 have Iu:=I.Iu;have tracked:∀{a:Addr}{h':Heap},(∃o,s.heap.get? a=some o/\H a=none)->Heap.SameBut a s.heap h'->Bt X.prog X.w H h':=fun{a h'} ha hs b ob e=>by
  obtain⟨_,_,hfree⟩:=ha;refine(I.hok b ob e).EB (fun c w' hc q=>(hs.2 c ?_).trans q) (fun _ q=>q) fun _ _ q=>q;rintro rfl;rcases hc with rfl|hc
  ·rw[hfree] at e;cases e
  ·rw[hfree] at hc;cases hc
 rcases hx with hk|hk
 ·refine wpAny_storeName_local hk hn (fun h' hn' hs=>?_) hcls;obtain⟨oL,_,_,hoL,_⟩:=id hn;refine h _ ⟨I.ok,I.os,I.bare,⟨fun b o e n hb hx=>?_,fun b o e n hb hx=>?_,I.base.free,fun b o e hx=>?_,I.base.EY,I.base.Dk,I.base.EX⟩,⟨_,hn',fun j y v' e1 e2 e3=>?_⟩,fun y c e=>?_,I.free,I.C8,fun p hp=>?_,tracked ⟨oL,hoL,I.free⟩ hs,by simpa using I.len⟩ ⟨_,hs,.inl rfl⟩
  ·exact(hs.2 b (BH (Cu (Aw e) I.ok.above))).trans (I.base.keep b o e n hb hx)
  ·obtain⟨sl,e1⟩:=I.base.slot b o e n hb hx;exact⟨sl,(hs.2 b (BH (Cu (Aw e) I.ok.above))).trans e1⟩
  ·obtain⟨o',e1⟩:=I.base.there b o e hx;exact⟨o',(hs.2 b (BH (Cu (Aw e) I.ok.above))).trans e1⟩
  ·by_cases hj:j=i
   ·subst hj;rw[hi] at e1;cases e1;rw[NP hiσ] at e2;cases e2;exact⟨u,r,.inl ⟨hk,by simp⟩⟩
   ·rw[NT (C5 hj)] at e2;obtain⟨u',r',q⟩:=hl j y v' e1 e2 e3;refine⟨u',r',?_⟩;rcases q with⟨k,e⟩|⟨k,c,e,z⟩
    ·refine .inl ⟨k,?_⟩;have:y≠x:=fun e=>hj (V7 hN e1 (e▸hi));simp[this,e]
    ·exact .inr ⟨k,c,e,z.sameBut hs (Iu y c e)⟩
  ·obtain⟨w',z⟩:=I.cell y c e;exact⟨w',z.sameBut hs (Iu y c e)⟩
  ·obtain⟨e,n,ne,nf,d⟩:=I.pin p hp;exact⟨(hs.2 p.1 ne).trans e,n,ne,nf,d⟩
 ·have hfn:X.fn x=true:=by
   rcases hf with z|z
   ·exact z
   ·rw[z] at hk;cases hk
  obtain⟨c,hc⟩:=I.ok.has x (.inl hk);obtain⟨w',z⟩:=I.cell x c hc;refine wpAny_storeName_cell I.ok.kind hk hc z (fun h' hc' hs=>?_);obtain⟨oc,hoc,hocd⟩:=id z;refine h {s with heap:=h'} ⟨I.ok,I.os,I.bare,⟨fun b o e n hb hx=>?_,fun b o e n hb hx=>?_,I.base.free,fun b o e hx=>?_,I.base.EY,I.base.Dk,I.base.EX⟩,⟨m,hn.sameBut hs (C5 (Iu x c hc)),fun j y v' e1 e2 e3=>?_⟩,fun y c' e=>?_,I.free,I.C8,fun p hp=>?_,tracked ⟨oc,hoc,I.C8 x c hc⟩ hs,by simpa using I.len⟩ ⟨c,hs,.inr hc⟩
  ·exact(hs.2 b (BH (Cu (Aw e) (I.ok.J1 x c hfn hc)))).trans (I.base.keep b o e n hb hx)
  ·obtain⟨sl,e1⟩:=I.base.slot b o e n hb hx;exact⟨sl,(hs.2 b (BH (Cu (Aw e) (I.ok.J1 x c hfn hc)))).trans e1⟩
  ·obtain⟨o',e1⟩:=I.base.there b o e hx;exact⟨o',(hs.2 b (BH (Cu (Aw e) (I.ok.J1 x c hfn hc)))).trans e1⟩
  ·by_cases hj:j=i
   ·subst hj;rw[hi] at e1;cases e1;rw[NP hiσ] at e2;cases e2;exact⟨u,r,.inr ⟨.inl hk,c,hc,hc'⟩⟩
   ·rw[NT (C5 hj)] at e2;obtain⟨u',r',q⟩:=hl j y v' e1 e2 e3;refine⟨u',r',?_⟩;rcases q with q|⟨k,c',e,z'⟩
    ·exact .inl q
    ·refine .inr ⟨k,c',e,z'.sameBut hs ?_⟩;rintro rfl;exact hj (V7 hN e1 (I.ok.inj _ _ _ e hc▸hi))
  ·by_cases hcc:c'=c
   ·subst hcc;exact⟨_,hc'⟩
   ·obtain⟨w2,z2⟩:=I.cell y c' e;exact⟨w2,z2.sameBut hs hcc⟩
  ·obtain⟨e,n,ne,nf,d⟩:=I.pin p hp;refine⟨(hs.2 p.1 ?_).trans e,n,ne,nf,d⟩;intro q;rw[q,hoc] at e;have q':oc=p.2:=Ah e;exact d w' (by rw[<-q'];exact hocd)
theorem Q6{Q:Unit->Shared->Prop}(I:Inv X pins σ H s)(hN:X.N.Nodup)(hi:X.N[i]? =some x)(hx:Loc X.env.scope x)(r:RelV v u)
 (h:∀s',Inv X pins (σ.set i (some v)) H s'->Q () s')(hf:X.fn x=true\/X.env.scope.names.lookup x=some .local:=by first|exact .inl rfl|exact .inr rfl|assumption):wpAny M A (storeName X.env x u) Q E s:=
 VQ I hN hi hx r (fun s' I' _=>h s' I') hf
theorem Inv.Oz{s':Shared}(I:Inv X pins σ H s)(ho:s'.os=s.os)(u:Un (Ci X.stack) ch H H' s.heap s'.heap)(hok:Bt X.prog X.w H' s'.heap)(hg:AllBare s'.gens)
 (hch:∀b∈ch,(b∈X.ex\/X.s₀.heap.objs.size<=b)/\b≠X.env.locals/\(∀x c,X.env.cells.lookup x=some c->c≠b)/\∀p∈X.pn++pins,p.1≠b):Inv X pins σ H' s':=by
 obtain⟨h',g',d',t',o'⟩:=s';have e:o'=s.os:=ho;subst e;exact I.call (g':=g') (t':=t') (d':=d') u hok hg hch
end
abbrev XK:=Value->Option Addr->Hp->Prop
abbrev St:=List (Option V)
abbrev VK:=V->Hp->Prop
abbrev TE:=St->Hp->VK->Prop
abbrev TT:=St->Hp->(Bool->Hp->Prop)->Prop
abbrev TA:=St->Hp->(List V->Hp->Prop)->Prop
structure Ends where
 nx:St->Hp->Prop
 rt:VK
 bk:St->Hp->Prop:=fun _ _=>False
 ct:St->Hp->Prop:=fun _ _=>False
abbrev TS:=Ends->St->Hp->Prop
def EP(X:Cx)(pins:List (Addr×Obj))(σ:St)(Q:VK)(u:Value)(s':Shared):Prop:=∃v H',Inv X pins σ H' s'/\RelV v u/\Q v H'
def TP(X:Cx)(pins:List (Addr×Obj))(σ:St)(Q:Bool->Hp->Prop)(b:Bool)(s':Shared):Prop:=∃H',Inv X pins σ H' s'/\Q b H'
def AP(X:Cx)(pins:List (Addr×Obj))(σ:St)(Q:List V->Hp->Prop)(us:List Value)(s':Shared):Prop:=∃vs H',Inv X pins σ H' s'/\Vals vs us/\Q vs H'
def SP(X:Cx)(pins:List (Addr×Obj))(D:Ends)(f:Flow)(s':Shared):Prop:=
 match f with
 |.next=>∃σ' H',Inv X pins σ' H' s'/\D.nx σ' H'
 |.brk=>∃σ' H',Inv X pins σ' H' s'/\D.bk σ' H'
 |.cont=>∃σ' H',Inv X pins σ' H' s'/\D.ct σ' H'
 |.ret u=>∃v σ' H',Inv X pins σ' H' s'/\RelV v u/\D.rt v H'
def PE(X:Cx)(e:Expr)(t:TE):Prop:=
 ∀(pins:List (Addr×Obj))(s:Shared)(σ:St)(H:Hp)(Q:VK),Inv X pins σ H s->t σ H Q->wpAny (model X.prog X.w) X.A (eval e X.env) (EP X pins σ Q) X.xe s
def PT(X:Cx)(e:Expr)(t:TT):Prop:=
 ∀(pins:List (Addr×Obj))(s:Shared)(σ:St)(H:Hp)(Q:Bool->Hp->Prop),Inv X pins σ H s->t σ H Q->wpAny (model X.prog X.w) X.A (isTrue e X.env (eval e X.env)) (TP X pins σ Q) X.xe s
def PW(X:Cx)(e:Expr)(t:TT):Prop:=
 ∀(whole:Sem Value)(pins:List (Addr×Obj))(s:Shared)(σ:St)(H:Hp)(Q:Bool->Hp->Prop),Inv X pins σ H s->t σ H Q->wpAny (model X.prog X.w) X.A (isTrue e X.env whole) (TP X pins σ Q) X.xe s
variable{e:Expr}
theorem PW.pt{t:TT}(h:PW X e t):PT X e t:=h _
def PA(X:Cx)(es:List Expr)(t:TA):Prop:=
 ∀(pos:Pos)(pins:List (Addr×Obj))(s:Shared)(σ:St)(H:Hp)(Q:List V->Hp->Prop),Inv X pins σ H s->t σ H Q->wpAny (model X.prog X.w) X.A (spliced (backTo pos (starEach es X.env))) (AP X pins σ Q) X.xe s
def PS(X:Cx)(st:Stmt)(t:TS):Prop:=
 ∀(pins:List (Addr×Obj))(s:Shared)(σ:St)(H:Hp)(D:Ends),Inv X pins σ H s->t D σ H->wpAny (model X.prog X.w) X.A (exec st X.env) (SP X pins D) X.xe s
def EE(X:Cx)(st:List Stmt)(t:TS):Prop:=
 ∀(pins:List (Addr×Obj))(s:Shared)(σ:St)(H:Hp)(D:Ends),Inv X pins σ H s->t D σ H->wpAny (model X.prog X.w) X.A (execs st X.env) (SP X pins D) X.xe s
theorem Ae{t:Sem α}{Q Q':α->Shared->Prop}(h:wpAny M A t Q E s)(hQ:∀a s,Q a s->Q' a s):wpAny M A t Q' E s:=Cz h hQ fun _ _ x=>x
section
variable{a b:Expr}{tb:TE}{tA tB':TT}{rest:List Expr}
def D9(i:Nat):TE:=fun σ H Q=>∃v,σ[i]? =some (some v)/\Q v H
def tC(v:V):TE:=fun _ H Q=>Q v H
end
variable{pos:Pos}
section
variable{a b:Expr}{tb:TE}{tA tB':TT}{rest:List Expr}
theorem XT(hN:X.N[i]? =some x)(hv:Px X.env.scope x)(hd:(x==("__debug__" :Str))=false:=by decide)(hcd:(x==("__classdict__" :Str))=false:=by decide):PE X (.Name x pos) (D9 i):=by
 intro pins s σ H Q I h;obtain⟨v,e,h⟩:=h;obtain⟨m,hn,hl⟩:=I.loc;obtain⟨u,r,l⟩:=hl i x v hN e hv;have fin:EP X pins σ Q u s:=⟨v,H,I,r,h⟩;rcases l with⟨hk,hm⟩|⟨hk,c,hc,hcell⟩
 ·exact wpAny_Name (wpAny_loadName_local I.ok.kind hk hn hm fin) hd
 ·rcases hk with hk|hk
  ·exact wpAny_Name (wpAny_loadName_cell I.ok.kind hk hc hcell fin) hd
  ·exact wpAny_Name (wpAny_loadName_free I.ok.kind hk hc hcell fin hcd) hd
theorem AK{X:Cx}{i j pos}:PE X (.Constant (.int i) j pos) (tC (.int i)):=fun _ _ _ H _ I h=>wpAny_Constant_int ⟨.int i,H,I.tok _,⟨_,rfl⟩,h⟩
theorem JX{b j pos}:PE X (.Constant (.bool b) j pos) (tC (.bl b)):=fun _ _ _ H _ I h=>Constant_bool ⟨.bl b,H,I,rfl,h⟩
theorem jT{j pos}:PE X (.Constant .none j pos) (tC .A3):=fun _ _ _ H _ I h=>Constant_none ⟨.A3,H,I,rfl,h⟩
theorem AX{X:Cx}{x j pos}:PE X (.Constant (.str x) j pos) (tC (.str x)):=fun _ _ _ H _ I h=>UI ⟨.str x,H,I.tok _,⟨_,rfl⟩,h⟩
def Gl(X:Cx)(x:Str):Prop:=X.env.kindOf x=some .globalImplicit
end
variable{σ:St}{Q:Value->Shared->Prop}
section
variable{a b:Expr}{tb:TE}{tA tB':TT}{rest:List Expr}
theorem Kj(I:Inv X pins σ H s)(hg:Gl X x)(hm:X.mg x=some u)(h:Q u s)
 (hd:(x==("__debug__" :Str))=false:=by decide):wpAny (model X.prog X.w) X.A (eval (.Name x pos) X.env) Q E s:=
 Calls.Name_function_global I.ok.kind hg (Calls.loadGlobal_global (by rw[I.ok.glob];exact I.mod.glob.keeps I.bk) hm h) hd
theorem Mf(I:Inv X pins σ H s)(hg:Gl X x)(hm:X.mg x=none)(hv:bootBuiltins x=some u)(h:Q u s)
 (hn:x≠ "__name__" :=by decide)(hd:(x==("__debug__" :Str))=false:=by decide):wpAny (model X.prog X.w) X.A (eval (.Name x pos) X.env) Q E s:=by
 obtain⟨mb,h1,h2⟩:=I.mod.blt;exact Calls.Name_function_global I.ok.kind hg (Calls.loadGlobal_builtin (by rw[I.ok.glob];exact I.mod.glob.keeps I.bk) hm (by rw[I.ok.blt];exact h1.keeps I.bk) ((h2 x hn).trans hv) h) hd
theorem Fp(hg:Gl X x)(hm:X.mg x=none)(hv:bootBuiltins x=some u)(r:RelV v u)(hn:x≠ "__name__" :=by decide)(hd:(x==("__debug__" :Str))=false:=by decide):PE X (.Name x pos) (tC v):=
 fun _ _ _ H _ I h=>Mf I hg hm hv ⟨v,H,I,r,h⟩ hn hd
def PC(X:Cx)(op:CmpOp)(a b:Expr)(t:TE):Prop:=
 ∀(pins:List (Addr×Obj))(s:Shared)(σ:St)(H:Hp)(Q:VK),Inv X pins σ H s->t σ H Q->
  wpAny (model X.prog X.w) X.A (eval a X.env) (fun v s₁=>wpAny (model X.prog X.w) X.A (eval b X.env) (fun u s₂=>wpAny (model X.prog X.w) X.A (compareOp op v u) (EP X pins σ Q) X.xe s₂) X.xe s₁) X.xe s
end
variable{op:CmpOp}
section
variable{a b:Expr}{tb:TE}{tA tB':TT}{rest:List Expr}
theorem fQ(b:Expr)(h:op≠.In)(h2:op≠.NotIn):behindInMarks op b=false:=by
 have e1:(op==CmpOp.In)=false:=by cases op<;>first|rfl|exact absurd rfl h
 have e2:(op==CmpOp.NotIn)=false:=by cases op<;>first|rfl|exact absurd rfl h2
 cases b<;>simp[behindInMarks,e1,e2]
end
variable{ta:TE}
section
variable{a b:Expr}{tb:TE}{tA tB':TT}{rest:List Expr}
def mJ(ta:TE):TE:=fun σ H Q=>ta σ H fun x H1=>Q (.bl (decide (x=.A3))) H1
def kH(ta:TE):TE:=fun σ H Q=>ta σ H fun x H1=>Q (.bl (!decide (x=.A3))) H1
theorem RelV.V3{x:V}{v:Value}(r:RelV x v):(v==Value.none)=decide (x=.A3):=by
 cases x with
 |A3=>cases r;rfl
 |bl _=>cases r;rfl
 |int _=>obtain⟨t,rfl⟩:=r;rfl
 |str _=>obtain⟨t,rfl⟩:=r;rfl
 |FN _=>obtain⟨t,rfl⟩:=r;rfl
 |Hy _=>obtain⟨t,rfl⟩:=r;rfl
 |ref _=>cases r;rfl
 |ty _=>cases r;rfl
theorem iT{j pos'}(ha:PE X a ta):PC X .Is a (.Constant .none j pos') (mJ ta):=by intro pins s σ H Q I h;refine Ae (ha pins s σ H _ I h) fun v s1 ⟨x,H1,I1,r1,q1⟩=>?_;exact Constant_none (is_none_gen ⟨.bl _,H1,I1,by rw[r1.V3];rfl,q1⟩)
theorem fu{j pos'}(ha:PE X a ta):PC X .IsNot a (.Constant .none j pos') (kH ta):=by intro pins s σ H Q I h;refine Ae (ha pins s σ H _ I h) fun v s1 ⟨x,H1,I1,r1,q1⟩=>?_;exact Constant_none (isnot_none_gen ⟨.bl _,H1,I1,by rw[r1.V3];rfl,q1⟩)
def tB(t:TE):TT:=fun σ H Q=>t σ H fun x H1=>∃c,x=.bl c/\Q c H1
theorem IV{t:TE}(h:PC X op a b t)(h1:behindInMarks op b=false:=by first|exact fQ _ (by decide) (by decide)|rfl):PT X (.Compare a [op] [b] pos) (tB t):=by intro pins s σ H Q I hw;refine wpAny_isTrue_Compare1 (Ae (h pins s σ H _ I hw) fun v s1 h1=>Ae h1 fun u s2 h2=>Ae h2 fun c s3 ⟨x,H1,I1,r1,q1⟩=>?_) h1;obtain⟨d,rfl,q⟩:=q1;cases r1;exact Lh ⟨H1,I1,q⟩
theorem Em{t:TE}(h:PE X e t)(he:∀whole,isTrue e X.env whole=(do let v<-whole;standAt e.pos;holding [v] (truthy v)):=by intro _;rfl):PT X e (tB t):=by intro pins s σ H Q I hw;refine isTrue_plain (Ae (h pins s σ H _ I hw) fun v s1 ⟨x,H1,I1,r1,q1⟩=>?_) (he _);obtain⟨d,rfl,q⟩:=q1;cases r1;exact Lh ⟨H1,I1,q⟩
def Sy(t u:TT):TT:=fun σ H Q=>t σ H fun c H1=>if c=true then u σ H1 Q else Q false H1
def nK(t u:TT):TT:=fun σ H Q=>t σ H fun c H1=>if c=true then Q true H1 else u σ H1 Q
def nG(t:TT):TT:=fun σ H Q=>t σ H fun c H1=>Q (!c) H1
theorem GL(ha:PT X a tA):PW X (.BoolOp .And [a] pos) tA:=by
 intro wh pins s σ H Q I h;refine isTrue_and (Ae (ha pins s σ H Q I h) fun c s1 e=>?_)
 cases c with
 |true=>exact isTrue_and_nil e
 |false=>exact e
theorem JS(ha:PT X a tA):PW X (.BoolOp .Or [a] pos) tA:=by
 intro wh pins s σ H Q I h;refine isTrue_or (Ae (ha pins s σ H Q I h) fun c s1 e=>?_)
 cases c with
 |false=>exact isTrue_or_nil e
 |true=>exact e
theorem Eo(ha:PT X a tA)(hb:PW X (.BoolOp .And (b::rest) pos) tB'):PW X (.BoolOp .And (a::b::rest) pos) (Sy tA tB'):=by
 intro wh pins s σ H Q I h;refine isTrue_and (Ae (ha pins s σ H _ I h) fun c s1 ⟨H1,I1,q1⟩=>?_)
 cases c with
 |true=>exact hb wh pins s1 σ H1 Q I1 q1
 |false=>exact⟨H1,I1,q1⟩
theorem Jb(ha:PT X a tA)(hb:PW X (.BoolOp .Or (b::rest) pos) tB'):PW X (.BoolOp .Or (a::b::rest) pos) (nK tA tB'):=by
 intro wh pins s σ H Q I h;refine isTrue_or (Ae (ha pins s σ H _ I h) fun c s1 ⟨H1,I1,q1⟩=>?_)
 cases c with
 |true=>exact⟨H1,I1,q1⟩
 |false=>exact hb wh pins s1 σ H1 Q I1 q1
theorem JW(ha:PT X a tA):PT X (.UnaryOp .Not a pos) (nG tA):=by intro pins s σ H Q I h;exact isTrue_not (ha pins s σ H (fun c H1=>Q (!c) H1) I h)
def kF(ta tb:TE):TE:=fun σ H Q=>ta σ H fun x H1=>∃c,x=.bl c/\if c=true then tb σ H1 Q else Q (.bl false) H1
def kL(ta:TE):TE:=fun σ H Q=>ta σ H fun x H1=>∃c,x=.bl c/\Q (.bl (!c)) H1
theorem MU{op}{t:TE}(h:PE X a t):PE X (.BoolOp op [a] pos) t:=fun pins s σ H Q I hw=>BoolOp_one (h pins s σ H Q I hw)
theorem MW(ha:PE X a ta)(hb:PE X (.BoolOp .And (b::rest) pos) tb):PE X (.BoolOp .And (a::b::rest) pos) (kF ta tb):=by
 intro pins s σ H Q I h;refine BoolOp_and (Ae (ha pins s σ H _ I h) fun v s1 ⟨x,H1,I1,r1,q1⟩=>?_);obtain⟨c,rfl,q1⟩:=q1;cases r1;refine Lh ?_
 cases c with
 |true=>exact hb pins s1 σ H1 Q I1 q1
 |false=>exact⟨.bl false,H1,I1,rfl,q1⟩
theorem iO(ha:PE X a ta):PE X (.UnaryOp .Not a pos) (kL ta):=by intro pins s σ H Q I h;refine UnaryOp_ (Ae (ha pins s σ H _ I h) fun v s1 ⟨x,H1,I1,r1,q1⟩=>?_);obtain⟨c,rfl,q1⟩:=q1;cases r1;exact not_of (Lh ⟨.bl (!c),H1,I1,rfl,q1⟩)
def ni(t:TT)(ta tb:TE):TE:=fun σ H Q=>t σ H fun c H1=>if c=true then ta σ H1 Q else tb σ H1 Q
end
variable{c:Expr}
section
variable{a b:Expr}{tb:TE}{tA tB':TT}{rest:List Expr}
theorem dr(hc:PT X c tA)(ha:PE X a ta)(hb:PE X b tb):PE X (.IfExp c a b pos) (ni tA ta tb):=by
 intro pins s σ H Q I h;refine wpAny_IfExp (Ae (hc pins s σ H _ I h) fun d s1 ⟨H1,I1,q1⟩=>?_)
 cases d with
 |true=>exact ha pins s1 σ H1 Q I1 q1
 |false=>exact hb pins s1 σ H1 Q I1 q1
end
def AN(K:PySem.W.Frag)(H:Hp)(a:Addr)(xs:List V):Prop:=
 Rd H a (.lst xs)\/
  ∃(o:Obj)(AM:Array Value)(n:Nat),K.lookup a=some o/\o.cls=.type "list" /\o.dict=none/\o.data=.seq AM n/\AM.size<=sizeLine/\Vals xs AM.toList
def AY(K:PySem.W.Frag)(H:Hp)(a:Addr)(xs:List V):Prop:=
 Rd H a (.tup xs)\/
  ∃(o:Obj)(AM:Array Value)(n:Nat),K.lookup a=some o/\o.cls=.type "tuple" /\o.data=.seq AM n/\AM.size<=sizeLine/\Vals xs AM.toList
noncomputable def lz:Value->Option V
 |.none=>some .A3
 |.bool b=>some (.bl b)
 |.int i _=>some (.int i)
 |.str x _=>some (.str x)
 |.bytes b _=>some (.FN b)
 |.float b _=>some (.Hy b)
 |.ref a=>some (.ref a)
 |.type n=>some (.ty n)
 |_=>none
theorem RelV.abs{x:V}(r:RelV x u):lz u=some x:=by
 cases x with
 |A3=>cases r;rfl
 |bl _=>cases r;rfl
 |int _=>obtain⟨t,rfl⟩:=r;rfl
 |str _=>obtain⟨t,rfl⟩:=r;rfl
 |FN _=>obtain⟨t,rfl⟩:=r;rfl
 |Hy _=>obtain⟨t,rfl⟩:=r;rfl
 |ref _=>cases r;rfl
 |ty _=>cases r;rfl
theorem RelV.inj{x y:V}{u:Value}(r:RelV x u)(q:RelV y u):x=y:=Ah (r.abs.symm.trans q.abs)
theorem Vals.inj:∀{xs ys:List V}{us:List Value},Vals xs us->Vals ys us->xs=ys
 |_,_,_,.nil,.nil=>rfl
 |_,_,_,.cons r t,.cons r' t'=>by rw[r.inj r',Vals.inj t t']
variable{K:PySem.W.Frag}
section
variable{xs:List V}
theorem AN.of(h:H a=some (.lst xs)):AN K H a xs:=.inl (.inl h)
theorem AY.of(h:H a=some (.tup xs)):AY K H a xs:=.inl (.inl h)
theorem Inv.list(I:Inv X pins σ H s)(h:AN X.K H a xs):∃AM:List Value,Vals xs AM/\PlainL s.heap a AM.toArray/\xs.length<=sizeLine:=by
 rcases h with h|⟨o,AM,n,hk,hc,hd,hs,hz,r⟩
 ·obtain⟨z,AM,n,r,e⟩:=h.ok I.hok;exact⟨AM,r,⟨_,n,e,rfl,rfl,rfl⟩,z⟩
 ·refine⟨AM.toList,r,⟨o,n,I.BP a o hk,hc,hd,by simpa using hs⟩,?_⟩;have e:=r.length;simp only[EM] at e
  lia
theorem Inv.tuple(I:Inv X pins σ H s)(h:AY X.K H a xs):∃AM:List Value,Vals xs AM/\IsTup s.heap a AM.toArray/\xs.length<=sizeLine:=by
 rcases h with h|⟨o,AM,n,hk,hc,hs,hz,r⟩
 ·obtain⟨z,AM,r,p⟩:=h.ok I.hok;exact⟨AM,r,p,z⟩
 ·refine⟨AM.toList,r,⟨o,I.BP a o hk,hc,n,by simpa using hs⟩,?_⟩;have e:=r.length;simp only[EM] at e
  lia
end
variable{ys:List V}
section
variable{xs:List V}
theorem Inv.V6(I:Inv X pins σ H s)(h:AN X.K H a xs)(h':AN X.K H a ys):xs=ys:=by
 obtain⟨AM,r,⟨o,n,e,_,_,d⟩,_⟩:=I.list h;obtain⟨its',r',⟨o',n',e',_,_,d'⟩,_⟩:=I.list h';rw[e] at e';cases e';rw[d] at d';injection d' with d1 _;have:AM=its':=by simpa using BZ Array.toList d1
 subst this;exact r.inj r'
end
abbrev Cx.HR(X:Cx)(E:Value->Shared->Prop):Cx:={X with xe:=E}
abbrev Cx.Pj(X:Cx):Cx:=X.HR fun _ _=>False
theorem Cx.Ok.HR(ok:X.Ok)(E:Value->Shared->Prop):(X.HR E).Ok:=
 ⟨ok.mod,ok.kind,ok.glob,ok.blt,ok.above,ok.inj,ok.has,ok.J1,ok.hd,ok.frames,ok.K9,ok.Pm,ok.bs,ok.F3,ok.Jj,ok.Jk,ok.Ea,ok.HU⟩
theorem Cx.Ok.IW(ok:(X.HR E).Ok):X.Ok:=
 ⟨ok.mod,ok.kind,ok.glob,ok.blt,ok.above,ok.inj,ok.has,ok.J1,ok.hd,ok.frames,ok.K9,ok.Pm,ok.bs,ok.F3,ok.Jj,ok.Jk,ok.Ea,ok.HU⟩
theorem Inv.HR(I:Inv X pins σ H s)(E:Value->Shared->Prop):Inv (X.HR E) pins σ H s:=⟨I.ok.HR E,I.os,I.bare,I.base,I.loc,I.cell,I.free,I.C8,I.pin,I.hok,I.len⟩
theorem Inv.IW(I:Inv (X.HR E) pins σ H s):Inv X pins σ H s:=⟨I.ok.IW,I.os,I.bare,I.base,I.loc,I.cell,I.free,I.C8,I.pin,I.hok,I.len⟩
theorem SP.IW{D:Ends}{f:Flow}{s':Shared}(h:SP (X.HR E) pins D f s'):SP X pins D f s':=by
 cases f with
 |next=>obtain⟨σ',H',I,q⟩:=h;exact⟨σ',H',I.IW,q⟩
 |brk=>obtain⟨σ',H',I,q⟩:=h;exact⟨σ',H',I.IW,q⟩
 |cont=>obtain⟨σ',H',I,q⟩:=h;exact⟨σ',H',I.IW,q⟩
 |ret u=>obtain⟨v,σ',H',I,r,q⟩:=h;exact⟨v,σ',H',I.IW,r,q⟩
theorem EE.Pj{st:List Stmt}{t:TS}(h:EE X.Pj st t):EE X st t:=fun pins s σ H D I hw=>Cz (h pins s σ H D (I.HR _) hw) (fun _ _ q=>q.IW) fun _ _ z=>False.elim z
section
variable{st:Stmt}{rest:List Stmt}{t u:TS}
def Je:TS:=fun D σ H=>D.nx σ H
def Il(t u:TS):TS:=fun D σ H=>t {D with nx:=u D} σ H
theorem BF:EE X [] Je:=fun _ _ σ H _ I h=>Nh ⟨σ,H,I,h⟩
theorem AW{X:Cx}{st:Stmt}{rest:List Stmt}{t:TS}{u:TS}(h1:PS X st t)(h2:EE X rest u):EE X (st::rest) (Il t u):=by
 intro pins s σ H D I h;refine wpAny_execs_cons (Ae (h1 pins s σ H {D with nx:=u D} I h) fun f s1 q=>?_)
 cases f with
 |next=>obtain⟨σ',H',I',q⟩:=q;exact h2 pins s1 σ' H' D I' q
 |ret v=>exact q
 |brk=>exact q
 |cont=>exact q
theorem AV{X:Cx}{st:Stmt}{t:TS}(h1:PS X st t):EE X [st] t:=by
 intro pins s σ H D I h;refine wpAny_execs_cons (Ae (h1 pins s σ H D I h) fun f s1 q=>?_)
 cases f with
 |next=>exact Nh q
 |ret v=>exact q
 |brk=>exact q
 |cont=>exact q
theorem Inv.quiet(I:Inv X pins σ H s):interactive X.env=false:=by simp[interactive,I.ok.kind]
end
variable{te:TE}
section
variable{st:Stmt}{rest:List Stmt}{t u:TS}
def jw(te:TE):TS:=fun D σ H=>te σ H fun _ H1=>D.nx σ H1
theorem Bn(he:PE X e te)(hs:swapsWith e none pos.line X.env=pure false:=by rfl):PS X (.Expr e pos) (jw te):=by intro pins s σ H D I h;exact wpAny_Expr_any (Ae (he pins s σ H _ I h) fun v s1 ⟨x,H1,I1,r1,q1⟩=>⟨σ,H1,I1,q1⟩) I.quiet hs
def ZG(te:TE):TS:=fun D σ H=>te σ H D.rt
theorem An{X:Cx}{e:Expr}{te:TE}{pos:Pos}(he:PE X e te):PS X (.Return (some e) pos) (ZG te):=by intro pins s σ H D I h;exact wpAny_Return_some (Ae (he pins s σ H _ I h) fun v s1 ⟨x,H1,I1,r1,q1⟩=>⟨x,σ,H1,I1,r1,q1⟩)
def Gf(c:TT)(t u:TS):TS:=fun D σ H=>c σ H fun b H1=>if b=true then t D σ H1 else u D σ H1
theorem A1{a b:List Stmt}{tc:TT}(hc:PT X c tc)(ha:EE X a t)(hb:EE X b u):PS X (.If c a b pos) (Gf tc t u):=by
 intro pins s σ H D I h;refine wpAny_If (Ae (hc pins s σ H _ I h) fun d s1 ⟨H1,I1,q1⟩=>?_)
 cases d with
 |true=>exact ha pins s1 σ H1 D I1 q1
 |false=>exact hb pins s1 σ H1 D I1 q1
end
abbrev TG:=V->St->Hp->(St->Hp->Prop)->Prop
abbrev Jz:=List V->St->Hp->(St->Hp->Prop)->Prop
def PG(X:Cx)(target:Expr)(t:TG):Prop:=
 ∀(pins:List (Addr×Obj))(s:Shared)(σ:St)(H:Hp)(v:V)(u:Value)(Q:St->Hp->Prop),Inv X pins σ H s->RelV v u->t v σ H Q->
  wpAny (model X.prog X.w) X.A (assign target X.env u) (fun _ s'=>∃σ' H',Inv X pins σ' H' s'/\Q σ' H') X.xe s
def Pf(X:Cx)(ts:List Expr)(t:Jz):Prop:=
 ∀(pins:List (Addr×Obj))(s:Shared)(σ:St)(H:Hp)(vs:List V)(us:List Value)(Q:St->Hp->Prop),Inv X pins σ H s->Vals vs us->t vs σ H Q->
  wpAny (model X.prog X.w) X.A (assignInOrder ((assignEach ts X.env).map (·.2)) us) (fun _ s'=>∃σ' H',Inv X pins σ' H' s'/\Q σ' H') X.xe s
abbrev Sv:=V->V->V->Hp->(Hp->Prop)->Prop
def Y1(X:Cx)(t:Sv):Prop:=
 ∀(pins:List (Addr×Obj))(s:Shared)(σ:St)(H:Hp)(o i v:V)(ov iv u:Value)(Q:Hp->Prop),Inv X pins σ H s->RelV o ov->RelV i iv->RelV v u->t o i v H Q->
  wpAny (model X.prog X.w) X.A (setItem ov iv u) (fun _ s'=>∃H',Inv X pins σ H' s'/\Q H') X.xe s
def Dj(i:Nat):TG:=fun v σ H Q=>Q (σ.set i (some v)) H
theorem Bl(hN:X.N.Nodup)(hi:X.N[i]? =some x)(hx:Loc X.env.scope x)(hf:X.fn x=true\/X.env.scope.names.lookup x=some .local:=by first|exact .inl rfl|exact .inr rfl|assumption):PG X (.Name x pos) (Dj i):=by intro pins s σ H v u Q I r h;exact wpAny_assign_Name (Q6 I hN hi hx r (fun s' I'=>⟨_,H,I',h⟩) hf)
noncomputable def Sh:Jz:=fun vs σ H Q=>vs=[]/\Q σ H
noncomputable def Kz(t:TG)(u:Jz):Jz:=fun vs σ H Q=>∃v r,vs=v::r/\t v σ H fun σ' H'=>u r σ' H' Q
theorem MQ:Pf X [] Sh:=by intro pins s σ H vs us Q I r h;obtain⟨e,h⟩:=h;subst e;cases r;exact assignInOrder_nil ⟨σ,H,I,h⟩
theorem GK{es:List Expr}{t:TG}{u:Jz}(h1:PG X e t)(h2:Pf X es u)
 (hs:(assignEach (e::es) X.env).map (·.2)=assign e X.env::(assignEach es X.env).map (·.2):=by rfl):Pf X (e::es) (Kz t u):=by
 intro pins s σ H vs us Q I r h;obtain⟨v,vr,e1,h⟩:=h;subst e1
 cases r with
 |cons r rr=>rw[hs];refine assignInOrder_cons (Ae (h1 pins s σ H _ _ _ I r h) fun _ s1 ⟨σ1,H1,I1,q1⟩=>?_);exact h2 pins s1 σ1 H1 _ _ Q I1 rr q1
def Sa(K:PySem.W.Frag)(n:Nat)(t:Jz):TG:=fun v σ H Q=>∃a xs,v=.ref a/\AY K H a xs/\xs.length=n/\t xs σ H Q
variable{k:Nat}
theorem Ma{es:List Expr}{t:Jz}{n:Nat}(hc:X.calm=true)(h:Pf X es t)
 (hn:(assignEach es X.env).length=n:=by rfl)(hst:(assignEach es X.env).findIdx? (·.1)=none:=by rfl):PG X (.Tuple es k pos) (Sa X.K n t):=by
 intro pins s σ H v u Q I r hw;obtain⟨a,xs,e1,hq,hl,hw⟩:=hw;subst e1;cases r;obtain⟨AM,rv,ht,hz⟩:=I.tuple hq;refine assign_Tuple_tuple (I.ok.hd hc) ht (by simp[hn,<-hl,rv.length]) hst fun h' hx=>?_;have I1:Inv X pins σ H {s with heap:=h'}:=I.kept (t':=s.toks) fun b o e=>hx b o (BH (Aw e)) e;exact h pins _ σ H xs _ Q I1 (by simpa using rv) hw
def mZ(to ti:TE)(t:Sv):TG:=fun v σ H Q=>to σ H fun o H1=>ti σ H1 fun i H2=>t o i v H2 fun H3=>Q σ H3
theorem Ro{o i:Expr}{to ti:TE}{t:Sv}(ho:PE X o to)(hi:PE X i ti)(hs:Y1 X t)
 (ha:∀v,assign (.Subscript o i pos) X.env v=(do
  let ov<-holding [v] (eval o X.env);let iv<-holding [v,ov] (eval i X.env)
  standAt pos
  holding [v,ov,iv] (setItem ov iv v)
  release [v,ov,iv] []):=by intro _;rfl):PG X (.Subscript o i pos) (mZ to ti t):=by
 intro pins s σ H v u Q I r h;rw[ha];refine AJ (Fd (Ae (ho pins s σ H _ I h) fun ov s1 ⟨x,H1,I1,r1,q1⟩=>?_));refine AJ (Fd (Ae (hi pins s1 σ H1 _ I1 q1) fun iv s2 ⟨y,H2,I2,r2,q2⟩=>?_));refine AJ (Nr (AJ (Fd (Ae (hs pins s2 σ H2 x y v ov iv u _ I2 r1 r2 r q2) fun _ s3 ⟨H3,I3,q3⟩=>?_))));exact wpAny_release ⟨σ,H3,I3,q3⟩
def PK(te:TE)(g:TG):TS:=fun D σ H=>te σ H fun x H1=>g x σ H1 D.nx
variable{tg:Expr}{g:TG}
theorem SG(he:PE X e te)(hg:PG X tg g)(hs:swapsWithSole [tg] e pos.line X.env=pure false:=by rfl)(hw:swappedStores [tg] e X.env=pure none:=by rfl)
 (h1:(assignEach [tg] X.env).map (·.2)=[assign tg X.env]:=by rfl):PS X (.Assign [tg] e pos) (PK te g):=by
 intro pins s σ H D I h;refine wpAny_Assign_stores (Ae (he pins s σ H _ I h) fun v s1 ⟨x,H1,I1,r1,q1⟩=>?_) hs hw;rw[h1];exact Ae (hg pins s1 σ H1 x v _ I1 r1 q1) fun _ s2 q=>q
theorem Ax{pos':Pos}(hN:X.N.Nodup)(hi:X.N[i]? =some x)(hx:Loc X.env.scope x)(he:PE X e te)(hs:swapsWith e (some (.Name x pos')) pos.line X.env=pure false:=by rfl)(hf:X.fn x=true\/X.env.scope.names.lookup x=some .local:=by first|exact .inl rfl|exact .inr rfl|assumption):
 PS X (.Assign [.Name x pos'] e pos) (PK te (Dj i)):=by
 intro pins s σ H D I h;refine wpAny_Assign_Name (Ae (he pins s σ H _ I h) fun v s1 ⟨y,H1,I1,r1,q1⟩=>?_) hs;exact Q6 I1 hN hi hx r1 (fun s2 I2=>⟨_,H1,I2,q1⟩) hf
def iV(c:TT)(tb:TS):TS:=fun D σ H=>∃W:Nat->St->Hp->Prop,(∃m,W m σ H)/\∀m σ H,W m σ H->
 c σ H fun b H1=>if b=true then∃N:St->Hp->Prop,(∀σ' H',N σ' H'->∃m',m'<m/\W m' σ' H')/\tb {D with nx:=N,ct:=N,bk:=D.nx} σ H1 else D.nx σ H1
variable{body:List Stmt}{tb:TS}
theorem fC{tc:TT}(hp:PassesOwn (model X.prog X.w) X.A X.env X.xe)(hc:PT X c tc)(hb:EE X body tb):PS X (.While c body [] pos) (iV tc tb):=by
 intro pins s σ H D I h;obtain⟨W,⟨m0,w0⟩,turn⟩:=h;refine wpAny_While (codeAny_whileLoop (fun n s'=>∃σ' H',Inv X pins σ' H' s'/\W n σ' H') ?_ m0 ⟨σ,H,I,w0⟩);rintro n s1 ⟨σ1,H1,I1,w1⟩;refine KC hp (Ae (hc pins s1 σ1 H1 _ I1 (turn n σ1 H1 w1)) fun b s2 ⟨H2,I2,q2⟩=>?_)
 cases b with
 |true=>
  obtain⟨N,hN,q2⟩:=q2;rw[AH rfl];refine KC hp (Ae (hb pins s2 σ1 H2 _ I2 q2) fun f s3 q3=>?_)
  cases f with
  |next=>obtain⟨σ3,H3,I3,n3⟩:=q3;obtain⟨m',hm,w3⟩:=hN σ3 H3 n3;exact⟨m',hm,σ3,H3,I3,w3⟩
  |cont=>obtain⟨σ3,H3,I3,n3⟩:=q3;obtain⟨m',hm,w3⟩:=hN σ3 H3 n3;exact⟨m',hm,σ3,H3,I3,w3⟩
  |brk=>exact q3
  |ret v=>exact q3
 |false=>rw[AG CS];exact Nh ⟨σ1,H2,I2,q2⟩
structure It where
 go:Nat->Hp->Prop
 Io:Nat->Hp->V->Hp->Prop
 stop:Nat->Hp->Prop
def FE(X:Cx)(pins:List (Addr×Obj))(H:Hp)(b:Addr):Prop:=
 H b=none/\b≠X.env.locals/\b∉X.fs/\(b∈X.ex\/X.s₀.heap.objs.size<=b)/\(∀x c,X.env.cells.lookup x=some c->c≠b)/\∀p∈X.pn++pins,p.1≠b
theorem Inv.Js(I:Inv X pins σ H s)(hb:s.heap.objs.size<=b)(hn:H' b=none):FE X pins H' b:=by
 refine⟨hn,EN (Cu I.lt hb),I.lZ hb,.inr (BI I.sz hb),fun x c e z=>?_,fun p hp z=>?_⟩
 ·obtain⟨v,q⟩:=I.cell x c e;exact absurd (Cu q.lt (by rw[z];exact hb)) (Lo _)
 ·exact absurd (Cu (Aw (I.pin p hp).1) (by rw[z];exact hb)) (Lo _)
structure Turn(P:Program)(w:World)(K:PySem.W.Frag)(tg:Expr)(J:It)(fp:List Addr)(it:Addr)(tn:Nat->Heap->Prop):Prop where
 mem:it∈fp
 obj:∀i h,tn i h->∀b∈fp,∃o,h.get? b=some o/\∀v,o.data≠.cell v
 keep:∀i h h',tn i h->(∀b∈fp,∀o,h.get? b=some o->h'.get? b=some o)->tn i h'
 item:∀(X:Cx),X.prog=P->X.w=w->X.K=K->X.calm=true->∀(i:Nat)(pins:List (Addr×Obj))(s:Shared)(σ:St)(H:Hp)(E:Value->Shared->Prop),Inv X pins σ H s->(∀b∈fp,FE X pins H b)->tn i s.heap->J.go i H->
  wpAny (model P w) X.A (pyNext (.ref it)) (fun r s1=>∃u,r=some u/\
   wpAny (model P w) X.A (letOwnedTupleGo tg (.ref it) u) (fun _ s2=>∃x H',Inv X pins σ H' s2/\RelV x u/\J.Io i H x H'/\tn (i+1) s2.heap/\∀b∈fp,H' b=none) E s1) E s
 done:∀(X:Cx),X.prog=P->X.w=w->X.K=K->X.calm=true->∀(i:Nat)(pins:List (Addr×Obj))(s:Shared)(σ:St)(H:Hp)(E:Value->Shared->Prop),Inv X pins σ H s->(∀b∈fp,FE X pins H b)->tn i s.heap->J.stop i H->
  wpAny (model P w) X.A (pyNext (.ref it)) (fun r s1=>r=none/\Inv X pins σ H s1) E s
 self:∀(A:Around)(i:Nat)(s:Shared)(Q:Value->Shared->Prop)(E:Value->Shared->Prop),tn i s.heap->Q (.ref it) s->wpAny (model P w) A (pyIter (.ref it)) Q E s
abbrev TI:=St->Hp->(It->Hp->Prop)->Prop
def Zn(X:Cx)(pins:List (Addr×Obj))(σ:St)(tg:Expr)(R:It->Hp->Prop)(itv:Value)(s2:Shared):Prop:=
 ∃(it:Addr)(fp:List Addr)(tn:Nat->Heap->Prop)(J:It)(H':Hp),itv=.ref it/\Inv X pins σ H' s2/\Turn X.prog X.w X.K tg J fp it tn/\tn 0 s2.heap/\(∀b∈fp,FE X pins H' b)/\R J H'
def PI(X:Cx)(tg iter:Expr)(wi:TI):Prop:=
 ∀(pins:List (Addr×Obj))(s:Shared)(σ:St)(H:Hp)(R:It->Hp->Prop),Inv X pins σ H s->wi σ H R->
  wpAny (model X.prog X.w) X.A (eval iter X.env) (fun v s1=>wpAny (model X.prog X.w) X.A (pyIter v) (Zn X pins σ tg R) X.xe s1) X.xe s
variable{vs:Array Value}
theorem Ox{it:Addr}{n:String}{Q:Unit->Shared->Prop}(ho:s.heap.get? it=some o)(hc:o.cls=.type n)(hd:o.data=.fields vs)
 (hn:["enumerate","zip","dict_itemiterator","dict_reverseitemiterator","odict_iterator","itertools.zip_longest","itertools.pairwise"].contains n=false)(hQ:Q () s):wpAny M A (letOwnedTupleGo tg (.ref it) u) Q E s:=by
 unfold letOwnedTupleGo;cases tg<;>first
  |exact Af hQ
  |(cases u<;>first
   |exact Af hQ
   |(refine AJ (wpAny_load ho ?_)
     rw[hc,hd];show wpAny M A (if(["enumerate","zip","dict_itemiterator","dict_reverseitemiterator","odict_iterator","itertools.zip_longest","itertools.pairwise"].contains n&&vs[0]? ==some (rawInt _))=true then _ else _) Q E s;rw[AG (by intro h;rw[hn,Ln] at h;cases h)];exact Af hQ))
def Gp(K:PySem.W.Frag)(a:Addr):It:=
 ⟨fun i H=>∃xs x,AN K H a xs/\xs[i]? =some x,fun i H x H'=>H'=H/\∀xs,AN K H a xs->xs[i]? =some x,fun i H=>∃xs,AN K H a xs/\xs.length<=i⟩
def LJ(lo:Int)(n:Nat):It:=⟨fun i _=>i<n,fun i H x H'=>H'=H/\x=.int (lo+i),fun i _=>n<=i⟩
theorem cF(a it:Addr):Turn P w K tg (Gp K a) [it] it (fun i h=>h.IsListIter it a i) where
 mem:=by simp
 obj:=fun i h st b hb=>by
  have e:b=it:=by simpa using hb
  subst e;obtain⟨o,e,c,d⟩:=st;exact⟨o,e,fun v z=>by rw[d] at z;cases z⟩
 keep:=fun i h h' st k=>st.at fun o e=>k it (by simp) o e
 item:=by intro X hP hw hK hc i pins s σ H E I hf st hg;subst hP hw hK;obtain⟨xs,x,hq,hx⟩:=hg;obtain⟨AM,rv,p,hz⟩:=I.list hq;obtain⟨u,hu,ru⟩:=rv.get hx;obtain⟨f0,f1,f2,f3,f4,f5⟩:=hf it (by simp);refine wpAny_pyNext_list_item st p.isList (x:=u) (by simpa using hu) fun h' st' sb=>?_;have I1:Inv X pins σ H {s with heap:=h'}:=I.turned (t':=s.toks) (fun b o hb e=>(sb.2 b hb).trans e) f0 f1 f3 f4 f5;obtain⟨o,e,c,d⟩:=id st';exact⟨u,rfl,Ox (s:={s with heap:=h'}) e c d (by decide) ⟨x,H,I1,ru,⟨rfl,fun ys hy=>by rw[I.V6 hy hq];exact hx⟩,st',fun b hb=>(hf b hb).1⟩⟩
 done:=by intro X hP hw hK hc i pins s σ H E I hf st hg;subst hP hw hK;obtain⟨xs,hq,hx⟩:=hg;obtain⟨AM,rv,p,hz⟩:=I.list hq;obtain⟨f0,f1,f2,f3,f4,f5⟩:=hf it (by simp);have hl:=rv.length;exact wpAny_pyNext_list_end (I.ok.hd hc) st p.isList (by simp;lia) fun h' eb=>⟨rfl,I.turned (t':=s.toks) (fun b o hb e=>eb b o hb e) f0 f1 f3 f4 f5⟩
 self:=fun _ _ _ _ _ st h=>wpAny_pyIter_listiter st h
theorem aI(it:Addr)(lo:Int)(n:Nat):Turn P w K tg (LJ lo n) [it] it (fun i h=>IsRangeIter h it (lo+(i:Nat)*1) ((n:Int)-(i:Nat)) 1) where
 mem:=by simp
 obj:=fun i h st b hb=>by
  have e:b=it:=by simpa using hb
  subst e;exact⟨_,st,fun v z=>by have z':Data.fields _=Data.cell v:=z;cases z'⟩
 keep:=fun i h h' st k=>k it (by simp) _ st
 item:=by intro X hP hw hK hc i pins s σ H E I hf st hg;subst hP hw hK;obtain⟨f0,f1,f2,f3,f4,f5⟩:=hf it (by simp);have W:=Walks.range (prog:=X.prog) (w:=X.w) (I.ok.hd hc) it lo 1 n;refine W.item i s _ _ hg st fun v h' tk hv st' kk=>?_;obtain⟨t,rfl⟩:=hv;have I1:Inv X pins σ H {s with heap:=h',toks:=tk}:=I.turned (fun b o hb e=>kk b o (by simpa using hb) e) f0 f1 f3 f4 f5;refine⟨_,rfl,Ox (s:={s with heap:=h',toks:=tk}) (n:="range_iterator") st' rfl rfl (by decide) ⟨.int (lo+i),H,I1,⟨t,?_⟩,⟨rfl,rfl⟩,st',fun b hb=>(hf b hb).1⟩⟩;rw[Int.mul_one]
 done:=by intro X hP hw hK hc i pins s σ H E I hf st hg;subst hP hw hK;obtain⟨f0,f1,f2,f3,f4,f5⟩:=hf it (by simp);exact wpAny_pyNext_range_end (I.ok.hd hc) st (by have:n<=i:=hg;lia) fun h' eb=>⟨rfl,I.turned (t':=s.toks) (fun b o hb e=>eb b o hb e) f0 f1 f3 f4 f5⟩
 self:=fun _ _ _ _ _ st h=>wpAny_pyIter_rangeiter st h
def Jd(K:PySem.W.Frag)(tl:TE):TI:=fun σ H R=>tl σ H fun x H1=>∃a,x=.ref a/\(∃xs,AN K H1 a xs)/\R (Gp K a) H1
theorem Fo{l:Expr}{tl:TE}(hl:PE X l tl):PI X tg l (Jd X.K tl):=by
 intro pins s σ H R I h;refine Ae (hl pins s σ H _ I h) fun v s1 ⟨x,H1,I1,r1,q1⟩=>?_;obtain⟨a,e,⟨xs,hq⟩,q⟩:=q1;subst e;cases r1;obtain⟨AM,rv,p,hz⟩:=I1.list hq;refine wpAny_pyIter_list p.isList ?_;refine⟨s1.heap.objs.size,[s1.heap.objs.size],_,_,H1,rfl,I1.kept (t':=s1.toks) fun b o e=>A7 _ e,cF a _,⟨_,Bx _ rfl,rfl,rfl⟩,fun b hb=>?_,q⟩;have e:b=s1.heap.objs.size:=by simpa using hb
 subst e;exact I1.Js (Ac _) (I1.hok.fresh (Ac _))
theorem dX{R:It->Hp->Prop}{lo hi:Int}{t u v:Tok}{tk:Nat}(I:Inv X pins σ H s)(h1: -(2^62)<=lo)(h2:lo<2^62)(h3: -(2^62)<=hi)(h4:hi<2^62)
 (q:R (LJ lo (hi-lo).toNat) H):wpAny (model X.prog X.w) X.A (pyIter (.ref s.heap.objs.size)) (Zn X pins σ tg R) E {s with heap:=s.heap.push {cls:=.type "range",data:=.fields #[.int lo t,.int hi u,.int 1 v]},toks:=tk}:=by
 refine wpAny_pyIter_range (IsRange.new ..) (small_one h1 h2 h3 h4) ?_;have I1:Inv X pins σ H {s with heap:=s.heap.push {cls:=.type "range",data:=.fields #[.int lo t,.int hi u,.int 1 v]},toks:=tk}:=I.kept fun b o e=>A7 _ e;refine⟨(s.heap.push {cls:=.type "range",data:=.fields #[.int lo t,.int hi u,.int 1 v]}).objs.size,[(s.heap.push {cls:=.type "range",data:=.fields #[.int lo t,.int hi u,.int 1 v]}).objs.size],_,_,H,rfl,
  I1.kept (t':=tk) fun b o e=>A7 _ e,aI _ lo (hi-lo).toNat,?_,fun b hb=>?_,q⟩
 ·have e1:lo+((0:Nat):Int)*1=lo:=by simp
  have e2:(((hi-lo).toNat:Nat):Int)-((0:Nat):Int)=Builtin.Range.rangeSize lo hi 1:=by rw[rangeSize_one];split<;>lia
  show IsRangeIter _ _ (lo+((0:Nat):Int)*1) ((((hi-lo).toNat:Nat):Int)-((0:Nat):Int)) 1;rw[e1,e2];exact Bx _ rfl
 ·have e:b=(s.heap.push {cls:=.type "range",data:=.fields #[.int lo t,.int hi u,.int 1 v]}).objs.size:=by simpa using hb
  subst e;exact I1.Js (Ac _) (I1.hok.fresh (Ac _))
def jv(ta:TA):TI:=fun σ H R=>ta σ H fun vs H1=>∃j:Int,vs=[.int j]/\ -(2^62)<=j/\j<2^62/\R (LJ 0 j.toNat) H1
theorem Q1{a:Expr}{ta:TA}{p:Pos}(hg:Gl X "range")(hm:X.mg "range" =none)(ha:PA X [a] ta)(hs:starEach [a] X.env=[(false,eval a X.env)]:=by rfl):PI X tg (.Call (.Name "range" p) [a] [] pos) (jv ta):=by
 intro pins s σ H R I h;refine Call_ (Mf I hg hm boot_range (Tj (Ae (ha pos pins s σ H _ I h) fun us s1 ⟨vs,H1,I1,r1,q1⟩=>?_) hs rfl));obtain⟨j,e,q1,q2,q⟩:=q1;subst e
 cases r1 with
 |cons r rr=>cases rr;obtain⟨t,rfl⟩:=r;exact call_range_1 (dX I1 (by lia) (by lia) q1 q2 (by simpa using q))
def Mq(wi:TI)(g:TG)(tb:TS):TS:=fun D σ H=>wi σ H fun J H1=>∃W:Nat->Nat->St->Hp->Prop,(∃m,W 0 m σ H1)/\∀i m σ H,W i m σ H->
 (J.stop i H/\D.nx σ H)\/(J.go i H/\∃N:St->Hp->Prop,(∀σ' H',N σ' H'->∃m',m'<m/\W (i+1) m' σ' H')/\∀x H',J.Io i H x H'->g x σ H' fun σ2 H2=>tb {D with nx:=N,ct:=N,bk:=D.nx} σ2 H2)
noncomputable def Ml(fp:List Addr)(h:Heap):List (Addr×Obj):=fp.filterMap fun b=>(h.get? b).map fun o=>(b,o)
variable{fp:List Addr}
theorem N4(hb:b∈fp)(e:h.get? b=some o):(b,o)∈Ml fp h:=QE.mpr ⟨b,hb,by rw[e];rfl⟩
theorem cp{p:Addr×Obj}(hp:p∈Ml fp h):p.1∈fp/\h.get? p.1=some p.2:=by
 obtain⟨b,hb,e⟩:=QE.mp hp
 cases q:h.get? b with
 |none=>rw[q] at e;cases e
 |some o=>rw[q] at e;have e':(b,o)=p:=Ah e;subst e';exact⟨hb,q⟩
theorem Inv.pinned(I:Inv X pins σ H s)(hf:∀b∈fp,FE X pins H b)(ho:∀b∈fp,∃o,s.heap.get? b=some o/\∀v,o.data≠.cell v):Inv X (pins++Ml fp s.heap) σ H s:=
 I.W2 fun p hp=>(CB.mp hp).elim (fun z=>I.pin p (Df _ z)) fun z=>by obtain⟨hb,e⟩:=cp z;obtain⟨f0,f1,f2,_⟩:=hf p.1 hb;obtain⟨o,e',d⟩:=ho p.1 hb;rw[e] at e';cases e';exact⟨e,f0,f1,f2,d⟩
theorem Inv.OG{pl:List (Addr×Obj)}(I:Inv X (pins++pl) σ H s):Inv X pins σ H s:=I.W2 fun p hp=>I.pin p (Df _ (Ha _ hp))
theorem Dx{iter:Expr}{wi:TI}(hp:PassesOwn (model X.prog X.w) X.A X.env X.xe)(hc:X.calm=true)(hi:PI X tg iter wi)(hg:PG X tg g)(hb:EE X body tb)
 (hs:∀x,foldedSetIterable iter X.env x=pure x:=by intro _;rfl):PS X (.For tg iter body [] pos) (Mq wi g tb):=by
 intro pins s σ H D I h;refine wpAny_For (Ae (hi pins s σ H _ I h) fun v s1 h1=>Ae h1 fun itv s2 h2=>?_) hs;obtain⟨it,fp,tn,J,H2,e,I2,T,st2,f2,W,⟨m0,w0⟩,turn⟩:=h2;subst e;have stat:∀{H':Hp},(∀b∈fp,H' b=none)->∀b∈fp,FE X pins H' b:=fun hn b hb=>⟨hn b hb,(f2 b hb).2⟩;refine codeAny_forLoop_any (fun n s'=>∃i σ' H',Inv X pins σ' H' s'/\tn i s'.heap/\(∀b∈fp,H' b=none)/\W i n σ' H') ?_ m0 ⟨0,σ,H2,I2,st2,fun b hb=>(f2 b hb).1,w0⟩;rintro n s3 ⟨i,σ3,H3,I3,st3,fr3,w3⟩;rcases turn i n σ3 H3 w3 with⟨stop,qn⟩|⟨go,N,hN,step⟩
 ·refine KC hp (Ae (T.done X rfl rfl rfl hc i pins s3 σ3 H3 X.xe I3 (stat fr3) st3 stop) fun r s4 ⟨hr,I4⟩=>?_);subst hr;exact Nh ⟨σ3,H3,I4,qn⟩
 ·refine KC hp (Ae (T.item X rfl rfl rfl hc i pins s3 σ3 H3 X.xe I3 (stat fr3) st3 go) fun r s4 ⟨u,hr,h4⟩=>?_);subst hr;refine KC hp (Ae h4 fun _ s5 ⟨x,H5,I5,r5,y5,st5,fr5⟩=>?_);have I5':=I5.pinned (stat fr5) (T.obj _ _ st5);refine KC hp (Ae (hg _ s5 σ3 H5 x u _ I5' r5 (step x H5 y5)) fun _ s6 ⟨σ6,H6,I6,q6⟩=>?_);refine KC hp (Ae (hb _ s6 σ6 H6 _ I6 q6) fun f s7 q7=>?_);have again:∀{σ7:St}{H7:Hp},Inv X (pins++Ml fp s5.heap) σ7 H7 s7->N σ7 H7->∃m,m<n/\∃i σ' H',Inv X pins σ' H' s7/\tn i s7.heap/\(∀b∈fp,H' b=none)/\W i m σ' H':=fun{σ7 H7} I7 n7=>by obtain⟨m',hm,w7⟩:=hN σ7 H7 n7;refine⟨m',hm,i+1,σ7,H7,I7.OG,T.keep _ _ _ st5 fun b hb o e=>(I7.pin (b,o) (Df _ (Df _ (N4 hb e)))).1,fun b hb=>?_,w7⟩;obtain⟨o,e,d⟩:=T.obj _ _ st5 b hb;exact(I7.pin (b,o) (Df _ (Df _ (N4 hb e)))).2.1
  cases f with
  |next=>obtain⟨σ7,H7,I7,n7⟩:=q7;exact again I7 n7
  |cont=>obtain⟨σ7,H7,I7,n7⟩:=q7;exact again I7 n7
  |brk=>obtain⟨σ7,H7,I7,q7⟩:=q7;exact⟨σ7,H7,I7.OG,q7⟩
  |ret v=>obtain⟨x7,σ7,H7,I7,r7,q7⟩:=q7;exact⟨x7,σ7,H7,I7.OG,r7,q7⟩
theorem JK{xs:List V}{D:Ends}(Pv:Nat->St->Hp->Prop)(h0:Pv 0 σ H)(hl:∀i σ H,i<=xs.length->Pv i σ H->AN K H a xs)
 (hs:∀i x σ H,xs[i]? =some x->Pv i σ H->g x σ H fun σ2 H2=>tb {D with nx:=Pv (i+1),ct:=Pv (i+1),bk:=D.nx} σ2 H2)(hd:∀σ H,Pv xs.length σ H->D.nx σ H):
 ∃W:Nat->Nat->St->Hp->Prop,(∃m,W 0 m σ H)/\∀i m σ H,W i m σ H->
  ((Gp K a).stop i H/\D.nx σ H)\/((Gp K a).go i H/\∃N:St->Hp->Prop,(∀σ' H',N σ' H'->∃m',m'<m/\W (i+1) m' σ' H')/\∀x H',(Gp K a).Io i H x H'->g x σ H' fun σ2 H2=>tb {D with nx:=N,ct:=N,bk:=D.nx} σ2 H2):=by
 refine⟨fun i m σ H=>m=xs.length-i/\i<=xs.length/\Pv i σ H,⟨xs.length,by simp,CF _,h0⟩,?_⟩;rintro i m σ H ⟨rfl,hi,p⟩;have q:=hl i σ H hi p;by_cases hlt:i<xs.length
 ·refine .inr ⟨⟨xs,xs[i],q,by simp[hlt]⟩,Pv (i+1),fun σ' H' p'=>⟨xs.length-(i+1),by lia,rfl,hlt,p'⟩,fun x H' y=>?_⟩;obtain⟨e,y⟩:=y;subst e;exact hs i x σ _ (y xs q) p
 ·have e:i=xs.length:=by lia
  subst e;exact .inl ⟨⟨xs,q,Ac _⟩,hd σ H p⟩
theorem OA{lo:Int}{n:Nat}{D:Ends}(Pv:Nat->St->Hp->Prop)(h0:Pv 0 σ H)
 (hs:∀i σ H,i<n->Pv i σ H->g (.int (lo+i)) σ H fun σ2 H2=>tb {D with nx:=Pv (i+1),ct:=Pv (i+1),bk:=D.nx} σ2 H2)(hd:∀σ H,Pv n σ H->D.nx σ H):
 ∃W:Nat->Nat->St->Hp->Prop,(∃m,W 0 m σ H)/\∀i m σ H,W i m σ H->
  ((LJ lo n).stop i H/\D.nx σ H)\/((LJ lo n).go i H/\∃N:St->Hp->Prop,(∀σ' H',N σ' H'->∃m',m'<m/\W (i+1) m' σ' H')/\∀x H',(LJ lo n).Io i H x H'->g x σ H' fun σ2 H2=>tb {D with nx:=N,ct:=N,bk:=D.nx} σ2 H2):=by
 refine⟨fun i m σ H=>m=n-i/\i<=n/\Pv i σ H,⟨n,by simp,CF _,h0⟩,?_⟩;rintro i m σ H ⟨rfl,hi,p⟩;by_cases hlt:i<n
 ·refine .inr ⟨hlt,Pv (i+1),fun σ' H' p'=>⟨n-(i+1),by lia,rfl,hlt,p'⟩,fun x H' y=>?_⟩;obtain⟨e,y⟩:=y;subst e y;exact hs i σ _ hlt p
 ·have e:i=n:=by lia
  subst e;exact .inl ⟨Ac _,hd σ H p⟩
abbrev R2:=V->V->Hp->VK->Prop
def Bs(X:Cx)(f:Value->Value->Sem Value)(r:R2):Prop:=
 ∀(pins:List (Addr×Obj))(s:Shared)(σ:St)(H:Hp)(x y:V)(v u:Value)(Q:VK),Inv X pins σ H s->RelV x v->RelV y u->r x y H Q->
  wpAny (model X.prog X.w) X.A (f v u) (EP X pins σ Q) X.xe s
def TZ(X:Cx)(f:Value->Sem Value)(r:V->Hp->VK->Prop):Prop:=
 ∀(pins:List (Addr×Obj))(s:Shared)(σ:St)(H:Hp)(x:V)(v:Value)(Q:VK),Inv X pins σ H s->RelV x v->r x H Q->
  wpAny (model X.prog X.w) X.A (f v) (EP X pins σ Q) X.xe s
def C6(X:Cx)(f:Value)(r:List V->Hp->VK->Prop):Prop:=
 ∀(pins:List (Addr×Obj))(s:Shared)(σ:St)(H:Hp)(xs:List V)(us:List Value)(Q:VK),Inv X pins σ H s->Vals xs us->r xs H Q->
  wpAny (model X.prog X.w) X.A (call f us) (EP X pins σ Q) X.xe s
def F0(r:R2)(ta tb:TE):TE:=fun σ H Q=>ta σ H fun x H1=>tb σ H1 fun y H2=>r x y H2 Q
def nW(r:V->Hp->VK->Prop)(ta:TE):TE:=fun σ H Q=>ta σ H fun x H1=>r x H1 Q
def rI(C:Int->Int->Prop)(g:Int->Int->V):R2:=fun x y H Q=>∃i j,x=.int i/\y=.int j/\C i j/\Q (g i j) H
def Jw(g:Int->Int->V):R2:=fun x y H Q=>∃i j,x=.int i/\y=.int j/\Q (g i j) H
def rU(g:Int->V):V->Hp->VK->Prop:=fun x H Q=>∃i,x=.int i/\Q (g i) H
section
variable{a b:Expr}{tb tc:TE}
theorem Su(ha:PE X a ta)(hb:PE X b tb){R:V->V->Hp->Prop}(I:Inv X pins σ H s)
 (h:ta σ H fun x H1=>tb σ H1 fun y H2=>R x y H2){f:Value->Value->Sem Value}
 (hf:∀v u s2 x y H2,Inv X pins σ H2 s2->RelV x v->RelV y u->R x y H2->wpAny (model X.prog X.w) X.A (f v u) Q X.xe s2):
 wpAny (model X.prog X.w) X.A (eval a X.env) (fun v s₁=>wpAny (model X.prog X.w) X.A (eval b X.env) (fun u s₂=>wpAny (model X.prog X.w) X.A (f v u) Q X.xe s₂) X.xe s₁) X.xe s:=by
 refine Ae (ha pins s σ H _ I h) fun v s1 ⟨x,H1,I1,r1,q1⟩=>?_;refine Ae (hb pins s1 σ H1 _ I1 q1) fun u s2 ⟨y,H2,I2,r2,q2⟩=>?_;exact hf v u s2 x y H2 I2 r1 r2 q2
theorem Al{op:Operator}{r:R2}(ho:Bs X (binaryOp op) r)(ha:PE X a ta)(hb:PE X b tb):PE X (.BinOp a op b pos) (F0 r ta tb):=by intro pins s σ H Q I h;exact wpAny_BinOp (Su ha hb I h fun v u s2 x y H2 I2 rx ry q=>ho pins s2 σ H2 x y v u Q I2 rx ry q)
theorem D6{op:UnaryOp}{r:V->Hp->VK->Prop}(ho:TZ X (unaryOp op) r)(ha:PE X a ta):PE X (.UnaryOp op a pos) (nW r ta):=by intro pins s σ H Q I h;exact UnaryOp_ (Ae (ha pins s σ H _ I h) fun v s1 ⟨x,H1,I1,r1,q1⟩=>ho pins s1 σ H1 x v Q I1 r1 q1)
theorem Pd{f:Value->Value->Sem Value}{C:Int->Int->Prop}{g:Int->Int->Int}
 (rule:∀(i j:Int)(t u:Tok)(s:Shared)(Q:Value->Shared->Prop)(E:Value->Shared->Prop),C i j->Q (.int (g i j) s.toks) {s with toks:=s.toks+1}->wpAny (model X.prog X.w) X.A (f (.int i t) (.int j u)) Q E s):
 Bs X f (rI C fun i j=>.int (g i j)):=by
 intro pins s σ H x y v u Q I rx ry h;obtain⟨i,j,rfl,rfl,hc,q⟩:=h;obtain⟨t,rfl⟩:=rx;obtain⟨t',rfl⟩:=ry;exact rule i j t t' s _ _ hc ⟨.int (g i j),H,I.tok _,⟨_,rfl⟩,q⟩
theorem ZE{f:Value->Value->Sem Value}{g:Int->Int->Int}
 (rule:∀(i j:Int)(t u:Tok)(s:Shared)(Q:Value->Shared->Prop)(E:Value->Shared->Prop),Q (.int (g i j) s.toks) {s with toks:=s.toks+1}->wpAny (model X.prog X.w) X.A (f (.int i t) (.int j u)) Q E s):
 Bs X f (Jw fun i j=>.int (g i j)):=by
 intro pins s σ H x y v u Q I rx ry h;obtain⟨i,j,rfl,rfl,q⟩:=h;obtain⟨t,rfl⟩:=rx;obtain⟨t',rfl⟩:=ry;exact rule i j t t' s _ _ ⟨.int (g i j),H,I.tok _,⟨_,rfl⟩,q⟩
theorem Sx{f:Value->Value->Sem Value}{g:Int->Int->Bool}
 (rule:∀(i j:Int)(t u:Tok)(s:Shared)(Q:Value->Shared->Prop)(E:Value->Shared->Prop),Q (.bool (g i j)) s->wpAny (model X.prog X.w) X.A (f (.int i t) (.int j u)) Q E s):
 Bs X f (Jw fun i j=>.bl (g i j)):=by
 intro pins s σ H x y v u Q I rx ry h;obtain⟨i,j,rfl,rfl,q⟩:=h;obtain⟨t,rfl⟩:=rx;obtain⟨t',rfl⟩:=ry;exact rule i j t t' s _ _ ⟨.bl (g i j),H,I,rfl,q⟩
def mx(i j:Int):Prop:=0<j/\j<1073741824
def nH(i j:Int):Prop:=0<=j/\j<=1000000/\i.natAbs<2^64
def Sd(i j:Int):Prop:=(-(2^64)<i/\i<2^64)\/(-(2^64)<j/\j<2^64)
theorem Sd.ok{i j:Int}(h:Sd i j):IntMulOk i j:=by
 rcases h with⟨h1,h2⟩|⟨h1,h2⟩
 ·exact .of_left (intBits_le_64 h1 h2)
 ·exact .of_right (intBits_le_64 h1 h2)
theorem DJ:Bs X (binaryOp .Add) (Jw fun i j=>.int (i+j)):=ZE fun _ _ _ _ _ _ _ q=>add_int q
theorem R7:Bs X (binaryOp .Sub) (Jw fun i j=>.int (i-j)):=ZE fun _ _ _ _ _ _ _ q=>sub_int q
theorem Ot:Bs X (binaryOp .Mult) (rI Sd fun i j=>.int (i*j)):=Pd fun _ _ _ _ _ _ _ hc q=>mul_int q hc.ok
theorem JQ:Bs X (binaryOp .FloorDiv) (rI mx fun i j=>.int (i/j)):=Pd fun i j _ _ _ _ _ hc q=>by have h1:(0:Int)<j:=hc.1;have h2:j<1073741824:=hc.2;exact floordiv_int (by lia) (by rw[Int.fdiv_eq_ediv_of_nonneg i (by lia)];exact q) (.inl (PyProof.noPylong_small (by lia)))
theorem Bw:Bs X (binaryOp .Mod) (rI (fun _ j=>0<j) fun i j=>.int (i%j)):=Pd fun i j _ _ _ _ _ hc q=>by have h1:(0:Int)<j:=hc;exact mod_int' (by lia) (by rw[Int.fmod_eq_emod_of_nonneg i (by lia)];exact q)
theorem SA:Bs X (binaryOp .Pow) (rI nH fun i j=>.int (i^j.toNat)):=Pd fun _ _ _ _ _ _ _ hc q=>pow_int_small hc.1 hc.2.1 hc.2.2 q
theorem nR{f:Value->Sem Value}{g:Int->Int}
 (rule:∀(i:Int)(t:Tok)(s:Shared)(Q:Value->Shared->Prop)(E:Value->Shared->Prop),Q (.int (g i) s.toks) {s with toks:=s.toks+1}->wpAny (model X.prog X.w) X.A (f (.int i t)) Q E s):
 TZ X f (rU fun i=>.int (g i)):=by
 intro pins s σ H x v Q I rx h;obtain⟨i,rfl,q⟩:=h;obtain⟨t,rfl⟩:=rx;exact rule i t s _ _ ⟨.int (g i),H,I.tok _,⟨_,rfl⟩,q⟩
theorem Dy:TZ X (unaryOp .USub) (rU fun i=>.int (-i)):=nR fun _ _ _ _ _ q=>neg_int q
end
noncomputable def Yz:V->V->Bool
 |.A3,.A3=>true|.A3,.int _=>true|.int _,.A3=>true|.A3,.bl _=>true|.bl _,.A3=>true|.A3,.str _=>true|.str _,.A3=>true
 |.int _,.int _=>true|.bl _,.bl _=>true|.str _,.str _=>true|.FN _,.FN _=>true
 |.int _,.str _=>true|.str _,.int _=>true|.bl _,.str _=>true|.str _,.bl _=>true
 |_,_=>false
def LP:R2:=fun x y H Q=>Yz x y=true/\Q (.bl (decide (x=y))) H
def Za:R2:=fun x y H Q=>Yz x y=true/\Q (.bl (!decide (x=y))) H
theorem Wk{i j:Int}:decide (V.int i=V.int j)=(i==j):=by rw[Nj];simp
theorem Xr{i j:Bool}:decide (V.bl i=V.bl j)=(i==j):=by rw[Nj];simp
theorem WN{i j:Str}:decide (V.str i=V.str j)=(i==j):=by rw[Nj];simp
theorem W4{i j:Array UInt8}:decide (V.FN i=V.FN j)=(i.toList==j.toList):=by rw[Nj];cases i;cases j;simp
section
variable{a b:Expr}{tb tc:TE}
theorem By{Q:VK}{k k':Bool}(I:Inv X pins σ H s)(q:Q (.bl k) H)(e:k=k'):EP X pins σ Q (.bool k') s:=by subst e;exact⟨.bl k,H,I,rfl,q⟩
theorem BV:Bs X (compareOp .Eq) LP:=by
 intro pins s σ H x y v u Q I rx ry h;obtain⟨hs,q⟩:=h
 cases x with
 |A3=>
  cases rx
  cases y with
  |A3=>cases ry;exact PySem.EqNone.eq_none_none (By I q (by simp))
  |bl j=>cases ry;exact PySem.EqNone.eq_none_bool (By I q (by simp))
  |int j=>obtain⟨t',rfl⟩:=ry;exact PySem.EqNone.eq_none_int (By I q (by simp))
  |str j=>obtain⟨t',rfl⟩:=ry;exact PySem.EqNone.eq_none_str (By I q (by simp))
  |_=>exact absurd (show false=true from hs) CS
 |bl i=>
  cases rx
  cases y with
  |A3=>cases ry;exact PySem.EqNone.eq_bool_none (By I q (by simp))
  |bl j=>cases ry;exact eq_bool (By I q Xr)
  |str j=>obtain⟨t',rfl⟩:=ry;exact PySem.EqMixed.eq_bool_str (By I q (by simp))
  |_=>exact absurd (show false=true from hs) CS
 |int i=>
  obtain⟨t,rfl⟩:=rx
  cases y with
  |A3=>cases ry;exact PySem.EqNone.eq_int_none (By I q (by simp))
  |int j=>obtain⟨t',rfl⟩:=ry;exact eq_int (By I q Wk)
  |str j=>obtain⟨t',rfl⟩:=ry;exact PySem.EqMixed.eq_int_str (By I q (by simp))
  |_=>exact absurd (show false=true from hs) CS
 |str i=>
  obtain⟨t,rfl⟩:=rx
  cases y with
  |A3=>cases ry;exact PySem.EqNone.eq_str_none (By I q (by simp))
  |bl j=>cases ry;exact PySem.EqMixed.eq_str_bool (By I q (by simp))
  |int j=>obtain⟨t',rfl⟩:=ry;exact PySem.EqMixed.eq_str_int (By I q (by simp))
  |str j=>obtain⟨t',rfl⟩:=ry;exact eq_str (By I q WN)
  |_=>exact absurd (show false=true from hs) CS
 |FN i=>
  obtain⟨t,rfl⟩:=rx
  cases y with
  |FN j=>obtain⟨t',rfl⟩:=ry;exact eq_bytes (By I q W4)
  |_=>exact absurd (show false=true from hs) CS
 |_=>cases y<;>exact absurd (show false=true from hs) CS
theorem Gd:Bs X (compareOp .NotEq) Za:=by
 intro pins s σ H x y v u Q I rx ry h;obtain⟨hs,q⟩:=h
 cases x with
 |A3=>
  cases rx
  cases y with
  |A3=>cases ry;exact PySem.EqNone.ne_none_none (By I q (by simp))
  |bl j=>cases ry;exact PySem.EqNone.ne_none_bool (By I q (by simp))
  |int j=>obtain⟨t',rfl⟩:=ry;exact PySem.EqNone.ne_none_int (By I q (by simp))
  |str j=>obtain⟨t',rfl⟩:=ry;exact PySem.EqNone.ne_none_str (By I q (by simp))
  |_=>exact absurd (show false=true from hs) CS
 |bl i=>
  cases rx
  cases y with
  |A3=>cases ry;exact PySem.EqNone.ne_bool_none (By I q (by simp))
  |bl j=>cases ry;exact ne_bool (By I q (BZ not Xr))
  |str j=>obtain⟨t',rfl⟩:=ry;exact PySem.EqMixed.ne_bool_str (By I q (by simp))
  |_=>exact absurd (show false=true from hs) CS
 |int i=>
  obtain⟨t,rfl⟩:=rx
  cases y with
  |A3=>cases ry;exact PySem.EqNone.ne_int_none (By I q (by simp))
  |int j=>obtain⟨t',rfl⟩:=ry;exact ne_int (By I q (BZ not Wk))
  |str j=>obtain⟨t',rfl⟩:=ry;exact PySem.EqMixed.ne_int_str (By I q (by simp))
  |_=>exact absurd (show false=true from hs) CS
 |str i=>
  obtain⟨t,rfl⟩:=rx
  cases y with
  |A3=>cases ry;exact PySem.EqNone.ne_str_none (By I q (by simp))
  |bl j=>cases ry;exact PySem.EqMixed.ne_str_bool (By I q (by simp))
  |int j=>obtain⟨t',rfl⟩:=ry;exact PySem.EqMixed.ne_str_int (By I q (by simp))
  |str j=>obtain⟨t',rfl⟩:=ry;exact ne_str (By I q (BZ not WN))
  |_=>exact absurd (show false=true from hs) CS
 |FN i=>
  obtain⟨t,rfl⟩:=rx
  cases y with
  |FN j=>obtain⟨t',rfl⟩:=ry;exact ne_bytes (By I q (BZ not W4))
  |_=>exact absurd (show false=true from hs) CS
 |_=>cases y<;>exact absurd (show false=true from hs) CS
theorem IZ:Bs X (compareOp .Lt) (Jw fun i j=>.bl (decide (i<j))):=Sx fun _ _ _ _ _ _ _ q=>lt_int q
theorem kh:Bs X (compareOp .LtE) (Jw fun i j=>.bl (decide (i<=j))):=Sx fun _ _ _ _ _ _ _ q=>le_int q
theorem SU:Bs X (compareOp .Gt) (Jw fun i j=>.bl (decide (j<i))):=Sx fun _ _ _ _ _ _ _ q=>gt_int q
theorem cX:Bs X (compareOp .Lt) (fun x y H Q=>∃i j,x=.str i/\y=.str j/\Q (.bl (decide (i.cps.toList<j.cps.toList))) H):=by intro pins s σ H x y v u Q I rx ry h;obtain⟨i,j,rfl,rfl,q⟩:=h;obtain⟨t,rfl⟩:=rx;obtain⟨t',rfl⟩:=ry;exact lt_str (By I q rfl)
theorem As(b:Expr)(h:op≠.In:=by decide)(h2:op≠.NotIn:=by decide):behindInMarks op b=false:=by
 have e1:(op==CmpOp.In)=false:=by cases op<;>first|rfl|exact absurd rfl h
 have e2:(op==CmpOp.NotIn)=false:=by cases op<;>first|rfl|exact absurd rfl h2
 cases b<;>simp[behindInMarks,e1,e2]
theorem Hl{r:R2}(ho:Bs X (compareOp op) r)(ha:PE X a ta)(hb:PE X b tb)(hm:behindInMarks op b=false):PE X (.Compare a [op] [b] pos) (F0 r ta tb):=by intro pins s σ H Q I h;exact wpAny_Compare1 (Su ha hb I h fun v u s2 x y H2 I2 rx ry q=>ho pins s2 σ H2 x y v u Q I2 rx ry q) hm
def Ja(t:TE):TT:=fun σ H Q=>t σ H fun x H'=>∃k,x=.bl k/\Q k H'
theorem Av{r:R2}(ho:Bs X (compareOp op) r)(ha:PE X a ta)(hb:PE X b tb)(hm:behindInMarks op b=false):PT X (.Compare a [op] [b] pos) (Ja (F0 r ta tb)):=by
 intro pins s σ H Q I h;refine wpAny_isTrue_Compare1 (Ae (ha pins s σ H _ I h) fun v s1 ⟨x,H1,I1,r1,q1⟩=>Ae (hb pins s1 σ H1 _ I1 q1) fun u s2 ⟨y,H2,I2,r2,q2⟩=>Ae (ho pins s2 σ H2 x y v u _ I2 r1 r2 q2) fun c s3 ⟨z,H3,I3,r3,k,e,q3⟩=>?_) hm;subst e;cases r3;exact Lh ⟨H3,I3,q3⟩
def jX(r r':R2)(ta tb tc:TE):TE:=fun σ H Q=>ta σ H fun x H1=>tb σ H1 fun y H2=>r x y H2 fun z H3=>∃k,z=.bl k/\
 (if k=true then tc σ H3 fun w' H4=>r' y w' H4 Q else Q (.bl false) H3)
theorem dD{op':CmpOp}{r r':R2}(ho:Bs X (compareOp op) r)(ho':Bs X (compareOp op') r')(ha:PE X a ta)(hb:PE X b tb)(hc:PE X c tc)
 (hm:lastMarks [op,op'] [b,c]=false:=by with_unfolding_all rfl):PE X (.Compare a [op,op'] [b,c] pos) (jX r r' ta tb tc):=by
 intro pins s σ H Q I h;refine Compare_chain (Ae (ha pins s σ H _ I h) fun v s1 ⟨x,H1,I1,r1,q1⟩=>chain_link (Ae (hb pins s1 σ H1 _ I1 q1) fun u s2 ⟨y,H2,I2,r2,q2⟩=>Ae (ho pins s2 σ H2 x y v u _ I2 r1 r2 q2) fun d s3 ⟨z,H3,I3,r3,k,e,q3⟩=>?_)) hm;subst e;cases r3;refine Lh ?_
 cases k with
 |false=>exact ite_ff ⟨.bl false,H3,I3,rfl,q3⟩
 |true=>exact ite_tt (chain_last (Ae (hc pins s3 σ H3 _ I3 q3) fun w' s4 ⟨z',H4,I4,r4,q4⟩=>ho' pins s4 σ H4 y z' u w' Q I4 r2 r4 q4))
theorem MV:(sizeLine:Nat)<2^63:=by rw[BA];decide
theorem E5:Bs X (binaryOp .Add) (fun x y H Q=>∃i j,x=.str i/\y=.str j/\i.length+j.length<=sizeLine/\Q (.str (i++j)) H):=by intro pins s σ H x y v u Q I rx ry h;obtain⟨i,j,rfl,rfl,hz,q⟩:=h;obtain⟨t,rfl⟩:=rx;obtain⟨t',rfl⟩:=ry;exact add_str (fun t' tk=>⟨.str (i++j),H,I.tok _,⟨_,rfl⟩,q⟩) hz
end
variable{us:List Value}
section
variable{a b:Expr}{tb tc:TE}
theorem vals1{x:V}(r:Vals [x] us):∃u,us=[u]/\RelV x u:=by
 cases r with
 |cons r1 r2=>cases r2;exact⟨_,rfl,r1⟩
end
variable{y:V}
section
variable{a b:Expr}{tb tc:TE}
theorem vals2{x:V}(r:Vals [x,y] us):∃u w',us=[u,w']/\RelV x u/\RelV y w':=by
 cases r with
 |cons r1 r2=>
  cases r2 with
  |cons r3 r4=>cases r4;exact⟨_,_,rfl,r1,r3⟩
theorem L3:C6 X (.type "int") (fun xs H Q=>(∃i,xs=[.int i]/\Q (.int i) H)\/∃k,xs=[.bl k]/\Q (.int (if k then 1 else 0)) H):=by
 intro pins s σ H xs us Q I r h;rcases h with⟨i,rfl,q⟩|⟨k,rfl,q⟩
 ·obtain⟨u,rfl,t,rfl⟩:=vals1 r;exact call_int_int ⟨.int i,H,I,⟨_,rfl⟩,q⟩
 ·obtain⟨u,rfl,r1⟩:=vals1 r;cases r1;exact call_int_bool ⟨.int (if k then 1 else 0),H,I.tok _,⟨_,rfl⟩,q⟩
end
structure Jl(h:Heap)(x dx C:Addr)(mA:Str->Option Value):Prop where
 obj:h.get? x=some (instObj C dx)
 ns:h.Ns1 dx mA
 ne:dx≠x
variable{dx:Addr}{mA:Str->Option Value}
theorem VB(n:h.Ns1 dx mA):∃od,h.get? dx=some od/\∀name,lookIn name od=some (mA name):=by
 obtain⟨o,es,ep,ho,hd,hk,_,hm⟩:=n;refine⟨o,ho,fun name=>?_⟩;have e:=hm name;unfold nsFind findBy at e;rw[<-Array.find?_toList] at e;unfold lookIn;rw[hd];dsimp only;split
 ·rename_i y q;rw[q] at e;exact BZ some e
 ·rename_i q;rw[q] at e;have a:es.toList.any (·.refKey)=false:=by rw[List.any_eq_false];intro y hy;obtain⟨z,t,hkey⟩:=hk y (Array.mem_toList_iff.mp hy);simp[DictEntry.refKey,hkey]
  have a':¬es.toList.any (·.refKey)=true:=by rw[a];exact CS
  rw[AG a'];exact BZ some e
variable{C:Addr}
theorem Jl.look{x:Addr}(I:Jl h x dx C mA):∃od,InstAt h x (instObj C dx) C (some od)/\∀name,lookIn name od=some (mA name):=
 let⟨od,ho,hl⟩:=VB I.ns
 ⟨od,⟨I.obj,rfl,rfl,ho⟩,hl⟩
variable{prog:Program}{name:Str}
section
variable{x:Addr}{v:Value}
theorem get_map{expr:Bool}(X:K.In s.heap)(I:Jl s.heap x dx C mA)(hg:plainGet K C name=true)(hh:hasDictIn K C=true)
 (ha:findIn K (.ref C) name=some none)(hv:mA name=some v)(hv':handedIn v=true)(h:Q v {s with toks:=s.toks+1}):
 wpAny (model prog w) A (getAttr (.ref x) name expr) Q E s:=by
 obtain⟨od,J,hl⟩:=I.look;exact get_value X J (T9 hg).1 (findObj_own hh ha rfl (by rw[hl,hv])) hv' h
end
variable{pl:Sem Bool}{f:Addr}
section
variable{x:Addr}{v:Value}
theorem fG{Q:Value×List Value->Shared->Prop}(X:K.In s.heap)(I:Jl s.heap x dx C mA)(hg:plainGet K C name=true)
 (hf:findIn K (.ref C) name=some (some (.ref f)))(ht:isFn K (.ref f)=true)(hv:mA name=none)(h:Q (.ref f,[.ref x]) s):
 wpAny (model prog w) A (getMethod (.ref x) name pl) Q E s:=by
 obtain⟨od,J,hl⟩:=I.look;exact method_fn X J (T9 hg).1 (T9 hg).2 hf (Fg.mp ht) (by show(lookIn name od).map (·.isSome)=some false;rw[hl,hv];rfl) h
theorem gL{ns:List Str}{Q:Unit->Shared->Prop}(X:K.In s.heap)(I:Jl s.heap x dx C mA)
 (hs:findIn K (.ref C) "__setattr__" =some (some (.builtin "object.__setattr__")))(hp:plainOver K C=true)(ht:takerIn K C name=some none)(hh:hasDictIn K C=true)
 (hw:PySem.Within mA ns)(hsz:ns.length<=sizeLine)
 (h:∀h',Jl h' x dx C (fun y=>if y=name then some v else mA y)->Heap.SameBut dx s.heap h'->Q () {s with heap:=h',toks:=s.toks+2}):
 wpAny (model prog w) A (setAttr (.ref x) name v) Q E s:=by
 obtain⟨od,J,hl⟩:=I.look;refine set_plain X J hs (osa_open (s:={s with toks:=s.toks+1}) (r:=none) X J hp ht fun b=>?_);obtain⟨cd,hc,hd'⟩:=any_some hh;have hx:s.heap.get? x=some ⟨.ref C,some dx,.plain,#[]⟩:=I.obj;refine AJ (Af (AJ (AJ (wpAny_loadPart hx (AJ (PySem.W.Looks.here (s:={s with toks:=s.toks+1}) (UA X hc) ?_))))));rw[hd'];refine Af (a:=some dx) (AJ (Af (AJ ?_)));refine wpAny_nsSet1 (s:={s with toks:=s.toks+1}) I.ns fun h' hn2 hs2=>?_;obtain⟨oD,esD,epD,hoD,hdD,hcD⟩:=hn2.count (PySem.Within.cons name v hw);refine AJ (wpAny_lookBehind hoD (by rw[hdD];exact pastItsLine_dict (BI hcD (by rw[CV];lia))) ?_);exact Af (h _ ⟨(hs2.2 _ (C5 I.ne)).trans I.obj,hn2,I.ne⟩ hs2)
end
variable{R:Result->Shared->Prop}{kw:List (Str×Value)}
section
variable{x:Addr}{v:Value}
theorem e9{vs:List Value}(X:K.In s.heap)(hm:makesIn K C=true)
 (hi:findIn K (.ref C) "__init__" =some (some (.ref f)))(hf:typeIn K (.ref f)=some (.type "function"))
 (h:codeAny (model prog w) (A.under (.builtin "type.__call__" ⟨.ref C::vs,kw⟩)) (.call (.ref f) ⟨.ref (s.heap.objs.size+1)::vs,kw⟩) (InitBack (s.heap.objs.size+1) R)
  {s with heap:=(s.heap.push emptyDict).push (instObj C s.heap.objs.size)}):
 codeAny (model prog w) A (.call (.ref C) ⟨vs,kw⟩) R s:=by
 obtain⟨hh,g,d,t,os⟩:=s;exact make_core (makes_of X hm) (NS X hi) (fun self=>bind_fn X self hf) (.inl rfl) h
end
noncomputable def EC(f:Str)(v:V):List (Str×V)->List (Str×V)
 |[]=>[(f,v)]
 |(g,x)::r=>if g=f then(g,v)::r else(g,x)::EC f v r
theorem UQ(f g:Str)(v:V):∀fs:List (Str×V),(EC f v fs).lookup g=if g=f then some v else fs.lookup g
 |[]=>by
  show List.lookup g [(f,v)]=_;by_cases h:g=f
  ·have hb:(g==f)=true:=Fg.mpr h;simp only[List.lookup,hb,AH h]
  ·have hb:(g==f)=false:=NU.mpr h;simp only[List.lookup,hb,AG h]
 |(k,x)::r=>by
  have ih:=UQ f g v r;rw[show EC f v ((k,x)::r)=(if k=f then(k,v)::r else(k,x)::EC f v r) from rfl];by_cases hk:k=f
  ·rw[AH hk];by_cases h:g=k
   ·have hb:(g==k)=true:=Fg.mpr h;simp only[List.lookup,hb,AH (h.trans hk)]
   ·have hb:(g==k)=false:=NU.mpr h;simp only[List.lookup,hb,AG (fun e:g=f=>h (e.trans hk.symm))]
  ·rw[AG hk];by_cases h:g=k
   ·have hb:(g==k)=true:=Fg.mpr h;simp only[List.lookup,hb,AG (fun e:g=f=>hk (h.symm.trans e))]
   ·have hb:(g==k)=false:=NU.mpr h;simp only[List.lookup,hb];exact ih
theorem Q3(f:Str)(v:V):∀fs:List (Str×V),f∈(EC f v fs).map (·.1)/\∀g,g∈fs.map (·.1)->g∈(EC f v fs).map (·.1)
 |[]=>⟨by simp[EC],fun g h=>by simp at h⟩
 |(k,x)::r=>by
  obtain⟨i1,i2⟩:=Q3 f v r;rw[show EC f v ((k,x)::r)=(if k=f then(k,v)::r else(k,x)::EC f v r) from rfl];by_cases hk:k=f
  ·rw[AH hk];subst hk;exact⟨by simp,fun g h=>by simpa using h⟩
  ·rw[AG hk];refine⟨?_,fun g h=>?_⟩
   ·rw[Au];exact DU _ i1
   ·rw[Au] at h⊢;rcases Bk.mp h with e|e
    ·exact Bk.mpr (.inl e)
    ·exact DU _ (i2 g e)
theorem UP(f:Str)(v:V):∀fs:List (Str×V),(EC f v fs).length<=fs.length+1
 |[]=>by simp[EC]
 |(k,x)::r=>by
  have ih:=UP f v r;rw[show EC f v ((k,x)::r)=(if k=f then(k,v)::r else(k,x)::EC f v r) from rfl];by_cases hk:k=f
  ·rw[AH hk,CV,CV];lia
  ·rw[AG hk,CV,CV];lia
theorem DN.some_of{o:Option Value}(r:DN (some v) o):∃u,o=some u/\RelV v u:=by
 cases o with
 |none=>exact(show False from r).elim
 |some u=>exact⟨u,rfl,r⟩
theorem DN.none_of{o:Option Value}(r:DN none o):o=none:=by
 cases o with
 |none=>rfl
 |some u=>exact(show False from r).elim
theorem Uq(r:RelV v u):handedIn u=true:=by
 cases v with
 |A3=>cases(show u=Value.none from r);rfl
 |bl b=>cases(show u=Value.bool b from r);rfl
 |int i=>obtain⟨t,e⟩:=(show∃t,u=Value.int i t from r);cases e;rfl
 |str x=>obtain⟨t,e⟩:=(show∃t,u=Value.str x t from r);cases e;rfl
 |FN b=>obtain⟨t,e⟩:=(show∃t,u=Value.bytes b t from r);cases e;rfl
 |Hy b=>obtain⟨t,e⟩:=(show∃t,u=Value.float b t from r);cases e;rfl
 |ref a=>cases(show u=Value.ref a from r);rfl
 |ty n=>cases(show u=Value.type n from r);rfl
section
variable{fs fs':List (Str×V)}
theorem MM(hok:Bt P w H h)(e:H a=some (.ins C dx fs)):∃mA,Jl h a dx C mA/\(∀f,DN (fs.lookup f) (mA f))/\PySem.Within mA (fs.map (·.1))/\fs.length<=1000/\H dx=some (.own a):=by obtain⟨d,z,ne,ob,mA,n,r,q⟩:=(show BL P w H h a (.ins C dx fs) from hok a _ e);exact⟨mA,⟨ob,n,ne⟩,r,q,z,d⟩
end
structure Gr(K:PySem.W.Frag)(C:Addr):Prop where
 pg:plainGet K C Str.empty=true
 hd:hasDictIn K C=true
 po:plainOver K C=true
 sa:findIn K (.ref C) "__setattr__" =some (some (.builtin "object.__setattr__"))
theorem Gr.get(c:Gr K C)(f:Str):plainGet K C f=true:=c.pg
def JT(K:PySem.W.Frag)(C:Addr)(f:Str):Prop:=findIn K (.ref C) f=some none
theorem JT.lO{f:Str}(n:JT K C f):takerIn K C f=some none:=by unfold takerIn;rw[show findIn K (.ref C) f=some none from n];rfl
structure Meth(K:PySem.W.Frag)(C:Addr)(m:Str)(f:Addr):Prop where
 at_:findIn K (.ref C) m=some (some (.ref f))
 fn:isFn K (.ref f)=true
 kp:keepIn K (.ref f)=true
section
variable{fs:List (Str×V)}{f:Str}
theorem ah{b:Bool}(I:Inv X pins σ H s)(e:H a=some (.ins C dx fs))(c:Gr X.K C)(n:JT X.K C f)(l:fs.lookup f=some v)
 (h:∀u s',Inv X pins σ H s'->RelV v u->Q u s'):wpAny (model X.prog X.w) A (getAttr (.ref a) f b) Q E s:=by
 obtain⟨mA,O,r,_,_,_⟩:=MM I.hok e;obtain⟨u,hu,ru⟩:=DN.some_of (v:=v) (o:=mA f) (by rw[<-l];exact r f);exact get_map I.BP O (c.get f) c.hd n hu (Uq ru) (h u _ (I.tok _) ru)
theorem Uc{m:Str}{g:Addr}{Q:Value×List Value->Shared->Prop}(I:Inv X pins σ H s)(e:H a=some (.ins C dx fs))(c:Gr X.K C)(k:Meth X.K C m g)(l:fs.lookup m=none)
 (h:Q (.ref g,[.ref a]) s):wpAny (model X.prog X.w) A (getMethod (.ref a) m pl) Q E s:=by
 obtain⟨mA,O,r,_,_,_⟩:=MM I.hok e;have hn:mA m=none:=DN.none_of (by rw[<-l];exact r m);exact fG I.BP O (c.get m) k.at_ k.fn hn h
theorem bE{Q:Unit->Shared->Prop}(I:Inv X pins σ H s)(e:H a=some (.ins C dx fs))(c:Gr X.K C)(n:JT X.K C f)(hl:fs.length<1000)(ry:RelV y u)
 (h:∀s',Inv X pins σ (upd H a (.ins C dx (EC f y fs))) s'->Q () s'):wpAny (model X.prog X.w) A (setAttr (.ref a) f u) Q E s:=by
 obtain⟨mA,O,r,wi,_,ho⟩:=MM I.hok e;have hz:(fs.map (·.1)).length<=sizeLine:=by rw[AL,BA];lia
 refine gL I.BP O c.sa c.po n.lO c.hd wi hz fun h' O' sb=>h _ ?_;have hd:∃o,h'.get? dx=some o:=let⟨o,_,_,e',_⟩:=O'.ns;⟨o,e'⟩;refine I.write (x:=a) (e:=dx) (by rw[e];exact Cm) (.inr ho) (fun b q hb z=>(sb.2 b hb).trans z) hd ?_;refine⟨by rw[AO O.ne];exact ho,?_,O.ne,O'.obj,_,O'.ns,fun g=>?_,fun g hg=>?_⟩
 ·have:=UP f y fs;lia
 ·show DN ((EC f y fs).lookup g) (if g=f then some u else mA g);rw[UQ];by_cases q:g=f
  ·rw[AH q,AH q];exact ry
  ·rw[AG q,AG q];exact r g
 ·by_cases q:g=f
  ·rw[q];exact(Q3 f y fs).1
  ·refine(Q3 f y fs).2 g (wi g fun z=>hg ?_);show(if g=f then some u else mA g)=none;rw[AG q];exact z
theorem Inv.made(I:Inv X pins σ H s):Inv X pins σ (upd (upd H s.heap.objs.size (.own (s.heap.objs.size+1))) (s.heap.objs.size+1) (.ins C s.heap.objs.size []))
 {s with heap:=(s.heap.push emptyDict).push (instObj C s.heap.objs.size)}:=by
 have e1:(s.heap.push emptyDict).get? s.heap.objs.size=some emptyDict:=Bx s.heap rfl;have e2:((s.heap.push emptyDict).push (instObj C s.heap.objs.size)).get? (s.heap.objs.size+1)=some (instObj C s.heap.objs.size):=by
  have:=Bx (s.heap.push emptyDict) (o:=instObj C s.heap.objs.size) rfl
  rwa [GF] at this
 have e3:(s.heap.push emptyDict).Ns s.heap.objs.size (fun _=>none):=⟨emptyDict,#[],_,e1,rfl,(fun e he=>absurd he (by simp)),fun _=>rfl⟩;have I1:=I.laid (a:=s.heap.objs.size) (o:=.own (s.heap.objs.size+1)) (h':=s.heap.push emptyDict) (t':=s.toks) (fun b u q=>A7 _ q) (Ac _) ⟨_,e1⟩;refine I1.laid (a:=s.heap.objs.size+1) (o:=.ins C s.heap.objs.size []) (t':=s.toks) (fun b u q=>A7 _ q) (Nat.le_of_eq (GF _ _)) ?_;have ne:s.heap.objs.size≠s.heap.objs.size+1:=BH (Ll _);refine⟨by rw[AO ne,AR],CF _,ne,e2,fun _=>none,(Heap.Ns1.of_empty e3).at fun o q=>A7 _ q,fun _=>Cm,fun y hy=>absurd rfl hy⟩
end
variable{env:Env}
section
variable{fs:List (Str×V)}{f:Str}
theorem Wg{f:Str}(hb:attributeBase e f env (eval e env)=eval e env)
 (h:wpAny (model prog w) A (eval e env) (fun o s₁=>wpAny (model prog w) A (getAttr o f true) Q E s₁) E s):wpAny (model prog w) A (eval (.Attribute e f pos) env) Q E s:=
 Attribute_any_ h (by rw[arm_eval_Attribute,hb])
end
def mf(K:PySem.W.Frag)(ta:TE)(f:Str):TE:=fun σ H Q=>ta σ H fun x H1=>∃a C dx fs v,x=.ref a/\H1 a=some (.ins C dx fs)/\Gr K C/\JT K C f/\fs.lookup f=some v/\Q v H1
def mQ(K:PySem.W.Frag)(ta tv:TE)(f:Str):TS:=fun D σ H=>tv σ H fun y H1=>ta σ H1 fun x H2=>∃a C dx fs,x=.ref a/\H2 a=some (.ins C dx fs)/\Gr K C/\JT K C f/\fs.length<1000/\
 D.nx σ (upd H2 a (.ins C dx (EC f y fs)))
section
variable{o value:Expr}{f:Str}{pos':Pos}{tv:TE}
theorem Cr(he:PE X e ta)(hb:attributeBase e f X.env (eval e X.env)=eval e X.env):PE X (.Attribute e f pos) (mf X.K ta f):=by intro pins s σ H Q I h;refine Wg hb (Ae (he pins s σ H _ I h) fun u s1 ⟨x,H1,I1,rx,a,C,dx,fs,v,ex,ea,c,n,l,q⟩=>?_);subst ex;obtain rfl:u=Value.ref a:=rx;exact ah I1 ea c n l fun u' s2 I2 ru=>⟨v,H1,I2,ru,q⟩
theorem jP(ha:PE X o ta)(hv:PE X value tv)(hs:swapsWith value (some (.Attribute o f pos')) pos.line X.env=pure false):PS X (.Assign [.Attribute o f pos'] value pos) (mQ X.K ta tv f):=by intro pins s σ H D I h;refine plainObj_wpAny_Assign_Attribute (Ae (hv pins s σ H _ I h) fun u s1 ⟨y,H1,I1,ry,q⟩=>Ae (ha pins s1 σ H1 _ I1 q) fun ov s2 ⟨x,H2,I2,rx,a,C,dx,fs,ex,ea,c,n,l,q2⟩=>?_) hs;subst ex;obtain rfl:ov=Value.ref a:=rx;exact bE I2 ea c n l ry fun s3 I3=>⟨σ,_,I3,q2⟩
end
section
variable{c:Value}{b:Bool}
inductive Bi(K:PySem.W.Frag)(H:Hp):V->Value->Prop where
 |A3:Bi K H .A3 (.type "NoneType")
 |bl (x:Bool):Bi K H (.bl x) (.type "bool")
 |int (i:Int):Bi K H (.int i) (.type "int")
 |str (x:Str):Bi K H (.str x) (.type "str")
 |Hy (x:UInt64):Bi K H (.Hy x) (.type "float")
 |lst {a:Addr} {xs:List V} (e:H a=some (.lst xs)):Bi K H (.ref a) (.type "list")
 |BO {a:Addr} {o:Obj} {xs:List V} (e:H a=some (.BO o (.lst xs))):Bi K H (.ref a) (.type "list")
 |tup {a:Addr} {xs:List V} (e:H a=some (.tup xs)):Bi K H (.ref a) (.type "tuple")
 |dK {a:Addr} {AA:List (Key×V)} (e:H a=some (.dK AA)):Bi K H (.ref a) (.type "dict")
 |dT {a:Addr} {AA:List (List Key×V)} (e:H a=some (.dT AA)):Bi K H (.ref a) (.type "dict")
 |ins {a C dx:Addr} {fs:List (Str×V)} (e:H a=some (.ins C dx fs)) (cl:Gr K C) (ha:findIn K (.ref C) "__class__" =some (some (.builtin "object.__class__")))
  (hn:specialIn K (.builtin "object.__class__") "__get__" =some (some (.builtin "getset_descriptor.__get__"))) (htk:takesIn K (.builtin "object.__class__")=some true)
  (hm:mroIn K C (.type "object")=some true):Bi K H (.ref a) (.ref C)
theorem bg{x:V}{t:Value}(I:Inv X pins σ H s)(rx:RelV x u)(ty:Bi X.K H x t)(e:kitOne X.K t c=some b)(h:∀tk,Q (.bool b) {s with toks:=tk}):
 wpAny (model X.prog X.w) A (call (.builtin "isinstance") [u,c]) Q E s:=by
 cases ty with
 |A3=>cases(show u=Value.none from rx);exact Gw kitx_none I.BP Cm e (fun z=>nomatch z) h
 |bl y=>cases(show u=Value.bool y from rx);exact Gw kitx_bool I.BP Cm e (fun z=>nomatch z) h
 |int i=>obtain⟨t,q⟩:=(show∃t,u=Value.int i t from rx);cases q;exact Gw kitx_int I.BP Cm e (fun z=>nomatch z) h
 |str y=>obtain⟨t,q⟩:=(show∃t,u=Value.str y t from rx);cases q;exact Gw kitx_str I.BP Cm e (fun z=>nomatch z) h
 |Hy y=>obtain⟨t,q⟩:=(show∃t,u=Value.float y t from rx);cases q;exact Gw kitx_float I.BP Cm e (fun z=>nomatch z) h
 |@lst a xs ea=>cases(show u=Value.ref a from rx);obtain⟨_,_,n,_,h1⟩:=(show BL X.prog X.w H s.heap a (.lst xs) from I.hok a _ ea);exact Gw QM I.BP ⟨_,h1,rfl⟩ e (fun z=>nomatch z) h
 |@BO a ob xs ea=>cases(show u=Value.ref a from rx);obtain⟨_,_,_,n,_,h1⟩:=(show BL X.prog X.w H s.heap a (.BO ob (.lst xs)) from I.hok a _ ea);exact Gw QM I.BP ⟨_,h1,rfl⟩ e (fun z=>nomatch z) h
 |@tup a xs ea=>cases(show u=Value.ref a from rx);obtain⟨_,_,_,p⟩:=(show BL X.prog X.w H s.heap a (.tup xs) from I.hok a _ ea);obtain⟨o,h1,h2,_⟩:=p;exact Gw kitx_tuple I.BP ⟨o,h1,h2⟩ e (fun z=>nomatch z) h
 |@dK a AA ea=>cases(show u=Value.ref a from rx);obtain⟨_,_,vs,_,p⟩:=(show BL X.prog X.w H s.heap a (.dK AA) from I.hok a _ ea);obtain⟨o,es,ep,h1,h2,_⟩:=p;exact Gw QN I.BP ⟨o,h1,h2.1⟩ e (fun z=>nomatch z) h
 |@dT a AA ea=>cases(show u=Value.ref a from rx);obtain⟨_,_,xs,_,o,es,ep,h1,h2,_⟩:=(show BL X.prog X.w H s.heap a (.dT AA) from I.hok a _ ea);exact Gw QN I.BP ⟨o,h1,h2.1⟩ e (fun z=>nomatch z) h
 |@ins a C dx fs ea cl ha hn htk hm=>cases(show u=Value.ref a from rx);obtain⟨mA,O,_⟩:=MM I.hok ea;obtain⟨od,J,_⟩:=O.look;exact Gw (kitx_own (cl.get _) cl.hd ha hn htk hm) I.BP J e (fun z=>nomatch z) h
end
structure Br(k:Nat)(A:Around):Prop where
 hd:A.handled=none
 dp:A.depth+3*k+5<recursionLimit
 un:A.units+16*k+200<cLine
theorem Br.mono(r:Br k A)(h:j<=k):Br j A:=⟨r.hd,by have:=r.dp;lia,by have:=r.un;lia⟩
theorem Br.deeper(r:Br (k+1) A)(env:Env):Br k (A.deeper env):=
 ⟨r.hd,by have:=r.dp;show A.depth+1+3*k+5<_;lia,by have:=r.un;show A.units+3+16*k+200<_;lia⟩
theorem ag:(A.under (.builtin "type.__call__" ⟨.ref C::us,kw⟩)).depth=A.depth+1:=by first|rfl|simp[Around.under,Code.weight,Code.isCreation,Code.isGuard,Code.isCaller,Code.frames,Code.isFrame,guardIds]
theorem aq:(A.under (.builtin "type.__call__" ⟨.ref C::us,kw⟩)).units=A.units+1:=by first|rfl|simp[Around.under,Code.cUnits,Code.frames,Code.isFrame]
theorem Br.make(r:Br (k+1) A)(C:Addr)(us:List Value)(kw:List (Str×Value)):Br k (A.under (.builtin "type.__call__" ⟨.ref C::us,kw⟩)):=
 ⟨r.hd,by have:=r.dp;rw[ag];lia,by have:=r.un;rw[aq];lia⟩
theorem Br.depth(r:Br k A):A.depth<recursionLimit:=by have:=r.dp;lia
theorem Br.units(r:Br k A):A.units+64<cLine:=by have:=r.un;lia
theorem Br.Rw(r:Br k A):A.units<cLine:=by have:=r.un;lia
def Jt:TA:=fun _ H Q=>Q [] H
def Mp(ta:TE)(tr:TA):TA:=fun σ H Q=>ta σ H fun x H1=>tr σ H1 fun xs H2=>Q (x::xs) H2
section
variable{es:List Expr}{t:TA}
theorem AI:PA X [] Jt:=fun _ _ _ _ H Q I h=>Calls.spliced_nil ⟨[],H,I,.nil,h⟩
theorem AE(ha:PE X e te)(hr:PA X es t)(hs:starEach (e::es) X.env=(false,eval e X.env)::starEach es X.env:=by rfl):PA X (e::es) (Mp te t):=by intro pos pins s σ H Q I h;rw[hs];show wpAny _ _ (spliced ((false,eval e X.env)::backTo pos (starEach es X.env))) _ _ s;refine QI (Ae (ha pins s σ H _ I h) fun u s1 ⟨x,H1,I1,r1,q1⟩=>?_);exact Ae (hr pos pins s1 σ H1 _ I1 q1) fun us s2 ⟨xs,H2,I2,r2,q2⟩=>⟨x::xs,H2,I2,.cons r1 r2,q2⟩
def mv(t:TA):TE:=fun σ H Q=>t σ H fun xs H1=>xs.length<=sizeLine/\∀p,H1 p=none->Q (.ref p) (upd H1 p (.tup xs))
def Y7(t:TA):TE:=fun σ H Q=>t σ H fun xs H1=>xs.length<=sizeLine/\∀p,H1 p=none->Q (.ref p) (upd H1 p (.lst xs))
theorem Cd{X:Cx}{es:List Expr}{t:TA}{pos:Pos}{x1}(h:PA X es t):PE X (.Tuple es x1 pos) (mv t):=by intro pins s σ H Q I hq;refine wpAny_Tuple_spliced (Ae (h pos pins s σ H _ I hq) fun us s1 ⟨xs,H1,I1,r,z,q⟩=>⟨by rw[<-r.length];exact z,?_⟩);have hf:H1 s1.heap.objs.size=none:=I1.hok.fresh (Ac _);refine⟨.ref s1.heap.objs.size,upd H1 s1.heap.objs.size (.tup xs),I1.laid (t':=s1.toks) (fun b u e=>A7 _ e) (Ac _) ?_,rfl,q _ hf⟩;exact⟨z,us,r,⟨_,Bx _ rfl,rfl,_,rfl⟩⟩
theorem CY(h:PA X es t):PE X (.List es pos) (Y7 t):=by intro pins s σ H Q I hq;refine wpAny_List_spliced (Ae (h pos pins s σ H _ I hq) fun us s1 ⟨xs,H1,I1,r,z,q⟩=>⟨by rw[<-r.length];exact z,?_⟩);have hf:H1 s1.heap.objs.size=none:=I1.hok.fresh (Ac _);refine⟨.ref s1.heap.objs.size,upd H1 s1.heap.objs.size (.lst xs),I1.laid (t':=s1.toks) (fun b u e=>A7 _ e) (Ac _) ?_,rfl,q _ hf⟩;exact⟨z,us,0,r,Bx _ rfl⟩
end
abbrev Sp:=List V->Hp->VK->XK->Prop
abbrev Iy:=List Env->Hp->Shared->XK->Value->Shared->Prop
structure Jq(P:Program)(w:World)(K:PySem.W.Frag)(mg:Str->Option Value)(base:Heap)(A:Around)(outer:List Env)(s:Shared)(H:Hp):Prop where
 frames:A.frames=some outer
 mod:Mod K mg base
 bs:∀b o,base.get? b=some o->s.heap.get? b=some o/\H b=none
 F3:base.objs.size<=s.heap.objs.size
 Ea:s.heap.FunFrames base outer
 HU:∀b∈Ci outer,H b=none
 hok:Bt P w H s.heap
 bare:AllBare s.gens
def CE(outer:List Env)(P:Program)(w:World)(H:Hp)(s:Shared)(Q:VK)(u:Value)(s':Shared):Prop:=
 ∃v H',s'.os=s.os/\AllBare s'.gens/\Un (Ci outer) [] H H' s.heap s'.heap/\Bt P w H' s'.heap/\RelV v u/\Q v H'
def CR(CX:Iy)(outer:List Env)(P:Program)(w:World)(H:Hp)(s:Shared)(Q:VK)(E:XK)(r:Result)(s':Shared):Prop:=
 match r with
 |.ok (.ret u)=>CE outer P w H s Q u s'
 |.ok _=>False
 |.error e=>CX outer H s E e s'
structure AU(P:Program)(w:World)(K:PySem.W.Frag)(mg:Str->Option Value)(base:Heap)(CX:Iy)(k:Nat)(f:Addr)(fd:FuncData)(ps:List Str)(sp:Sp):Prop where
 len:∀vs H Q E,sp vs H Q E->vs.length=ps.length
 run:∀(A:Around)(outer:List Env)(s:Shared)(H:Hp)(args:Args)(us:List Value)(vs:List V)(Q:VK)(E:XK),Br k A->Jq P w K mg base A outer s H->BindsTo s fd args (ps.zip us)->Vals vs us->sp vs H Q E->
  codeAny (model P w) A (.call (.ref f) args) (CR CX outer P w H s Q E) s
theorem AU.mono{P:Program}{w:World}{K:PySem.W.Frag}{mg:Str->Option Value}{base:Heap}{CX:Iy}{j k:Nat}{f:Addr}{fd:FuncData}{ps:List Str}{sp:Sp}(F:AU P w K mg base CX j f fd ps sp)(h:j<=k):
 AU P w K mg base CX k f fd ps sp:=⟨F.len,fun A outer s H args us vs Q E hr=>F.run A outer s H args us vs Q E (hr.mono h)⟩
variable{mg:Str->Option Value}{base:Heap}{outer:List Env}
theorem Jq.make(e:Jq P w K mg base A outer s H)(C:Addr)(us:List Value)(kw:List (Str×Value)):
 Jq P w K mg base (A.under (.builtin "type.__call__" ⟨.ref C::us,kw⟩)) outer s H:=⟨by first|exact e.frames|(simpa[Around.under,Code.envs,Code.isFrame,pushEnvs] using e.frames),e.mod,e.bs,e.F3,e.Ea,e.HU,e.hok,e.bare⟩
section
variable{s':Shared}
theorem Inv.Sw(I:Inv X pins σ H s):Jq X.prog X.w X.K X.mg X.base X.A X.stack s H:=
 ⟨I.ok.frames,I.ok.mod,I.bs,BI I.ok.F3 I.sz,I.stack,I.Oi,I.hok,I.bare⟩
theorem Inv.after{Q:VK}(I:Inv X pins σ H s)(h:CE X.stack X.prog X.w H s Q u s'):EP X pins σ Q u s':=by obtain⟨v,H',os,bare,un,hok,r,q⟩:=h;obtain⟨hh,g,d,t,os'⟩:=s';obtain rfl:os'=s.os:=os;exact⟨v,H',I.call (h':=hh) (g':=g) (d':=d) (t':=t) (ch:=[]) un hok bare (fun b z=>absurd z (by simp)),r,q⟩
end
def Oy(sp:Sp)(dvs:List V)(E:XK)(t:TA):TE:=fun σ H Q=>t σ H fun vs H1=>sp (vs++dvs) H1 Q E
def YS(C:Addr)(m:Str)(sp:Sp)(dvs:List V)(E:XK)(ta:TE)(t:TA):TE:=fun σ H Q=>ta σ H fun x H1=>∃a dx fs,x=.ref a/\H1 a=some (.ins C dx fs)/\fs.lookup m=none/\
 t σ H1 fun vs H2=>sp (x::(vs++dvs)) H2 Q E
def lH(C:Addr)(sp:Sp)(dvs:List V)(E:XK)(t:TA):TE:=fun σ H Q=>t σ H fun vs H1=>∀x dx,H1 x=none->H1 dx=none->dx≠x->
 sp (.ref x::(vs++dvs)) (upd (upd H1 dx (.own x)) x (.ins C dx [])) (fun v H2=>v=.A3/\Q (.ref x) H2) E
def Binds(K:PySem.W.Frag)(fd:FuncData)(ps:List Str)(ds:List Value):Prop:=
 ∀(s:Shared)(us:List Value),K.In s.heap->(us++ds).length=ps.length->BindsTo s fd ⟨us,[]⟩ (ps.zip (us++ds))
variable{fd:FuncData}{ps:List Str}
theorem Binds.all(h:∀us:List Value,us.length=ps.length->bindArgs fd ⟨us,[]⟩=pure (ps.zip us)):Binds K fd ps []:=fun s us _ hl=>by rw[Cy] at hl⊢;exact .of_eq (h us hl)
def Passes(CX:Iy)(X:Cx)(E:XK):Prop:=∀(pins:List (Addr×Obj))(σ:St)(H:Hp)(s:Shared)(e:Value)(s':Shared),Inv X pins σ H s->CX X.stack H s E e s'->X.xe e s'
variable{CX:Iy}{sp:Sp}
section
variable{dvs:List V}{ds:List Value}{E:XK}{m:Str}{p:Pos}{o:Expr}{es:List Expr}{t:TA}
theorem MY{Q:VK}{vs:List V}(F:AU X.prog X.w X.K X.mg X.base CX k f fd ps sp)(hr:Br k X.A)(hb:Binds X.K fd ps ds)(hd:Vals dvs ds)(hx:Passes CX X E)
 (I:Inv X pins σ H s)(r:Vals vs us)(h:sp (vs++dvs) H Q E):wpAny (model X.prog X.w) X.A (call (.ref f) us) (EP X pins σ Q) X.xe s:=by
 have r2:Vals (vs++dvs) (us++ds):=r.append hd;have hl:(us++ds).length=ps.length:=by rw[<-r2.length];exact F.len _ _ _ _ h
 refine Lu (KP (F.run X.A X.stack s H ⟨us,[]⟩ (us++ds) (vs++dvs) Q E hr I.Sw (hb s us I.BP hl) r2 h) fun r s' hq=>?_)
 cases r with
 |error e=>exact hx pins σ H s e s' I hq
 |ok fl=>
  cases fl with
  |ret u=>exact I.after hq
  |next=>exact False.elim hq
  |brk=>exact False.elim hq
  |cont=>exact False.elim hq
theorem BJ(F:AU X.prog X.w X.K X.mg X.base CX k f fd ps sp)(hr:Br k X.A)(hg:Gl X x)(hm:X.mg x=some (.ref f))(hk:keepIn X.K (.ref f)=true)(hb:Binds X.K fd ps ds)(hd:Vals dvs ds)(hx:Passes CX X E)
 (ha:PA X (e::es) t)(hdb:(x==("__debug__" :Str))=false:=by decide)(he:starEach (e::es) X.env=(false,eval e X.env)::starEach es X.env:=by rfl)(hpl:(backTo pos (starEach es X.env)).any (·.1)=false:=by rfl):
 PE X (.Call (.Name x p) (e::es) [] pos) (Oy sp dvs E t):=by
 intro pins s σ H Q I h;refine Lf (Kj I hg hm ?_ hdb);refine UD (h₀:=X.base) I.ok.mod.NJ hk (Ae (ha pos pins s σ H _ I h) fun us s1 ⟨vs,H1,I1,r,q⟩=>⟨I1.BP,?_⟩) he hpl;exact MY F hr hb hd hx I1 r q
theorem Vb(F:AU X.prog X.w X.K X.mg X.base CX k f fd ps sp)(hr:Br k X.A)(hg:Gl X x)(hm:X.mg x=some (.ref f))(hk:keepIn X.K (.ref f)=true)(hb:Binds X.K fd ps ds)(hd:Vals dvs ds)(hx:Passes CX X E)
 (hdb:(x==("__debug__" :Str))=false:=by decide):PE X (.Call (.Name x p) [] [] pos) (Oy sp dvs E Jt):=by
 intro pins s σ H Q I h;refine Lf (Kj I hg hm ?_ hdb);exact P9 I.BP hk (MY (us:=[]) F hr hb hd hx I .nil h)
end
variable{apos:Pos}
section
variable{dvs:List V}{ds:List Value}{E:XK}{m:Str}{p:Pos}{o:Expr}{es:List Expr}{t:TA}
theorem DS(he:PE X o ta)(c:Gr X.K C)(hm:Meth X.K C m f)(F:AU X.prog X.w X.K X.mg X.base CX k f fd ps sp)(hr:Br k X.A)(hb:Binds X.K fd ps ds)(hd:Vals dvs ds)(hx:Passes CX X E)(ha:PA X (e::es) t)
 (hst:starEach (e::es) X.env=(false,eval e X.env)::starEach es X.env:=by rfl)(hpl:(backTo pos (starEach es X.env)).any (·.1)=false:=by rfl)
 (ht:eval (.Call (.Attribute o m apos) (e::es) [] pos) X.env=(do
  let ov<-eval o X.env
  standAt apos.atName
  let(f,first)<-holding [ov] (getMethod ov m pl)
  callWith pos f first (backTo pos (starEach (e::es) X.env)) (backToKw pos (keywordEach [] X.env))):=by rfl):
 PE X (.Call (.Attribute o m apos) (e::es) [] pos) (YS C m sp dvs E ta t):=by
 intro pins s σ H Q I h;refine Tz (pl:=pl) (Ae (he pins s σ H _ I h) fun u s1 ⟨x,H1,I1,rx,a,dx,fs,ex,ea,l,q⟩=>?_) ht;subst ex;obtain rfl:u=Value.ref a:=rx;refine Uc I1 ea c hm l ?_;refine UD (first:=[.ref a]) (h₀:=X.base) I.ok.mod.NJ hm.kp (Ae (ha pos pins s1 σ H1 _ I1 q) fun us s2 ⟨vs,H2,I2,r,q2⟩=>⟨I2.BP,?_⟩) hst hpl;exact MY (us:=.ref a::us) (vs:=.ref a::vs) F hr hb hd hx I2 (.cons rfl r) q2
theorem eN(he:PE X o ta)(c:Gr X.K C)(hm:Meth X.K C m f)(F:AU X.prog X.w X.K X.mg X.base CX k f fd ps sp)(hr:Br k X.A)(hb:Binds X.K fd ps ds)(hd:Vals dvs ds)(hx:Passes CX X E)
 (ht:eval (.Call (.Attribute o m apos) [] [] pos) X.env=(do
  let ov<-eval o X.env
  standAt apos.atName
  let(f,first)<-holding [ov] (getMethod ov m pl)
  callWith pos f first (backTo pos (starEach [] X.env)) (backToKw pos (keywordEach [] X.env))):=by rfl):
 PE X (.Call (.Attribute o m apos) [] [] pos) (YS C m sp dvs E ta Jt):=by
 intro pins s σ H Q I h;refine Tz (pl:=pl) (Ae (he pins s σ H _ I h) fun u s1 ⟨x,H1,I1,rx,a,dx,fs,ex,ea,l,q⟩=>?_) ht;subst ex;obtain rfl:u=Value.ref a:=rx;refine Uc I1 ea c hm l ?_;exact P9 (first:=[.ref a]) I1.BP hm.kp (MY (us:=[.ref a]) (vs:=[.ref a]) F hr hb hd hx I1 (.cons rfl .nil) q)
structure Mk(K:PySem.W.Frag)(C f:Addr):Prop where
 makes:makesIn K C=true
 init:findIn K (.ref C) "__init__" =some (some (.ref f))
 fn:isFn K (.ref f)=true
 kp:keepIn K (.ref C)=true
theorem dk{Q:VK}{vs:List V}(M:Mk X.K C f)(F:AU X.prog X.w X.K X.mg X.base CX k f fd ps sp)(hr:Br (k+1) X.A)(hb:Binds X.K fd ps ds)(hd:Vals dvs ds)
 (hx:Passes CX X E)(I:Inv X pins σ H s)(r:Vals vs us)
 (h:∀x dx,H x=none->H dx=none->dx≠x->sp (.ref x::(vs++dvs)) (upd (upd H dx (.own x)) x (.ins C dx [])) (fun v H2=>v=.A3/\Q (.ref x) H2) E):
 wpAny (model X.prog X.w) X.A (call (.ref C) us) (EP X pins σ Q) X.xe s:=by
 have hq:=h (s.heap.objs.size+1) s.heap.objs.size (I.hok.fresh (EO _)) (I.hok.fresh (Ac _)) (BH (Ll _));have I2:=Inv.made (C:=C) I;have r2:Vals (V.ref (s.heap.objs.size+1)::(vs++dvs)) (Value.ref (s.heap.objs.size+1)::(us++ds)):=.cons rfl (r.append hd);have hl:(Value.ref (s.heap.objs.size+1)::us++ds).length=ps.length:=by have e:=r2.length;rw[F.len _ _ _ _ hq] at e;exact e.symm
 refine Lu (e9 (f:=f) I.BP M.makes M.init (Fg.mp M.fn) (KP (F.run _ X.stack _ _ ⟨Value.ref (s.heap.objs.size+1)::us,[]⟩ (Value.ref (s.heap.objs.size+1)::(us++ds)) _ _ E (hr.make C us [])
  (I2.Sw.make C us []) (hb _ (Value.ref (s.heap.objs.size+1)::us) I2.BP hl) r2 hq) fun r s' hq'=>?_))
 cases r with
 |error e=>exact hx pins σ _ _ e s' I2 hq'
 |ok fl=>
  cases fl with
  |ret u=>obtain⟨v,H',I3,rv,ev,q3⟩:=I2.after hq';subst ev;exact⟨rv,⟨V.ref (s.heap.objs.size+1),H',I3,rfl,q3⟩⟩
  |next=>exact False.elim hq'
  |brk=>exact False.elim hq'
  |cont=>exact False.elim hq'
theorem eZ(M:Mk X.K C f)(F:AU X.prog X.w X.K X.mg X.base CX k f fd ps sp)(hr:Br (k+1) X.A)(hg:Gl X x)(hm:X.mg x=some (.ref C))(hb:Binds X.K fd ps ds)(hd:Vals dvs ds)(hx:Passes CX X E)
 (hdb:(x==("__debug__" :Str))=false:=by decide):PE X (.Call (.Name x p) [] [] pos) (lH C sp dvs E Jt):=by
 intro pins s σ H Q I h;refine Lf (Kj I hg hm ?_ hdb);exact P9 I.BP M.kp (dk (us:=[]) M F hr hb hd hx I .nil h)
end
structure A0(N P:List Str)(sc:Scope):Prop where
 kind:sc.kind=.function
 co:sc.isCoroutine=false
 gen:sc.isGenerator=false
 nd:N.Nodup
 pre:N.take P.length=P
 par:∀x∈P,sc.names.lookup x=some .local\/sc.names.lookup x=some .cell
 jY:∀y∈sc.names,y.2≠.free
theorem Ur{kindOf:Str->Option NameKind}{x:Str}:∀{binds:List (Str×Value)}{m:Str->Option Value},(∀v,(x,v)∉binds)->bindL kindOf binds m x=m x
 |[],_,_=>rfl
 |(n,v)::r,m,h=>by
  unfold bindL;rw[Ur fun w hw=>h w (DU _ hw)];split
  ·have:x≠n:=by rintro rfl;exact h v Ed
   simp[this]
  ·rfl
theorem U4{kindOf:Str->Option NameKind}{x:Str}:∀{binds:List (Str×Value)}{m:Str->Option Value},(∀v,(x,v)∉binds)->bindC kindOf binds m x=m x
 |[],_,_=>rfl
 |(n,v)::r,m,h=>by
  unfold bindC;rw[U4 fun w hw=>h w (DU _ hw)];split
  ·rfl
  ·have:x≠n:=by rintro rfl;exact h v Ed
   simp[this]
theorem VI{kindOf:Str->Option NameKind}{x:Str}{v:Value}:∀{P:List Str}{vs:List Value}{i:Nat}{m:Str->Option Value},P.Nodup->P[i]? =some x->vs[i]? =some v->kindOf x=some .local->
 bindL kindOf (P.zip vs) m x=some v
 |[],_,_,_,_,h,_,_=>by simp at h
 |_::_,[],_,_,_,_,h,_=>by simp at h
 |p::P,w::vs,0,m,nd,h1,h2,hk=>by simp at h1 h2;subst h1;subst h2;show bindL kindOf ((p,w)::P.zip vs) m p=_;unfold bindL;rw[Ur fun v hv=>(IG.mp nd).1 (List.of_mem_zip hv).1,AH hk];simp
 |p::P,w::vs,i+1,m,nd,h1,h2,hk=>by show bindL kindOf ((p,w)::P.zip vs) m x=_;unfold bindL;exact VI (i:=i) (IG.mp nd).2 (by simpa using h1) (by simpa using h2) hk
theorem U8{kindOf:Str->Option NameKind}{x:Str}{v:Value}:∀{P:List Str}{vs:List Value}{i:Nat}{m:Str->Option Value},P.Nodup->P[i]? =some x->vs[i]? =some v->kindOf x≠some .local->
 bindC kindOf (P.zip vs) m x=some v
 |[],_,_,_,_,h,_,_=>by simp at h
 |_::_,[],_,_,_,_,h,_=>by simp at h
 |p::P,w::vs,0,m,nd,h1,h2,hk=>by simp at h1 h2;subst h1;subst h2;show bindC kindOf ((p,w)::P.zip vs) m p=_;unfold bindC;rw[U4 fun v hv=>(IG.mp nd).1 (List.of_mem_zip hv).1,AG hk];simp
 |p::P,w::vs,i+1,m,nd,h1,h2,hk=>by show bindC kindOf ((p,w)::P.zip vs) m x=_;unfold bindC;exact U8 (i:=i) (IG.mp nd).2 (by simpa using h1) (by simpa using h2) hk
noncomputable def start(N:List Str)(vs:List V):St:=vs.map some++List.replicate (N.length-vs.length) none
noncomputable def Ij(CX:Iy)(P:Program)(w:World)(K:PySem.W.Frag)(mg:Str->Option Value)(base:Heap)(N:List Str)(qual:Str)(scope:Scope)(f:Addr)(cd:Value)(A:Around)(outer:List Env)(s:Shared)(H:Hp)(E:XK):Cx where
 prog:=P
 w:=w
 K:=K
 mg:=mg
 base:=base
 A:=A.deeper (envOfC qual scope s.heap.objs.size f cd)
 N:=N
 s₀:=s
 H₀:=H
 env:=envOfC qual scope s.heap.objs.size f cd
 outer:=outer
 stack:=envOfC qual scope s.heap.objs.size f cd::outer
 ex:=[]
 calm:=true
 fn:=fun _=>true
 pn:=[]
 xe:=fun e s'=>wpAny (model P w) (A.deeper (envOfC qual scope s.heap.objs.size f cd)) (leaving (envOfC qual scope s.heap.objs.size f cd) e) (fun _ s''=>CX outer H s E e s'') (fun e' s''=>CX outer H s E e' s'') s'
theorem V1{sc:Scope}{n:Nat}(h:sc.names.lookup x=some .cell):∃c,(cellsFrom n sc.names []).lookup x=some c:=by have q:=cellsFrom_some sc.names n [] (.inl h);exact Option.isSome_iff_exists.mp q
variable{qual:Str}{scope:Scope}{cd:Value}
theorem bJ{s1:Shared}{E:XK}{vs:List V}
 (S:A0 N ps scope)(hd:A.handled=none)(e0:Jq P w K mg base A outer s H)(hl:vs.length=ps.length)(r:Vals vs us)
 (x:InCallC s s.heap.objs.size (bindL (envOfC qual scope s.heap.objs.size f cd).kindOf (ps.zip us) fun _=>none) (cellsFrom (s.heap.objs.size+1) scope.names []) (bindC (envOfC qual scope s.heap.objs.size f cd).kindOf (ps.zip us) fun _=>none) s1):
 Inv (Ij CX P w K mg base N qual scope f cd A outer s H E) [] (start N vs) H s1:=by
 have hpl:ps.length<=N.length:=by have:=BZ List.length S.pre;rw[Bg] at this;lia
 obtain⟨h1,tk,rfl,hk⟩:=x.done;have Iq:∀b:Addr,b∉(Ij CX P w K mg base N qual scope f cd A outer s H E).ex:=fun b z=>absurd (show b∈([]:List Addr) from z) (by simp);refine⟨⟨e0.mod,S.kind,rfl,rfl,Ac _,fun y z c h1 h2=>?_,fun y hy=>?_,fun y c _ h=>?_,fun _=>hd,Around.frames_deeper e0.frames,.inr ⟨rfl,rfl⟩,fun b z=>absurd z (Iq b),e0.bs,e0.F3,fun b _ _=>Iq b,fun b z=>absurd z (Iq b),e0.Ea,e0.HU⟩,
  rfl,e0.bare,Un.kept hk,⟨_,x.toInCall.ns,fun i y v h1 h2 h3=>?_⟩,fun y c h=>⟨_,x.cell y c h⟩,e0.hok.fresh (Ac _),fun y c h=>?_,fun p hp=>absurd (show p∈([]:List (Addr×Obj)) from hp) (by simp),e0.hok.kept hk,?_⟩
 ·exact name_of_addr x.apart (ID h1) (ID h2)
 ·have hy:scope.names.lookup y=some .cell\/scope.names.lookup y=some .free:=hy;rcases hy with hy|hy
  ·exact V1 hy
  ·exact absurd rfl (S.jY _ (ID hy))
 ·exact E4 (x.above y c (ID h))
 ·have hi:i<vs.length:=by
   unfold start at h2;by_cases hi:i<vs.length
   ·exact hi
   ·rw[C4 (by simpa using hi)] at h2;rw[List.getElem?_replicate] at h2;split at h2<;>cases h2
  have ha:vs[i]? =some v:=by
   unfold start at h2;rw[C9 (by simpa using hi),Az] at h2
   cases e:vs[i]?with
   |none=>rw[e] at h2;cases h2
   |some a=>rw[e] at h2;cases h2;rfl
  obtain⟨u,hu,rv⟩:=r.get ha;have hp:ps[i]? =some y:=by rw[<-S.pre,List.getElem?_take_of_lt (by lia)];exact h1
  have ndP:ps.Nodup:=by rw[<-S.pre];exact S.nd.sublist (List.take_sublist _ _)
  refine⟨u,rv,?_⟩;rcases S.par y (CL hp) with k|k
  ·exact .inl ⟨k,VI ndP hp hu k⟩
  ·obtain⟨c,e⟩:=V1 (n:=s.heap.objs.size+1) k;refine .inr ⟨.inl k,c,e,?_⟩;have q:=x.cell y c e;rw[U8 ndP hp hu (by show scope.names.lookup y≠_;rw[k];decide)] at q;exact q
 ·exact e0.hok.fresh (E4 (x.above y c (ID h)))
 ·unfold start;show _=N.length;rw[BC,AL,List.length_replicate]
  lia
variable{od:Option Addr}{osl:Array (Option Value)}
theorem Yj{params:Arguments}{dV kV doc pm cdv ct oc:Value}{an:Option Addr}
 (lk:K.lookup f=some ⟨oc,od,.func (fnOf name qual params body scope dV kV doc pm an cdv ct),osl⟩)(hcd:codeIn K cdv qual=true)(S:A0 N ps scope)
 (len:∀vs H Q E,sp vs H Q E->vs.length=ps.length)
 (hbody:∀(A:Around)(outer:List Env)(s:Shared)(H:Hp)(vs:List V)(Q:VK)(E:XK),Br k (A.deeper (envOfC qual scope s.heap.objs.size f cdv))->sp vs H Q E->
  ∃t,EE (Ij CX P w K mg base N qual scope f cdv A outer s H E) body t/\t {nx:=fun _ H'=>Q .A3 H',rt:=Q} (start N vs) H):
 AU P w K mg base CX (k+1) f (fnOf name qual params body scope dV kV doc pm an cdv ct) ps sp:=by
 refine⟨len,fun A outer s H args us vs Q E hr e0 hb r hsp=>?_⟩;have hl:=len _ _ _ _ hsp;have KX:K.In s.heap:=e0.mod.NJ.keeps fun b o e=>(e0.bs b o e).1;have lim:s.heap.NoLimit:=e0.mod.nolimit.keeps fun b o e=>(e0.bs b o e).1;have hkind:∀y∈ps.zip us,scope.names.lookup y.1=some .local\/(scope.names.lookup y.1=some .cell/\((cellsFrom (s.heap.objs.size+1) scope.names []).lookup y.1).isSome=true):=fun⟨n,v⟩ hy=>by
  rcases S.par n (List.of_mem_zip hy).1 with q|q
  ·exact .inl q
  ·exact .inr ⟨q,cellsFrom_some _ _ _ (.inl q)⟩
 refine codeAny_call_function hr.depth (KX _ _ lk) rfl S.co S.gen rfl (codeRec_of KX hcd) (hb _ _ _ _ ?_);refine wpAny_newFunctionEnv_cells S.kind hkind fun env he s1 x=>?_;subst he;refine⟨lim.keeps x.toInCall.keep,codeAny_func ?_⟩;obtain⟨t,ht,hq⟩:=hbody A outer s H vs Q E (hr.deeper _) hsp;have I:Inv (Ij CX P w K mg base N qual scope f cdv A outer s H E) [] (start N vs) H s1:=bJ S hr.hd e0 hl r x;refine Cz (ht [] s1 (start N vs) H _ I hq) (fun fl s' hs=>?_) fun e s' hs=>hs;have fin:∀{σ':St}{H':Hp}{v:V}{u:Value},Inv (Ij CX P w K mg base N qual scope f cdv A outer s H E) [] σ' H' s'->RelV v u->Q v H'->CE outer P w H s Q u s':=
  fun{σ' H' v u} J rv q=>⟨v,H',J.os,J.bare,J.base,J.hok,rv,q⟩
 cases fl with
 |ret u=>obtain⟨v,σ',H',J,rv,q⟩:=hs;exact fin J rv q
 |next=>obtain⟨σ',H',J,q⟩:=hs;exact fin (v:=V.A3) (u:=Value.none) J rfl q
 |brk=>obtain⟨_,_,_,q⟩:=hs;exact False.elim q
 |cont=>obtain⟨_,_,_,q⟩:=hs;exact False.elim q
section
variable{p:Pos}{es:List Expr}{t:TA}{id:String}{r:List V->Hp->VK->Prop}
def Py(r:List V->Hp->VK->Prop)(t:TA):TE:=fun σ H Q=>t σ H fun vs H1=>r vs H1 Q
theorem Bc(hc:C6 X (.builtin id) r)(hg:Gl X x)(hm:X.mg x=none)(hv:bootBuiltins x=some (.builtin id))(ha:PA X (e::es) t)(hn:x≠ "__name__" :=by decide)(hdb:(x==("__debug__" :Str))=false:=by decide)
 (he:starEach (e::es) X.env=(false,eval e X.env)::starEach es X.env:=by rfl)(hpl:(backTo pos (starEach es X.env)).any (·.1)=false:=by rfl):PE X (.Call (.Name x p) (e::es) [] pos) (Py r t):=by
 intro pins s σ H Q I h;refine Lf (Mf I hg hm hv ?_ hn hdb);exact PyProof.Rows.callWith_builtin1 (Ae (ha pos pins s σ H _ I h) fun us s1 ⟨vs,H1,I1,r1,q1⟩=>hc pins s1 σ H1 vs us Q I1 r1 q1) he hpl
end
variable{T:String}
section
variable{p:Pos}{es:List Expr}{t:TA}{id:String}{r:List V->Hp->VK->Prop}
theorem E6(hc:C6 X (.type T) r)(hg:Gl X x)(hm:X.mg x=none)(hv:bootBuiltins x=some (.type T))(ha:PA X (e::es) t)(hn:x≠ "__name__" :=by decide)(hdb:(x==("__debug__" :Str))=false:=by decide)
 (he:starEach (e::es) X.env=(false,eval e X.env)::starEach es X.env:=by rfl)(hpl:(backTo pos (starEach es X.env)).any (·.1)=false:=by rfl):PE X (.Call (.Name x p) (e::es) [] pos) (Py r t):=by
 intro pins s σ H Q I h;refine Lf (Mf I hg hm hv ?_ hn hdb);exact Tj (Ae (ha pos pins s σ H _ I h) fun us s1 ⟨vs,H1,I1,r1,q1⟩=>hc pins s1 σ H1 vs us Q I1 r1 q1) he hpl
end
noncomputable def A9(n d:Nat):Option Int->Nat
 |none=>d
 |some v=>if v<0 then(v+(n:Int)).toNat else min v.toNat n
theorem gW(n d k:Nat):A9 n d (some (k:Int))=min k n:=by show(if(k:Int)<0 then((k:Int)+(n:Int)).toNat else min (k:Int).toNat n)=min k n;rw[AG (by lia),Gu]
theorem jR(n d:Nat)(hd:d<=n)(o:Option Int):A9 n d o<=n:=by
 cases o with
 |none=>exact hd
 |some v=>
  show(if v<0 then(v+(n:Int)).toNat else min v.toNat n)<=n;by_cases hv:v<0
  ·rw[AH hv];lia
  ·rw[AG hv];exact Nat.min_le_right _ _
theorem Wi(v:Int)(n d:Nat):(if v<0 then max (v+(n:Int)) 0 else min v (n:Int))=((A9 n d (some v):Nat):Int):=by
 show(if v<0 then max (v+(n:Int)) 0 else min v (n:Int))=(((if v<0 then(v+(n:Int)).toNat else min v.toNat n):Nat):Int);by_cases hv:v<0
 ·simp only[AH hv];lia
 ·simp only[AG hv];lia
theorem ae(lo hi:Option Int)(n:Nat):Builtin.Slice.sliceAdjust lo hi 1 (n:Int)=(((A9 n 0 lo:Nat):Int),((A9 n n hi:Nat):Int)):=by
 have h1:¬((1:Int)<0):=by lia
 unfold Builtin.Slice.sliceAdjust;simp only[h1,Bp];refine Prod.ext ?_ ?_
 ·cases lo with
  |none=>rfl
  |some v=>exact Wi v n 0
 ·cases hi with
  |none=>rfl
  |some v=>exact Wi v n n
theorem aW(i j:Nat):Builtin.Slice.slicePlaces (i:Int) (j:Int) 1=j-i:=by
 unfold Builtin.Slice.slicePlaces;have h1:(1:Int)>0:=by lia
 simp only[h1,CG,Int.ediv_one];split<;>lia
theorem Ua{v:Value}{o:Option Int}{Q:Option Int->Shared->Prop}(p:IsPart v o)(h:Q o s):wpAny (model prog w) A (Builtin.Slice.slicePartIndex v) Q E s:=by
 cases p with
 |none=>exact slicePart_none h
 |int i t=>exact slicePart_int h
theorem Zs{sl:Addr}{vl vu:Value}{lo hi:Option Int}{n:Nat}{Q:Int×Int×Nat->Shared->Prop}(hs:s.heap.IsSliceOf sl vl vu .none)(pl:IsPart vl lo)(pu:IsPart vu hi)
 (h:Q (((A9 n 0 lo:Nat):Int),1,A9 n n hi-A9 n 0 lo) s):wpAny (model prog w) A (Builtin.Slice.sliceApplied (.ref sl) (pure (n:Int))) Q E s:=by
 obtain⟨os,hos,hcs,hds⟩:=id hs;unfold Builtin.Slice.sliceApplied Builtin.Slice.sliceFields;refine AJ (AJ (JF hos hds (x:=vl) rfl (AJ (JF hos hds (x:=vu) rfl (AJ (JF hos hds (x:=.none) rfl (Af ?_)))))));refine AJ (slicePart_none ?_);show wpAny _ _ (if((1:Int)==0)=true then _ else _) _ _ s;rw[AG (by decide)];refine AJ (Ua pl (AJ (Ua pu (AJ (Af ?_)))));show wpAny _ _ (match Builtin.Slice.sliceAdjust lo hi 1 (n:Int) with|(lo,hi)=>pure (lo,(1:Int),Builtin.Slice.slicePlaces lo hi 1)) _ _ s;rw[ae lo hi n];show wpAny _ _ (pure (((A9 n 0 lo:Nat):Int),(1:Int),Builtin.Slice.slicePlaces ((A9 n 0 lo:Nat):Int) ((A9 n n hi:Nat):Int) 1)) _ _ s;rw[aW];exact Af h
theorem eU(xs:Array Value)(i k:Nat):((List.range k).filterMap fun(m:Nat)=>xs[((i:Int)+(m:Int)*1).toNat]?).toArray=((xs.toList.drop i).take k).toArray:=by
 have e:(fun(m:Nat)=>xs[((i:Int)+(m:Int)*1).toNat]?)=fun m=>xs[i+m]? :=by
  funext m;have:((i:Int)+(m:Int)*1).toNat=i+m:=by lia
  rw[this]
 rw[e];have:=pick_run xs i k;rw[List.filterMap_map] at this;have e2:((fun x=>xs[x]?)∘fun x=>i+x)=fun m=>xs[i+m]? :=rfl;rw[e2] at this;rw[this]
theorem Zr{t sl:Addr}{items:Array Value}{vl vu:Value}{lo hi:Option Int}(ht:IsTup s.heap t items)(hs:s.heap.IsSliceOf sl vl vu .none)(pl:IsPart vl lo)(pu:IsPart vu hi)
 (hw:¬(A9 items.size 0 lo=0/\A9 items.size items.size hi=items.size))
 (h:Q (.ref s.heap.objs.size) {s with heap:=s.heap.push {cls:=.type "tuple",data:=.seq ((items.toList.drop (A9 items.size 0 lo)).take (A9 items.size items.size hi-A9 items.size 0 lo)).toArray}})
 (hsz:items.size<=sizeLine):wpAny (model prog w) A (getItem (.ref t) (.ref sl)) Q E s:=by
 have htake:sizeOk (.seq ((items.toList.drop (A9 items.size 0 lo)).take (A9 items.size items.size hi-A9 items.size 0 lo)).toArray):=by
  show((items.toList.drop (A9 items.size 0 lo)).take (A9 items.size items.size hi-A9 items.size 0 lo)).toArray.size<=sizeLine;rw[CU,Bg,Dq,EM]
  lia
 have hj:A9 items.size items.size hi<=items.size:=jR _ _ (Ac _) hi;obtain⟨os,hos,hcs,hds⟩:=id hs;have hTs:s.TypeIs (.ref sl) "slice" :=⟨os,hos,hcs⟩;unfold getItem;try with_reducible refine Fd ?_
 first|refine AJ (Af ?_)|skip
 refine AJ (wpAny_sequenceKey ht.typeIs (by decide) ?_);refine AJ (wpAny_callSpecial?_slot (name:=Str.ofString "__getitem__") ht.typeIs Ti
  (Nb Ti ht.typeIs entry_tuple_getitem ?_ (args_tuple_getitem _ _)));show wpAny _ _ (Builtin.Tuple.tupleItemsOf (.ref t)>>=_) _ _ s;refine AJ (tupleItemsOf_ ht ?_);refine AJ (wpAny_typeOf hTs ?_);rw[AH (by decide)];refine AJ (Zs hs pl pu ?_);have hno:¬((((A9 items.size 0 lo:Nat):Int)==0&&(1:Int)==1&&(A9 items.size items.size hi-A9 items.size 0 lo)==items.size)=true):=by
  intro q;rw[E2,E2] at q;have q1:((A9 items.size 0 lo:Nat):Int)=0:=eq_of_beq q.1.1;have q2:A9 items.size items.size hi-A9 items.size 0 lo=items.size:=eq_of_beq q.2;exact hw ⟨by lia,by lia⟩
 show wpAny _ _ (if(((A9 items.size 0 lo:Nat):Int)==0&&(1:Int)==1&&(A9 items.size items.size hi-A9 items.size 0 lo)==items.size)=true then _ else _) _ _ s;rw[AG hno,eU];first
  |exact AJ (m:=Builtin.Tuple.tupleExact _) (Hc (Af ⟨_,rfl,Af h⟩) htake)
  |exact AJ (m:=Builtin.Tuple.tupleExact _) (Hc (AJ (Af (Af ⟨_,rfl,Af h⟩))) htake)
  |exact AJ (AJ (m:=Builtin.Tuple.tupleExact _) (Hc (Af (Af ⟨_,rfl,Af h⟩)) htake))
  |exact AJ (AJ (m:=Builtin.Tuple.tupleExact _) (Hc (Af ⟨_,rfl,Af h⟩) htake))
abbrev TO:=St->Hp->(Option Int->Hp->Prop)->Prop
def PO(X:Cx)(e:Option Expr)(t:TO):Prop:=
 ∀(pins:List (Addr×Obj))(s:Shared)(σ:St)(H:Hp)(Q:Option Int->Hp->Prop),Inv X pins σ H s->t σ H Q->
  wpAny (model X.prog X.w) X.A (evalPart e X.env) (fun u s'=>∃o H',Inv X pins σ H' s'/\IsPart u o/\Q o H') X.xe s
def gX:TO:=fun _ H Q=>Q none H
def lC(t:TE):TO:=fun σ H Q=>t σ H fun x H1=>∃i,x=.int i/\Q (some i) H1
section
variable{lo hi:Option Expr}{tl th:TO}{p2:Pos}
theorem Kl:PO X none gX:=by intro pins s σ H Q I h;rw[evalPart_none];exact Af ⟨none,H,I,.none,h⟩
theorem DV(h:PE X e te):PO X (some e) (lC te):=by intro pins s σ H Q I hw;rw[evalPart_some];refine Ae (h pins s σ H _ I hw) fun u s1 ⟨x,H1,I1,r1,q1⟩=>?_;obtain⟨i,rfl,q⟩:=q1;obtain⟨t,rfl⟩:=r1;exact⟨some i,H1,I1,.int i t,q⟩
def LC(X:Cx)(r:V->Option Int->Option Int->Hp->VK->Prop):Prop:=
 ∀(pins:List (Addr×Obj))(s:Shared)(σ:St)(H:Hp)(x:V)(v vl vu:Value)(lo hi:Option Int)(sl:Addr)(Q:VK),Inv X pins σ H s->RelV x v->s.heap.IsSliceOf sl vl vu .none->IsPart vl lo->IsPart vu hi->r x lo hi H Q->
  ∃T id,typeLookup (.type T) "__getitem__" =pure (some (.builtin id))/\s.TypeIs v T/\wpAny (model X.prog X.w) X.A (getItem v (.ref sl)) (EP X pins σ Q) X.xe s
def nu(r:V->Option Int->Option Int->Hp->VK->Prop)(te:TE)(tl th:TO):TE:=fun σ H Q=>te σ H fun x H1=>tl σ H1 fun l H2=>th σ H2 fun u H3=>r x l u H3 Q
theorem Fl{r:V->Option Int->Option Int->Hp->VK->Prop}(hr:LC X r)(he:PE X e te)(hl:PO X lo tl)(hu:PO X hi th):PE X (.Subscript e (.Slice lo hi none p2) pos) (nu r te tl th):=by intro pins s σ H Q I h;refine Subscript_ (Ae (he pins s σ H _ I h) fun v s1 ⟨x,H1,I1,r1,q1⟩=>?_);refine wpAny_Slice (Ae (hl pins s1 σ H1 _ I1 q1) fun vl s2 ⟨l,H2,I2,pl,q2⟩=>Ae (hu pins s2 σ H2 _ I2 q2) fun vu s3 ⟨u,H3,I3,pu,q3⟩=>?_);rw[evalPart_none];refine Af ?_;have I4:Inv X pins σ H3 {s3 with heap:=s3.heap.push {cls:=.type "slice",data:=.fields #[vl,vu,.none]}}:=I3.kept (t':=s3.toks) fun b ob q=>A7 _ q;obtain⟨T,id,hT,ht,hg⟩:=hr pins {s3 with heap:=s3.heap.push {cls:=.type "slice",data:=.fields #[vl,vu,.none]}} σ H3 x v vl vu l u s3.heap.objs.size Q I4 r1 (Heap.IsSliceOf.new ..) pl pu q3;show wpAny (model X.prog X.w) X.A (subscriptTail e (.Slice lo hi none p2) v (.ref s3.heap.objs.size)) (EP X pins σ Q) X.xe {s3 with heap:=s3.heap.push {cls:=.type "slice",data:=.fields #[vl,vu,.none]}};exact tail_any (ops:=[.ref s3.heap.objs.size,v]) ht hT hg (by with_unfolding_all rfl)
def EA(xs:List V)(lo hi:Option Int):List V:=(xs.drop (A9 xs.length 0 lo)).take (A9 xs.length xs.length hi-A9 xs.length 0 lo)
theorem UU(xs:List V)(lo hi:Option Int):(EA xs lo hi).length<=xs.length:=by
 unfold EA;rw[Bg,Dq]
 lia
def ZM(K:PySem.W.Frag):V->Option Int->Option Int->Hp->VK->Prop:=fun x lo hi H Q=>∃a xs,x=.ref a/\AY K H a xs/\
 ¬(A9 xs.length 0 lo=0/\A9 xs.length xs.length hi=xs.length)/\∀p,H p=none->Q (.ref p) (upd H p (.tup (EA xs lo hi)))
theorem je:LC X (ZM X.K):=by
 intro pins s σ H x v vl vu lo hi sl Q I rx hs pl pu h;obtain⟨a,xs,rfl,hx,hw,q⟩:=h;cases rx;obtain⟨AM,r,ht,hz⟩:=I.tuple hx;have hlen:AM.toArray.size=xs.length:=by rw[CU];exact r.length.symm
 refine⟨"tuple",_,Ti.lookup,ht.typeIs,?_⟩;refine Zr ht hs pl pu (by rw[hlen];exact hw) ?_ (by rw[hlen];exact hz);rw[hlen];refine⟨.ref s.heap.objs.size,_,I.laid (t':=s.toks) (o:=.tup (EA xs lo hi)) (fun b ob q=>A7 _ q) (Ac _) ?_,rfl,q _ (I.hok.fresh (Ac _))⟩;exact⟨BI (UU xs lo hi) hz,_,(r.drop (A9 xs.length 0 lo)).take (A9 xs.length xs.length hi-A9 xs.length 0 lo),IsTup.new _ _⟩
end
noncomputable def J2(n:Nat)(i:Int):Option Nat:=if 0<=i then(if i<n then some i.toNat else none) else if-(n:Int)<=i then some (i+n).toNat else none
def F1{α:Type}(xs:List α)(i:Int):Option α:=(J2 xs.length i).bind fun j=>xs[j]?
theorem XA{n:Nat}{i:Int}(h:J2 n i=some j):seqIndex? i n=some j/\j<n/\ -(n:Int)<=i/\i<n:=by
 unfold J2 at h;by_cases h0:0<=i
 ·rw[AH h0] at h;by_cases h1:i<n
  ·rw[AH h1] at h;have e:i.toNat=j:=Ah h;exact⟨by rw[seqIndex_of h0 h1,e],by lia,by lia,h1⟩
  ·rw[AG h1] at h;cases h
 ·rw[AG h0] at h;by_cases h1: -(n:Int)<=i
  ·rw[AH h1] at h;have e:(i+n).toNat=j:=Ah h;exact⟨by rw[seqIndex_neg (by lia) h1,e],by lia,h1,by lia⟩
  ·rw[AG h1] at h;cases h
theorem RT{xs:List α}{i:Int}{v:α}(h:F1 xs i=some v):∃j,seqIndex? i xs.length=some j/\xs[j]? =some v/\j<xs.length/\ -(xs.length:Int)<=i/\i<xs.length:=by
 unfold F1 at h
 cases e:J2 xs.length i with
 |none=>rw[e] at h;cases h
 |some j=>rw[e] at h;obtain⟨h1,h2,h3,h4⟩:=XA e;exact⟨j,h1,h,h2,h3,h4⟩
theorem Bv{xs:List α}{v:α}(h:xs[j]? =some v):F1 xs (j:Int)=some v:=by
 have hj:j<xs.length:=(BW.mp h).1;have e:J2 xs.length (j:Int)=some j:=by unfold J2;rw[AH (by lia),AH (by lia)];simp
 unfold F1;rw[e];exact h
def fh(b:Expr):Prop:=∀o i,subscripted b false o i=operate [o,i] (getItem o i)
def Gq(X:Cx)(r:R2):Prop:=
 ∀(value slice:Expr)(pins:List (Addr×Obj))(s:Shared)(σ:St)(H:Hp)(x y:V)(v u:Value)(Q:VK),Inv X pins σ H s->RelV x v->RelV y u->r x y H Q->
  subscripted slice false v u=operate [v,u] (getItem v u)->wpAny (model X.prog X.w) X.A (subscriptTail value slice v u) (EP X pins σ Q) X.xe s
def NA(X:Cx)(id:String)(r:V->List V->Hp->VK->Prop):Prop:=
 ∀(pins:List (Addr×Obj))(s:Shared)(σ:St)(H:Hp)(x:V)(xs:List V)(v:Value)(us:List Value)(Q:VK),Inv X pins σ H s->RelV x v->Vals xs us->r x xs H Q->
  wpAny (model X.prog X.w) X.A (call (.builtin id) (v::us)) (EP X pins σ Q) X.xe s
variable{r:V->List V->Hp->VK->Prop}
section
variable{a b:Expr}{tb:TE}{o:Expr}{es:List Expr}{to:TE}{t:TA}{id:String}
theorem Gq.or{r r':R2}(h:Gq X r)(h':Gq X r'):Gq X (fun x y H Q=>r x y H Q\/r' x y H Q):=by
 intro value slice pins s σ H x y v u Q I rx ry q hs;rcases q with q|q
 ·exact h value slice pins s σ H x y v u Q I rx ry q hs
 ·exact h' value slice pins s σ H x y v u Q I rx ry q hs
theorem Ag{r:R2}(hr:Gq X r)(ha:PE X a ta)(hb:PE X b tb)(hs:fh b):PE X (.Subscript a b pos) (F0 r ta tb):=by intro pins s σ H Q I h;exact Subscript_ (Su ha hb I h fun v u s2 x y H2 I2 rx ry q=>hr a b pins s2 σ H2 x y v u Q I2 rx ry q (hs _ _))
def Sr(K:PySem.W.Frag):R2:=fun x y H Q=>∃p xs i v,x=.ref p/\y=.int i/\AN K H p xs/\F1 xs i=some v/\Q v H
def Ms(K:PySem.W.Frag):R2:=fun x y H Q=>∃p xs i v,x=.ref p/\y=.int i/\AY K H p xs/\F1 xs i=some v/\Q v H
def ZK:R2:=fun x y H Q=>∃z i c,x=.str z/\y=.int i/\z.length<=sizeLine/\F1 z.cps.toList i=some c/\Q (.str ⟨#[c]⟩) H
theorem Wy:Gq X (Sr X.K):=by
 intro value slice pins s σ H x y v u Q I rx ry h hs;obtain⟨p,xs,i,z,rfl,rfl,hq,he,q⟩:=h;cases rx;obtain⟨t,rfl⟩:=ry;obtain⟨AM,r,pl,hz⟩:=I.list hq;obtain⟨j,h1,h2,h3,h4,h5⟩:=RT he;obtain⟨w,ew,rw'⟩:=r.get h2;have hl:=r.length;have hn:=MV;have fin:EP X pins σ Q w s:=⟨z,H,I,rw',q⟩;by_cases h0:0<=i
 ·have hj:i.toNat=j:=by rw[seqIndex_of h0 h5] at h1;exact Ah h1
  exact item_listR pl.isList h0 (by lia) (by rw[hj];simpa using ew) fin hs
 ·have hj:(i+(AM.toArray.size:Int)).toNat=j:=by rw[seqIndex_neg (by lia) h4] at h1;rw[CU,<-hl];exact Ah h1
  exact subscriptTail_builtinR (x:=w) pl.isList.typeIs slot_list_getitem.lookup
   (wpAny_getItem_list_neg (Q:=fun r s'=>r=w/\EP X pins σ Q r s') pl.isList (by lia) (by rw[CU]<;>lia) (by lia) (by rw[hj];simpa using ew) ⟨rfl,fin⟩) hs
theorem DW:Gq X (Ms X.K):=by
 intro value slice pins s σ H x y v u Q I rx ry h hs;obtain⟨p,xs,i,z,rfl,rfl,hq,he,q⟩:=h;cases rx;obtain⟨t,rfl⟩:=ry;obtain⟨AM,r,pl,hz⟩:=I.tuple hq;obtain⟨j,h1,h2,h3,h4,h5⟩:=RT he;obtain⟨w,ew,rw'⟩:=r.get h2;have hl:=r.length;have hn:=MV;have fin:EP X pins σ Q w s:=⟨z,H,I,rw',q⟩;exact subscriptTail_builtinR (x:=w) pl.typeIs slot_tuple_getitem.lookup
  (getItem_tuple (j:=j) (Q:=fun r s'=>r=w/\EP X pins σ Q r s') pl (by lia) (by lia) (by rw[CU,<-hl];exact h1) (by simpa using ew) ⟨rfl,fin⟩) hs
theorem Kt:Gq X ZK:=by
 intro value slice pins s σ H x y v u Q I rx ry h hs;obtain⟨z,i,c,rfl,rfl,hz,he,q⟩:=h;obtain⟨t,rfl⟩:=rx;obtain⟨t',rfl⟩:=ry;obtain⟨j,h1,h2,h3,h4,h5⟩:=RT he;have hl:z.cps.toList.length=z.length:=by simp[Str.length]
 rw[hl] at h1 h4 h5;have hn:=MV;exact tail_any (KW s z t) slot_str_getitem.lookup (getItem_str (c:=c) (by have e1:decide (i< -(2^63:Int))=false:=BK (by lia);have e2:decide (i>=2^63)=false:=BK (by lia);rw[e1,e2,Bool.or_false]) (by rw[h1];simpa using h2) ⟨.str ⟨#[c]⟩,H,I.tok _,⟨_,rfl⟩,q⟩) hs
def nY(K:PySem.W.Frag):R2:=fun x y H Q=>Sr K x y H Q\/Ms K x y H Q\/ZK x y H Q
theorem aO(AM:List Value)(n j:Nat)(u:Value):Obj.mapSeq (·.setIfInBounds j u) {cls:=.type "list",data:=.seq AM.toArray n}={cls:=.type "list",data:=.seq (AM.set j u).toArray n}:=by simp[Obj.mapSeq]
theorem Inv.lst{X:Cx}{pins:List (Addr×Obj)}{σ:St}{H:Hp}{s:Shared}{p:Addr}{xs:List V}(I:Inv X pins σ H s)(h:H p=some (.lst xs)):
 ∃(AM:List Value)(n:Nat),Vals xs AM/\s.heap.get? p=some {cls:=.type "list",data:=.seq AM.toArray n}/\xs.length<=sizeLine:=by
 obtain⟨z,AM,n,r,e⟩:=I.hok p _ h;exact⟨AM,n,r,e,z⟩
end
variable{AM:List Value}
section
variable{a b:Expr}{tb:TE}{o:Expr}{es:List Expr}{to:TE}{t:TA}{id:String}
theorem Inv.jO{p:Addr}{xs:List V}{its':List Value}{n n':Nat}{f:Obj->Obj}(I:Inv X pins σ H s)(h:H p=some (.lst xs))
 (ho:s.heap.get? p=some {cls:=.type "list",data:=.seq AM.toArray n})(hf:f {cls:=.type "list",data:=.seq AM.toArray n}={cls:=.type "list",data:=.seq its'.toArray n'})(r:Vals ys its')(hz:ys.length<=sizeLine)(t:Nat):
 Inv X pins σ (upd H p (.lst ys)) {s with heap:=s.heap.update p f,toks:=t}:=by
 have e:(s.heap.update p f).get? p=some {cls:=.type "list",data:=.seq its'.toArray n'}:=by rw[IC f ho (by rw[hf]<;>rfl),hf]
 refine I.write (x:=p) (e:=p) (by rw[h];trivial) (.inl rfl) (fun b u hb q=>(Dc _ _ (C5 hb)).trans q) ⟨_,e⟩ ?_;exact⟨hz,its',n',r,e⟩
def j0:V->V->V->Hp->(Hp->Prop)->Prop:=fun o i v H Q=>∃p xs k j,o=.ref p/\i=.int k/\H p=some (.lst xs)/\J2 xs.length k=some j/\Q (upd H p (.lst (xs.set j v)))
theorem set_list:Y1 X j0:=by
 intro pins s σ H o i v ov iv u Q I ro ri rv h;obtain⟨p,xs,k,j,rfl,rfl,hp,hj,q⟩:=h;cases ro;obtain⟨t,rfl⟩:=ri;obtain⟨AM,n,r,ho,hz⟩:=I.lst hp;obtain⟨h1,h2,h3,h4⟩:=XA hj;have hl:=r.length;have hn:=MV;have I':Inv X pins σ (upd H p (.lst (xs.set j v))) {s with heap:=s.heap.update p (Obj.mapSeq (·.setIfInBounds j u))}:=
  I.jO hp ho (aO AM n j u) (r.set rv j) (by rw[List.length_set];exact hz) s.toks;by_cases h0:0<=k
 ·have hk:k.toNat=j:=by rw[seqIndex_of h0 h4] at h1;exact Ah h1
  exact ki_setAt ho h0 (by lia) (by rw[CU,<-hl];exact h4) (by rw[hk];exact⟨_,I',q⟩)
 ·have hk:(k+(AM.toArray.size:Int)).toNat=j:=by rw[seqIndex_neg (by lia) h3] at h1;rw[CU,<-hl];exact Ah h1
  exact ki_setBack ho (by lia) (by rw[CU,<-hl];exact h3) (by lia) (by rw[hk];exact⟨_,I',q⟩)
theorem Z3(lo hi:Option Int)(n:Nat):(sliceBounds lo hi none n).1=((A9 n 0 lo:Nat):Int)/\(sliceBounds lo hi none n).2.1=((A9 n n hi:Nat):Int)/\(sliceBounds lo hi none n).2.2=1:=by
 refine⟨?_,?_,rfl⟩
 ·cases lo with
  |none=>simp[sliceBounds,A9]
  |some i=>
   simp only[sliceBounds,A9,Option.getD_none,show(1:Int)>0 by decide,CG];by_cases h:i<0
   ·simp only[h,CG]<;>lia
   ·simp only[h,Bp]<;>lia
 ·cases hi with
  |none=>simp[sliceBounds,A9]
  |some i=>
   simp only[sliceBounds,A9,Option.getD_none,show(1:Int)>0 by decide,CG];by_cases h:i<0
   ·simp only[h,CG]<;>lia
   ·simp only[h,Bp]<;>lia
theorem Zz(AM:List Value)(lo hi:Option Int):slicePick AM.toArray lo hi none=((AM.drop (A9 AM.length 0 lo)).take (A9 AM.length AM.length hi-A9 AM.length 0 lo)).toArray:=by obtain⟨h1,h2,h3⟩:=Z3 lo hi AM.toArray.size;unfold slicePick;rw[h1,h2,h3];simp only[sliceRange_one,pick_run,CU]<;>rfl
def Y3(K:PySem.W.Frag):V->Option Int->Option Int->Hp->VK->Prop:=fun x lo hi H Q=>∃a xs,x=.ref a/\AN K H a xs/\∀p,H p=none->Q (.ref p) (upd H p (.lst (EA xs lo hi)))
theorem OW:LC X (Y3 X.K):=by intro pins s σ H x v vl vu lo hi sl Q I rx hs pl pu h;obtain⟨a,xs,rfl,hx,q⟩:=h;cases rx;obtain⟨AM,r,ht,hz⟩:=I.list hx;have hlen:=r.length;refine⟨"list",_,slot_list_getitem.lookup,ht.isList.typeIs,?_⟩;refine wpAny_getItem_list_slice ht.isList hs pl pu .none (by simp) ?_ (by rw[CU]<;>lia);rw[Zz,<-hlen];refine⟨.ref s.heap.objs.size,_,I.laid (t':=s.toks) (o:=.lst (EA xs lo hi)) (fun b ob q=>A7 _ q) (Ac _) ?_,rfl,q _ (I.hok.fresh (Ac _))⟩;exact⟨BI (UU xs lo hi) hz,_,0,(r.drop (A9 xs.length 0 lo)).take (A9 xs.length xs.length hi-A9 xs.length 0 lo),Bx _ rfl⟩
noncomputable def Ih:V->Bool
 |.A3=>true
 |.bl _=>true
 |.int _=>true
 |.str _=>true
 |_=>false
noncomputable def Ip:V->V->Bool
 |.A3,.A3=>true
 |.bl a,.bl b=>a==b
 |.bl a,.int b=>(if a then 1 else 0)==b
 |.int a,.bl b=>a==(if b then 1 else 0)
 |.int a,.int b=>a==b
 |.str a,.str b=>a==b
 |_,_=>false
theorem ij{x:V}{v:Value}(ry:RelV y u)(rx:RelV x v)(fy:Ih y=true)(fx:Ih x=true):SeqAt.EqAt A s u v (Ip y x):=by
 cases y with
 |A3=>
  cases ry
  cases x with
  |A3=>cases rx;exact SeqAt.EqAt.same _
  |bl b=>cases rx;exact SeqAt.EqAt.none_bool b
  |int b=>obtain⟨t,rfl⟩:=rx;exact SeqAt.EqAt.none_int b t
  |str b=>obtain⟨t,rfl⟩:=rx;exact SeqAt.EqAt.none_str b t
  |_=>exact absurd (show false=true from fx) CS
 |bl a=>
  cases ry
  cases x with
  |A3=>cases rx;exact SeqAt.EqAt.bool_none a
  |bl b=>cases rx;exact SeqAt.EqAt.bool_bool a b
  |int b=>obtain⟨t,rfl⟩:=rx;exact SeqAt.EqAt.bool_int a b t
  |str b=>obtain⟨t,rfl⟩:=rx;exact SeqAt.EqAt.bool_str a b t
  |_=>exact absurd (show false=true from fx) CS
 |int a=>
  obtain⟨t',rfl⟩:=ry
  cases x with
  |A3=>cases rx;exact SeqAt.EqAt.int_none a t'
  |bl b=>cases rx;exact SeqAt.EqAt.int_bool a t' b
  |int b=>obtain⟨t,rfl⟩:=rx;exact SeqAt.EqAt.int_int a t' b t
  |str b=>obtain⟨t,rfl⟩:=rx;exact SeqAt.EqAt.int_str a t' b t
  |_=>exact absurd (show false=true from fx) CS
 |str a=>
  obtain⟨t',rfl⟩:=ry
  cases x with
  |A3=>cases rx;exact SeqAt.EqAt.str_none a t'
  |bl b=>cases rx;exact SeqAt.EqAt.str_bool a t' b
  |int b=>obtain⟨t,rfl⟩:=rx;exact SeqAt.EqAt.str_int a t' b t
  |str b=>obtain⟨t,rfl⟩:=rx;exact SeqAt.EqAt.str_str a t' b t
  |_=>exact absurd (show false=true from fx) CS
 |_=>exact absurd (show false=true from fy) CS
def Ec(x:V)(u:Value):Bool:=match u with
 |.none=>Ip .A3 x
 |.bool b=>Ip (.bl b) x
 |.int i _=>Ip (.int i) x
 |.str z _=>Ip (.str z) x
 |_=>false
theorem Xq{x:V}(r:RelV y u)(f:Ih y=true):Ec x u=Ip y x:=by
 cases y with
 |A3=>cases r;rfl
 |bl b=>cases r;rfl
 |int i=>obtain⟨t,rfl⟩:=r;rfl
 |str z=>obtain⟨t,rfl⟩:=r;rfl
 |_=>exact absurd (show false=true from f) CS
theorem ML{x:V}:∀{xs:List V}{us:List Value},Vals xs us->xs.all Ih=true->us.any (Ec x)=xs.any fun y=>Ip y x
 |_,_,.nil,_=>rfl
 |y::xs,u::us,.cons r t,f=>by rw[KN,E2] at f;rw[Hg,Hg,Xq r f.1,ML t f.2]
theorem L9{A:Around}{s:Shared}{x:V}{v:Value}(rx:RelV x v)(fx:Ih x=true):∀{xs:List V}{us:List Value},Vals xs us->xs.all Ih=true->∀u∈us,SeqAt.EqAt A s u v (Ec x u)
 |_,_,.nil,_=>fun u hu=>by cases hu
 |y::xs,u::us,.cons r t,f=>fun u' hu=>by
  rw[KN,E2] at f;rcases Bk.mp hu with rfl|hu
  ·rw[Xq r f.1];exact ij r rx f.1 fx
  ·exact L9 rx fx t f.2 u' hu
def Fx(x:V)(xs:List V):Bool:=xs.any fun y=>Ip y x
def Te(K:PySem.W.Frag)(neg:Bool):R2:=fun x y H Q=>∃p xs,y=.ref p/\(AN K H p xs\/AY K H p xs)/\Ih x=true/\xs.all Ih=true/\Q (.bl (if neg then !Fx x xs else Fx x xs)) H
theorem cD:Bs X (compareOp .In) (Te X.K false):=by
 intro pins s σ H x y v u Q I rx ry h;obtain⟨p,xs,rfl,hq,fx,fs,q⟩:=h;cases ry;rcases hq with hq|hq
 ·obtain⟨AM,r,pl,hz⟩:=I.list hq;refine SeqAt.in_listAt (Ec x) pl.isList (fun w hw=>L9 rx fx r fs w (by simpa using hw)) ⟨.bl _,H,I,rfl,?_⟩;rw[show AM.toArray.any (Ec x)=AM.any (Ec x) by simp,ML r fs];exact q
 ·obtain⟨AM,r,pl,hz⟩:=I.tuple hq;refine SeqAt.in_tupleAt (Ec x) pl (fun w hw=>L9 rx fx r fs w (by simpa using hw)) ⟨.bl _,H,I,rfl,?_⟩;rw[show AM.toArray.any (Ec x)=AM.any (Ec x) by simp,ML r fs];exact q
theorem Z2:Bs X (compareOp .NotIn) (Te X.K true):=by
 intro pins s σ H x y v u Q I rx ry h;obtain⟨p,xs,rfl,hq,fx,fs,q⟩:=h;cases ry;rcases hq with hq|hq
 ·obtain⟨AM,r,pl,hz⟩:=I.list hq;refine SeqAt.notIn_listAt (Ec x) pl.isList (fun w hw=>L9 rx fx r fs w (by simpa using hw)) ⟨.bl _,H,I,rfl,?_⟩;rw[show AM.toArray.any (Ec x)=AM.any (Ec x) by simp,ML r fs];exact q
 ·obtain⟨AM,r,pl,hz⟩:=I.tuple hq;refine SeqAt.notIn_tupleAt (Ec x) pl (fun w hw=>L9 rx fx r fs w (by simpa using hw)) ⟨.bl _,H,I,rfl,?_⟩;rw[show AM.toArray.any (Ec x)=AM.any (Ec x) by simp,ML r fs];exact q
theorem Hh:C6 X (.builtin "len") (fun xs H Q=>∃p ys,xs=[.ref p]/\(AN X.K H p ys\/AY X.K H p ys)/\Q (.int ys.length) H):=by
 intro pins s σ H xs us Q I r h;obtain⟨p,ys,rfl,hq,q⟩:=h;obtain⟨u,rfl,rx⟩:=vals1 r;cases rx;have hn:=MV;rcases hq with hq|hq
 ·obtain⟨AM,r',pl,hz⟩:=I.list hq;have hlen:=r'.length;exact Calls.call_len_list pl.isList (by simp only[CU]<;>lia) ⟨.int ys.length,H,I.tok _,⟨s.toks+1,by rw[CU,hlen]⟩,q⟩
 ·obtain⟨AM,r',pl,hz⟩:=I.tuple hq;have hlen:=r'.length;exact len_tuple pl (by simp only[CU]<;>lia) ⟨.int ys.length,H,I.tok _,⟨s.toks+1,by rw[CU,hlen]⟩,q⟩
theorem Z4:C6 X (.type "list") (fun xs H Q=>∃p ys,xs=[.ref p]/\(AN X.K H p ys\/AY X.K H p ys)/\∀l,H l=none->Q (.ref l) (upd H l (.lst ys))):=by
 intro pins s σ H xs us Q I r h;obtain⟨p,ys,rfl,hq,q⟩:=h;obtain⟨u,rfl,rx⟩:=vals1 r;cases rx;have fin:∀(AM:List Value),Vals ys AM->ys.length<=sizeLine->∀(h':Heap)(c':Nat),(∀b o',s.heap.get? b=some o'->h'.get? b=some o')->
  h'.get? s.heap.objs.size=some {cls:=.type "list",dict:=none,data:=.seq AM.toArray c',slots:= #[]}->EP X pins σ Q (.ref s.heap.objs.size) {s with heap:=h'}:=fun AM r' hz h' c' kp e=>
  ⟨.ref s.heap.objs.size,_,I.laid (t':=s.toks) kp (Ac _) (show BL X.prog X.w _ h' _ (.lst ys) from⟨hz,AM,c',r',e⟩),rfl,q _ (I.hok.fresh (Ac _))⟩;rcases hq with hq|hq
 ·obtain⟨AM,r',pl,hz⟩:=I.list hq;have hlen:=r'.length;obtain⟨o,ho,hc,n,hd⟩:=pl.isList;exact call_list_seq p (.inl rfl) ho hc hd (fun h' c' kp e=>fin AM r' hz h' c' kp e) (by simp only[CU]<;>lia)
 ·obtain⟨AM,r',pl,hz⟩:=I.tuple hq;have hlen:=r'.length;obtain⟨o,ho,hc,n,hd⟩:=pl;exact call_list_seq p (.inr rfl) ho hc hd (fun h' c' kp e=>fin AM r' hz h' c' kp e) (by simp only[CU]<;>lia)
def M7(K:PySem.W.Frag)(T:String)(x:V)(H:Hp):Prop:=match x with
 |.str _=>T="str"
 |.int _=>T="int"
 |.ref p=>(T="list" /\∃xs,AN K H p xs)\/(T="tuple" /\∃o,K.lookup p=some o/\o.cls=.type "tuple" /\o.dict=none)\/
  (T="dict" /\((∃AA,H p=some (.dK AA))\/∃AA,H p=some (.dT AA)))\/(T="set" /\∃S n,H p=some (.set S n))
 |_=>False
theorem X2{x:V}{v:Value}(I:Inv X pins σ H s)(r:RelV x v)(ty:M7 X.K T x H):
 s.TypeIs v T/\∀a,v=.ref a->∃ob,s.heap.get? a=some ob/\ob.dict=none:=by
 cases x with
 |str z=>obtain⟨t,rfl⟩:=r;cases(show T="str" from ty);exact⟨KW s z t,fun _ e=>nomatch e⟩
 |int i=>obtain⟨t,rfl⟩:=r;cases(show T="int" from ty);exact⟨typeIs_int s i t,fun _ e=>nomatch e⟩
 |ref p=>
  cases r;rcases ty with⟨rfl,xs,hq⟩|⟨rfl,o,hk,hc,hd⟩|⟨rfl,hk⟩|⟨rfl,S,n,hk⟩
  ·obtain⟨AM,_,pl,_⟩:=I.list hq;refine⟨pl.isList.typeIs,fun a e=>?_⟩;cases e;obtain⟨o,n,e,c,hd,_⟩:=pl;exact⟨o,e,hd⟩
  ·refine⟨⟨o,I.BP p o hk,hc⟩,fun a e=>?_⟩;cases e;exact⟨o,I.BP _ o hk,hd⟩
  ·have z:∃o,s.heap.get? p=some o/\o.ExactDict:=by
    rcases hk with⟨AA,hk⟩|⟨AA,hk⟩
    ·obtain⟨_,_,_,_,o,_,_,e,ex,_⟩:=I.hok p _ hk;exact⟨o,e,ex⟩
    ·obtain⟨_,_,_,_,o,_,_,e,ex,_⟩:=I.hok p _ hk;exact⟨o,e,ex⟩
   obtain⟨o,e,ex⟩:=z;refine⟨⟨o,e,ex.1⟩,fun a e2=>?_⟩;cases e2;exact⟨o,e,ex.2.1⟩
  ·obtain⟨o,_,_,_,e,ex,_⟩:=I.hok p _ hk;refine⟨⟨o,e,ex.1⟩,fun a e2=>?_⟩;cases e2;exact⟨o,e,ex.2.1⟩
 |_=>exact False.elim ty
def ZD(K:PySem.W.Frag)(T:String)(r:V->List V->Hp->VK->Prop)(to:TE):TE:=fun σ H Q=>to σ H fun x H1=>M7 K T x H1/\r x [] H1 Q
def TV(K:PySem.W.Frag)(T:String)(r:V->List V->Hp->VK->Prop)(to:TE)(t:TA):TE:=fun σ H Q=>to σ H fun x H1=>M7 K T x H1/\t σ H1 fun xs H2=>r x xs H2 Q
end
variable{cpos:Pos}
section
variable{a b:Expr}{tb:TE}{o:Expr}{es:List Expr}{to:TE}{t:TA}{id:String}
theorem Mb(pa:PlainAttrs T)(slot:Slot T name id)(hty:typeOf (.builtin id)=pure (.type "method_descriptor"))(hm:NA X id r)(ho:PE X o to)
 (hbase:attributeBase o name X.env (eval o X.env)=eval o X.env:=by rfl)(hline:(apos.endLine==cpos.line)=true:=by rfl):PE X (.Call (.Attribute o name apos) [] [] cpos) (ZD X.K T r to):=by
 intro pins s σ H Q I h;refine wpAny_Call_method0_late hbase hline (Ae (ho pins s σ H _ I h) fun v s1 ⟨x,H1,I1,r1,ty,q1⟩=>?_);obtain⟨h1,h2⟩:=X2 I1 r1 ty;exact⟨T,id,pa,slot,hty,h1,h2,P5 rfl (PySem.evalArgs_none (hm pins s1 σ H1 x [] v [] Q I1 r1 .nil q1))⟩
theorem Ht(pa:PlainAttrs T)(slot:Slot T name id)(hty:typeOf (.builtin id)=pure (.type "method_descriptor"))(hm:NA X id r)(ho:PE X o to)(ha:PA X (e::es) t)
 (hbase:attributeBase o name X.env (eval o X.env)=eval o X.env:=by rfl)
 (hfew:((backTo cpos (starEach (e::es) X.env)).all (fun x=> !x.1)&&(backToKw cpos (keywordEach [] X.env)).all (fun x=>x.1.isSome)
  &&decide ((e::es).length+([]:List Keyword).length+(if([]:List Keyword).isEmpty then 0 else 1)<30))=true:=by rfl)
 (hline:(apos.endLine==cpos.line)=true:=by rfl)(hs:starEach (e::es) X.env=(false,eval e X.env)::starEach es X.env:=by rfl)(hplain:(backTo cpos (starEach es X.env)).any (·.1)=false:=by rfl):
 PE X (.Call (.Attribute o name apos) (e::es) [] cpos) (TV X.K T r to t):=by
 intro pins s σ H Q I h;refine wpAny_Call_method_late hbase hfew hline rfl (Ae (ho pins s σ H _ I h) fun v s1 ⟨x,H1,I1,r1,ty,q1⟩=>?_);obtain⟨h1,h2⟩:=X2 I1 r1 ty;refine⟨T,id,pa,slot,hty,h1,h2,?_⟩;have hA:=ha cpos pins s1 σ H1 _ I1 q1;rw[hs] at hA⊢;refine P5 (by show(false||(backTo cpos (starEach es X.env)).any (·.1))=false;rw[hplain]<;>rfl) (T6 ?_);exact Ae hA fun us s2 ⟨vs,H2,I2,r2,q2⟩=>hm pins s2 σ H2 x vs v us Q I2 r1 r2 q2
end
def HX(X:Cx)(id:String)(r:V->List V->Hp->VK->Prop):Prop:=
 ∀(pins:List (Addr×Obj))(s:Shared)(σ:St)(H:Hp)(x:V)(xs:List V)(v:Value)(us:List Value)(Q:VK),Inv X pins σ H s->RelV x v->Vals xs us->r x xs H Q->
  wpAny (model X.prog X.w) X.A (call (.builtin id) (v::us)) (EP X pins σ Q) X.xe s
theorem Vals.one{x:V}(h:Vals [x] us):∃u,us=[u]/\RelV x u:=by
 cases h with
 |cons r t=>cases t;exact⟨_,rfl,r⟩
theorem Vals.two{x:V}(h:Vals [x,y] us):∃u v,us=[u,v]/\RelV x u/\RelV y v:=by
 cases h with
 |cons r t=>obtain⟨_,rfl,q⟩:=Vals.one t;exact⟨_,_,rfl,r,q⟩
theorem Vals.zero:∀{us:List Value},Vals [] us->us=[]
 |_,.nil=>rfl
theorem Vals.dropLast{xs:List V}(h:Vals xs us):Vals xs.dropLast us.dropLast:=by
 induction h with
 |nil=>exact .nil
 |cons r t ih=>
  cases t with
  |nil=>exact .nil
  |cons q t'=>exact .cons r ih
theorem bF(l:List α):l.eraseIdx (l.length-1)=l.dropLast:=by
 induction l with
 |nil=>rfl
 |cons a r ih=>
  cases r with
  |nil=>rfl
  |cons b r=>
   have e:(a::b::r).length-1=((b::r).length-1)+1:=by
    have h1:(a::b::r).length=r.length+2:=rfl;have h2:(b::r).length=r.length+1:=rfl
    lia
   rw[e,List.eraseIdx_cons_succ,ih];all_goals rfl
section
variable{l:Addr}{xs zs:List V}
theorem Inv.S3{its':List Value}{n:Nat}{f:Array Value->Array Value}(I:Inv X pins σ H s)(hH:H l=some (.lst xs))
 (e:s.heap.get? l=some {cls:=.type "list",data:=.seq AM.toArray n})(hf:f AM.toArray=its'.toArray)(hv:Vals ys its')(hz:ys.length<=sizeLine):
 Inv X pins σ (upd H l (.lst ys)) {s with heap:=s.heap.update l (Obj.mapSeq f),toks:=t'}:=by
 have q:=PySem.IsL.update e f;rw[hf] at q;refine I.write (x:=l) (e:=l) (by rw[hH];exact trivial) (.inl rfl) (fun b' u hb hu=>(Dc s.heap (Obj.mapSeq f) (C5 hb)).trans hu) ⟨_,q⟩ ?_;exact⟨hz,its',_,hv,q⟩
theorem Inv.S1(I:Inv X pins σ H s)(hv:Vals ys AM)(hz:ys.length<=sizeLine):
 Inv X pins σ (upd H s.heap.objs.size (.lst ys)) {s with heap:=s.heap.push {cls:=.type "list",data:=.seq AM.toArray},toks:=t'}:=
 I.laid (fun _ _ q=>A7 _ q) (Ac _) ⟨hz,AM,0,hv,Bx _ rfl⟩
theorem Inv.fresh(I:Inv X pins σ H s):H s.heap.objs.size=none:=I.hok.fresh (Ac _)
theorem Inv.Jv(I:Inv X pins σ H s)(hH:H l=some (.lst xs)):xs.length<=sizeLine/\∃(AM:List Value)(n:Nat),Vals xs AM/\xs.length=AM.length/\s.heap.get? l=some {cls:=.type "list",data:=.seq AM.toArray n}:=by obtain⟨z,AM,n,r,e⟩:=I.hok l _ hH;exact⟨z,AM,n,r,r.length,e⟩
theorem dJ{n:Nat}(h:n<=sizeLine):Builtin.List.listTooLong n=false:=by unfold Builtin.List.listTooLong;exact BK (by lia)
end
def gU:V->List V->Hp->VK->Prop:=fun x vs H Q=>∃l xs y,x=.ref l/\vs=[y]/\H l=some (.lst xs)/\xs.length<sizeLine/\Q .A3 (upd H l (.lst (xs++[y])))
theorem Ef:HX X "list.append" gU:=by
 intro pins s σ H x vs v us Q I rx rv h;obtain⟨l,xs,y,rfl,rfl,hH,hz,q⟩:=h;cases rx;obtain⟨u,rfl,ru⟩:=rv.one;obtain⟨z,AM,n,r,hl,e⟩:=I.Jv hH;refine JH F.slot_list_append ⟨_,e,rfl⟩ F.entry_list_append (F.args_list_append_2 _ _) (PySem.list_append l AM.toArray n u (by rw[CU];lia)) ⟨e,?_⟩;refine⟨.A3,_,I.S3 (its':=AM++[u]) hH e (by simp) (r.append (.cons ru .nil)) ?_,rfl,q⟩;rw[BC,EK]
 lia
def h9:V->List V->Hp->VK->Prop:=fun x vs H Q=>∃l b xs zs,x=.ref l/\vs=[.ref b]/\H l=some (.lst xs)/\H b=some (.lst zs)/\xs.length+zs.length<=sizeLine/\Q .A3 (upd H l (.lst (xs++zs)))
theorem bU:HX X "list.extend" h9:=by
 intro pins s σ H x vs v us Q I rx rv h;obtain⟨l,b,xs,zs,rfl,rfl,hH,hB,hz,q⟩:=h;cases rx;obtain⟨u,rfl,ru⟩:=rv.one;cases ru;obtain⟨z,AM,n,r,hl,e⟩:=I.Jv hH;obtain⟨z2,its2,n2,r2,hl2,e2⟩:=I.Jv hB;have hsz:AM.toArray.size+its2.toArray.size<=sizeLine:=by rw[CU,CU];lia
 have hlong:¬(!AM.toArray.isEmpty&&Builtin.List.listTooLong (AM.toArray.size+its2.toArray.size))=true:=by rw[dJ hsz,KJ];exact CS
 refine JH F.slot_list_extend ⟨_,e,rfl⟩ F.entry_list_extend (F.args_list_extend_2 _ _)
  (AutoSeq1.list_extend_list_list_0 l AM.toArray n b its2.toArray n2 hlong (by rw[CU];lia) (by lia)) ⟨e,e2,?_⟩;refine⟨.A3,_,I.S3 (its':=AM++its2) hH e (by simp) (r.append r2) ?_,rfl,q⟩;rw[BC]
 lia
def mC:V->List V->Hp->VK->Prop:=fun x vs H Q=>∃l xs y,x=.ref l/\vs=[]/\H l=some (.lst xs)/\xs[xs.length-1]? =some y/\Q y (upd H l (.lst xs.dropLast))
theorem jW:HX X "list.pop" mC:=by
 intro pins s σ H x vs v us Q I rx rv h;obtain⟨l,xs,y,rfl,rfl,hH,hy,q⟩:=h;cases rx;have hus:=rv.zero;subst hus;obtain⟨z,AM,n,r,hl,e⟩:=I.Jv hH;obtain⟨u,hu,ru⟩:=r.get hy;have hy':AM.toArray[AM.toArray.size-1]? =some u:=by show AM.toArray[AM.length-1]? =some u;rw[<-Fb,<-hl];exact hu
 refine JH F.slot_list_pop ⟨_,e,rfl⟩ F.entry_list_pop (F.args_list_pop_1 _) (MeetsSeq.list_pop_last l AM.toArray n u hy' (by rw[CU];lia)) ⟨e,?_⟩;refine⟨y,_,I.S3 (its':=AM.dropLast) hH e ?_ r.dropLast ?_,ru,q⟩
 ·show AM.toArray.eraseIdxIfInBounds (AM.toArray.size-1)=AM.dropLast.toArray;rw[CU,List.eraseIdxIfInBounds_toArray,bF]
 ·rw[List.length_dropLast]
  lia
def lT:R2:=fun x y H Q=>∃l b xs zs,x=.ref l/\y=.ref b/\H l=some (.lst xs)/\H b=some (.lst zs)/\xs.length+zs.length<=sizeLine/\∀p,H p=none->Q (.ref p) (upd H p (.lst (xs++zs)))
theorem Kp:Bs X (binaryOp .Add) lT:=by
 intro pins s σ H x y v u Q I rx ry h;obtain⟨l,b,xs,zs,rfl,rfl,hH,hB,hz,q⟩:=h;cases rx;cases ry;obtain⟨z,AM,n,r,hl,e⟩:=I.Jv hH;obtain⟨z2,its2,n2,r2,hl2,e2⟩:=I.Jv hB;refine PySem.P.add_list e e2 ?_ (by rw[CU,CU];lia);have ea:AM.toArray++its2.toArray=(AM++its2).toArray:=by simp
 rw[ea];exact⟨.ref _,_,I.S1 (t':=s.toks) (r.append r2) (by rw[BC];lia),rfl,q _ I.fresh⟩
section
open PySem.W PySem.Calls
theorem Zu{P:Params}:∀(ns:List Int)(vs:List Value),WellAll P h vs (ns.map WData.int)->IntsAre vs ns:=by
 intro ns
 induction ns with
 |nil=>intro vs w;rw[KQ] at w;cases w;exact .nil
 |cons n ns ih=>
  intro vs w;rw[Au] at w
  cases w with
  |cons a b=>cases a;exact .cons _ _ (ih _ b)
theorem cq{l:OpenLaw}{n:Nat}(hn:l.most=some n){P:Params}{args:List WData}{vals:List Value}
 (hpre:l.row.toRowW.claim.pre args=true)(hwl:WellAll P h vals args):
 ∃a vs ns,vals=[Value.ref a]/\args=[WData.list (ns.map WData.int)]/\h.get? a=some {cls:=.type "list",data:=.seq vs.toArray}/\IntsAre vs ns/\ns.length<=n:=by
 have hsh:WShape.hasAll [] args [.list .int]=true:=(pre_splitW hpre).1;have hc:l.pre.holds [] {args:=args}=true:=(pre_splitW hpre).2;obtain⟨d,r,rfl,h1,h2⟩:=hasAllW_cons hsh;obtain rfl:=hasAllW_nil h2;obtain⟨xs,rfl,h3⟩:=hasW_list h1;obtain⟨ns,rfl⟩:=items_int h3;have hlen:ns.length<=n:=by
  unfold OpenLaw.pre at hc;have h4:(WTm.not (.lt (.lit (.int (n:Int))) (.len (.arg 0)))).holds [] {args:=[.list (ns.map .int)]}=true:=by have h4:=(holds_andW hc).1;rw[hn] at h4;exact h4
  have h5:=condW_of h4 (w_not (w_lt w_lit (w_len_list (w_arg rfl))));rw[AL] at h5;refine Nd fun q=>?_;have q':(n:Int)<((ns.length:Nat):Int):=by lia
  first
   |(rw[Bj q'] at h5;exact absurd h5 (by decide))
   |(simp at h5;lia)
 cases hwl with
 |cons w1 w2=>
  cases w2
  cases w1 with
  |list ho hall=>exact⟨_,_,ns,rfl,rfl,ho,Zu ns _ hall,hlen⟩
theorem cP(l:OpenLaw)(args:List WData):l.row.toRowW.claim.post args (.bool true) args=true:=
 postW_of (r:=l.row.toRowW) (X:=(true==true))
  (show WShape.has [] (.bool true) .bool=true by first|rfl|decide|simp[WShape.has,WShape.arms,WShape.armsAll])
  (show(WTm.eq .res (.lit (.bool true))).value [] {args:=args,res:=some (.bool true),after:=args}=some (.bool (true==true)) from w_eq_bool (w_res rfl) w_lit) rfl
end
variable{XP:(Str->Option Value)->Heap->Prop}
section
open PySem.W PySem.Calls
theorem aH{l:OpenLaw}{n:Nat}{q:Program}{loose:List Str}{YP:World->Heap->Prop}{d:DefRec}
 (hn:l.most=some n)(hdf:d.params.defaults=[])
 (call:∀(w:World)(s₀ s₁:Shared)(mg mb:Str->Option Value)(fa:Addr)(o:Obj)(pm cd doc:Value)(a:Addr)(vs:List Value)(ns:List Int),
  Ground q loose [] XP w s₀ mg mb s₁.heap->YP w s₁.heap->
  s₁.heap.get? fa=some o->o.data=.func (docDef d.name d.params d.body d.scope pm cd doc)->s₁.heap.CodeRec cd d.name->mg d.name=some (.ref fa)->
  s₁.heap.get? a=some {cls:=.type "list",data:=.seq vs.toArray}->IntsAre vs ns->ns.length<=n->s₁.gens= #[]->
  codeAny (model l.prog w) callerA (.call (.ref fa) ⟨[.ref a],[]⟩) (fun r s'=>r=.ok (.ret (.bool true))/\OldK s₁.heap s'.heap/\s'.os=s₁.os/\AllBare s'.gens) s₁):
 WalkO q loose XP YP l.row.toRowW d [] (fun f vs=>PySem.call f vs):=by
 intro w s₀ s₁ mg mb G Y fa o pm cd doc dV kV ho hd hcd hD hmg hg args vals as hpre hlay hrd hwl hlo;obtain rfl:dV=.none:=Dflts.none hD hdf;obtain rfl:kV=.none:=Dflts.noKw hD;obtain⟨a,vs,ns,rfl,rfl,hobj,hints,hlen⟩:=cq hn hpre hwl;refine enter_call (KP (call w s₀ s₁ mg mb fa o pm cd doc a vs ns G Y ho (fd_plain hd) hcd hmg hobj hints hlen hg) fun r s' hq=>?_);obtain⟨rfl,h2,h3,h4⟩:=hq;exact⟨.inl ⟨.bool true,.bool true,[],rfl,fun _=>rfl,.bool true,cP l _,fun _=>⟨List.Pairwise.nil,fun _ hm=>(nomatch hm)⟩⟩,h2,h3,h4⟩
end
theorem Uz:∀{vs:List Value}{ns:List Int},IntsAre vs ns->Vals (ns.map V.int) vs
 |_,_,.nil=>.nil
 |_,_,.cons n t h=>.cons ⟨t,rfl⟩ (Uz h)
def Sq(H:Hp):Prop:=∀b,H b=none\/∃o xs,H b=some (.BO o (.lst xs))
variable{ns:List Int}
theorem eL{mb:Str->Option Value}{fa:Addr}{s₁:Shared}{vs:List Value}
 (KX:K.In s₁.heap)(hns:s₁.heap.Ns mainGlobals mg)(hb:s₁.heap.Ns builtinsNs mb)(hbb:∀x:Str,x≠ "__name__" ->mb x=bootBuiltins x)(hlim:s₁.heap.NoLimit)(hg:s₁.gens= #[])
 (ha:s₁.heap.get? a=some {cls:=.type "list",data:=.seq vs.toArray})(hi:IntsAre vs ns)(hl:ns.length<=sizeLine)(hr:Br k callerA)
 (F:∀base:Heap,K.In base->base.Ns mainGlobals mg->AU P w K mg base CX k fa fd [x] sp)(hbind:∀(s:Shared)(u:Value),BindsTo s fd ⟨[u],[]⟩ [(x,u)])
 (hsp:∀H:Hp,Sq H->AN K H a (ns.map V.int)->sp [.ref a] H (fun v _=>v=.bl true) fun _ _ _=>False)
 (hCX:∀H e s',CX [] H s₁ (fun _ _ _=>False) e s'->False):
 codeAny (model P w) callerA (.call (.ref fa) ⟨[.ref a],[]⟩) (fun r s'=>r=.ok (.ret (.bool true))/\OldK s₁.heap s'.heap/\s'.os=s₁.os/\AllBare s'.gens) s₁:=by
 have rv:=Uz hi;have lenV:=hi.length;have core:∀H:Hp,Sq H->AN K H a (ns.map V.int)->Bt P w H s₁.heap->(∀b,H b≠none->b=a)->(H a≠none->K.lookup a=none)->
  codeAny (model P w) callerA (.call (.ref fa) ⟨[.ref a],[]⟩) (fun r s'=>r=.ok (.ret (.bool true))/\OldK s₁.heap s'.heap/\s'.os=s₁.os/\AllBare s'.gens) s₁:=by
  intro H hO hS hok hA hK;have base_of:∀{b:Addr}{o:Obj},s₁.heap.get? b=some o->H b=none->(Hw s₁.heap H).get? b=some o:=fun e n=>fM e n;have Iq:∀{b:Addr}{o:Obj}{es:Array DictEntry}{ep:Nat},s₁.heap.get? b=some o->o.data=.dict es ep->H b=none:=fun{b o es ep} e d=>by
   cases q:H b with
   |none=>rfl
   |some u=>have e':b=a:=hA b (by rw[q];simp);subst e';rw[ha] at e;cases e;have d':Data.seq vs.toArray _=Data.dict es ep:=d;cases d'
  have nsK:∀{b:Addr}{m:Str->Option Value},s₁.heap.Ns b m->(Hw s₁.heap H).Ns b m:=fun{b m} ⟨o,es,ep,e,d,r⟩=>⟨o,es,ep,base_of e (Iq e d),d,r⟩;have hKb:K.In (Hw s₁.heap H):=fun b o e=>base_of (KX b o e) (by
   cases q:H b with
   |none=>rfl
   |some u=>have e':b=a:=hA b (by rw[q];simp);subst e';rw[hK (by rw[q];simp)] at e;cases e);have hM:Mod K mg (Hw s₁.heap H):=⟨hKb,nsK hns,⟨mb,nsK hb,hbb⟩,let⟨mc,h1,h2⟩:=hlim;⟨mc,nsK h1,h2⟩⟩;have e0:Jq P w K mg (Hw s₁.heap H) callerA [] s₁ H:=⟨rfl,hM,fun b o e=>fk e,Nat.le_of_eq (bz _ _),trivial,fun b hb=>absurd (show b∈([]:List Addr) from hb) (by simp),hok,.of_eq hg⟩;refine KP ((F _ hKb (nsK hns)).run callerA [] s₁ H ⟨[.ref a],[]⟩ [.ref a] [.ref a] _ _ hr e0 (hbind s₁ (.ref a)) (.cons rfl .nil) (hsp H hO hS)) fun r s' h=>?_
  cases r with
  |error e=>exact(hCX H e s' h).elim
  |ok fl=>
   cases fl with
   |next=>exact False.elim h
   |brk=>exact False.elim h
   |cont=>exact False.elim h
   |ret u=>
    obtain⟨v,H',os,bare,un,hok',r',q⟩:=h;have q':v=.bl true:=q;subst q';obtain rfl:u=Value.bool true:=r';refine⟨rfl,OldK.of_keep fun b o e=>?_,os,bare⟩
    cases q:H b with
    |none=>exact un.keep b o e q (by intro z;exact absurd (show b∈([]:List Addr) from z) (by simp)) (by simp)
    |some u=>
     rcases hO b with z|⟨ob,xs,z⟩
     ·rw[q] at z;cases z
     ·have z2:=un.Dk b ob _ z;obtain⟨e1,_⟩:=hok b _ z;obtain⟨e2,_⟩:=hok' b _ z2;rw[e] at e1;cases e1;exact e2
 cases hk:K.lookup a with
 |some o=>have e:=KX a o hk;rw[ha] at e;cases e;refine core (fun _=>none) (fun _=>.inl rfl) (.inr ⟨_,vs.toArray,_,hk,rfl,rfl,rfl,by rw[CU,lenV];exact hl,by simpa using rv⟩) (fun b u z=>by have z':(none:Option HO)=some u:=z;cases z') (fun b z=>absurd rfl z) fun z=>absurd rfl z
 |none=>
  refine core (fun b=>if b=a then some (.BO {cls:=.type "list",data:=.seq vs.toArray} (.lst (ns.map V.int))) else none) (fun b=>?_) (.inl (.inr ⟨{cls:=.type "list",data:=.seq vs.toArray},AH rfl⟩)) (fun b u z=>?_) (fun b z=>?_) fun _=>hk
  ·by_cases hb:b=a
   ·exact .inr ⟨_,_,AH hb⟩
   ·exact .inl (AG hb)
  ·by_cases hb:b=a
   ·have z':=(AH hb).symm.trans z;cases z';subst hb;exact⟨ha,by rw[AL];exact hl,vs,_,rv,ha⟩
   ·have z':=(AG hb).symm.trans z;cases z'
  ·by_cases hb:b=a
   ·exact hb
   ·exact absurd (AG hb) z
abbrev Aa:Iy:=fun _ _ _ _ _ _=>False
abbrev E0:XK:=fun _ _ _=>False
theorem BB:Passes Aa X E0:=fun _ _ _ _ _ _ _ h=>h.elim
structure Ab(K:PySem.W.Frag)(x qual:Str)(st:Stmt)(f:Addr)(fd:FuncData):Prop where
 ex:∃(oc:Value)(od:Option Addr)(kV doc pm:Value)(an:Option Addr)(cdv ct:Value)(osl:Array (Option Value)),
  fd=fnOf x qual (JP st) (Ft st) (Ao st) .none kV doc pm an cdv ct/\K.lookup f=some ⟨oc,od,.func fd,osl⟩/\codeIn K cdv qual=true
 kp:keepIn K (.ref f)=true
theorem Ab.ok{st:Stmt}(F:Ab K x qual st f fd)(S:A0 N ps (Ao st))(len:∀vs H Q E,sp vs H Q E->vs.length=ps.length)
 (hbody:∀(cdv:Value)(A:Around)(outer:List Env)(s:Shared)(H:Hp)(vs:List V)(Q:VK)(E:XK),Br k (A.deeper (envOfC qual (Ao st) s.heap.objs.size f cdv))->sp vs H Q E->
  ∃t,EE (Ij Aa P w K mg base N qual (Ao st) f cdv A outer s H E).Pj (Ft st) t/\t {nx:=fun _ H'=>Q .A3 H',rt:=Q} (start N vs) H):AU P w K mg base Aa (k+1) f fd ps sp:=by
 obtain⟨oc,od,kV,doc,pm,an,cdv,ct,osl,rfl,lk,hcd⟩:=F.ex;refine Yj lk hcd S len fun A outer s H vs Q E hr hsp=>?_;obtain⟨t,h,q⟩:=hbody cdv A outer s H vs Q E hr hsp;exact⟨t,h.Pj,q⟩
theorem Ab.binds{st:Stmt}(F:Ab K x qual st f fd)
 (h:∀(kV doc pm:Value)(an:Option Addr)(cdv ct:Value)(us:List Value),us.length=ps.length->bindArgs (fnOf x qual (JP st) (Ft st) (Ao st) .none kV doc pm an cdv ct) ⟨us,[]⟩=pure (ps.zip us)):Binds K fd ps []:=by
 obtain⟨oc,od,kV,doc,pm,an,cdv,ct,osl,rfl,lk,hcd⟩:=F.ex;exact .all (h kV doc pm an cdv ct)
theorem iZ{st:Stmt}{oc:Value}{an:Option Addr}{kV doc pm cdv ct:Value}(l:K.lookup f=some ⟨oc,od,.func (fnOf x qual (JP st) (Ft st) (Ao st) .none kV doc pm an cdv ct),osl⟩)
 (c:codeIn K cdv qual=true)(k:keepIn K (.ref f)=true):Ab K x qual st f (fnOf x qual (JP st) (Ft st) (Ao st) .none kV doc pm an cdv ct):=⟨⟨oc,od,kV,doc,pm,an,cdv,ct,osl,rfl,l,c⟩,k⟩
theorem Ce(hr:Br k A):A.units+1<cLine:=Nat.lt_of_le_of_lt (Nat.add_le_add_left (by decide:1<=64) _) hr.units
theorem pv(i:Nat)(hN:X.N[i]? =some x:=by rfl)(hv:Px X.env.scope x:=by first|exact Ad rfl|exact Co (Ad rfl)|exact Co (Co rfl))(hd:(x==("__debug__" :Str))=false:=by decide)
 (hcd:(x==("__classdict__" :Str))=false:=by decide):PE X (.Name x pos) (D9 i):=XT hN hv hd hcd
variable{B:Prop}
theorem BM{A:Prop}(h:B):if false=true then A else B:=by rw[AG CS];exact h
theorem Bf{A:Prop}(h:A):if true=true then A else B:=by rw[AH rfl];exact h
theorem FH{c A:Prop}[Decidable c](h1:c->A)(h2:¬c->B):if c then A else B:=by
 by_cases h:c
 ·rw[AH h];exact h1 h
 ·rw[AG h];exact h2 h
theorem D5{c A:Prop}[Decidable c](hc:c)(h:B):if(!decide c)=true then A else B:=by rw[Bj hc];exact BM h
def AS(H H':Hp):Prop:=∀b o,H b=some o->H' b=some o
theorem AS.refl(H:Hp):AS H H:=fun _ _ h=>h
variable{H2:Hp}
theorem AS.trans(a:AS H H1)(b:AS H1 H2):AS H H2:=fun c o h=>b c o (a c o h)
theorem AS.free(e:AS H H'){l:Addr}(h:H' l=Option.none):H l=Option.none:=by
 cases q:H l with
 |none=>rfl
 |some o=>rw[e l o q] at h;cases h
theorem AS.seq{xs:List V}(e:AS H H')(h:AN K H a xs):AN K H' a xs:=by
 rcases h with(h|⟨o,h⟩)|h
 ·exact .inl (.inl (e _ _ h))
 ·exact .inl (.inr ⟨o,e _ _ h⟩)
 ·exact .inr h
section
variable{κ:Type}[DecidableEq κ]
noncomputable def Be(AA:List (κ×V))(k:κ):Option V:=(AA.find? fun kv=>decide (kv.1=k)).map (·.2)
noncomputable def putK(AA:List (κ×V))(k:κ)(v:V):List (κ×V):=
 if(AA.any fun kv=>decide (kv.1=k))=true then AA.map (fun kv=>if kv.1=k then(kv.1,v) else kv) else AA++[(k,v)]
noncomputable def Ie(AA:List (κ×V))(k:κ):List (κ×V):=AA.filter fun kv=>decide (kv.1≠k)
theorem Fj{p:κ×V}{r:List (κ×V)}{k:κ}(e:p.1=k):Be (p::r) k=some p.2:=by simp[Be,Cw,e]
theorem Fi{p:κ×V}{r:List (κ×V)}{k:κ}(e:¬p.1=k):Be (p::r) k=Be r k:=by simp[Be,Cw,e]
theorem OD(k:κ):∀AA:List (κ×V),(AA.any fun kv=>decide (kv.1=k))=(Be AA k).isSome
 |[]=>rfl
 |p::r=>by
  rw[Hg];by_cases e:p.1=k
  ·simp only[Fj e,Bj e,Bool.true_or,Option.isSome_some]
  ·rw[Fi e,BK e,Qo];exact OD k r
theorem V9(k j:κ)(y:V):∀AA:List (κ×V),Be (AA.map fun kv=>if kv.1=k then(kv.1,y) else kv) j=(Be AA j).map fun x=>if j=k then y else x
 |[]=>rfl
 |p::r=>by
  have ih:=V9 k j y r;rw[Au];by_cases h:p.1=k
  ·rw[AH h];by_cases e:p.1=j
   ·rw[Fj (p:=(p.1,y)) e,Fj e,Ni,AH (e.symm.trans h)]
   ·rw[Fi (p:=(p.1,y)) e,Fi e,ih]
  ·rw[AG h];by_cases e:p.1=j
   ·rw[Fj (p:=p) e,Fj e,Ni,AG (fun z=>h (e.trans z))]
   ·rw[Fi (p:=p) e,Fi e,ih]
theorem VF(k j:κ)(y:V):∀AA:List (κ×V),Be AA k=none->Be (AA++[(k,y)]) j=if j=k then some y else Be AA j
 |[],_=>by
  by_cases e:k=j
  ·rw[AH e.symm];exact Fj (p:=(k,y)) e
  ·rw[AG (fun z=>e z.symm)];exact Fi (p:=(k,y)) e
 |p::r,hn=>by
  rw[Nf];have hk:¬p.1=k:=fun z=>by rw[Fj z] at hn;cases hn
  rw[Fi hk] at hn;have ih:=VF k j y r hn;by_cases e:p.1=j
  ·rw[Fj e,Fj e,AG (fun z=>hk (e.trans z))]
  ·rw[Fi e,Fi e,ih]
theorem dY(AA:List (κ×V))(k j:κ)(y:V):Be (putK AA k y) j=if j=k then some y else Be AA j:=by
 unfold putK;by_cases a:(AA.any fun kv=>decide (kv.1=k))=true
 ·rw[AH a,V9];rw[OD] at a;by_cases e:j=k
  ·obtain⟨x,hx⟩:=Option.isSome_iff_exists.mp a;rw[AH e,e,hx,Ni,AH rfl]
  ·rw[AG e]
   cases Be AA j with
   |none=>rfl
   |some x=>rw[Ni,AG e]
 ·rw[AG a];refine VF k j y AA ?_;rw[OD] at a
  cases q:Be AA k with
  |none=>rfl
  |some x=>rw[q] at a;exact(a rfl).elim
theorem Nz(AA:List (κ×V))(k:κ)(v:V):(putK AA k v).length<=AA.length+1:=by
 unfold putK;split
 ·rw[AL];lia
 ·rw[BC,CV,KG];lia
theorem DN.Lz{o:Option V}{u:Option Value}(r:DN o u):o.isSome=u.isSome:=by
 cases o with
 |none=>cases u with
  |none=>rfl
  |some _=>exact(show False from r).elim
 |some _=>cases u with
  |none=>exact(show False from r).elim
  |some _=>rfl
theorem DN.getD{o:Option V}{u:Option Value}{d:V}{d':Value}(r:DN o u)(rd:RelV d d'):RelV (o.getD d) (u.getD d'):=by
 cases o with
 |none=>cases u with
  |none=>exact rd
  |some _=>exact(show False from r).elim
 |some _=>cases u with
  |none=>exact(show False from r).elim
  |some _=>exact r
theorem KV.val{AA:List (κ×V)}{vs:List (κ×Value)}(r:KV AA vs)(k:κ):DN (Be AA k) (valueAt vs k):=by
 unfold KV at r
 induction r with
 |nil=>exact Cm
 |@cons p q ps qs h t ih=>
  obtain⟨h1,h2⟩:=h;by_cases e:p.1=k
  ·have e':q.1=k:=h1.symm.trans e;have b:valueAt (q::qs) k=some q.2:=by simp[valueAt,Cw,e']
   rw[Fj e,b];exact h2
  ·have e':¬q.1=k:=fun z=>e (h1.trans z);have b:valueAt (q::qs) k=valueAt qs k:=by simp[valueAt,Cw,e']
   rw[Fi e,b];exact ih
theorem KV.any{AA:List (κ×V)}{vs:List (κ×Value)}(r:KV AA vs)(k:κ):(AA.any fun kv=>decide (kv.1=k))=vs.any fun kv=>decide (kv.1=k):=by
 unfold KV at r
 induction r with
 |nil=>rfl
 |cons h t ih=>rw[Hg,Hg,ih,h.1]
theorem KV.Sb{AA:List (κ×V)}{vs:List (κ×Value)}(r:KV AA vs)(k:κ)(ry:RelV y u):
 KV (AA.map fun kv=>if kv.1=k then(kv.1,y) else kv) (vs.map fun kv=>if kv.1=k then(kv.1,u) else kv):=by
 unfold KV at r⊢
 induction r with
 |nil=>exact .nil
 |@cons p q ps qs h t ih=>
  rw[Au,Au];refine .cons ?_ ih;obtain⟨h1,h2⟩:=h;by_cases e:p.1=k
  ·rw[AH e,AH (h1.symm.trans e)];exact⟨h1,ry⟩
  ·rw[AG e,AG (fun z=>e (h1.trans z))];exact⟨h1,h2⟩
theorem KV.put{AA:List (κ×V)}{vs:List (κ×Value)}(r:KV AA vs)(k:κ)(ry:RelV y u):KV (putK AA k y) (stored vs k u):=by
 unfold putK stored;rw[r.any k];by_cases e:(vs.any fun kv=>decide (kv.1=k))=true
 ·rw[AH e,AH e];exact r.Sb k ry
 ·rw[AG e,AG e];exact Paired.snoc r ⟨rfl,ry⟩
theorem KV.drop{AA:List (κ×V)}{vs:List (κ×Value)}(r:KV AA vs)(k:κ):KV (Ie AA k) (without vs k):=by
 unfold KV at r⊢;unfold Ie without
 induction r with
 |nil=>exact .nil
 |@cons p q ps qs h t ih=>
  obtain⟨h1,h2⟩:=h;rw[List.filter_cons,List.filter_cons];by_cases e:p.1=k
  ·have a:¬decide (p.1≠k)=true:=by simp[e]
   have b:¬decide (q.1≠k)=true:=by simp[h1.symm.trans e]
   rw[AG a,AG b];exact ih
  ·have e':¬q.1=k:=fun z=>e (h1.trans z);have a:decide (p.1≠k)=true:=by simp[e]
   have b:decide (q.1≠k)=true:=by simp[e']
   rw[AH a,AH b];exact .cons ⟨h1,h2⟩ ih
theorem KV.keys{AA:List (κ×V)}{vs:List (κ×Value)}(r:KV AA vs):AA.map (·.1)=vs.map (·.1):=by
 unfold KV at r
 induction r with
 |nil=>rfl
 |cons h t ih=>rw[Au,Au,ih,h.1]
theorem KV.length{AA:List (κ×V)}{vs:List (κ×Value)}(r:KV AA vs):AA.length=vs.length:=IK r
theorem fH(AA:List (κ×V))(k:κ):(Ie AA k).length<=AA.length:=F8 _ _
end
theorem Ii{k:Key}(r:RelV (kV k) u):(CW P w).is k u=true:=by
 cases k with
 |inl i=>obtain⟨t,e⟩:=(show∃t,u=Value.int i t from r);subst e;exact Z8 P w i t
 |inr x=>obtain⟨t,e⟩:=(show∃t,u=Value.str x t from r);subst e;exact aD P w x t
theorem i7{a b:Key}(e:kV a=kV b):a=b:=by
 cases a with
 |inl i=>cases b with
  |inl j=>have e':V.int i=V.int j:=e;injection e' with e';rw[e']
  |inr y=>exact nomatch (show V.int i=V.str y from e)
 |inr x=>cases b with
  |inl j=>exact nomatch (show V.str x=V.int j from e)
  |inr y=>have e':V.str x=V.str y:=e;injection e' with e';rw[e']
theorem Wa:∀{a b:List Key},a.map kV=b.map kV->a=b
 |[],[],_=>rfl
 |[],_::_,e=>by simp at e
 |_::_,[],e=>by simp at e
 |x::xs,y::ys,e=>by rw[Au,Au] at e;injection e with e1 e2;rw[i7 e1,Wa e2]
theorem VE{P:Program}{w:World}:∀{ks:List Key}{us:List Value},Vals (ks.map kV) us->ItemsAre (CW P w) ks us
 |[],_,r=>by rw[KQ] at r;cases r;exact .nil
 |k::ks,_,r=>by
  rw[Au] at r
  cases r with
  |cons h t=>exact .cons (Ii h) (VE t)
abbrev KT(H:Hp):List (List Key×V)->List (List Key×Addr×Value)->Prop:=Paired fun p q=>p.1=q.1/\H q.2.1=some (.tup (p.1.map kV))/\RelV p.2 q.2.2
theorem KT.val{AA:List (List Key×V)}{xs:List (List Key×Addr×Value)}(r:KT H AA xs)(k:List Key):DN (Be AA k) ((atKey xs k).map (·.2)):=by
 induction r with
 |nil=>exact Cm
 |@cons p q ps qs h t ih=>
  obtain⟨h1,_,h2⟩:=h;by_cases e:p.1=k
  ·have e':q.1=k:=h1.symm.trans e;have b:atKey (q::qs) k=some q.2:=by simp[atKey,Cw,e']
   rw[Fj e,b];exact h2
  ·have e':¬q.1=k:=fun z=>e (h1.trans z);have b:atKey (q::qs) k=atKey qs k:=by simp[atKey,Cw,e']
   rw[Fi e,b];exact ih
theorem KT.Sb{AA:List (List Key×V)}{xs:List (List Key×Addr×Value)}(r:KT H AA xs)(k:List Key)(ry:RelV y u):
 KT H (AA.map fun kv=>if kv.1=k then(kv.1,y) else kv) (xs.map (putAt k u)):=by
 induction r with
 |nil=>exact .nil
 |@cons p q ps qs h t ih=>
  rw[Au,Au];refine .cons ?_ ih;obtain⟨h1,h2,h3⟩:=h;unfold putAt;by_cases e:p.1=k
  ·rw[AH e,AH (h1.symm.trans e)];exact⟨h1,h2,ry⟩
  ·rw[AG e,AG (fun z=>e (h1.trans z))];exact⟨h1,h2,h3⟩
theorem KT.put{AA:List (List Key×V)}{xs:List (List Key×Addr×Value)}(r:KT H AA xs)(k:List Key)(hb:H b=some (.tup (k.map kV)))(ry:RelV y u):
 KT H (putK AA k y) (storedH xs k b u):=by
 have e:(AA.any fun kv=>decide (kv.1=k))=(atKey xs k).isSome:=by rw[OD,(r.val k).Lz,Option.isSome_map]
 unfold putK storedH;rw[e];by_cases q:(atKey xs k).isSome=true
 ·rw[AH q,AH q];exact r.Sb k ry
 ·rw[AG q,AG q];exact Paired.snoc r ⟨rfl,hb,ry⟩
theorem KT.keeps{AA:List (List Key×V)}{xs:List (List Key×Addr×Value)}(r:KT H AA xs)(ht:∀b ys,H b=some (.tup ys)->H' b=some (.tup ys)):KT H' AA xs:=
 Paired.Sn r fun _ _ z=>⟨z.1,ht _ _ z.2.1,z.2.2⟩
theorem Yi{u:HO}(ok:Bt P w H h)(e:Rd H a u):BL P w H h a u:=e.ok ok
variable{AA:List (Key×V)}
theorem Ig(ok:Bt P w H h)(e:Rd H a (.dK AA)):AA.length<=sizeLine/\(a==sysModules)=false/\∃vs,KV AA vs/\h.DictOf (CW P w) a vs:=
 show BL P w H h a (.dK AA) from Yi ok e
theorem Ic(ok:Bt P w H h)(e:H a=some (.dK AA)):AA.length<=sizeLine/\(a==sysModules)=false/\∃vs,KV AA vs/\h.DictOf (CW P w) a vs:=Ig ok (.inl e)
theorem Kr{ks:List Key}(ok:Bt P w H h)(e:H a=some (.tup (ks.map kV))):(tupleKind (CW P w)).is h ks a:=by obtain⟨_,AM,r,o,h1,h2,n,h3⟩:=(show BL P w H h a (.tup (ks.map kV)) from ok a _ e);exact⟨o,AM.toArray,n,h1,h2,h3,by simpa using VE r⟩
theorem Jf{AA:List (List Key×V)}(ok:Bt P w H h)(e:Rd H a (.dT AA)):AA.length<=sizeLine/\(a==sysModules)=false/\
 ∃xs,KT H AA xs/\h.DictOfH (tupleKind (CW P w)) a xs:=by
 obtain⟨z,y,xs,r,o,es,ep,h1,h2,h3,h4,h5⟩:=(show BL P w H h a (.dT AA) from Yi ok e);refine⟨z,y,xs,r,o,es,ep,h1,h2,h3,h4,fun x hx=>?_,h5⟩;have all:∀{l:List (List Key×V)}{m:List (List Key×Addr×Value)},KT H l m->∀x∈m,(tupleKind (CW P w)).is h x.1 x.2.1:=by
  intro l m q
  induction q with
  |nil=>intro x hx;exact nomatch hx
  |@cons p q ps qs hq t ih=>
   intro x hx;rcases Bk.mp hx with e|hx
   ·subst e;exact Kr ok (by rw[<-hq.1];exact hq.2.1)
   ·exact ih x hx
 exact all r x hx
theorem kE{AA:List (List Key×V)}(ok:Bt P w H h)(e:H a=some (.dT AA)):AA.length<=sizeLine/\(a==sysModules)=false/\
 ∃xs,KT H AA xs/\h.DictOfH (tupleKind (CW P w)) a xs:=Jf ok (.inl e)
def BN(H:Hp)(a:Addr)(y:V)(r:Option V):Prop:=
 (∃AA k,Rd H a (.dK AA)/\y=kV k/\r=Be AA k)\/∃AA k b,Rd H a (.dT AA)/\y=.ref b/\H b=some (.tup (k.map kV))/\r=Be AA k
def DP(H:Hp)(a:Addr)(y v:V)(H':Hp):Prop:=
 (∃AA k,H a=some (.dK AA)/\y=kV k/\AA.length<sizeLine/\H'=upd H a (.dK (putK AA k v)))\/
 ∃AA k b,H a=some (.dT AA)/\y=.ref b/\H b=some (.tup (k.map kV))/\AA.length<sizeLine/\H'=upd H a (.dT (putK AA k v))
theorem BN.kq{k:Key}(e:H a=some (.dK AA)):BN H a (kV k) (Be AA k):=.inl ⟨AA,k,.inl e,rfl,rfl⟩
theorem BN.tq{AA:List (List Key×V)}{k:List Key}(e:H a=some (.dT AA))(eb:H b=some (.tup (k.map kV))):BN H a (.ref b) (Be AA k):=.inr ⟨AA,k,b,.inl e,rfl,eb,rfl⟩
theorem DP.kq{k:Key}(e:H a=some (.dK AA))(hl:AA.length<sizeLine):DP H a (kV k) v (upd H a (.dK (putK AA k v))):=.inl ⟨AA,k,e,rfl,hl,rfl⟩
theorem DP.tq{AA:List (List Key×V)}{k:List Key}(e:H a=some (.dT AA))(eb:H b=some (.tup (k.map kV)))(hl:AA.length<sizeLine):
 DP H a (.ref b) v (upd H a (.dT (putK AA k v))):=.inr ⟨AA,k,b,e,rfl,eb,hl,rfl⟩
section
variable{r:Value}{o:Option V}
theorem Inv.big(I:Inv X pins σ H s):sysModules<s.heap.objs.size:=by have h:mainGlobals<s.heap.objs.size:=(I.mod.glob.keeps I.bk).lt;exact Nat.lt_trans (by decide) h
theorem cY(hu:A.units+1<cLine)(I:Inv X pins σ H s)(g:BN H a y (some v))(ry:RelV y u)(h:∀w' s',Inv X pins σ H s'->RelV v w'->Q w' s'):
 wpAny (model X.prog X.w) A (getItem (.ref a) u) Q E s:=by
 rcases g with⟨AA,k,e,ey,l⟩|⟨AA,k,b,e,ey,eb,l⟩
 ·subst ey;obtain⟨z,hd,vs,rel,dd⟩:=Ig I.hok e;obtain⟨w',hw,rw'⟩:=DN.some_of (v:=v) (o:=valueAt vs k) (by rw[l];exact rel.val k);exact wpAny_getItem_of (Ii ry) dd.mapOf hw (h w' _ (I.tok _) rw')
 ·subst ey;cases(show u=Value.ref b from ry);obtain⟨z,hd,xs,rel,dd⟩:=Jf I.hok e;obtain⟨w',hw,rw'⟩:=DN.some_of (v:=v) (o:=(atKey xs k).map (·.2)) (by rw[l];exact rel.val k);obtain⟨p,hp,hp2⟩:=NO.mp hw;refine wpAny_getItem_heap (NV hu) (Kr I.hok eb) dd hp ?_;rw[hp2];exact h w' _ (I.tok _) rw'
theorem lr(hu:A.units+1<cLine)(I:Inv X pins σ H s)(g:BN H a y o)(ry:RelV y u)(h:∀s',Inv X pins σ H s'->Q (.bool o.isSome) s'):
 wpAny (model X.prog X.w) A (compareOp .In u (.ref a)) Q E s:=by
 rcases g with⟨AA,k,e,ey,l⟩|⟨AA,k,b,e,ey,eb,l⟩
 ·subst ey;obtain⟨z,hd,vs,rel,dd⟩:=Ig I.hok e;refine wpAny_in_of (Ii ry) hd dd.mapOf ?_;rw[<-(rel.val k).Lz,<-l];exact h _ (I.tok _)
 ·subst ey;cases(show u=Value.ref b from ry);obtain⟨z,hd,xs,rel,dd⟩:=Jf I.hok e;refine wpAny_in_heap (NV hu) (Kr I.hok eb) hd dd ?_;have q:=(rel.val k).Lz;rw[Option.isSome_map] at q;rw[<-q,<-l];exact h _ (I.tok _)
theorem iD(hu:A.units+1<cLine)(I:Inv X pins σ H s)(g:BN H a y o)(ry:RelV y u)(h:∀s',Inv X pins σ H s'->Q (.bool (!o.isSome)) s'):
 wpAny (model X.prog X.w) A (compareOp .NotIn u (.ref a)) Q E s:=by
 rcases g with⟨AA,k,e,ey,l⟩|⟨AA,k,b,e,ey,eb,l⟩
 ·subst ey;obtain⟨z,hd,vs,rel,dd⟩:=Ig I.hok e;refine wpAny_notIn_of (Ii ry) hd dd.mapOf ?_;rw[<-(rel.val k).Lz,<-l];exact h _ (I.tok _)
 ·subst ey;cases(show u=Value.ref b from ry);obtain⟨z,hd,xs,rel,dd⟩:=Jf I.hok e;refine wpAny_notIn_heap (NV hu) (Kr I.hok eb) hd dd ?_;have q:=(rel.val k).Lz;rw[Option.isSome_map] at q;rw[<-q,<-l];exact h _ (I.tok _)
theorem Ob{ob:HO}(I:Inv X pins σ H s)(mu:NF (H a))(hs:Heap.SameBut a s.heap h')(he:∃q,h'.get? a=some q)(new:BL X.prog X.w (upd H a ob) h' a ob):
 Inv X pins σ (upd H a ob) {s with heap:=h',toks:=t'}:=
 I.write (x:=a) (e:=a) mu (.inl rfl) (fun b q hb z=>(hs.2 b hb).trans z) he new
theorem Rk{vs:List (Key×Value)}(z:AA.length<=sizeLine)(hd:(a==sysModules)=false)(rel:KV AA vs)(dd:h'.DictOf (CW P w) a vs):
 BL P w H' h' a (.dK AA):=⟨z,hd,vs,rel,dd⟩
theorem bq{Q:Unit->Shared->Prop}(hu:A.units+1<cLine)(I:Inv X pins σ H s)(g:DP H a y v H')(ry:RelV y u)(rv:RelV v r)(h:∀s',Inv X pins σ H' s'->Q () s'):
 wpAny (model X.prog X.w) A (setItem (.ref a) u r) Q E s:=by
 rcases g with⟨AA,k,e,ey,l,eH⟩|⟨AA,k,b,e,ey,eb,l,eH⟩
 ·subst ey eH;obtain⟨z,hd,vs,rel,dd⟩:=Ic I.hok e;have hz:vs.length<=sizeLine:=by rw[<-rel.length];exact z
  have hl:(putK AA k v).length<=sizeLine:=by have:=Nz AA k v;lia
  refine wpAny_setItem_pairs (hsz:=hz) (Ii ry) dd fun h' dd' hs=>h _ ?_;have he:∃q,h'.get? a=some q:=let⟨q,_,_,hq,_⟩:=dd';⟨q,hq⟩;exact Ob I (by rw[e];exact Cm) hs he (Rk hl hd (rel.put k rv) dd')
 ·subst ey eH;cases(show u=Value.ref b from ry);obtain⟨z,hd,xs,rel,dd⟩:=kE I.hok e;have hz:xs.length<=sizeLine:=by rw[<-IK rel];exact z
  have hl:(putK AA k v).length<=sizeLine:=by have:=Nz AA k v;lia
  refine wpAny_setItem_heap (hsz:=hz) (NV hu) (Kr I.hok eb) dd fun h' dd' hs=>h _ ?_;obtain⟨q,es,ep,hq,h2,h3,h4,_,h5⟩:=dd';refine Ob I (by rw[e];exact Cm) hs ⟨q,hq⟩ ⟨hl,hd,_,(rel.put k eb rv).keeps fun c ys ec=>?_,q,es,ep,hq,h2,h3,h4,h5⟩;rw[AO (CT ec e (fun z=>nomatch z))];exact ec
end
section
variable{k:Key}
theorem j6{more:List Value}(I:Inv X pins σ H s)(e:H a=some (.dK AA))(ry:RelV (kV k) u)(l:Be AA k=some v)(hm:more=[]\/∃x,more=[x])
 (h:∀w' s',Inv X pins σ (upd H a (.dK (Ie AA k))) s'->RelV v w'->Q w' s'):wpAny (model X.prog X.w) A (call (.builtin "dict.pop") (.ref a::u::more)) Q E s:=by
 obtain⟨z,hd,vs,rel,dd⟩:=Ic I.hok e;obtain⟨w',hw,rw'⟩:=DN.some_of (v:=v) (o:=valueAt vs k) (by rw[<-l];exact rel.val k);have hp:(keyPart u).isSome=true:=by
  cases k with
  |inl i=>obtain⟨t,q⟩:=(show∃t,u=Value.int i t from ry);subst q;rfl
  |inr x=>obtain⟨t,q⟩:=(show∃t,u=Value.str x t from ry);subst q;rfl
 have ha:argsOk "dict.pop" ⟨.ref a::u::more,[]⟩:=by
  rcases hm with q|⟨x,q⟩
  ·subst q;exact PySem.F.args_dict_pop_2 _ _
  ·subst q;exact PySem.F.args_dict_pop_3 _ _ _
 refine Nx PySem.F.slot_dict_pop dd.typeIs PySem.F.entry_dict_pop ha (meets_dict_pop_there (CW X.prog X.w) a (Ii ry) more hm hp)
  ⟨vs,w',dd,by rw[<-rel.length];exact z,hw,fun h' dd' hs=>h w' _ ?_ rw'⟩;have he:∃q,h'.get? a=some q:=let⟨q,_,_,hq,_⟩:=dd';⟨q,hq⟩;exact Ob I (by rw[e];exact Cm) hs he (Rk (BI (fH AA k) z) hd (rel.drop k) dd')
theorem lR(I:Inv X pins σ H s)(e:Rd H a (.dK AA))(h:∀t s',Inv X pins σ H s'->Q (.int AA.length t) s'):wpAny (model X.prog X.w) A (call (.builtin "len") [.ref a]) Q E s:=by obtain⟨z,hd,vs,rel,dd⟩:=Ig I.hok e;refine call_len_dict hd dd (by rw[<-rel.length];rw[BA] at z;lia) ?_;rw[<-rel.length];exact h _ _ (I.tok _)
end
def ZA(i:Expr):Prop:=∀ov iv,subscripted i false ov iv=operate [ov,iv] (getItem ov iv)
theorem iE{value slice:Expr}{id:String}
 (hl:typeLookup (.type T) "__getitem__" =pure (some (.builtin id)))(hs:ZA slice)
 (h:wpAny (model prog w) A (eval value env) (fun o s₁=>wpAny (model prog w) A (eval slice env) (fun i s₂=>s₂.TypeIs o T/\wpAny (model prog w) A (getItem o i) Q E s₂) E s₁) E s):
 wpAny (model prog w) A (eval (.Subscript value slice pos) env) Q E s:=by
 refine Subscript_ (Cz h (fun o s₁ h₁=>Cz h₁ (fun i s₂ h₂=>?_) fun _ _ x=>x) fun _ _ x=>x);obtain⟨hT,h₂⟩:=h₂;unfold subscriptTail;refine AJ ?_;rw[getitemInPython_of_ne hT.not_modules];refine AJ (wpAny_specialOf hT hl ?_);have fin:wpAny (model prog w) A (subscripted slice false o i) (fun r s₃=>wpAny (model prog w) A (letTemporaryGo value o r>>=fun _=>pure r) Q E s₃) E s₂:=by rw[hs o i];exact wpAny_operating (Cz h₂ (fun r s₃ h₃=>AJ (wpAny_letTemporaryGo (Af h₃))) fun _ _ x=>x)
 first
  |exact Af (AJ fin)
  |exact AJ (Af (AJ fin))
  |exact AJ fin
theorem Z7{o:Option V}(I:Inv X pins σ H s)(g:BN H a y o):s.TypeIs (.ref a) "dict" :=by
 rcases g with⟨AA,k,e,_,_⟩|⟨AA,k,b,e,_,_,_⟩
 ·obtain⟨_,_,vs,_,dd⟩:=Ig I.hok e;exact dd.typeIs
 ·obtain⟨_,_,xs,_,dd⟩:=Jf I.hok e;exact dd.typeIs
def JY(td ty:TE):TE:=fun σ H Q=>td σ H fun x H1=>ty σ H1 fun y H2=>∃a v,x=.ref a/\BN H2 a y (some v)/\Q v H2
def mG(ty td:TE):TE:=fun σ H Q=>ty σ H fun y H1=>td σ H1 fun x H2=>∃a o,x=.ref a/\BN H2 a y o/\Q (.bl o.isSome) H2
def iC(ty td:TE):TE:=fun σ H Q=>ty σ H fun y H1=>td σ H1 fun x H2=>∃a o,x=.ref a/\BN H2 a y o/\Q (.bl (!o.isSome)) H2
def ke(td ty tv:TE):TS:=fun D σ H=>tv σ H fun v H1=>td σ H1 fun x H2=>ty σ H2 fun y H3=>∃a H4,x=.ref a/\DP H3 a y v H4/\D.nx σ H4
section
variable{o i value:Expr}{pos':Pos}{td ty tv:TE}
theorem BQ(hu:X.A.units+1<cLine)(ho:PE X o td)(hi:PE X i ty)(hs:ZA i):PE X (.Subscript o i pos) (JY td ty):=by intro pins s σ H Q I h;refine iE PySem.F.slot_dict_getitem.lookup hs (Ae (ho pins s σ H _ I h) fun u s1 ⟨x,H1,I1,rx,q1⟩=>Ae (hi pins s1 σ H1 _ I1 q1) fun iv s2 ⟨y,H2,I2,ry,a,v,ex,g,q2⟩=>?_);subst ex;obtain rfl:u=Value.ref a:=rx;exact⟨Z7 I2 g,cY hu I2 g ry fun w' s3 I3 rw'=>⟨v,H2,I3,rw',q2⟩⟩
theorem Xg(hu:X.A.units+1<cLine)(hi:PE X i ty)(ho:PE X o td):PC X .In i o (mG ty td):=by intro pins s σ H Q I h;refine Ae (hi pins s σ H _ I h) fun iv s1 ⟨y,H1,I1,ry,q1⟩=>Ae (ho pins s1 σ H1 _ I1 q1) fun u s2 ⟨x,H2,I2,rx,a,ov,ex,g,q2⟩=>?_;subst ex;obtain rfl:u=Value.ref a:=rx;exact lr hu I2 g ry fun s3 I3=>⟨.bl ov.isSome,H2,I3,rfl,q2⟩
theorem N7(hu:X.A.units+1<cLine)(hi:PE X i ty)(ho:PE X o td):PC X .NotIn i o (iC ty td):=by intro pins s σ H Q I h;refine Ae (hi pins s σ H _ I h) fun iv s1 ⟨y,H1,I1,ry,q1⟩=>Ae (ho pins s1 σ H1 _ I1 q1) fun u s2 ⟨x,H2,I2,rx,a,ov,ex,g,q2⟩=>?_;subst ex;obtain rfl:u=Value.ref a:=rx;exact iD hu I2 g ry fun s3 I3=>⟨.bl (!ov.isSome),H2,I3,rfl,q2⟩
theorem Eh(hu:X.A.units+1<cLine)(ho:PE X o td)(hi:PE X i ty)(hv:PE X value tv)(hs:swapsWith value (some (.Subscript o i pos')) pos.line X.env=pure false):
 PS X (.Assign [.Subscript o i pos'] value pos) (ke td ty tv):=by
 intro pins s σ H D I h;refine wpAny_Assign_Subscript (Ae (hv pins s σ H _ I h) fun r s1 ⟨v,H1,I1,rv,q1⟩=>Ae (ho pins s1 σ H1 _ I1 q1) fun u s2 ⟨x,H2,I2,rx,q2⟩=>Ae (hi pins s2 σ H2 _ I2 q2) fun iv s3 ⟨y,H3,I3,ry,a,H4,ex,g,q3⟩=>?_) hs;subst ex;obtain rfl:u=Value.ref a:=rx;exact bq hu I3 g ry rv fun s4 I4=>⟨σ,H4,I4,q3⟩
end
theorem Vs(h:Heap)(hb:sysModules<h.objs.size):BL P w H (h.push {cls:=.type "dict",data:=.dict #[]}) h.objs.size (.dK []):=
 ⟨CF _,NU.mpr (C5 (BH hb)),[],.nil,Heap.DictOf.new h⟩
def i3:TE:=fun _ H Q=>∀p,H p=none->Q (.ref p) (upd H p (.dK []))
theorem OL{X:Cx}{pos:Pos}:PE X (.Dict [] [] pos) i3:=fun pins s σ H Q I h=>wpAny_Dict_empty ⟨.ref s.heap.objs.size,_,I.laid (a:=s.heap.objs.size) (o:=.dK []) (t':=s.toks) (fun _ _ q=>A7 _ q) (Ac _) (Vs s.heap I.big),rfl,h _ (I.hok.fresh (Ac _))⟩
def Rq:List (TE×TE)->St->Hp->(List (V×V)->Hp->Prop)->Prop
 |[],_,H,Q=>Q [] H
 |(tk,tv)::r,σ,H,Q=>tk σ H fun x H1=>tv σ H1 fun y H2=>Rq r σ H2 fun ps H3=>Q ((x,y)::ps) H3
abbrev VV:List (V×V)->List (Value×Value)->Prop:=Paired fun p q=>RelV p.1 q.1/\RelV p.2 q.2
def NH(X:Cx)(pos:Pos)(keys:List (Option Expr))(values:List Expr)(trs:List (TE×TE)):Prop:=
 ∀(pins:List (Addr×Obj))(s:Shared)(σ:St)(H:Hp)(Q:List (V×V)->Hp->Prop),Inv X pins σ H s->Rq trs σ H Q->
  wpAny (model X.prog X.w) X.A (evalPairs (pairTrees keys values X.env pos)) (fun vs s'=>∃ps H',Inv X pins σ H' s'/\VV ps vs/\Q ps H') X.xe s
theorem fe{X:Cx}{pos:Pos}:NH X pos [] [] []:=fun pins s σ H Q I h=>pairTrees_nil_walk ⟨[],H,I,.nil,h⟩
theorem RK{X:Cx}{pos:Pos}{k v:Expr}{ks:List (Option Expr)}{vs:List Expr}{tk tv:TE}{trs:List (TE×TE)}(hk:PE X k tk)(hv:PE X v tv)(hr:NH X pos ks vs trs):
 NH X pos (some k::ks) (v::vs) ((tk,tv)::trs):=fun pins s σ H Q I h=>
 pairTrees_cons_walk (Ae (hk pins s σ H _ I h) fun u s1 ⟨x,H1,I1,rx,q1⟩=>Ae (hv pins s1 σ H1 _ I1 q1) fun w2 s2 ⟨y,H2,I2,ry,q2⟩=>Ae (hr pins s2 σ H2 _ I2 q2) fun ws s3 ⟨ps,H3,I3,rel,q3⟩=>⟨(x,y)::ps,H3,I3,.cons ⟨rx,ry⟩ rel,q3⟩)
def MT(AA more:List (Key×V)):List (Key×V):=more.foldl (fun acc kv=>putK acc kv.1 kv.2) AA
theorem KV.merge:∀{more:List (Key×V)}{rs:List (Key×Value)}{AA:List (Key×V)}{vs:List (Key×Value)},KV more rs->KV AA vs->KV (MT AA more) (merged vs rs):=by
 intro more rs AA vs r;unfold KV at r
 induction r generalizing AA vs with
 |nil=>intro q;exact q
 |@cons p q ps qs h t ih=>
  intro r0;have e:KV (putK AA p.1 p.2) (stored vs q.1 q.2):=by have:=r0.put p.1 h.2;rw[<-h.1];exact this
  exact ih e
theorem UL:∀(more AA:List (Key×V)),(MT AA more).length<=AA.length+more.length
 |[],AA=>by show AA.length<=AA.length+0;lia
 |p::r,AA=>by have h1:=UL r (putK AA p.1 p.2);have h2:=Nz AA p.1 p.2;show(MT (putK AA p.1 p.2) r).length<=_;rw[CV];lia
theorem Ug{P:Program}{w:World}:∀{AA:List (Key×V)}{ws:List (Value×Value)},VV (AA.map fun kv=>(kV kv.1,kv.2)) ws->∃rs,Carries (CW P w) ws rs/\KV AA rs
 |[],_,r=>by rw[KQ] at r;cases r;exact⟨[],Cm,.nil⟩
 |p::AA,_,r=>by
  rw[Au] at r
  cases r with
  |@cons a b as bs h t=>obtain⟨rs,c,q⟩:=Ug (P:=P) (w:=w) t;obtain⟨b1,b2⟩:=b;exact⟨(p.1,b2)::rs,⟨Ii h.1,rfl,c⟩,.cons ⟨rfl,h.2⟩ q⟩
def YC(trs:List (TE×TE)):TE:=fun σ H Q=>∀p,H p=none->Rq trs σ (upd H p (.dK [])) fun ps H2=>H2 p=some (.dK [])/\∃AA:List (Key×V),ps=AA.map (fun kv=>(kV kv.1,kv.2))/\AA.length<=15/\Q (.ref p) (upd H2 p (.dK (MT [] AA)))
theorem gR{X:Cx}{pos:Pos}{keys:List (Option Expr)}{values:List Expr}{trs:List (TE×TE)}(h:NH X pos keys values trs)(hall:keys.all (·.isSome)=true)(hl:keys.length=values.length)(h0:keys≠[])
 (h15:keys.length<=15):PE X (.Dict keys values pos) (YC trs):=by
 intro pins s σ H Q I q;have hn:=I.hok.fresh (Ac s.heap.objs.size);have I1:=I.laid (a:=s.heap.objs.size) (o:=.dK []) (h':=s.heap.push {cls:=.type "dict",data:=.dict #[]}) (t':=s.toks) (fun _ _ q=>A7 _ q) (Ac _) (Vs s.heap I.big);refine wpAny_Dict_walk (knd:=CW X.prog X.w) hall hl h0 h15 (Ae (h pins _ σ _ _ I1 (q _ hn)) fun ws s2 ⟨ps,H2,I2,rel,e,AA,ep,lk,q2⟩=>?_);subst ep;obtain⟨rs,c,rk⟩:=Ug (P:=X.prog) (w:=X.w) rel;obtain⟨z,hd,vs0,r0,dd⟩:=Ic I2.hok e;cases r0;refine⟨rs,c,dd,fun h' dd' hs=>⟨.ref s.heap.objs.size,_,?_,rfl,q2⟩⟩;have hz:(MT [] AA).length<=sizeLine:=by have h1:=UL AA [];rw[KG] at h1;rw[BA];lia
 have he:∃q,h'.get? s.heap.objs.size=some q:=let⟨q,_,_,hq,_⟩:=dd';⟨q,hq⟩;exact Ob I2 (by rw[e];exact Cm) hs he (Rk hz hd (rk.merge .nil) dd')
structure M1(X:Cx)(o:Expr)(m:Str)(apos:Pos)(e:Expr)(cpos:Pos):Prop where
 base:attributeBase o m X.env (eval o X.env)=eval o X.env
 Cc:((backTo cpos (starEach [e] X.env)).all (fun x=> !x.1)&&(backToKw cpos (keywordEach [] X.env)).all (fun x=>x.1.isSome)
  &&decide (([e]:List Expr).length+([]:List Keyword).length+(if([]:List Keyword).isEmpty then 0 else 1)<30))=true
 line:(apos.endLine==cpos.line)=true
 trees:backTo cpos (starEach [e] X.env)=[(false,eval e X.env)]
structure M2(X:Cx)(o:Expr)(m:Str)(apos:Pos)(e f:Expr)(cpos:Pos):Prop where
 base:attributeBase o m X.env (eval o X.env)=eval o X.env
 Cc:((backTo cpos (starEach [e,f] X.env)).all (fun x=> !x.1)&&(backToKw cpos (keywordEach [] X.env)).all (fun x=>x.1.isSome)
  &&decide (([e,f]:List Expr).length+([]:List Keyword).length+(if([]:List Keyword).isEmpty then 0 else 1)<30))=true
 line:(apos.endLine==cpos.line)=true
 trees:backTo cpos (starEach [e,f] X.env)=[(false,eval e X.env),(false,eval f X.env)]
def S9(H:Hp)(a:Addr):Prop:=(∃AA,Rd H a (.dK AA))\/∃AA,Rd H a (.dT AA)
theorem Xi(I:Inv X pins σ H s)(d:S9 H a):
 s.TypeIs (.ref a) "dict" /\(∀b,Value.ref a=.ref b->∃ob,s.heap.get? b=some ob/\ob.dict=none)/\(a==sysModules)=false:=by
 rcases d with⟨AA,e⟩|⟨AA,e⟩
 ·obtain⟨_,hd,vs,_,dd⟩:=Ig I.hok e;refine⟨dd.typeIs,fun b q=>?_,hd⟩;cases q;obtain⟨ob,_,_,h1,h2,_⟩:=dd;exact⟨ob,h1,h2.2.1⟩
 ·obtain⟨_,hd,xs,_,dd⟩:=Jf I.hok e;refine⟨dd.typeIs,fun b q=>?_,hd⟩;cases q;obtain⟨ob,_,_,h1,h2,_⟩:=dd;exact⟨ob,h1,h2.2.1⟩
section
variable{d:V}{r:Value}{o:Option V}
theorem jS(hu:A.units+1<cLine)(I:Inv X pins σ H s)(g:BN H a y o)(ry:RelV y u)(rd:RelV d r)(h:∀w' s',Inv X pins σ H s'->RelV (o.getD d) w'->Q w' s'):
 wpAny (model X.prog X.w) A (call (.builtin "dict.get") [.ref a,u,r]) Q E s:=by
 rcases g with⟨AA,k,e,ey,l⟩|⟨AA,k,b,e,ey,eb,l⟩
 ·subst ey;obtain⟨z,hd,vs,rel,dd⟩:=Ig I.hok e;refine Nx T1 dd.typeIs PySem.F.entry_dict_get (PySem.F.args_dict_get_3 _ _ _) (meets_dict_get_default (CW X.prog X.w) a (Ii ry) hd r) ⟨_,dd.mapOf,h _ _ (I.tok _) ?_⟩;rw[l];exact(rel.val k).getD rd
 ·subst ey;cases(show u=Value.ref b from ry);obtain⟨z,hd,xs,rel,dd⟩:=Jf I.hok e;refine Nx T1 dd.typeIs PySem.F.entry_dict_get (PySem.F.args_dict_get_3 _ _ _) (meetsH_dict_get_default (tupleKind (CW X.prog X.w)) a b hd r) ⟨NV hu,k,xs,Kr I.hok eb,dd,h _ _ (I.tok _) ?_⟩;rw[l];exact(rel.val k).getD rd
end
def jd(td ty tx:TE):TE:=fun σ H Q=>td σ H fun x H1=>∃a,x=.ref a/\S9 H1 a/\ty σ H1 fun y H2=>tx σ H2 fun z H3=>∃o,BN H3 a y o/\Q (o.getD z) H3
def jf(td ty:TE):TE:=fun σ H Q=>td σ H fun x H1=>∃a,x=.ref a/\S9 H1 a/\ty σ H1 fun y H2=>∃AA k v,H2 a=some (.dK AA)/\y=kV k/\Be AA k=some v/\Q v (upd H2 a (.dK (Ie AA k)))
section
variable{o f:Expr}{td ty tx:TE}
theorem dN(hu:X.A.units+1<cLine)(ho:PE X o td)(he:PE X e ty)(hf:PE X f tx)(m:M2 X o "get" apos e f cpos):PE X (.Call (.Attribute o "get" apos) [e,f] [] cpos) (jd td ty tx):=by
 intro pins s σ H Q I h;refine wpAny_Call_method m.base m.Cc m.line LW T1 PySem.F.type_dict_get (Ae (ho pins s σ H _ I h) fun u s1 ⟨x,H1,I1,rx,a,ex,d,q1⟩=>?_);subst ex;obtain rfl:u=Value.ref a:=rx;obtain⟨t1,t2,_⟩:=Xi I1 d;refine⟨t1,t2,?_⟩;rw[m.trees];refine P5 rfl (T6 (QI (Ae (he pins s1 σ H1 _ I1 q1) fun iv s2 ⟨y,H2,I2,ry,q2⟩=>QI (Ae (hf pins s2 σ H2 _ I2 q2) fun fv s3 ⟨z,H3,I3,rz,ov,g,q3⟩=>Calls.spliced_nil ?_))));exact jS hu I3 g ry rz fun w' s4 I4 rw'=>⟨_,H3,I4,rw',q3⟩
theorem IM(ho:PE X o td)(he:PE X e ty)(m:M1 X o "pop" apos e cpos):PE X (.Call (.Attribute o "pop" apos) [e] [] cpos) (jf td ty):=by intro pins s σ H Q I h;refine wpAny_Call_method m.base m.Cc m.line LW PySem.F.slot_dict_pop PySem.F.type_dict_pop (Ae (ho pins s σ H _ I h) fun u s1 ⟨x,H1,I1,rx,a,ex,d,q1⟩=>?_);subst ex;obtain rfl:u=Value.ref a:=rx;obtain⟨t1,t2,_⟩:=Xi I1 d;refine⟨t1,t2,?_⟩;rw[m.trees];refine P5 rfl (T6 (QI (Ae (he pins s1 σ H1 _ I1 q1) fun iv s2 ⟨y,H2,I2,ry,AA,k,v,ea,ey,l,q2⟩=>Calls.spliced_nil ?_)));subst ey;exact j6 I2 ea ry l (.inl rfl) fun w' s3 I3 rw'=>⟨v,_,I3,rw',q2⟩
end
section
variable{C:List α->Prop}{l:List α}
theorem len0(h:C [])(e:l.length=0):C l:=by
 cases l with
 |nil=>exact h
 |cons=>cases e
theorem PZ{n:Nat}(h:∀a (r:List α),r.length=n->C (a::r))(e:l.length=n+1):C l:=by
 cases l with
 |nil=>cases e
 |cons a r=>exact h a r (Nat.succ.inj e)
theorem EZ(h:∀a,C [a])(e:l.length=1):C l:=PZ (fun a _=>len0 (C:=fun r=>C (a::r)) (h a)) e
theorem K2(h:∀a b,C [a,b])(e:l.length=2):C l:=PZ (fun a _=>EZ (C:=fun r=>C (a::r)) (h a)) e
theorem Sl(h:∀a b c,C [a,b,c])(e:l.length=3):C l:=PZ (fun a _=>K2 (C:=fun r=>C (a::r)) (h a)) e
theorem Yo(h:∀a b c d,C [a,b,c,d])(e:l.length=4):C l:=PZ (fun a _=>Sl (C:=fun r=>C (a::r)) (h a)) e
theorem j5(h:C [])(h1:∀a,C [a])(e:l.length<2):C l:=by
 cases l with
 |nil=>exact h
 |cons a r=>exact len0 (C:=fun r=>C (a::r)) (h1 a) (Nat.lt_one_iff.mp (Nat.lt_of_succ_lt_succ e))
theorem mE(h:C [])(l:List α)(e:l.length=0):C l:=len0 h e
theorem all1(h:∀a,C [a])(l:List α)(e:l.length=1):C l:=EZ h e
theorem all2(h:∀a b,C [a,b])(l:List α)(e:l.length=2):C l:=K2 h e
theorem lS(h:∀a b c,C [a,b,c])(l:List α)(e:l.length=3):C l:=Sl h e
theorem mX(h:∀a b c d,C [a,b,c,d])(l:List α)(e:l.length=4):C l:=Yo h e
end
variable{ifs:List Expr}
theorem aB{elt target iter:Expr}{it acc:Value}(J:Nat->Shared->Prop)
 (turn:∀n s,J n s->wpAny (model prog w) A (pyNext it) (fun r s1=>match r with
  |none=>R (.ok .next) s1
  |some v=>wpAny (model prog w) A (letOwnedTupleGo target it v) (fun _ s1'=>wpAny (model prog w) A (assign target env v) (fun _ s2=>
   wpAny (model prog w) A (forIn ifs true fun c r=>if r=true then do let ok<-isTrue c env (eval c env);pure (ForInStep.yield ok) else pure (ForInStep.yield r)) (fun ok s3=>
    if ok=true then wpAny (model prog w) A (eval elt env) (fun x s4=>wpAny (model prog w) A (call (.builtin "list.append") [acc,x]) (fun _ s5=>∃m,m<n/\J m s5) (fun _ _=>False) s4) (fun _ _=>False) s3
    else∃m,m<n/\J m s3) (fun _ _=>False) s2) (fun _ _=>False) s1') (fun _ _=>False) s1) (fun _ _=>False) s)
 (n:Nat)(h:J n s):codeAny (model prog w) A (.compLoop (.ListComp elt [⟨target,iter,ifs,0⟩] scope pos) 0 it acc env) R s:=by
 refine codeAny_loop rfl J (fun n s hJ=>?_) n h;show wpAny (model prog w) A ((compTurn (.ListComp elt [⟨target,iter,ifs,0⟩] scope pos) 0 it acc env).onRaise (fun x=>do noteFrame x env;theTreesLotGoes x)) _ _ s;refine wpAny_noted ?_;rw[compTurn_list];refine AJ (Nr (AJ (Cz (turn n s hJ) (fun r s1 h1=>?_) fun _ _ q=>q.elim)))
 cases r with
 |none=>exact Af h1
 |some v=>
  refine AJ (Cz h1 (fun _ s1' h1'=>?_) fun _ _ q=>q.elim);refine AJ (Cz h1' (fun _ s2 h2=>?_) fun _ _ q=>q.elim);refine AJ (Cz h2 (fun ok s3 h3=>?_) fun _ _ q=>q.elim)
  cases ok with
  |false=>exact Af ⟨rfl,h3⟩
  |true=>refine AJ (AJ (Cz h3 (fun x s4 h4=>?_) fun _ _ q=>q.elim));refine AJ (Cz h4 (fun _ s5 h5=>?_) fun _ _ q=>q.elim);exact Af (Af ⟨rfl,h5⟩)
noncomputable def DY(ix:List Nat)(σ:St):St:=ix.map fun j=>(σ[j]?).join
noncomputable def Di(X:Cx)(Nc:List Str)(scope:Scope)(cl:List (Str×Addr))(C:Addr)(s₀:Shared)(H₀:Hp)(fp:List Addr)(pins:List (Addr×Obj)):Cx:=
 {X with N:=Nc,s₀:=s₀,H₀:=H₀,env:=compEnvC scope cl C X.env,outer:=X.stack,stack:=X.stack,ex:=fp,fn:=fun _=>false,pn:=X.pn++pins,xe:=fun _ _=>False}
structure JV(X:Cx)(ts cap:List Str)(ix:List Nat)(scope:Scope)(cl:List (Str×Addr)):Prop where
 calm:X.calm=true
 mj:closureFor scope X.env=pure cl
 cell:∀y∈scope.names,y.2≠.cell
 kind:scope.kind=.function
 names:∀y∈scope.names,y.2=.local->scope.names.lookup y.1=some .local
 sub:∀y c,cl.lookup y=some c->X.env.cells.lookup y=some c
 has:∀y,((relabel scope X.env).names.lookup y=some .cell\/(relabel scope X.env).names.lookup y=some .free)->∃c,cl.lookup y=some c
 len:ix.length=cap.length
 nM:∀(i:Nat)(y:Str)(j:Nat),cap[i]? =some y->ix[i]? =some j->X.N[j]? =some y
 TY:∀y∈cap,Px X.env.scope y/\X.env.kindOf y≠some .local/\((relabel scope X.env).names.lookup y=some .cell\/(relabel scope X.env).names.lookup y=some .free)
def Hz(ts:List Str)(ix:List Nat)(σ:St)(σ2:St):Prop:=∃a:St,a.length=ts.length/\σ2=a++DY ix σ
def K0(ts:List Str)(ix:List Nat)(σ:St)(J:It)(g:TG)(ti:TT)(te:TE)(D:Addr)(Q:VK)(H1:Hp):Prop:=∃W:Nat->Nat->Hp->Prop,(∃m,W 0 m (upd H1 D (.lst [])))/\∀i m H,W i m H->
 (J.stop i H/\Q (.ref D) H)\/(J.go i H/\∃N:Hp->Prop,(∀H',N H'->∃m',m'<m/\W (i+1) m' H')/\∀x H',J.Io i H x H'->g x (ts.map (fun _=>none)++DY ix σ) H' fun σ2 H2=>Hz ts ix σ σ2/\ti σ2 H2 fun b H3=>if b=true then te σ2 H3 fun y H4=>∃ys,H4 D=some (.lst ys)/\ys.length<sizeLine/\N (upd H4 D (.lst (ys++[y]))) else N H3)
def SN(ts:List Str)(ix:List Nat)(wi:TI)(g:TG)(ti:TT)(te:TE):TE:=fun σ H Q=>wi σ H fun J H1=>∀D,H1 D=none->K0 ts ix σ J g ti te D Q H1
variable{ts:List Str}{ix:List Nat}{ti:TT}{D:Addr}
theorem GH{xs:List V}{Q:VK}(Pv:Nat->Hp->Prop)(h0:Pv 0 (upd H1 D (.lst [])))(hl:∀i H,i<=xs.length->Pv i H->AN K H a xs)
 (hs:∀i x H,xs[i]? =some x->Pv i H->g x (ts.map (fun _=>none)++DY ix σ) H fun σ2 H2=>Hz ts ix σ σ2/\ti σ2 H2 fun b H3=>if b=true then te σ2 H3 fun y H4=>∃ys,H4 D=some (.lst ys)/\ys.length<sizeLine/\Pv (i+1) (upd H4 D (.lst (ys++[y]))) else Pv (i+1) H3)
 (hd:∀H,Pv xs.length H->Q (.ref D) H):K0 ts ix σ (Gp K a) g ti te D Q H1:=by
 refine⟨fun i m H=>m=xs.length-i/\i<=xs.length/\Pv i H,⟨xs.length,by simp,CF _,h0⟩,?_⟩;rintro i m H ⟨rfl,hi,p⟩;have q:=hl i H hi p;by_cases hlt:i<xs.length
 ·refine .inr ⟨⟨xs,xs[i],q,by simp[hlt]⟩,Pv (i+1),fun H' p'=>⟨xs.length-(i+1),by lia,rfl,hlt,p'⟩,fun x H' y=>?_⟩;obtain⟨e,y⟩:=y;subst e;exact hs i x _ (y xs q) p
 ·obtain rfl:i=xs.length:=by lia
  exact .inl ⟨⟨xs,q,Ac _⟩,hd H p⟩
theorem FG:Hz [x] ix σ ((([x]:List Str).map (fun _=>(none:Option V))++DY ix σ).set 0 (some v)):=⟨[some v],rfl,rfl⟩
def M6(X:Cx)(ifs:List Expr)(ti:TT):Prop:=
 ∀(pins:List (Addr×Obj))(s:Shared)(σ:St)(H:Hp)(Q:Bool->Hp->Prop),Inv X pins σ H s->ti σ H Q->
  wpAny (model X.prog X.w) X.A (forIn ifs true fun c r=>if r=true then do let ok<-isTrue c X.env (eval c X.env);pure (ForInStep.yield ok) else pure (ForInStep.yield r)) (TP X pins σ Q) X.xe s
def mz:TT:=fun _ H Q=>Q true H
theorem Fq:M6 X [] mz:=fun _ _ _ H _ I h=>wpAny_tests_nil ⟨H,I,h⟩
theorem Oh{t:TT}(h:PT X c t):M6 X [c] t:=fun pins s σ H Q I q=>wpAny_tests_one (h pins s σ H Q I q)
section
variable{cap:List Str}{cl:List (Str×Addr)}
theorem dP(h:(DY ix σ)[i]? =some (some v)):∃j,ix[i]? =some j/\σ[j]? =some (some v):=by
 unfold DY at h;rw[Az] at h
 cases e:ix[i]?with
 |none=>rw[e] at h;cases h
 |some j=>
  rw[e] at h;have h':(σ[j]?).join=some v:=Ah h;refine⟨j,rfl,?_⟩
  cases e2:σ[j]?with
  |none=>rw[e2] at h';cases h'
  |some o=>rw[e2] at h';have h2:o=some v:=h';rw[h2]
theorem Inv.block{tk:Nat}(ok:JV X ts cap ix scope cl)(I:Inv X pins σ H s)(hf:∀b∈fp,FE X pins H b)(hfs:∀b∈fp,b<s.heap.objs.size)
 (hn:h'.Ns s.heap.objs.size (fun _=>none))(hk:∀b o,s.heap.get? b=some o->h'.get? b=some o):
 Inv (Di X (ts++cap) scope cl s.heap.objs.size s H fp pins) [] (ts.map (fun _=>none)++DY ix σ) H {s with heap:=h',toks:=tk}:=by
 have nC:∀y c,cl.lookup y=some c->c<s.heap.objs.size:=fun y c e=>by obtain⟨v,z⟩:=I.cell y c (ok.sub y c e);exact z.lt
 refine⟨⟨I.ok.mod,?_,I.ok.glob,I.ok.blt,Ac _,?_,?_,?_,I.ok.hd,I.ok.frames,.inl rfl,?_,?_,?_,?_,?_,I.stack,I.Oi⟩,rfl,I.bare,Un.kept hk,⟨_,hn,?_⟩,?_,I.hok.fresh (Ac _),?_,?_,I.hok.kept hk,?_⟩
 ·exact ok.kind
 ·exact fun x y c h1 h2=>I.ok.inj x y c (ok.sub x c h1) (ok.sub y c h2)
 ·exact fun y hy=>ok.has y hy
 ·exact fun y c hy=>absurd hy (by simp[Di])
 ·intro b hb;exact⟨BH (hfs b hb),fun y c e=>(hf b hb).2.2.2.2.1 y c (ok.sub y c e)⟩
 ·exact fun b o e=>I.bs b o e
 ·exact BI I.ok.F3 I.sz
 ·intro b o e hb;rcases(hf b hb).2.2.2.1 with z|z
  ·exact I.ok.Jj b o e z
  ·exact absurd (Cu (Aw e) (BI I.ok.F3 z)) (Lo _)
 ·intro b hb hz;rcases Bk.mp (I.Md b hz) with z|z
  ·exact(hf b hb).2.1 z
  ·exact(hf b hb).2.2.1 z
 ·intro i x v e1 e2 e3;have e1':(ts++cap)[i]? =some x:=e1;by_cases hi:i<ts.length
  ·rw[C9 (by simpa using hi),Az] at e2
   cases e:ts[i]?with
   |none=>rw[e] at e2;cases e2
   |some y=>rw[e] at e2;cases e2
  ·rw[C4 (by simpa using hi),AL] at e2;rw[C4 (by lia)] at e1';obtain⟨j,hj,hv⟩:=dP e2;have hm:x∈cap:=CL e1';obtain⟨m,hnm,hl⟩:=I.loc;obtain⟨TY,nl,fr⟩:=ok.TY x hm;obtain⟨u,r,l⟩:=hl j x v (ok.nM _ x j e1' hj) hv TY;refine⟨u,r,?_⟩;rcases l with⟨k,_⟩|⟨_,c,hc,z⟩
   ·exact absurd k nl
   ·obtain⟨c',hc'⟩:=ok.has x fr;have e:=ok.sub x c' hc';rw[hc] at e;cases e;obtain⟨o,ho,hd⟩:=z;exact .inr ⟨fr,c,hc',o,hk c o ho,hd⟩
 ·intro x c e;obtain⟨v,o,ho,hd⟩:=I.cell x c (ok.sub x c e);exact⟨v,o,hk c o ho,hd⟩
 ·intro x c e;exact I.C8 x c (ok.sub x c e)
 ·intro p hp;have hp':p∈X.pn++pins:=by simpa[Di] using hp
  obtain⟨e,n,ne,nf,d⟩:=I.pin p hp';refine⟨hk _ _ e,n,BH (Aw e),fun hz=>?_,d⟩;rcases Bk.mp (I.Md p.1 hz) with z|z
  ·exact ne z
  ·exact nf z
 ·show(ts.map (fun _=>none)++DY ix σ).length=(ts++cap).length;rw[BC,AL,BC];unfold DY;rw[AL,ok.len]
theorem Inv.WK{Nc:List Str}{σc:St}{s':Shared}{h'':Heap}{pc:List (Addr×Obj)}(I:Inv X pins σ H s)(hf:∀b∈fp,FE X pins H b)
 (B:Inv (Di X Nc scope cl s.heap.objs.size s H fp pins) pc σc H' s')(hs:Heap.SameBut s.heap.objs.size s'.heap h''):Inv X pins σ H' {s' with heap:=h''}:=by
 have e1:(Di X Nc scope cl s.heap.objs.size s H fp pins).fs=Ci X.stack:=rfl;have B0:Un (Ci X.stack) fp H H' s.heap s'.heap:=B.base;have nz:∀b o,s.heap.get? b=some o->b≠s.heap.objs.size:=fun b o e=>BH (Aw e);have fr:H' s.heap.objs.size=none:=B.free;refine I.Oz (ch:=fp) (s':={s' with heap:=h''}) (show s'.os=s.os from B.os) ⟨fun b o e n hb hx=>?_,fun b o e n hb hx=>?_,B0.free,fun b o e hx=>?_,B0.EY,B0.Dk,B0.EX⟩ (fun b u e=>?_) B.bare (fun b hb=>?_)
 ·exact(hs.2 b (nz b o e)).trans (B0.keep b o e n hb hx)
 ·obtain⟨sl,q⟩:=B0.slot b o e n hb hx;exact⟨sl,(hs.2 b (nz b o e)).trans q⟩
 ·obtain⟨o',q⟩:=B0.there b o e hx;exact⟨o',(hs.2 b (nz b o e)).trans q⟩
 ·refine(B.hok b u e).EB (fun c v hc q=>(hs.2 c ?_).trans q) (fun _ q=>q) fun _ _ q=>q;rcases hc with z|z
  ·subst z;exact fun z=>by rw[z,fr] at e;cases e
  ·exact fun z'=>by rw[z',fr] at z;cases z
 ·obtain⟨_,f1,_,f3,f4,f5⟩:=hf b hb;exact⟨f3,f1,f4,f5⟩
end
variable{use:Option (Value->Sem Unit)}
section
variable{cap:List Str}{cl:List (Str×Addr)}
theorem VA{elt iter:Expr}{pos2:Pos}{wi:TI}{R:Value->Shared->Prop}{Q:VK}(ok:JV X ts cap ix scope cl)(hi:PI X tg iter wi)
 (hg:∀C s₀ H₀ fp pins,PG (Di X (ts++cap) scope cl C s₀ H₀ fp pins) tg g)(ht:∀C s₀ H₀ fp pins,M6 (Di X (ts++cap) scope cl C s₀ H₀ fp pins) ifs ti)
 (he:∀C s₀ H₀ fp pins,PE (Di X (ts++cap) scope cl C s₀ H₀ fp pins) elt te)(hs:∀x,foldedSetIterable iter X.env x=pure x)(I:Inv X pins σ H s)(h:SN ts ix wi g ti te σ H Q)
 (fin:∀(D:Addr)(H3 H4:Hp)(s3 s5:Shared)(fp:List Addr),Inv X pins σ H3 s3->(∀b∈fp,FE X pins H3 b)->Inv (Di X (ts++cap) scope cl s3.heap.objs.size s3 H3 fp pins) [] (ts.map (fun _=>none)++DY ix σ) H4 s5->Q (.ref D) H4->
  compPost (model X.prog X.w) X.A X.xe use R (.ref D) s3.heap.objs.size (.ok .next) s5):
 wpAny (model X.prog X.w) X.A (comprehension (.ListComp elt [⟨tg,iter,ifs,0⟩] scope pos) scope X.env pos2 (newList []) false (eval iter X.env) use) R X.xe s:=by
 refine wpAny_comprehension_free (use:=use) rfl hs ok.mj ok.kind ok.names (Ae (hi pins s σ H _ I h) fun v s1 h1=>Ae h1 fun itv s2 h2=>?_);obtain⟨it,fp,tn,J,H2,e,I2,T,st2,f2,hW⟩:=h2;subst e;refine Hc (wpAny_newFunctionEnv ok.cell (by intro y hy;simp at hy) (fun h1 hns hsb=>?_) ok.kind);dsimp only at hns hsb⊢;have nD:H2 s2.heap.objs.size=none:=I2.hok.fresh (Ac _);obtain⟨W,⟨m0,w0⟩,turn⟩:=hW s2.heap.objs.size nD;have I3:=I2.S1 (t':=s2.toks) (ys:=[]) (AM:=[]) .nil (CF _);have hfs2:∀b∈fp,b<s2.heap.objs.size:=fun b hb=>by obtain⟨o,e,_⟩:=T.obj _ _ st2 b hb;exact Aw e
 have hf3:∀b∈fp,FE X pins (upd H2 s2.heap.objs.size (.lst [])) b:=fun b hb=>⟨by rw[AO (BH (hfs2 b hb))];exact(f2 b hb).1,(f2 b hb).2⟩;generalize hs3:({s2 with heap:=s2.heap.push {cls:=.type "list",data:=.seq ([]:List Value).toArray},toks:=s2.toks}:Shared)=s3 at I3;have es3:s3.heap=s2.heap.push {cls:=.type "list",data:=.seq ([]:List Value).toArray}:=by rw[<-hs3]
 have ets:s3.toks=s2.toks:=by rw[<-hs3]
 have sz3:s3.heap.objs.size=s2.heap.objs.size+1:=by rw[es3,GF]
 have k3:∀b o,s2.heap.get? b=some o->s3.heap.get? b=some o:=fun b o e=>by rw[es3];exact A7 _ e
 have hk1:∀b o,s3.heap.get? b=some o->h1.get? b=some o:=fun b o e=>by have q:=hsb.2 b (by rw[<-es3];exact BH (Aw e));rw[q];rw[<-es3];exact A7 _ e
 have hC:(s2.heap.push {cls:=.type "list",data:=.seq ([]:List Value).toArray}).objs.size=s3.heap.objs.size:=by rw[es3]
 have B:Inv (Di X (ts++cap) scope cl s3.heap.objs.size s3 (upd H2 s2.heap.objs.size (.lst [])) fp pins) [] (ts.map (fun _=>none)++DY ix σ) (upd H2 s2.heap.objs.size (.lst [])) {s3 with heap:=h1,toks:=s2.toks}:=
  I3.block ok hf3 (fun b hb=>Cu (hfs2 b hb) (by rw[sz3];exact EO _)) (by rw[<-hC];exact hns) hk1;let Xc:=Di X (ts++cap) scope cl s3.heap.objs.size s3 (upd H2 s2.heap.objs.size (.lst [])) fp pins;have stat:∀{H':Hp},(∀b∈fp,H' b=none)->∀b∈fp,FE Xc [] H' b:=fun{H'} hn b hb=>by
  obtain⟨_,f1,f2',f3,f4,f5⟩:=f2 b hb;refine⟨hn b hb,?_,fun hz=>?_,.inl hb,fun x c e=>f4 x c (ok.sub x c e),fun p hp=>?_⟩
  ·have hlt:b<s3.heap.objs.size:=Cu (hfs2 b hb) (by rw[sz3];exact EO _);exact BH hlt
  ·rcases Bk.mp (I2.Md b hz) with z|z
   ·exact f1 z
   ·exact f2' z
  ·have hp':p∈X.pn++pins:=by
    have hp2:p∈(X.pn++pins)++[]:=hp
    rwa [Cy] at hp2
   exact f5 p hp'
 have st1:tn 0 h1:=T.keep 0 s2.heap h1 st2 fun b hb o e=>hk1 b o (k3 b o e);have loop:∀st:Shared,st={s3 with heap:=h1,toks:=s2.toks}->
  codeAny (model X.prog X.w) X.A (.compLoop (.ListComp elt [⟨tg,iter,ifs,0⟩] scope pos) 0 (.ref it) (.ref s2.heap.objs.size) (compEnvC scope cl s3.heap.objs.size X.env)) (compPost (model X.prog X.w) X.A X.xe use R (.ref s2.heap.objs.size) s3.heap.objs.size) st:=by
  rintro st rfl;refine aB (fun n s'=>∃i H',Inv Xc [] (ts.map (fun _=>none)++DY ix σ) H' s'/\tn i s'.heap/\(∀b∈fp,H' b=none)/\W i n H') ?_ m0 ⟨0,_,B,st1,fun b hb=>(hf3 b hb).1,w0⟩;rintro n s4 ⟨i,H4,B4,st4,fr4,w4⟩;rcases turn i n H4 w4 with⟨stop,q⟩|⟨go,N,hN,step⟩
  ·refine Ae (T.done Xc rfl rfl rfl ok.calm i [] s4 _ H4 _ B4 (stat fr4) st4 stop) fun r s5 ⟨hr,B5⟩=>?_;subst hr;exact fin _ _ H4 s3 s5 fp I3 hf3 B5 q
  ·refine Ae (T.item Xc rfl rfl rfl ok.calm i [] s4 _ H4 (fun _ _=>False) B4 (stat fr4) st4 go) fun r s5 ⟨u,hr,h5⟩=>?_;subst hr;refine Ae h5 fun _ s6 ⟨x,H6,B6,r6,y6,st6,fr6⟩=>?_;have B6':=B6.pinned (stat fr6) (T.obj _ _ st6);refine Ae (hg _ _ _ _ _ _ s6 _ H6 x u _ B6' r6 (step x H6 y6)) fun _ s7 ⟨σ7,H7,B7,tg7,q7⟩=>?_;refine Ae (ht _ _ _ _ _ _ s7 σ7 H7 _ B7 q7) fun b s8 ⟨H8,B8,q8⟩=>?_;have again:∀{H9:Hp}{s9:Shared},Inv Xc ([]++Ml fp s6.heap) σ7 H9 s9->N H9->
    ∃m,m<n/\∃i H',Inv Xc [] (ts.map (fun _=>none)++DY ix σ) H' s9/\tn i s9.heap/\(∀b∈fp,H' b=none)/\W i m H':=fun{H9 s9} B9 hm=>by
    obtain⟨m',lt,w9⟩:=hN _ hm;obtain⟨a,la,e7⟩:=tg7;subst e7;refine⟨m',lt,i+1,H9,(B9.OG).weak ?_ ?_,T.keep _ _ _ st6 fun b hb o e=>(B9.pin (b,o) (Df _ (Df _ (N4 hb e)))).1,fun b hb=>?_,w9⟩
    ·rw[BC,BC,AL,la]
    ·intro j v e;by_cases hj:j<ts.length
     ·rw[C9 (by simpa using hj),Az] at e
      cases e2:ts[j]?with
      |none=>rw[e2] at e;cases e
      |some y=>rw[e2] at e;cases e
     ·rw[C4 (by simpa using hj),AL] at e;rw[C4 (by lia),la];exact e
    ·obtain⟨o,e,d⟩:=T.obj _ _ st6 b hb;exact(B9.pin (b,o) (Df _ (Df _ (N4 hb e)))).2.1
   cases b with
   |false=>exact again B8 (by simpa using q8)
   |true=>
    have q8':te σ7 H8 fun y H4=>∃ys,H4 s2.heap.objs.size=some (.lst ys)/\ys.length<sizeLine/\N (upd H4 s2.heap.objs.size (.lst (ys++[y]))):=by simpa using q8
    refine Ae (he _ _ _ _ _ _ s8 σ7 H8 _ B8 q8') fun y s9 ⟨yv,H9,B9,ry,ys,hD,hl,q9⟩=>?_;exact Ae (Ef _ s9 σ7 H9 (.ref s2.heap.objs.size) [yv] (.ref s2.heap.objs.size) [y] (fun _ H'=>N H') B9 rfl (.cons ry .nil) ⟨_,ys,yv,rfl,rfl,hD,hl,q9⟩) fun _ s10 ⟨_,H10,B10,_,q10⟩=>again B10 q10
 have est:({s2 with heap:=h1,toks:=s2.toks+([]:List (Str×Value)).length}:Shared)={s3 with heap:=h1,toks:=s2.toks}:=by rw[<-hs3];rfl
 have L:=loop _ est;rw[<-hC] at L;exact codeAny_compStart_list L (T.self X.A 0 _ _ _ st1 L)
theorem ES{elt iter:Expr}{wi:TI}(ok:JV X ts cap ix scope cl)(hi:PI X tg iter wi)
 (hg:∀C s₀ H₀ fp pins,PG (Di X (ts++cap) scope cl C s₀ H₀ fp pins) tg g)(ht:∀C s₀ H₀ fp pins,M6 (Di X (ts++cap) scope cl C s₀ H₀ fp pins) ifs ti)
 (he:∀C s₀ H₀ fp pins,PE (Di X (ts++cap) scope cl C s₀ H₀ fp pins) elt te)(hs:∀x,foldedSetIterable iter X.env x=pure x:=by intro _;rfl):
 PE X (.ListComp elt [⟨tg,iter,ifs,0⟩] scope pos) (SN ts ix wi g ti te):=by
 intro pins s σ H Q I h;rw[eval_ListComp];refine VA (use:=none) (Q:=Q) ok hi hg ht he hs I h fun D H3 H4 s3 s5 fp I3 hf3 B5 q=>?_;obtain⟨m,hnm,_⟩:=B5.loc;exact⟨m,hnm,fun h' hsb'=>⟨.ref D,H4,I3.WK hf3 B5 hsb',rfl,q⟩⟩
theorem gk{y:Str}{elt iter:Expr}{spos py:Pos}{wi:TI}(ok:JV X ts cap ix scope cl)(hN:X.N.Nodup)(hy:X.N[i]? =some y)(hl:X.env.scope.names.lookup y=some .local)(hi:PI X tg iter wi)
 (hg:∀C s₀ H₀ fp pins,PG (Di X (ts++cap) scope cl C s₀ H₀ fp pins) tg g)(ht:∀C s₀ H₀ fp pins,M6 (Di X (ts++cap) scope cl C s₀ H₀ fp pins) ifs ti)
 (he:∀C s₀ H₀ fp pins,PE (Di X (ts++cap) scope cl C s₀ H₀ fp pins) elt te)(hs:∀x,foldedSetIterable iter X.env x=pure x:=by intro _;rfl)
 (hsw:swapsWith (.ListComp elt [⟨tg,iter,ifs,0⟩] scope pos) (some (.Name y py)) spos.line X.env=pure true:=by rfl):
 PS X (.Assign [.Name y py] (.ListComp elt [⟨tg,iter,ifs,0⟩] scope pos) spos) (PK (SN ts ix wi g ti te) (Dj i)):=by
 intro pins s σ H D I h;rw[exec_Assign_Name_used _ _ _ _ hsw];refine AJ (Nr (AJ ?_));show wpAny _ X.A (do let _<-comprehension (.ListComp elt [⟨tg,iter,ifs,0⟩] scope pos) scope X.env _ (newList []) false (eval iter X.env) (some (assign (.Name y py) X.env))) _ _ s;refine AJ (Cz (VA (R:=fun _ s'=>SP X pins D .next s') (Q:=fun x H1=>Dj i x σ H1 D.nx) ok hi hg ht he hs I h fun D' H3 H4 s3 s5 fp I3 hf3 B5 q=>?_) (fun _ s' hq=>Af (Af hq)) fun _ _ e=>e);have I5:Inv X pins σ H4 s5:=I3.WK hf3 B5 (Heap.SameBut.refl ..);obtain⟨m,hnm,_⟩:=B5.loc;have hC:s3.heap.objs.size<s5.heap.objs.size:=hnm.lt;show wpAny _ X.A (assign (.Name y py) X.env (.ref D')) _ _ s5;refine wpAny_assign_Name (VQ I5 hN hy (.inl hl) (v:=.ref D') rfl (fun s' I' hb=>?_) (.inr hl));obtain⟨a,sb,ha⟩:=hb;have ea:a≠s3.heap.objs.size:=by
  rcases ha with e|e
  ·rw[e];exact BH I3.lt
  ·obtain⟨v,z⟩:=I3.cell y a e;exact BH z.lt
 refine⟨m,hnm.sameBut sb (C5 ea),fun h' hs'=>?_⟩;refine⟨_,H4,I'.turned (t':=s'.toks) (it:=s3.heap.objs.size) (fun b o hb e=>(hs'.2 b hb).trans e) B5.free (EN I3.lt) (.inr I3.sz) (fun x c e=>?_) (fun p hp=>?_),q⟩
 ·obtain⟨v,z⟩:=I3.cell x c e;exact BH z.lt
 ·exact BH (Aw (I3.pin p hp).1)
end
def Pk(z:Str):It:=⟨fun i _=>i<z.cps.size,fun i H v H'=>H'=H/\∃c,z.cps[i]? =some c/\v=.str ⟨#[c]⟩,fun i _=>z.cps.size<=i⟩
theorem WG(it:Addr)(ty:String)(z:Str)(t:Tok)(hty:ty="str_ascii_iterator" \/ty="str_iterator"):
 Turn P w K tg (Pk z) [it] it (fun i h=>h.IsStrIter it ty z t i) where
 mem:=by simp
 obj:=fun i h st b hb=>by
  obtain rfl:b=it:=by simpa using hb
  obtain⟨o,e,c,d⟩:=st;exact⟨o,e,fun v q=>by rw[d] at q;cases q⟩
 keep:=fun i h h' st k=>by obtain⟨o,e,r⟩:=st;exact⟨o,k it (by simp) o e,r⟩
 item:=by
  intro X hP hw hK hc i pins s σ H E I hf st hg;subst hP hw hK;obtain⟨f0,f1,f2,f3,f4,f5⟩:=hf it (by simp);have hi:i<z.cps.size:=hg;have fin:∀(c:Nat)(u:Tok)(h':Heap)(tk:Nat),z.cps[i]? =some c->h'.IsStrIter it ty z t (i+1)->(∀b o,b≠it->s.heap.get? b=some o->h'.get? b=some o)->
   ∃v,some (Value.str ⟨#[c]⟩ u)=some v/\wpAny (model X.prog X.w) X.A (letOwnedTupleGo tg (.ref it) v) (fun _ s2=>∃x H',Inv X pins σ H' s2/\RelV x v/\(Pk z).Io i H x H'/\s2.heap.IsStrIter it ty z t (i+1)/\∀b∈[it],H' b=none) E {s with heap:=h',toks:=tk}:=by
   intro c u h' tk hc st' kk;have I1:Inv X pins σ H {s with heap:=h',toks:=tk}:=I.turned (fun b o hb e=>kk b o hb e) f0 f1 f3 f4 f5;obtain⟨o,e,ec,d⟩:=id st';refine⟨_,rfl,Ox (s:={s with heap:=h',toks:=tk}) (n:=ty) e ec d ?_ ⟨.str ⟨#[c]⟩,H,I1,⟨u,rfl⟩,⟨rfl,c,hc,rfl⟩,st',fun b hb=>(hf b hb).1⟩⟩;rcases hty with e|e<;>subst e<;>decide
  rcases hty with e|e
  ·subst e;have W:=Walks.strAscii (prog:=X.prog) (w:=X.w) (I.ok.hd hc) it z t;refine W.item i s _ _ hi st fun v h' tk hv st' kk=>?_;obtain⟨c,u,hc',rfl⟩:=hv;exact fin c u h' tk hc' st' fun b o hb e=>kk b o (by simpa using hb) e
  ·subst e;have W:=Walks.strWide (prog:=X.prog) (w:=X.w) (I.ok.hd hc) it z t;refine W.item i s _ _ hi st fun v h' tk hv st' kk=>?_;obtain⟨c,u,hc',rfl⟩:=hv;exact fin c u h' tk hc' st' fun b o hb e=>kk b o (by simpa using hb) e
 done:=by
  intro X hP hw hK hc i pins s σ H E I hf st hg;subst hP hw hK;obtain⟨f0,f1,f2,f3,f4,f5⟩:=hf it (by simp);have hi:z.cps[i]? =none:=by have:z.cps.size<=i:=hg;simp only[Array.getElem?_eq_none_iff];exact this
  rcases hty with e|e
  ·subst e;exact wpAny_pyNext_ascii_end (I.ok.hd hc) st hi fun h' eb=>⟨rfl,I.turned (t':=s.toks) (fun b o hb e=>eb b o hb e) f0 f1 f3 f4 f5⟩
  ·subst e;exact wpAny_pyNext_wide_end (I.ok.hd hc) st hi fun h' eb=>⟨rfl,I.turned (t':=s.toks) (fun b o hb e=>eb b o hb e) f0 f1 f3 f4 f5⟩
 self:=fun _ _ _ _ _ st h=>by
  rcases hty with e|e
  ·subst e;exact wpAny_pyIter_striter_ascii st h
  ·subst e;exact wpAny_pyIter_striter_wide st h
def lg(tl:TE):TI:=fun σ H R=>tl σ H fun x H1=>∃z,x=.str z/\R (Pk z) H1
theorem Xj{l:Expr}{tl:TE}(hl:PE X l tl):PI X tg l (lg tl):=by
 intro pins s σ H R I h;refine Ae (hl pins s σ H _ I h) fun v s1 ⟨x,H1,I1,r1,q1⟩=>?_;obtain⟨z,e,q⟩:=q1;subst e;obtain⟨t,rfl⟩:=r1;have fp:∀b∈[s1.heap.objs.size],FE X pins H1 b:=fun b hb=>by
  obtain rfl:b=s1.heap.objs.size:=by simpa using hb
  exact I1.Js (Ac _) (I1.hok.fresh (Ac _))
 cases ha:z.cps.all (·<128)
 ·exact wpAny_pyIter_wide ha ⟨s1.heap.objs.size,[s1.heap.objs.size],_,_,H1,rfl,I1.kept (t':=s1.toks) fun b o e=>A7 _ e,WG _ "str_iterator" z t (.inr rfl),⟨_,Bx _ rfl,rfl,rfl⟩,fp,q⟩
 ·exact wpAny_pyIter_ascii ha ⟨s1.heap.objs.size,[s1.heap.objs.size],_,_,H1,rfl,I1.kept (t':=s1.toks) fun b o e=>A7 _ e,WG _ "str_ascii_iterator" z t (.inl rfl),⟨_,Bx _ rfl,rfl,rfl⟩,fp,q⟩
theorem VP:Bs X (compareOp .LtE) (fun x y H Q=>∃i j,x=.str i/\y=.str j/\Q (.bl (!decide (j.cps.toList<i.cps.toList))) H):=by intro pins s σ H x y v u Q I rx ry h;obtain⟨i,j,rfl,rfl,q⟩:=h;obtain⟨t,rfl⟩:=rx;obtain⟨t',rfl⟩:=ry;exact P.le_str (By I q rfl)
theorem Uo:Bs X (binaryOp .Mult) (fun x y H Q=>∃z k,x=.str z/\y=.int k/\MulOk z k/\Q (.str (Txt.mul z k)) H):=by intro pins s σ H x y v u Q I rx ry h;obtain⟨z,k,rfl,rfl,hm,q⟩:=h;obtain⟨t,rfl⟩:=rx;obtain⟨t',rfl⟩:=ry;exact SB.mul hm fun t'' k'=>⟨.str _,H,I.tok _,⟨_,rfl⟩,q⟩
def YG(f:Str->Str->Bool):V->List V->Hp->VK->Prop:=fun x vs H Q=>∃z y,x=.str z/\vs=[.str y]/\Q (.bl (f z y)) H
theorem bo:HX X "str.startswith" (YG Txt.startswith):=by intro pins s σ H x vs v us Q I rx rv h;obtain⟨z,y,rfl,rfl,q⟩:=h;obtain⟨t,rfl⟩:=rx;obtain⟨u,rfl,ru⟩:=rv.one;obtain⟨t',rfl⟩:=ru;exact SC.startswith ⟨.bl _,H,I,rfl,q⟩
theorem gC:HX X "str.endswith" (YG Txt.endswith):=by intro pins s σ H x vs v us Q I rx rv h;obtain⟨z,y,rfl,rfl,q⟩:=h;obtain⟨t,rfl⟩:=rx;obtain⟨u,rfl,ru⟩:=rv.one;obtain⟨t',rfl⟩:=ru;exact SC.endswith ⟨.bl _,H,I,rfl,q⟩
theorem U3:∀l:List (Str×Tok),Vals (l.map fun p=>V.str p.1) (strValues l)
 |[]=>.nil
 |p::r=>.cons ⟨p.2,rfl⟩ (U3 r)
def iY:V->List V->Hp->VK->Prop:=fun x vs H Q=>∃z y,x=.str z/\vs=[.str y]/\(y.length==0)=false/\z.length+2<=sizeLine/\∀D,H D=none->Q (.ref D) (upd H D (.lst ((Txt.split z y).map V.str)))
theorem Vf:HX X "str.split" iY:=by
 intro pins s σ H x vs v us Q I rx rv h;obtain⟨z,y,rfl,rfl,hy,hz,q⟩:=h;obtain⟨t,rfl⟩:=rx;obtain⟨u,rfl,ru⟩:=rv.one;obtain⟨t',rfl⟩:=ru;have hcut:(Txt.split z y).length<=sizeLine:=by
  have hy1:1<=y.length:=by
   rcases Nat.eq_zero_or_pos y.length with e|e
   ·rw[e] at hy;cases hy
   ·exact e
  have:=Lp z y hy1
  lia
 have fin:∀(l:List (Str×Tok))(tk:Nat),l.map (·.1)=Txt.split z y->EP X pins σ Q (.ref s.heap.objs.size) {s with heap:=s.heap.push {cls:=.type "list",data:=.seq (strValues l).toArray},toks:=tk}:=fun l tk e=>by
  have el:(l.map fun p=>V.str p.1)=(Txt.split z y).map V.str:=by rw[<-e,Bh];rfl
  have hl:(l.map fun p=>V.str p.1).length<=sizeLine:=by rw[el,AL];exact hcut
  refine⟨.ref s.heap.objs.size,_,I.S1 (t':=tk) (U3 l) hl,rfl,?_⟩;rw[el];exact q _ I.fresh
 have hn:(Builtin.Str.partsBetween z (Builtin.Str.occurrences z y 0 z.length (z.length+1)) y.length).length<=sizeLine:=by have e1:=StrLaws.occ_length_le z y 0 z.length (z.length+1);rw[length_partsBetween];lia
 by_cases h1:(decide (z.length<y.length)||decide (Builtin.Str.strKind z<Builtin.Str.strKind y))=true
 ·refine JH F.slot_str_split (KW _ _ _) F.entry_str_split (UH _ _) (meets_str_split_cannot_occur z y t t' h1) ?_;exact fin [(z,t)] s.toks (by unfold Txt.split;rw[AH h1];rfl)
 ·by_cases h2:(Builtin.Str.occurrences z y 0 z.length (z.length+1)).isEmpty=true
  ·refine JH F.slot_str_split (KW _ _ _) F.entry_str_split (UH _ _) (meets_str_split_not_found z y t t' (by simpa using h1) hy h2) ?_;exact fin [(z,t)] s.toks (by unfold Txt.split;rw[AG h1,AH h2];rfl)
  ·refine JH F.slot_str_split (KW _ _ _) F.entry_str_split (UH _ _) (meets_str_split_sep z y t t' (by simpa using h1) hy (by simpa using h2) (by lia) hn) ?_;have:=fin (numbered s.toks (Builtin.Str.partsBetween z (Builtin.Str.occurrences z y 0 z.length (z.length+1)) y.length)) (s.toks+(Builtin.Str.partsBetween z (Builtin.Str.occurrences z y 0 z.length (z.length+1)) y.length).length)
    (by rw[numbered_texts];unfold Txt.split;rw[AG h1,AG h2]);rw[<-strsFrom_eq] at this;exact this
def m9:V->Option Int->Option Int->Hp->VK->Prop:=fun x lo hi H Q=>∃z,x=.str z/\z.length<=sizeLine/\Q (.str (Txt.slice z lo hi)) H
theorem Kq:LC X m9:=by
 intro pins s σ H x v vl vu lo hi sl Q I rx hs pl pu h;obtain⟨z,rfl,hz,q⟩:=h;obtain⟨t,rfl⟩:=rx;refine⟨"str",_,F.slot_str_getitem.lookup,KW _ _ _,?_⟩;have fin:∀t' k,EP X pins σ Q (.str (Txt.slice z lo hi) t') {s with toks:=k}:=fun t' k=>⟨.str _,H,I.tok _,⟨_,rfl⟩,q⟩;have le:=BI (Ny z lo hi) hz
 cases pl with
 |none=>
  cases pu with
  |none=>exact P2 (l:=none) (u:=none) (st:=none) hs rfl (Qb ⟨le,fin⟩)
  |int j uj=>exact P2 (l:=none) (u:=some (j,uj)) (st:=none) hs rfl (Qb ⟨le,fin⟩)
 |int i ui=>
  cases pu with
  |none=>exact P2 (l:=some (i,ui)) (u:=none) (st:=none) hs rfl (Qb ⟨le,fin⟩)
  |int j uj=>exact P2 (l:=some (i,ui)) (u:=some (j,uj)) (st:=none) hs rfl (Qb ⟨le,fin⟩)
theorem cS(hu:X.A.units<cLine):Bs X (compareOp .NotEq) (fun x y H Q=>∃a b xs,x=.ref a/\y=.ref b/\AN X.K H a xs/\AN X.K H b []/\Q (.bl (!xs.isEmpty)) H):=by
 intro pins s σ H x y v u Q I rx ry h;obtain⟨a,b,xs,rfl,rfl,ha,hb,q⟩:=h;cases rx;cases ry;obtain⟨AM,r,pl,hz⟩:=I.list ha;obtain⟨its2,r2,pl2,hz2⟩:=I.list hb;cases r2;have hl:=r.length
 cases xs with
 |nil=>cases r;refine SeqAt.RcNeAt.lists (e:=fun _=>true) pl.isList pl2.isList rfl hu (fun j h1=>absurd h1 (by simp)) _ _ _ _ ?_;exact⟨.bl false,H,I,rfl,q⟩
 |cons x xs=>refine SeqAt.RcNeAt.lists_lengths pl.isList pl2.isList ?_ hu _ _ _ _ ⟨.bl true,H,I,rfl,q⟩;cases r;simp
theorem cT(hu:X.A.units<cLine):Bs X (compareOp .Eq) (fun x y H Q=>∃a b xs,x=.ref a/\y=.ref b/\AN X.K H a xs/\AN X.K H b []/\Q (.bl xs.isEmpty) H):=by
 intro pins s σ H x y v u Q I rx ry h;obtain⟨a,b,xs,rfl,rfl,ha,hb,q⟩:=h;cases rx;cases ry;obtain⟨AM,r,pl,hz⟩:=I.list ha;obtain⟨its2,r2,pl2,hz2⟩:=I.list hb;cases r2;have hl:=r.length
 cases xs with
 |nil=>cases r;refine SeqAt.eq_listAt (e:=fun _=>true) pl.isList pl2.isList rfl hu (fun j h1=>absurd h1 (by simp)) ?_;exact⟨.bl true,H,I,rfl,q⟩
 |cons x xs=>refine SeqAt.eq_list_lengthsAt pl.isList pl2.isList ?_ hu ⟨.bl false,H,I,rfl,q⟩;cases r;simp
theorem dz:C6 X (.builtin "isinstance") (fun xs H Q=>∃x c t b,xs=[x,.ty c]/\Bi X.K H x t/\kitOne X.K t (.type c)=some b/\Q (.bl b) H):=by intro pins s σ H xs us Q I r h;obtain⟨x,c,t,b,rfl,ty,e,q⟩:=h;obtain⟨u,w',rfl,rx,rc⟩:=vals2 r;cases rc;exact bg I rx ty e fun tk=>⟨.bl b,H,I.tok _,rfl,q⟩
theorem Vr:∀{cs:List String}{us:List Value},Vals (cs.map V.ty) us->us=cs.map Value.type
 |[],_,.nil=>rfl
 |_::_,_,.cons r t=>by rw[Au,<-Vr t];cases r;rfl
theorem bH:C6 X (.builtin "isinstance") (fun xs H Q=>∃(x:V)(p:Addr)(cs:List String)(t:Value)(b:Bool),xs=[x,.ref p]/\H p=some (.tup (cs.map V.ty))/\Bi X.K H x t/\kitAny X.K t (cs.map Value.type)=some b/\Q (.bl b) H):=by
 intro pins s σ H xs us Q I r h;obtain⟨x,p,cs,t,b,rfl,hp,ty,e,q⟩:=h;obtain⟨u,w',rfl,rx,rc⟩:=vals2 r;cases rc;obtain⟨_,AM,rv,o,h1,h2,n,h3⟩:=(show BL X.prog X.w H s.heap p (.tup (cs.map V.ty)) from I.hok p _ hp);have ei:=Vr rv;subst ei;obtain⟨oc,od,oda,osl⟩:=o;simp only at h2 h3;subst h2 h3;have fin:∀tk,EP X pins σ Q (.bool b) {s with toks:=tk}:=fun tk=>⟨.bl b,H,I.tok _,rfl,q⟩
 cases ty with
 |A3=>cases(show u=Value.none from rx);exact Gv kitx_none I.BP Cm h1 e (fun z=>nomatch z) fin
 |bl y=>cases(show u=Value.bool y from rx);exact Gv kitx_bool I.BP Cm h1 e (fun z=>nomatch z) fin
 |int i=>obtain⟨t,q⟩:=(show∃t,u=Value.int i t from rx);cases q;exact Gv kitx_int I.BP Cm h1 e (fun z=>nomatch z) fin
 |str y=>obtain⟨t,q⟩:=(show∃t,u=Value.str y t from rx);cases q;exact Gv kitx_str I.BP Cm h1 e (fun z=>nomatch z) fin
 |Hy y=>obtain⟨t,q⟩:=(show∃t,u=Value.float y t from rx);cases q;exact Gv kitx_float I.BP Cm h1 e (fun z=>nomatch z) fin
 |@lst a xs ea=>cases(show u=Value.ref a from rx);obtain⟨_,_,n,_,g1⟩:=(show BL X.prog X.w H s.heap a (.lst xs) from I.hok a _ ea);exact Gv QM I.BP ⟨_,g1,rfl⟩ h1 e (fun z=>nomatch z) fin
 |@BO a ob xs ea=>cases(show u=Value.ref a from rx);obtain⟨_,_,_,n,_,g1⟩:=(show BL X.prog X.w H s.heap a (.BO ob (.lst xs)) from I.hok a _ ea);exact Gv QM I.BP ⟨_,g1,rfl⟩ h1 e (fun z=>nomatch z) fin
 |@tup a xs ea=>cases(show u=Value.ref a from rx);obtain⟨_,_,_,p⟩:=(show BL X.prog X.w H s.heap a (.tup xs) from I.hok a _ ea);obtain⟨o,g1,g2,_⟩:=p;exact Gv kitx_tuple I.BP ⟨o,g1,g2⟩ h1 e (fun z=>nomatch z) fin
 |@dK a AA ea=>cases(show u=Value.ref a from rx);obtain⟨_,_,vs,_,p⟩:=(show BL X.prog X.w H s.heap a (.dK AA) from I.hok a _ ea);obtain⟨o,es,ep,g1,g2,_⟩:=p;exact Gv QN I.BP ⟨o,g1,g2.1⟩ h1 e (fun z=>nomatch z) fin
 |@dT a AA ea=>cases(show u=Value.ref a from rx);obtain⟨_,_,xs,_,o,es,ep,g1,g2,_⟩:=(show BL X.prog X.w H s.heap a (.dT AA) from I.hok a _ ea);exact Gv QN I.BP ⟨o,g1,g2.1⟩ h1 e (fun z=>nomatch z) fin
 |@ins a C dx fs ea cl ha hn htk hm=>cases(show u=Value.ref a from rx);obtain⟨mA,O,_⟩:=MM I.hok ea;obtain⟨od,J,_⟩:=O.look;exact Gv (kitx_own (cl.get _) cl.hd ha hn htk hm) I.BP J h1 e (fun z=>nomatch z) fin
theorem all_range(bs:List Bool):∀n:Nat,n=bs.length->(List.range n).all (fun i=>bs.getD i true)=bs.all id:=by
 rintro n rfl;rw[Nj,Ng,Ng];constructor
 ·intro h b hb;obtain⟨i,hi,e⟩:=HZ.mp hb;have:=h i (KI.mpr hi);rw[Cj,Ar hi] at this;rw[<-e];exact this
 ·intro h i hi;have hi':=KI.mp hi;rw[Cj,Ar hi'];exact h _ (E1 hi')
theorem eJ(hc:X.calm=true):C6 X (.builtin "all") (fun xs H Q=>∃(p:Addr)(bs:List Bool),xs=[.ref p]/\AN X.K H p (bs.map V.bl)/\Q (.bl (bs.all id)) H):=by
 intro pins s σ H xs us Q I r h;obtain⟨p,bs,rfl,hq,q⟩:=h;obtain⟨u,rfl,rx⟩:=vals1 r;cases rx;obtain⟨AM,rv,pl,hz⟩:=I.list hq;have hlen:=rv.length;obtain⟨o,ho,hoc,n,hod⟩:=id pl.isList;have ne:p≠s.heap.objs.size:=BH (Aw ho);have hh:X.A.in1.handled=none:=I.ok.hd hc;have tr:TruthOf X.prog X.w X.A.in1 (fun i v=>AM.toArray[i]? =some v) (fun i=>bs.getD i true):=by
  intro i v s' Q' E' hv hQ;have hv':AM[i]? =some v:=by simpa using hv
  have hi:i<AM.length:=(BW.mp hv').1;rw[AL] at hlen;have hb:bs[i]? =some bs[i]:=Ar (by lia);obtain⟨u',hu',ru⟩:=rv.get (i:=i) (x:=.bl bs[i]) (by rw[Az,hb];rfl);rw[hv'] at hu';cases hu';cases ru;have hQ':Q' (bs.getD i true) s':=hQ;rw[Cj,hb] at hQ';exact Af hQ'
 refine call_all_walk (wpAny_pyIter_list pl.isList ?_);refine⟨s.heap.objs.size,[s.heap.objs.size,p],[s.heap.objs.size],AM.toArray.size,fun i v=>AM.toArray[i]? =some v,fun i h=>h.IsListIter s.heap.objs.size p i/\h.IsList p AM.toArray,fun i=>bs.getD i true,rfl,Walks.list hh _ p ne AM.toArray,
  ⟨⟨_,Bx _ rfl,rfl,rfl⟩,⟨o,A7 _ ho,hoc,n,hod⟩⟩,tr,fun h' tk kk=>?_⟩;rw[all_range bs AM.toArray.size (by rw[AL] at hlen;simp[hlen])];exact⟨.bl _,H,I.kept (fun b ob e=>kk b ob (by simpa using BH (Aw e)) (A7 _ e)),rfl,q⟩
section
variable{xs:List V}
theorem FF(h:AN [] H a xs):AN K H a xs:=h.elim .inl fun⟨_,_,_,e,_⟩=>nomatch e
theorem K6(h:AY [] H a xs):AY K H a xs:=h.elim .inl fun⟨_,_,_,e,_⟩=>nomatch e
theorem Bq:Gq X (Sr []):=fun _ _ _ _ _ _ _ _ _ _ _ I r r' ⟨p,xs,i,v,a,b,q,c⟩=>Wy _ _ _ _ _ _ _ _ _ _ _ I r r' ⟨p,xs,i,v,a,b,FF q,c⟩
theorem BS:Gq X (Ms []):=fun _ _ _ _ _ _ _ _ _ _ _ I r r' ⟨p,xs,i,v,a,b,q,c⟩=>DW _ _ _ _ _ _ _ _ _ _ _ I r r' ⟨p,xs,i,v,a,b,K6 q,c⟩
theorem lW:LC X (ZM []):=fun _ _ _ _ _ _ _ _ _ _ _ _ I r a b c ⟨p,xs,e,q,z⟩=>je _ _ _ _ _ _ _ _ _ _ _ _ I r a b c ⟨p,xs,e,K6 q,z⟩
theorem Ys:LC X (Y3 []):=fun _ _ _ _ _ _ _ _ _ _ _ _ I r a b c ⟨p,xs,e,q,z⟩=>OW _ _ _ _ _ _ _ _ _ _ _ _ I r a b c ⟨p,xs,e,FF q,z⟩
theorem Hq:C6 X (.builtin "len") (fun xs H Q=>∃p ys,xs=[.ref p]/\(AN [] H p ys\/AY [] H p ys)/\Q (.int ys.length) H):=
 fun _ _ _ _ _ _ _ I r ⟨p,ys,e,q,z⟩=>Hh _ _ _ _ _ _ _ I r ⟨p,ys,e,q.imp FF K6,z⟩
theorem mq:Bs X (compareOp .In) (Te [] false):=fun _ _ _ _ _ _ _ _ _ I r r' ⟨p,xs,e,q,z⟩=>cD _ _ _ _ _ _ _ _ _ I r r' ⟨p,xs,e,q.imp FF K6,z⟩
theorem mw(hu:X.A.units<cLine):Bs X (compareOp .Eq) (fun x y H Q=>∃a b xs,x=.ref a/\y=.ref b/\AN [] H a xs/\AN [] H b []/\Q (.bl xs.isEmpty) H):=
 fun _ _ _ _ _ _ _ _ _ I r r' ⟨p,b,xs,e,e',q,q',z⟩=>cT hu _ _ _ _ _ _ _ _ _ I r r' ⟨p,b,xs,e,e',FF q,FF q',z⟩
theorem Y2{x:V}(h:M7 [] T x H):M7 K T x H:=by
 cases x;case ref p=>exact h.imp (fun⟨e,xs,q⟩=>⟨e,xs,FF q⟩) (·.imp (fun⟨_,_,e,_⟩=>nomatch e) id)
 all_goals exact h
def ZQ(t:TE):TE:=fun σ H Q=>∃Q0:VK,t σ H Q0/\∀v H1,Q0 v H1->Q v H1
theorem PE.mc{t:TE}(h:PE X e t):PE X e (ZQ t):=fun pins s σ H Q I ⟨Q0,z,m⟩=>Ae (h pins s σ H Q0 I z) fun _ _ ⟨v,H1,i,r,q⟩=>⟨v,H1,i,r,m _ _ q⟩
end
section
variable{o:Expr}{es:List Expr}{to:TE}{t:TA}{id:String}
theorem FQ(pa:PlainAttrs T)(slot:Slot T name id)(hty:typeOf (.builtin id)=pure (.type "method_descriptor"))(hm:NA X id r)(ho:PE X o to)(ha:PA X (e::es) t)
 (hbase:attributeBase o name X.env (eval o X.env)=eval o X.env:=by rfl)
 (hfew:((backTo cpos (starEach (e::es) X.env)).all (fun x=> !x.1)&&(backToKw cpos (keywordEach [] X.env)).all (fun x=>x.1.isSome)
  &&decide ((e::es).length+([]:List Keyword).length+(if([]:List Keyword).isEmpty then 0 else 1)<30))=true:=by rfl)
 (hline:(apos.endLine==cpos.line)=true:=by rfl)(hs:starEach (e::es) X.env=(false,eval e X.env)::starEach es X.env:=by rfl)(hplain:(backTo cpos (starEach es X.env)).any (·.1)=false:=by rfl):
 PE X (.Call (.Attribute o name apos) (e::es) [] cpos) (TV [] T r to t):=
 fun pins s σ H Q I h=>Ht pa slot hty hm ho.mc ha hbase hfew hline hs hplain pins s σ H Q I ⟨_,h,fun _ _ ⟨y,z⟩=>⟨Y2 y,z⟩⟩
end
theorem kJ{it:Addr}{tn:Nat->Heap->Prop}(T:Turn P w K tg (Gp K a) fp it tn):Turn P w K tg (Gp [] a) fp it tn where
 mem:=T.mem
 obj:=T.obj
 keep:=T.keep
 item:=fun X a1 a2 a3 a4 i pins s σ H E I f t ⟨xs,x,q,e⟩=>Cz (T.item X a1 a2 a3 a4 i pins s σ H E I f t ⟨xs,x,FF q,e⟩) (fun r s1 ⟨u,hu,z⟩=>⟨u,hu,Cz z (fun _ s2 ⟨x,H',I',rx,⟨e,y⟩,z⟩=>⟨x,H',I',rx,⟨e,fun xs q=>y xs (FF q)⟩,z⟩) fun _ _ z=>z⟩) fun _ _ z=>z
 done:=fun X a1 a2 a3 a4 i pins s σ H E I f t ⟨xs,q,e⟩=>T.done X a1 a2 a3 a4 i pins s σ H E I f t ⟨xs,FF q,e⟩
 self:=T.self
theorem Gg{l:Expr}{tl:TE}(hl:PE X l tl):PI X tg l (Jd [] tl):=fun pins s σ H R I h=>
 Ae (Fo (tg:=tg) hl.mc pins s σ H (fun J H1=>∃a,J=Gp X.K a/\R (Gp [] a) H1) I (show Jd X.K (ZQ tl) σ H _ from⟨_,h,fun _ _ ⟨a,e,⟨xs,q⟩,z⟩=>⟨a,e,⟨xs,FF q⟩,⟨a,rfl,z⟩⟩⟩)) fun _ _ z=>Ae z fun _ _ ⟨it,fp,tn,_,H',e,i,T,t0,f,a,ej,z⟩=>⟨it,fp,tn,Gp [] a,H',e,i,kJ (ej▸T),t0,f,z⟩
inductive Dt where
 |bl (b:Bool)|int (i:Int)|str (x:Str)|lst (xs:List Dt)|tup (xs:List Dt)
mutual
noncomputable def Dt.sz:Dt->Nat
 |.lst xs=>1+Dt.CD xs
 |.tup xs=>1+Dt.CD xs
 |_=>1
noncomputable def Dt.CD:List Dt->Nat
 |[]=>0
 |d::r=>d.sz+Dt.CD r
end
theorem Dt.XN:∀d:Dt,1<=d.sz
 |.lst _=>by unfold Dt.sz;lia
 |.tup _=>by unfold Dt.sz;lia
 |.bl _=>by unfold Dt.sz;lia
 |.int _=>by unfold Dt.sz;lia
 |.str _=>by unfold Dt.sz;lia
theorem Dt.Oa:∀a b:List Dt,Dt.CD (a++b)=Dt.CD a+Dt.CD b
 |[],b=>by rw[Qc];simp[Dt.CD]
 |d::r,b=>by rw[Nf];simp only[Dt.CD];rw[Dt.Oa r b];lia
theorem Dt.JO:∀a:List Dt,a.length<=Dt.CD a
 |[]=>by simp
 |d::r=>by
  have h1:=d.XN;have h2:=Dt.JO r;simp only[Dt.CD,CV]
  lia
inductive Rep(H:Hp):Dt->V->Prop where
 |bl (b:Bool):Rep H (.bl b) (.bl b)
 |int (i:Int):Rep H (.int i) (.int i)
 |str (x:Str):Rep H (.str x) (.str x)
 |lst {ds:List Dt} {a:Addr} {xs:List V} (h:H a=some (.lst xs)) (hl:ds.length=xs.length) (r:∀(i:Nat) d x,ds[i]? =some d->xs[i]? =some x->Rep H d x):Rep H (.lst ds) (.ref a)
 |tup {ds:List Dt} {a:Addr} {xs:List V} (h:H a=some (.tup xs)) (hl:ds.length=xs.length) (r:∀(i:Nat) d x,ds[i]? =some d->xs[i]? =some x->Rep H d x):Rep H (.tup ds) (.ref a)
theorem Rep.same(s:AS H H'){d:Dt}{x:V}(r:Rep H d x):Rep H' d x:=by
 induction r with
 |bl b=>exact .bl b
 |int i=>exact .int i
 |str x=>exact .str x
 |lst h hl _ ih=>exact .lst (s _ _ h) hl ih
 |tup h hl _ ih=>exact .tup (s _ _ h) hl ih
theorem Ak{o:HO}(h:H a=none):AS H (upd H a o):=fun b u e=>by rw[AO (A2 e h)];exact e
theorem AS.upd{o:HO}(s:AS H H')(h:H a=none):AS H (upd H' a o):=fun b u e=>by rw[AO (A2 e h)];exact s b u e
theorem Ga{c A:Prop}[Decidable c](hc:¬c)(h:A):if(!decide c)=true then A else B:=by rw[BK hc];exact Bf h
theorem B1{c A:Prop}[Decidable c](hc:c)(h:A):if decide c=true then A else B:=by rw[Bj hc];exact Bf h
theorem CN{c A:Prop}[Decidable c](hc:¬c)(h:B):if decide c=true then A else B:=by rw[BK hc];exact BM h
theorem Kd(hc:X.calm=true)(hk:scope.kind=.function)(h:scope.names.all (fun p=>p.2 !=.cell&&p.2 !=.free)=true)
 (hn:∀y∈scope.names,y.2=.local->scope.names.lookup y.1=some .local):JV X ts [] [] scope []:=by
 have hall:∀y∈scope.names,y.2≠.cell/\y.2≠.free:=fun y hy=>by have:=Ng.mp h y hy;simpa using this
 have er:relabel scope X.env=scope:=by
  unfold relabel;have:(scope.names.map fun(p:Str×NameKind)=>if(p.2==NameKind.free&&X.env.scope.kind==.function&&X.env.kindOf p.1==some .cell)=true then(p.1,NameKind.cell) else(p.1,p.2))=scope.names:=by
   refine map_eq_self fun y hy=>?_;have e:(y.2==NameKind.free)=false:=by simpa using(hall y hy).2
   rw[e];rfl
  exact BZ (fun n=>{scope with names:=n}) this
 refine⟨hc,closureFor_none fun y hy=>(hall y hy).2,fun y hy=>(hall y hy).1,hk,hn,fun y c e=>(nomatch e),fun y hy=>?_,rfl,fun i y j e=>absurd e (by simp),fun y hy=>absurd hy (by simp)⟩;rw[er] at hy;rcases hy with hy|hy
 ·exact absurd rfl (hall _ (ID hy)).1
 ·exact absurd rfl (hall _ (ID hy)).2
variable{z:Str}
theorem Vo{Q:VK}(Pv:Nat->Hp->Prop)(h0:Pv 0 (upd H1 D (.lst [])))
 (hs:∀i c H,z.cps.toList[i]? =some c->Pv i H->g (.str ⟨#[c]⟩) (ts.map (fun _=>none)++DY ix σ) H fun σ2 H2=>Hz ts ix σ σ2/\ti σ2 H2 fun b H3=>if b=true then te σ2 H3 fun y H4=>∃ys,H4 D=some (.lst ys)/\ys.length<sizeLine/\Pv (i+1) (upd H4 D (.lst (ys++[y]))) else Pv (i+1) H3)
 (hd:∀H,Pv z.cps.toList.length H->Q (.ref D) H):K0 ts ix σ (Pk z) g ti te D Q H1:=by
 have el:z.cps.toList.length=z.cps.size:=by simp
 rw[el] at hd;refine⟨fun i m H=>m=z.cps.size-i/\i<=z.cps.size/\Pv i H,⟨z.cps.size,by simp,CF _,h0⟩,?_⟩;rintro i m H ⟨rfl,hi,p⟩;by_cases hlt:i<z.cps.size
 ·refine .inr ⟨hlt,Pv (i+1),fun H' p'=>⟨z.cps.size-(i+1),by lia,rfl,hlt,p'⟩,fun x H' y=>?_⟩;obtain⟨e,c,hc,ex⟩:=y;subst e ex;exact hs i c _ (by simpa using hc) p
 ·obtain rfl:i=z.cps.size:=by lia
  exact .inl ⟨Ac _,hd H p⟩
theorem NC:([x]++[]:List Str).Nodup:=by simp
noncomputable def Ex(H:Hp)(D:Addr):Hp:=fun b=>if b=D then none else H b
theorem Ex.upd{o:HO}:Ex (upd H D o) D=Ex H D:=by
 funext b;unfold Ex;by_cases e:b=D
 ·rw[AH e,AH e]
 ·rw[AG e,AG e,AO e]
theorem Ex.sub:AS (Ex H D) H:=fun b o e=>by
 unfold Ex at e;by_cases z:b=D
 ·rw[AH z] at e;cases e
 ·rw[AG z] at e;exact e
theorem Ex.mono(s:AS H H'):AS (Ex H D) (Ex H' D):=fun b o e=>by
 unfold Ex at e⊢;by_cases z:b=D
 ·rw[AH z] at e;cases e
 ·rw[AG z] at e⊢;exact s b o e
theorem Ex.at{o:HO}(h:H b=some o)(n:b≠D):Ex H D b=some o:=by unfold Ex;rw[AG n];exact h
theorem Ex.of_none(s:AS H H')(h:H D=none):AS H (Ex H' D):=fun b o e=>by unfold Ex;rw[AG (A2 e h)];exact s b o e
def Am(H:Hp)(ds:List Dt)(xs:List V):Prop:=ds.length=xs.length/\∀(i:Nat) d x,ds[i]? =some d->xs[i]? =some x->Rep H d x
theorem Am.nil:Am H [] []:=⟨rfl,fun i d x e=>by simp at e⟩
theorem Am.same{H H':Hp}(s:AS H H'){ds:List Dt}{xs:List V}(r:Am H ds xs):Am H' ds xs:=⟨r.1,fun i d x h1 h2=>(r.2 i d x h1 h2).same s⟩
variable{ds:List Dt}
theorem Am.snoc{xs:List V}{d:Dt}{x:V}(r:Am H ds xs)(q:Rep H d x):Am H (ds++[d]) (xs++[x]):=by
 obtain⟨hl,r⟩:=r;refine⟨by rw[BC,BC,hl];rfl,fun i d' x' h1 h2=>?_⟩;by_cases hi:i<ds.length
 ·rw[C9 hi] at h1;rw[C9 (by lia)] at h2;exact r i d' x' h1 h2
 ·have C2:i<(ds++[d]).length:=(BW.mp h1).1;rw[BC,EK] at C2;obtain rfl:i=ds.length:=by lia
  rw[C4 (Ac _),E3] at h1;rw[C4 (by lia),<-hl,E3] at h2;simp at h1 h2;subst h1 h2;exact q
theorem Rep.LH{xs:List V}(h:H a=some (.lst xs))(r:Am H ds xs):Rep H (.lst ds) (.ref a):=.lst h r.1 r.2
theorem Rep.LR{xs:List V}(h:H a=some (.tup xs))(r:Am H ds xs):Rep H (.tup ds) (.ref a):=.tup h r.1 r.2
noncomputable def PB:Expr->Option Str
 |.Constant (.str x) _ _=>some x
 |_=>none
def Jg:List Expr->Option (List Str)
 |[]=>some []
 |c::r=>(PB c).bind fun x=>(Jg r).map (x::·)
theorem gG(h:PB c=some x):∃k p,c=.Constant (.str x) k p:=by
 cases c;case Constant c k p=>
  cases c;case str y=>cases h;exact⟨_,_,rfl⟩
  all_goals cases h
 all_goals cases h
def X7(xs:List Str):TA:=fun _ H Q=>Q (xs.map V.str) H
theorem RU{X:Cx}:∀{es:List Expr}{xs:List Str},Jg es=some xs->PA X es (X7 xs)
 |[],xs,h=>by have e:xs=[]:=(Ah h).symm;subst e;exact AI
 |c::r,xs,h=>by
  have h':(PB c).bind (fun x=>(Jg r).map (x::·))=some xs:=h
  cases ec:PB c with
  |none=>rw[ec] at h';cases h'
  |some x=>
   cases e:Jg r with
   |none=>rw[ec,e] at h';cases h'
   |some ys=>rw[ec,e] at h';have e2:xs=x::ys:=(Ah h').symm;subst e2;obtain⟨_,_,rfl⟩:=gG ec;exact AE AX (RU e)
theorem gK{X:Cx}(i:Nat)(es:List Expr)(xs:List Str)(h:Jg es=some xs)(x:Str)(p pos pos':Pos)(hN:X.N.Nodup)(hi:X.N[i]? =some x)(hx:Loc X.env.scope x)(hf:X.fn x=true):
 PS X (.Assign [.Name x pos'] (.List es p) pos) (PK (Y7 (X7 xs)) (Dj i)):=Ax hN hi hx (CY (@RU X es xs h)) rfl (.inl hf)
theorem Hi{y:Str}{c:Addr}(hc:X.calm=true)(hk:scope.kind=.function)(h:scope.names.all (fun p=>p.2 !=.cell&&(p.2 !=.free||p.1==y))=true)
 (hn:∀z∈scope.names,z.2=.local->scope.names.lookup z.1=some .local)(hcl:closureFor scope X.env=pure [(y,c)])(hce:X.env.cells.lookup y=some c)(hx:X.env.kindOf y=some .cell)(hj:X.N[j]? =some y)
 (hr:(relabel scope X.env).names.lookup y=some .cell):JV X ts [y] [j] scope [(y,c)]:=by
 have hall:∀z∈scope.names,z.2≠.cell/\(z.2=.free->z.1=y):=fun z hz=>by have:=Ng.mp h z hz;simp only[E2,Bool.or_eq_true,bne_iff_ne,Fg] at this;exact⟨this.1,fun e=>this.2.elim (fun q=>absurd e q) id⟩
 have rel:∀z k,(relabel scope X.env).names.lookup z=some k->(k=.cell\/k=.free)->z=y:=fun z k hz hk'=>by
  have hm:=ID hz;obtain⟨q,hq,e⟩:=BY.mp (show(z,k)∈scope.names.map _ from hm);obtain⟨n,kq⟩:=q;have hq':=hall (n,kq) hq;by_cases hf:kq=.free
  ·have e1:n=y:=hq'.2 hf;have e2:n=z:=by have:=BZ Prod.fst e;revert this;dsimp only;split<;>exact id
   rw[<-e2,e1]
  ·have e3:(n,kq)=(z,k):=by
    rw[<-e];dsimp only;rw[AG (by
     intro zz;have:(kq==NameKind.free)=true:=by simp only[E2] at zz;exact zz.1.1
     exact hf (by simpa using this))]
   have e4:kq=k:=BZ Prod.snd e3;rcases hk' with z1|z1
   ·exact absurd (e4.trans z1) hq'.1
   ·exact absurd (e4.trans z1) hf
 refine⟨hc,hcl,fun z hz=>(hall z hz).1,hk,hn,fun z a e=>?_,fun z hz=>?_,rfl,fun i z k e1 e2=>?_,fun z hz=>?_⟩
 ·by_cases hzy:z=y
  ·rw[hzy] at e⊢;rw[GC,IF] at e;rw[<-Ah e];exact hce
  ·rw[GC,KD hzy] at e;cases e
 ·have e:z=y:=hz.elim (fun q=>rel z _ q (.inl rfl)) fun q=>rel z _ q (.inr rfl);rw[e];exact⟨c,by rw[GC,IF]⟩
 ·cases i with
  |zero=>
   have e3:z=y:=by simpa using e1.symm
   have e4:k=j:=by simpa using e2.symm
   rw[e3,e4];exact hj
  |succ i=>simp at e1
 ·have e:z=y:=CA.mp hz;rw[e];exact⟨.inr (.inl hx),(by rw[hx];intro q;cases q),.inl hr⟩
theorem Gj{y:Str}(h:x≠y):([x]++[y]:List Str).Nodup:=by simp[h]
theorem XW(a:String)(h:a="list" \/a="tuple"):kitAny K (.type a) (["list","tuple"].map Value.type)=some true:=by rcases h with e|e<;>subst e<;>kernel_rfl
theorem RN(a:String)(h:a="str" \/a="int" \/a="bool"):kitAny K (.type a) (["list","tuple"].map Value.type)=some false:=by rcases h with e|e|e<;>subst e<;>kernel_rfl
theorem Hk(a:String):kitOne K (.type a) (.type a)=some true:=by unfold kitOne;rw[AH (by simp)]
theorem YE:kitOne K (.type "list") (.type "tuple")=some false:=by kernel_rfl
theorem YH:kitOne K (.type "tuple") (.type "list")=some false:=by kernel_rfl
theorem ju:kitOne K (.type "int") (.type "str")=some false:=by kernel_rfl
theorem lG:kitOne K (.type "bool") (.type "str")=some false:=by kernel_rfl
theorem Yb:kitOne K (.type "int") (.type "bool")=some false:=by kernel_rfl
theorem GX:bootBuiltins "isinstance" =some (.builtin "isinstance"):=by ac_rfl
theorem HD:bootBuiltins "list" =some (.type "list"):=by ac_rfl
theorem RA:bootBuiltins "tuple" =some (.type "tuple"):=by ac_rfl
theorem X1:bootBuiltins "str" =some (.type "str"):=by ac_rfl
theorem Kn:bootBuiltins "int" =some (.type "int"):=by ac_rfl
theorem Rg:bootBuiltins "bool" =some (.type "bool"):=by ac_rfl
structure Own(mg:Str->Option Value):Prop where
 Gn:mg "isinstance" =none
 lst:mg "list" =none
 tup:mg "tuple" =none
 str:mg "str" =none
 int:mg "int" =none
 bl:mg "bool" =none
 len:mg "len" =none
 J0:mg "range" =none
def Dl(H H':Hp)(ds:List Dt)(ps:List Addr):Prop:=ds.length=ps.length/\∀(i:Nat) d p,ds[i]? =some d->ps[i]? =some p->∃x y,H' p=some (.tup [x,y])/\Rep H d x/\Rep H d y
theorem Dl.same{ps:List Addr}(k:∀b xs,H1 b=some (.tup xs)->H2 b=some (.tup xs))(s:Dl H H1 ds ps):Dl H H2 ds ps:=
 ⟨s.1,fun i d p h1 h2=>let⟨x,y,a,b,c⟩:=s.2 i d p h1 h2;⟨x,y,k _ _ a,b,c⟩⟩
theorem Dl.snoc{ps:List Addr}{d:Dt}{p:Addr}{x:V}(s:Dl H H1 ds ps)(h:H1 p=some (.tup [x,y]))(rx:Rep H d x)(ry:Rep H d y):Dl H H1 (ds++[d]) (ps++[p]):=by
 obtain⟨hl,r⟩:=s;refine⟨by rw[BC,BC,hl];rfl,fun i d' x' h1 h2=>?_⟩;by_cases hi:i<ds.length
 ·rw[C9 hi] at h1;rw[C9 (by lia)] at h2;exact r i d' x' h1 h2
 ·have C2:i<(ds++[d]).length:=(BW.mp h1).1;rw[BC,EK] at C2;obtain rfl:i=ds.length:=by lia
  rw[C4 (Ac _),E3] at h1;rw[C4 (by lia),<-hl,E3] at h2;simp at h1 h2;subst h1 h2;exact⟨x,y,h,rx,ry⟩
theorem Dl.iS{ps:List Addr}{p:Addr}(s:Dl H H1 ds (ps++[p])):∃ds' d x y,ds=ds'++[d]/\Dl H H1 ds' ps/\H1 p=some (.tup [x,y])/\Rep H d x/\Rep H d y:=by
 obtain⟨hl,r⟩:=s;rcases List.eq_nil_or_concat ds with e|⟨ds',d,e⟩
 ·subst e;simp at hl
 ·rw[List.concat_eq_append] at e;subst e;have hl':ds'.length=ps.length:=by simpa using hl
  obtain⟨x,y,a,b,c⟩:=r ds'.length d p (by simp) (by rw[hl'];simp);refine⟨ds',d,x,y,rfl,⟨hl',fun i d1 p1 h1 h2=>r i d1 p1 ?_ ?_⟩,a,b,c⟩
  ·rw[C9 (BW.mp h1).1];exact h1
  ·rw[C9 (BW.mp h2).1];exact h2
theorem Inv.Us{xs:List V}(I:Inv X pins σ H s)(hf:∀b∈fp,FE X pins H b)
 (k:∀b o,b∉fp->s.heap.get? b=some o->h'.get? b=some o)(th:∀b∈fp,∃o,h'.get? b=some o)(rv:Vals xs us)(hz:xs.length<=sizeLine)(ht:IsTup h' s.heap.objs.size us.toArray):
 Inv X pins σ (upd H s.heap.objs.size (.tup xs)) {s with heap:=h',toks:=t'}:=by
 have hn:H s.heap.objs.size=none:=I.hok.fresh (Ac _);have nt:∀b o,s.heap.get? b=some o->b≠s.heap.objs.size:=fun b o e=>BH (Aw e);have tf:∀b u,H b=some u->b∉fp:=fun b u e z=>by rw[(hf b z).1] at e;cases e
 have tn:∀b u,H b=some u->b≠s.heap.objs.size:=fun b u e z=>by rw[z,hn] at e;cases e
 refine I.step (g':=s.gens) (d':=s.drawn) (ch:=fp) (fun b hb=>?_) (fun b o _ _ hc e _=>k b o hc e) (fun b o _ _ hc e _=>⟨o.slots,k b o hc e⟩) (fun b o _ e n=>by rw[AO (nt b o e)];exact n)
  (fun b o hc e=>⟨o,k b o hc e⟩) (fun b ys e=>by rw[AO (tn _ _ e)];exact e) (fun b o u e=>by rw[AO (tn _ _ e)];exact e) (fun b ps e=>⟨#[],by rw[AO (tn _ _ e),e];simp⟩) (fun m hm=>?_) (fun b u e=>?_) I.bare
 ·obtain⟨_,f1,_,f3,f4,f5⟩:=hf b hb;exact⟨f3,f1,f4,f5⟩
 ·obtain⟨o,es,ep,ho,r⟩:=hm;exact⟨o,es,ep,k _ o (fun z=>(hf _ z).2.1 rfl) ho,r⟩
 ·by_cases hb:b=s.heap.objs.size
  ·subst hb;rw[AR] at e;cases e;exact⟨hz,us,rv,ht⟩
  ·rw[AO hb] at e;refine(I.hok b u e).EB (fun c v hc q=>k c v ?_ q) (fun c q=>?_) fun c ys q=>?_
   ·rcases hc with z|z
    ·rw[z];exact tf b u e
    ·exact tf c _ z
   ·rw[AO (tn _ _ q)];exact q
   ·rw[AO (tn _ _ q)];exact q
def LM(K:PySem.W.Frag)(a:Addr):It:=
 ⟨fun i H=>∃xs x,AN K H a xs/\xs[i]? =some x,fun i H v H'=>∃p,v=.ref p/\H p=none/\∀xs,AN K H a xs->∃x,xs[i]? =some x/\H'=upd H p (.tup [.int i,x]),fun i H=>∃xs,AN K H a xs/\xs.length<=i⟩
variable{elts:List Expr}{tpos:Pos}
theorem ba{x1:Nat}(a e it:Addr)(hne:e≠it):
 Turn P w K (.Tuple elts x1 tpos) (LM K a) [e,it] e (fun i h=>(∃old,IsEnum h e it i old)/\h.IsListIter it a i) where
 mem:=by simp
 obj:=fun i h st b hb=>by
  obtain⟨⟨old,he⟩,o,ho,hc,hd⟩:=st;have hb':b=e\/b=it:=by simpa using hb
  rcases hb' with z|z
  ·subst z;exact⟨_,he,fun v q=>by have q':Data.fields _=Data.cell v:=q;cases q'⟩
  ·subst z;exact⟨o,ho,fun v q=>by rw[hd] at q;cases q⟩
 keep:=fun i h h' st k=>by obtain⟨⟨old,he⟩,hi⟩:=st;exact⟨⟨old,k e (by simp) _ he⟩,hi.at fun o z=>k it (by simp) o z⟩
 item:=by
  intro X hP hw hK hc i pins s σ H E I hf st hg;subst hP hw hK;obtain⟨⟨old,he⟩,hi⟩:=st;obtain⟨xs,x,hq,hx⟩:=hg;obtain⟨AM,rv,p,hz⟩:=I.list hq;obtain⟨u,hu,ru⟩:=rv.get hx;have hn:H s.heap.objs.size=none:=I.hok.fresh (Ac _);have le:e<s.heap.objs.size:=Aw he;obtain⟨oi,hoi,_⟩:=id hi;refine wpAny_pyNext_enum_item he hi p.isList (x:=u) (by simpa using hu) hne fun h1 eo i1 t1 z1 k1=>⟨_,rfl,?_⟩;refine wpAny_letOwnedTupleGo_enum eo fun h2 e2 sb=>?_;have sb':Heap.SameBut e h1 h2:=sb;have k2:∀b o,b∉[e,it]->s.heap.get? b=some o->h2.get? b=some o:=fun b o hb z=>by
   have hb':b≠e/\b≠it:=by simpa using hb
   exact(sb'.2 b hb'.1).trans (k1 b o hb'.1 hb'.2 z)
  have i2:h2.IsListIter it a (i+1):=by obtain⟨o,z,r⟩:=i1;exact⟨o,(sb'.2 it (C5 hne)).trans z,r⟩
  have t2:IsTup h2 s.heap.objs.size [Value.int i s.toks,u].toArray:=⟨_,(sb'.2 _ (EN le)).trans t1,rfl,_,rfl⟩;have I2:=I.Us (h':=h2) (t':=s.toks+1) (xs:=[.int i,x]) hf k2 (fun b hb=>by
   have hb':b=e\/b=it:=by simpa using hb
   rcases hb' with z|z
   ·rw[z];exact⟨_,e2⟩
   ·rw[z];obtain⟨o,z,_⟩:=i2;exact⟨o,z⟩) (.cons ⟨_,rfl⟩ (.cons ru .nil)) (by show 2<=sizeLine;decide) t2;refine⟨.ref s.heap.objs.size,_,I2,rfl,⟨_,rfl,hn,fun ys hy=>⟨x,by rw[I.V6 hy hq];exact hx,rfl⟩⟩,⟨⟨u,?_⟩,i2⟩,fun b hb=>?_⟩
  ·have:IsEnum h2 e it ((i:Int)+1) u:=e2;exact this
  ·have hb':b≠s.heap.objs.size:=by
    have hb2:b=e\/b=it:=by simpa using hb
    rcases hb2 with z|z
    ·rw[z];exact BH le
    ·rw[z];exact BH (Aw hoi)
   rw[AO hb'];exact(hf b hb).1
 done:=by intro X hP hw hK hc i pins s σ H E I hf st hg;subst hP hw hK;obtain⟨⟨old,he⟩,hi⟩:=st;obtain⟨xs,hq,hx⟩:=hg;obtain⟨AM,rv,p,hz⟩:=I.list hq;obtain⟨f0,f1,f2,f3,f4,f5⟩:=hf it (by simp);have hl:=rv.length;exact wpAny_pyNext_enum_end (I.ok.hd hc) he hi p.isList (by simp;lia) fun h' eb=>⟨rfl,I.turned (t':=s.toks) (fun b o hb e=>eb b o hb e) f0 f1 f3 f4 f5⟩
 self:=fun _ _ _ _ _ st h=>by obtain⟨⟨old,he⟩,_⟩:=st;exact wpAny_pyIter_enum he h
def jy(K:PySem.W.Frag)(ta:TA):TI:=fun σ H R=>ta σ H fun vs H1=>∃a,vs=[.ref a]/\(∃xs,AN K H1 a xs)/\R (LM K a) H1
theorem Wf{x1:Nat}{a:Expr}{ta:TA}{p:Pos}(hg:Gl X "enumerate")(hm:X.mg "enumerate" =none)(ha:PA X [a] ta)(hs:starEach [a] X.env=[(false,eval a X.env)]:=by rfl):
 PI X (.Tuple elts x1 tpos) (.Call (.Name "enumerate" p) [a] [] pos) (jy X.K ta):=by
 intro pins s σ H R I h;refine Call_ (Mf I hg hm boot_enumerate (Tj (Ae (ha pos pins s σ H _ I h) fun us s1 ⟨vs,H1,I1,r1,q1⟩=>?_) hs rfl));obtain⟨l,e,⟨xs,hq⟩,q⟩:=q1;subst e;obtain⟨u,rfl,ru⟩:=vals1 r1;cases ru;obtain⟨AM,rv,p,hz⟩:=I1.list hq;refine call_enumerate_list p.isList fun h' he hi hsz kk=>wpAny_pyIter_enum he ?_;refine⟨s1.heap.objs.size+1,[s1.heap.objs.size+1,s1.heap.objs.size],_,_,H1,rfl,I1.kept (t':=s1.toks) kk,ba l _ _ (EN (Ll _)),⟨⟨_,he⟩,hi⟩,fun b hb=>?_,q⟩;have hb':b=s1.heap.objs.size+1\/b=s1.heap.objs.size:=by simpa using hb
 rcases hb' with z|z
 ·rw[z];exact I1.Js (EO _) (I1.hok.fresh (EO _))
 ·rw[z];exact I1.Js (Ac _) (I1.hok.fresh (Ac _))
theorem d9{xs:List V}{D:Ends}(Pv:Nat->St->Hp->Prop)(h0:Pv 0 σ H)(hl:∀i σ H,i<=xs.length->Pv i σ H->AN K H a xs)
 (hs:∀i x p σ H,xs[i]? =some x->H p=none->Pv i σ H->g (.ref p) σ (upd H p (.tup [.int i,x])) fun σ2 H2=>tb {D with nx:=Pv (i+1),ct:=Pv (i+1),bk:=D.nx} σ2 H2)(hd:∀σ H,Pv xs.length σ H->D.nx σ H):
 ∃W:Nat->Nat->St->Hp->Prop,(∃m,W 0 m σ H)/\∀i m σ H,W i m σ H->
  ((LM K a).stop i H/\D.nx σ H)\/((LM K a).go i H/\∃N:St->Hp->Prop,(∀σ' H',N σ' H'->∃m',m'<m/\W (i+1) m' σ' H')/\∀x H',(LM K a).Io i H x H'->g x σ H' fun σ2 H2=>tb {D with nx:=N,ct:=N,bk:=D.nx} σ2 H2):=by
 refine⟨fun i m σ H=>m=xs.length-i/\i<=xs.length/\Pv i σ H,⟨xs.length,by simp,CF _,h0⟩,?_⟩;rintro i m σ H ⟨rfl,hi,p⟩;have q:=hl i σ H hi p;by_cases hlt:i<xs.length
 ·refine .inr ⟨⟨xs,xs[i],q,by simp[hlt]⟩,Pv (i+1),fun σ' H' p'=>⟨xs.length-(i+1),by lia,rfl,hlt,p'⟩,fun v H' y=>?_⟩;obtain⟨pa,ev,hp,y⟩:=y;obtain⟨x,hx,eH⟩:=y xs q;subst ev eH;exact hs i x pa σ H hx hp p
 ·obtain rfl:i=xs.length:=by lia
  exact .inl ⟨⟨xs,q,Ac _⟩,hd σ H p⟩
theorem KV.vals{κ:Type}:∀{AA:List (κ×V)}{ws:List (κ×Value)},KV AA ws->Vals (AA.map (·.2)) (ws.map (·.2))
 |_,_,.nil=>.nil
 |_,_,.cons r t=>.cons r.2 (KV.vals t)
theorem aF(r:Vals (ns.map V.int) us){v:Value}(e:us[i]? =some v):∃t,v=.int (ns.getD i 0) t:=by have hl:=r.length;rw[AL] at hl;have hi:i<us.length:=(BW.mp e).1;have hn:ns[i]? =some ns[i]:=Ar (by lia);obtain⟨u,hu,t,et⟩:=r.get (i:=i) (x:=.int ns[i]) (by rw[Az,hn];rfl);rw[e] at hu;cases hu;rw[Cj,hn];exact⟨t,et⟩
noncomputable def Gb(p d:Addr):HO:=.ext fun h=>h.IsValuesView p d
def hV:V->List V->Hp->VK->Prop:=fun x vs H Q=>∃d AA,x=.ref d/\vs=[]/\H d=some (.dK AA)/\∀p,H p=none->Q (.ref p) (upd H p (Gb p d))
theorem U9:HX X "dict.values" hV:=by intro pins s σ H x vs v us Q I rx rv h;obtain⟨d,AA,rfl,rfl,hd,q⟩:=h;cases rx;cases rv;obtain⟨z,hm,ws,rel,dd⟩:=Ic I.hok hd;refine Nx Tp dd.typeIs PySem.F.entry_dict_values (PySem.F.args_dict_values_1 _) (meets_dict_values (CW X.prog X.w) d hm) ⟨⟨ws,dd⟩,?_⟩;refine⟨.ref s.heap.objs.size,_,I.laid (t':=s.toks) (o:=Gb s.heap.objs.size d) (fun b o e=>A7 _ e) (Ac _) ?_,rfl,q _ I.fresh⟩;have hv:(s.heap.push {cls:=.type "dict_values",data:=.fields #[.ref d]}).IsValuesView s.heap.objs.size d:=⟨_,Bx _ rfl,rfl,rfl⟩;exact⟨hv,⟨_,Bx _ rfl⟩,fun h1 h2 a k=>let⟨o,e,r⟩:=a;⟨o,k o e,r⟩⟩
theorem bw(hc:X.calm=true):C6 X (.builtin "min") (fun xs H Q=>∃(p d:Addr)(AA:List (Key×V))(ns:List Int),xs=[.ref p]/\H p=some (Gb p d)/\H d=some (.dK AA)/\AA.map (·.2)=ns.map V.int/\ns≠[]/\
 ∀m,m∈ns->(∀n∈ns,m<=n)->Q (.int m) H):=by
 intro pins s σ H xs us Q I r h;obtain⟨p,d,AA,ns,rfl,hp,hd,hv,hne,q⟩:=h;obtain⟨u,rfl,rx⟩:=vals1 r;cases rx;obtain⟨z,hm,ws,rel,dd⟩:=Ic I.hok hd;obtain⟨hvw,_⟩:=(show BL X.prog X.w H s.heap p (Gb p d) from I.hok p _ hp);have hvw':s.heap.IsValuesView p d:=hvw;obtain⟨ep,da⟩:=dd.dictAt;have hh:X.A.in1.handled=none:=I.ok.hd hc;have rv:=KV.vals rel;rw[hv] at rv;have hlen:ws.length=ns.length:=by
  have h1:=rv.length;rw[AL,AL] at h1
  lia
 have vi:∀(i:Nat)(v:Value),(∃k:Key,ws[i]? =some (k,v))->∃t,v=.int (ns.getD i 0) t:=fun i v ⟨k,e⟩=>aF rv (by rw[Az,e];rfl);obtain⟨od,_,hod,_⟩:=id da;have nd:d≠s.heap.objs.size:=BH (Aw hod);have np:0<ns.length:=List.length_pos_iff.mpr hne;refine call_min_walk (wpAny_pyIter_values hvw' da ?_);refine⟨s.heap.objs.size,[s.heap.objs.size,d],[s.heap.objs.size],ws.length,fun i v=>∃k:Key,ws[i]? =some (k,v),_,fun i j=>decide (ns.getD i 0<ns.getD j 0),rfl,Walks.dictValues hh _ d nd ws ep,
  ⟨⟨_,Bx _ rfl,rfl,rfl⟩,da.at' fun o e=>A7 _ e⟩,fun b hb=>?_,by lia,CmpOf.ints_lt (fun i=>ns.getD i 0) vi,fun v h' tk hP kk=>?_⟩
 ·have hb':b=s.heap.objs.size\/b=d:=by simpa using hb
  rw[GF];rcases hb' with e|e
  ·rw[e];exact Ll _
  ·rw[e];exact Na (Aw hod)
 ·obtain⟨a1,a2⟩:=argBest_lt (fun i=>ns.getD i 0) (ws.length-1);obtain⟨t,et⟩:=vi _ v hP;generalize argBest (fun i j=>decide (ns.getD i 0<ns.getD j 0)) (ws.length-1)=ix at a1 a2 et;subst et;have hix:ix<ns.length:=by lia
  refine⟨.int (ns.getD ix 0),H,I.kept (fun b ob e=>kk b ob (by simpa using BH (Aw e)) (A7 _ e)),⟨t,rfl⟩,q _ ?_ fun n hn=>?_⟩
  ·rw[Cj,Ar hix];exact E1 hix
  ·obtain⟨j,hj,e⟩:=HZ.mp hn;have:=a2 j (by lia);have ej:ns.getD j 0=n:=by rw[Cj,Ar hj];exact e
   rw[<-ej];exact this
section
open PySem.W
section
variable(r:Nat->Nat)
noncomputable def Po(i j:Nat):Bool:=decide (r i<r j)
end
structure My(α:Type) where
 lt:α->α->Bool
 ZS:∀a,lt a a=false
 tr:∀a b c,lt a b=true->lt b c=true->lt a c=true
 BE:∀a b,lt a b=false->lt b a=false->a=b
noncomputable def IX{α:Type}(O:My α)(l:List α)(a:α):Nat:=l.countP fun b=>O.lt b a
theorem Qs{α:Type}{p q:α->Bool}:∀{l:List α},(∀x∈l,p x=true->q x=true)->l.countP p<=l.countP q
 |[],_=>Ac _
 |x::r,h=>by
  have ih:=Qs (l:=r) fun y hy=>h y (DU _ hy);rw[QX,QX];have hx:=h x Ed
  cases e1:p x with
  |false=>simp;lia
  |true=>rw[hx e1];simp;lia
theorem UN{α:Type}{p q:α->Bool}:∀{l:List α}{a:α},a∈l->(∀x∈l,p x=true->q x=true)->p a=false->q a=true->l.countP p<l.countP q
 |x::r,a,ha,h,h1,h2=>by
  rw[QX,QX];rcases Bk.mp ha with e|e
  ·subst e;have ih:=Qs (l:=r) fun y hy=>h y (DU _ hy);rw[h1,h2];simp
   lia
  ·have ih:=UN e (fun y hy=>h y (DU _ hy)) h1 h2;have hx:=h x Ed
   cases e1:p x with
   |false=>simp;lia
   |true=>rw[hx e1];simp;lia
theorem OT(O:My α)(l:List α){a b:α}(ha:a∈l):O.lt a b=decide (IX O l a<IX O l b):=by
 cases e:O.lt a b with
 |true=>have:IX O l a<IX O l b:=UN ha (fun x _ hx=>O.tr x a b hx e) (O.ZS a) e;rw[Bj this]
 |false=>
  have:IX O l b<=IX O l a:=Qs fun x _ hx=>by
   cases e2:O.lt b a with
   |true=>exact O.tr x b a hx e2
   |false=>rw[O.BE a b e e2];exact hx
  rw[BK (by lia)]
noncomputable def Kk(h:Heap)(a:Addr)(vs:List Value):Heap:=((h.update a (Obj.mapSeq fun _=> #[])).push (seqObj "tuple" vs.toArray 0)).push (seqObj "list" #[] 0)
noncomputable def FC(vs:List Value)(p:List Nat):List Value:=p.map fun i=>vs.getD i Value.none
def M0(prog:Program)(w:World)(A:Around)(vs:List Value)(r:Nat->Nat)(s3:Shared):Prop:=
 wpAny (model prog w) A (keyKind' vs.toArray) (fun κ s'=>s'=s3/\∀i j C,i<vs.length->j<vs.length->C (Po r i j) s3->kas_ask prog w A κ vs i j C s3) (fun _ _=>False) s3
noncomputable def EF:Key->Key->Bool
 |.inl i,.inl j=>decide (i<j)
 |.inr x,.inr y=>decide (x.cps.toList<y.cps.toList)
 |.inl _,.inr _=>true
 |.inr _,.inl _=>false
theorem UO{a b:Str}(h:a.cps.toList=b.cps.toList):a=b:=by cases a;cases b;congr 1;exact JC.mp h
theorem W8:∀a,EF a a=false
 |.inl i=>BK (by lia)
 |.inr x=>BK (List.lt_irrefl _)
theorem Xm:∀a b c,EF a b=true->EF b c=true->EF a c=true
 |.inl i,.inl j,.inl k,h1,h2=>Bj (Int.lt_trans (J9 h1) (J9 h2))
 |.inl _,.inl _,.inr _,_,_=>rfl
 |.inl _,.inr _,.inr _,_,_=>rfl
 |.inr x,.inr y,.inr z,h1,h2=>Bj (List.lt_trans (J9 h1) (J9 h2))
 |.inl _,.inr _,.inl _,_,h2=>by cases h2
 |.inr _,.inl _,_,h1,_=>by cases h1
 |.inr _,.inr _,.inl _,_,h2=>by cases h2
theorem WZ:∀a b,EF a b=false->EF b a=false->a=b
 |.inl i,.inl j,h1,h2=>by
  have e1:¬i<j:=QD h1;have e2:¬j<i:=QD h2;have e:i=j:=by lia
  rw[e]
 |.inr x,.inr y,h1,h2=>by have e1:¬x.cps.toList<y.cps.toList:=QD h1;have e2:¬y.cps.toList<x.cps.toList:=QD h2;rw[UO (List.le_antisymm (List.not_lt.mp e2) (List.not_lt.mp e1))]
 |.inl _,.inr _,h1,_=>by cases h1
 |.inr _,.inl _,_,h2=>by cases h2
def DM:List Key->List Key->Bool
 |[],[]=>false
 |[],_::_=>true
 |_::_,[]=>false
 |a::r,b::t=>if a=b then DM r t else EF a b
theorem Vc:∀a,DM a a=false
 |[]=>rfl
 |a::r=>by show(if a=a then DM r r else EF a a)=false;rw[AH rfl];exact Vc r
theorem XC:∀a b c,DM a b=true->DM b c=true->DM a c=true
 |[],[],_,h,_=>by cases h
 |[],_::_,[],_,h=>by cases h
 |[],_::_,_::_,_,_=>rfl
 |_::_,[],_,h,_=>by cases h
 |_::_,_::_,[],_,h=>by cases h
 |a::r,b::t,c::u,h1,h2=>by
  have h1':(if a=b then DM r t else EF a b)=true:=h1;have h2':(if b=c then DM t u else EF b c)=true:=h2;show(if a=c then DM r u else EF a c)=true;by_cases e1:a=b
  ·rw[AH e1] at h1';by_cases e2:b=c
   ·rw[AH e2] at h2';rw[AH (e1.trans e2)];exact XC r t u h1' h2'
   ·rw[AG e2] at h2';rw[AG (by rw[e1];exact e2),e1];exact h2'
  ·rw[AG e1] at h1';by_cases e2:b=c
   ·rw[AH e2] at h2';rw[AG (by rw[<-e2];exact e1),<-e2];exact h1'
   ·rw[AG e2] at h2';have h3:=Xm a b c h1' h2';by_cases e3:a=c
    ·rw[e3,W8] at h3;cases h3
    ·rw[AG e3];exact h3
theorem Vu:∀a b,DM a b=false->DM b a=false->a=b
 |[],[],_,_=>rfl
 |[],_::_,h,_=>by cases h
 |_::_,[],_,h=>by cases h
 |a::r,b::t,h1,h2=>by
  have h1':(if a=b then DM r t else EF a b)=false:=h1;have h2':(if b=a then DM t r else EF b a)=false:=h2;by_cases e:a=b
  ·rw[AH e] at h1';rw[AH e.symm] at h2';rw[e,Vu r t h1' h2']
  ·rw[AG e] at h1';rw[AG (fun z=>e z.symm)] at h2';exact absurd (WZ a b h1' h2') e
def lexOrd:My (List Key):=⟨DM,Vc,XC,Vu⟩
noncomputable def kd:Key->Bool
 |.inl _=>true
 |.inr _=>false
theorem jI{a b:Key}{v:Value}(ha:RelV (kV a) u)(hb:RelV (kV b) v)(h:kd a=kd b){Q:Bool->Shared->Prop}(q:Q (decide (a=b)) s):wpAny (model prog w) A (eqBool u v) Q E s:=by
 match a,b,h with
 |.inl i,.inl j,_=>obtain⟨t,rfl⟩:=ha;obtain⟨t',rfl⟩:=hb;refine SeqAt.EqAt.int_int i t j t' prog w E Q ?_;rw[<-Xv];exact q
 |.inr x,.inr y,_=>obtain⟨t,rfl⟩:=ha;obtain⟨t',rfl⟩:=hb;refine SeqAt.EqAt.str_str x t y t' prog w E Q ?_;rw[Xx] at q;rw[Bool.beq_eq_decide_eq];exact q
 |.inl _,.inr _,h=>cases h
 |.inr _,.inl _,h=>cases h
theorem iQ{a b:Key}{v:Value}(ha:RelV (kV a) u)(hb:RelV (kV b) v)(h:kd a=kd b)(c:Bool){Q:Bool->Shared->Prop}(q:Q (EF a b) s):wpAny (model prog w) A (oneLt' c u v) Q E s:=by
 match a,b,h with
 |.inl i,.inl j,_=>
  obtain⟨t,rfl⟩:=ha;obtain⟨t',rfl⟩:=hb
  cases c with
  |true=>exact oneLt_int q
  |false=>exact kat_one _ _ (lt_int q)
 |.inr x,.inr y,_=>
  obtain⟨t,rfl⟩:=ha;obtain⟨t',rfl⟩:=hb
  cases c with
  |true=>exact oneLt_str q
  |false=>exact kat_one _ _ (lt_str q)
 |.inl _,.inr _,h=>cases h
 |.inr _,.inl _,h=>cases h
theorem X4{c:Bool}{Q:Bool->Shared->Prop}:∀(ks ls:List Key)(us vs:List Value)(i:Nat),Vals (ks.map kV) us->Vals (ls.map kV) vs->ks.map kd=ls.map kd->Q (DM ks ls) s->KatLex prog w A c false Q (us.zip vs) i s
 |[],[],_,_,_,.nil,.nil,_,q=>q
 |[],_::_,_,_,_,_,_,h,_=>by cases h
 |_::_,[],_,_,_,_,_,h,_=>by cases h
 |a::ks,b::ls,_,_,i,.cons ra rs,.cons rb rt,h,q=>by
  have h1:kd a=kd b:=Tt h;have h2:ks.map kd=ls.map kd:=List.tail_eq_of_cons_eq h;refine kat_cons (jI ra rb h1 ?_);have q':Q (if a=b then DM ks ls else EF a b) s:=q;by_cases e:a=b
  ·rw[Bj e];rw[AH e] at q';exact kat_yes (X4 ks ls _ _ (i+1) rs rt h2 q')
  ·rw[BK e];rw[AG e] at q';exact kat_no (iQ ra rb h1 _ q')
def XZ(h:Heap)(ps:List (Addr×List Key)):Prop:=∀p∈ps,∃us:List Value,Vals (p.2.map kV) us/\IsTup h p.1 us.toArray
theorem Uk{h:Heap}:∀{ps:List (Addr×List Key)},XZ h ps->(∀p∈ps,p.2≠[])->∃fs:List Value,KatTups h (ps.map fun p=>Value.ref p.1) fs/\fs.length=ps.length/\∀v∈fs,∃p∈ps,∃a r,p.2=a::r/\RelV (kV a) v
 |[],_,_=>⟨[],KatTups.nil,rfl,fun v hv=>by cases hv⟩
 |p::ps,ht,hne=>by
  obtain⟨fs,t,hl,hf⟩:=Uk (ps:=ps) (fun q hq=>ht q (DU _ hq)) fun q hq=>hne q (DU _ hq);obtain⟨us,rv,o,h1,h2,n,h3⟩:=ht p Ed
  cases e:p.2 with
  |nil=>exact absurd e (hne p Ed)
  |cons a r=>
   rw[e] at rv
   cases rv with
   |@cons _ u _ us' ra rr=>
    refine⟨u::fs,KatTups.cons h1 h2 h3 (by simp) t,by rw[CV,CV,hl],fun v hv=>?_⟩;rcases Bk.mp hv with z|z
    ·rw[z];exact⟨p,Ed,a,r,e,ra⟩
    ·obtain⟨q,hq,x⟩:=hf v z;exact⟨q,DU _ hq,x⟩
noncomputable def Ep(ps:List (Addr×List Key))(i:Nat):List Key:=(ps.getD i (0,[])).2
def Jr(ps:List (Addr×List Key))(i:Nat):Nat:=IX lexOrd (ps.map (·.2)) (Ep ps i)
theorem VH{ps:List (Addr×List Key)}(h:i<ps.length):Ep ps i∈ps.map (·.2):=by unfold Ep;rw[Cj,Ar h];exact BY.mpr ⟨ps[i],E1 h,rfl⟩
theorem dM{ps:List (Addr×List Key)}{sh:List Bool}(ht:XZ s.heap ps)(hsh:∀p∈ps,p.2.map kd=sh)(hne:sh≠[])(h2:2<=ps.length):
 M0 prog w A (ps.map fun p=>Value.ref p.1) (Jr ps) s:=by
 have hne':∀p∈ps,p.2≠[]:=fun p hp e=>hne (by rw[<-hsh p hp,e];rfl);obtain⟨fs,t,hl,hf⟩:=Uk ht hne';obtain⟨c,cr,ec⟩:∃c cr,sh=c::cr:=by
  cases sh with
  |nil=>exact absurd rfl hne
  |cons c cr=>exact⟨c,cr,rfl⟩
 have go:∀T:Value,(∀v∈fs,Looks (model prog w) s.heap (typeOf v) T)->(T==T)=true->(T !=Value.type "tuple")=true->M0 prog w A (ps.map fun p=>Value.ref p.1) (Jr ps) s:=fun T hT e1 e2=>by
  refine kat_kind t (by lia) hT e1 ⟨rfl,fun i j C hi hj q=>?_⟩;rw[AL] at hi hj;rw[e2];unfold kas_ask;have gi:∀k,k<ps.length->(ps.map fun p=>Value.ref p.1).getD k Value.none=Value.ref (ps.getD k (0,[])).1:=fun k hk=>by rw[Cj,Az,Ar hk,Cj,Ar hk];rfl
  have mi:∀k,k<ps.length->ps.getD k (0,[])∈ps:=fun k hk=>by rw[Cj,Ar hk];exact E1 hk
  rw[gi i hi,gi j hj];obtain⟨us,ru,ox,x1,x2,nx,x3⟩:=ht _ (mi i hi);obtain⟨vs,rv,oy,y1,y2,ny,y3⟩:=ht _ (mi j hj);have hs:(ps.getD i (0,[])).2.map kd=(ps.getD j (0,[])).2.map kd:=by rw[hsh _ (mi i hi),hsh _ (mi j hj)]
  refine kat_lt x1 x3 y1 y3 ?_;have el:decide (us.toArray.size<vs.toArray.size)=false:=by
   have l1:=ru.length;have l2:=rv.length;have l3:=BZ List.length hs;rw[AL] at l1 l2;rw[AL,AL] at l3;refine BK ?_;rw[CU,CU]
   lia
  rw[el];refine X4 _ _ us vs 0 ru rv hs ?_;have e3:=OT lexOrd (ps.map (·.2)) (a:=Ep ps i) (b:=Ep ps j) (VH hi);have e4:Po (Jr ps) i j=DM (Ep ps i) (Ep ps j):=e3.symm;rw[e4] at q;exact q
 cases c with
 |true=>
  refine go (.type "int") (fun v hv=>?_) (by decide) (by decide);obtain⟨p,hp,a,r,e,ra⟩:=hf v hv;have:=hsh p hp;rw[e,ec] at this
  match a,Tt this with
  |.inl i,_=>obtain⟨t,rfl⟩:=ra;exact Looks.of_pure rfl
 |false=>
  refine go (.type "str") (fun v hv=>?_) (by decide) (by decide);obtain⟨p,hp,a,r,e,ra⟩:=hf v hv;have:=hsh p hp;rw[e,ec] at this
  match a,Tt this with
  |.inr i,_=>obtain⟨t,rfl⟩:=ra;exact Looks.of_pure rfl
theorem U2:∀{ps:List (Addr×List Key)}{us:List Value},Vals (ps.map fun p=>V.ref p.1) us->us=ps.map fun p=>Value.ref p.1
 |[],_,.nil=>rfl
 |_::_,_,.cons r t=>by rw[Au,<-U2 t];cases r;rfl
theorem UZ:∀ps:List (Addr×List Key),Vals (ps.map fun p=>V.ref p.1) (ps.map fun p=>Value.ref p.1)
 |[]=>.nil
 |_::r=>.cons rfl (UZ r)
theorem MN:∀{xs:List V}{us:List Value},xs.length=us.length->(∀(i:Nat) x u,xs[i]? =some x->us[i]? =some u->RelV x u)->Vals xs us
 |[],[],_,_=>.nil
 |x::xs,u::us,hl,h=>.cons (h 0 x u rfl rfl) (MN (by simpa using hl) fun i x u h1 h2=>h (i+1) x u (by simpa using h1) (by simpa using h2))
 |[],_::_,hl,_=>by cases hl
 |_::_,[],hl,_=>by cases hl
def LO(a b:Str):Bool:=EF (Sum.inr a) (Sum.inr b)
def Hn:My Str:=⟨LO,fun a=>W8 _,fun a b c=>Xm _ _ _,fun a b h1 h2=>Sum.inr.inj (WZ _ _ h1 h2)⟩
def LG(zs:List Str)(i:Nat):Nat:=IX Hn zs (zs.getD i "")
end
variable{zs:List Str}
section
open PySem.W
theorem Kv(r:Vals (zs.map V.str) us)(hk:k<zs.length):∃t,us.getD k Value.none=.str (zs.getD k "") t:=by
 have e:(zs.map V.str)[k]? =some (V.str (zs.getD k "")):=by rw[Az,Ar hk,Cj,Ar hk];rfl
 obtain⟨u,hu,t,ht⟩:=r.get e;exact⟨t,by rw[Cj,hu];exact ht⟩
theorem VZ(hk:k<zs.length):zs.getD k ""∈zs:=by rw[Cj,Ar hk];exact E1 hk
theorem d8(r:Vals (zs.map V.str) us)(h2:2<=us.length):M0 prog w A us (LG zs) s:=by
 have hl:zs.length=us.length:=by rw[<-r.length,AL]
 refine kas_kind (T:=.type "str") h2 (fun v hv=>?_) (by decide) (by decide) ⟨rfl,fun i j C hi hj q=>?_⟩
 ·obtain⟨k,hk,e⟩:=HZ.mp hv;obtain⟨t,et⟩:=Kv r (k:=k) (by lia);rw[Cj,Ar hk] at et;have:v=.str (zs.getD k "") t:=by rw[<-e];exact et
  rw[this];exact Looks.of_pure rfl
 ·unfold kas_ask;obtain⟨t1,e1⟩:=Kv r (k:=i) (by lia);obtain⟨t2,e2⟩:=Kv r (k:=j) (by lia);rw[e1,e2];refine kas_lt_str ?_;have e3:=OT Hn zs (a:=zs.getD i "") (b:=zs.getD j "") (VZ (by lia));have e4:Po (LG zs) i j=decide ((zs.getD i "").cps.toList<(zs.getD j "").cps.toList):=e3.symm;rw[e4] at q;exact q
def il(K:PySem.W.Frag):List V->Hp->VK->Prop:=fun xs H Q=>∃(l:Addr)(zs:List Str),xs=[.ref l]/\AN K H l (zs.map V.str)/\zs.length<64/\
 ∀(D:Addr)(ys:List Str),H D=none->ys.Perm zs->ys.Pairwise (fun a b=>LO b a=false)->Q (.ref D) (upd H D (.lst (ys.map V.str)))
def Rn:List V->Hp->VK->Prop:=fun xs H Q=>∃(d:Addr)(AA:List (Key×V)),xs=[.ref d]/\H d=some (.dK AA)/\∀l,H l=none->Q (.ref l) (upd H l (.lst (AA.map fun kv=>kV kv.1)))
theorem KU(hc:X.calm=true):C6 X (.type "list") Rn:=by
 intro pins s σ H xs us Q I r h;obtain⟨d,AA,rfl,hd,q⟩:=h;obtain⟨u,rfl,rx⟩:=vals1 r;cases rx;obtain⟨z,hm,ws,rel,dd⟩:=Ic I.hok hd;obtain⟨ep,da⟩:=dd.dictAt;have hh:X.A.handled=none:=I.ok.hd hc;have hlen:=rel.length;refine kdl_call (kdl_dict hm) hh da (by lia) fun h' tk acc' c' kp e hacc=>?_;have hv:Vals (AA.map fun kv=>kV kv.1) acc'.toList:=by
  refine MN (by have h1:acc'.toList.length=acc'.size:=EM;have h2:=hacc.1;rw[AL];lia) fun i x u h1 h2=>?_;rw[Fb] at h2;obtain⟨k,y,ek,is⟩:=hacc.2 i u h2;have hk:(AA.map (·.1))[i]? =some k:=by rw[rel.keys,Az,ek];rfl
  have hx:(AA.map fun kv=>kV kv.1)[i]? =some (kV k):=by rw[show(AA.map fun kv=>kV kv.1)=(AA.map (·.1)).map kV by rw[Bh];rfl,Az,hk];rfl
  rw[hx] at h1;cases Ah h1;have is':Ib k u=true:=is;rcases Ff is' with⟨i,t,rfl,rfl⟩|⟨z,t,rfl,rfl⟩
  ·exact⟨t,rfl⟩
  ·exact⟨t,rfl⟩
 refine⟨.ref s.heap.objs.size,_,I.laid (t':=tk) (o:=.lst (AA.map fun kv=>kV kv.1)) kp (Ac _) ⟨by rw[AL];lia,acc'.toList,c',hv,by rw[Array.toArray_toList];exact e⟩,rfl,q _ I.fresh⟩
end
theorem E8(a b:Str):(a++b).length=a.length+b.length:=by show(a.cps++b.cps).size=_;simp[Str.length]
theorem OI{c:TT}{t u v:TS}{D:Ends}(G:St->Hp->Prop)(hG:∀σ H,G σ H->v D σ H)(h:(∀σ H,G σ H->v D σ H)->Gf c t u {D with nx:=v D} σ H):Il (Gf c t u) v D σ H:=h hG
theorem blank_eq:(" " :Str)=⟨#[32]⟩:=by ac_rfl
theorem cy(n:Int):(Txt.mul " " n).cps.toList=List.replicate n.toNat 32:=by rw[blank_eq];exact mul_one_list 32 n
theorem Z6(n:Int)(h0:0<=n)(h:n<=10):MulOk " " n:=mulOk_of 1 10 (by ac_rfl) (by lia) (by lia) (by decide) (by decide)
theorem UM(n:Int):(Txt.mul " " n).length=n.toNat:=by have h:=BZ List.length (cy n);rw[List.length_replicate] at h;simpa[Str.length] using h
theorem Ei(xs:List α)(n:Nat)(hn:xs.length=n)(h0:0<n)(i:Int):∃v∈xs,F1 xs (i%(n:Int))=some v:=by
 have h1:0<=i%(n:Int):=Qd _ (by lia);have h2:i%(n:Int)<n:=QH _ (by lia);have e:i%(n:Int)=((i%(n:Int)).toNat:Int):=by lia
 have hl:(i%(n:Int)).toNat<xs.length:=by lia
 refine⟨xs[(i%(n:Int)).toNat],E1 hl,?_⟩;have:=Bv (xs:=xs) (j:=(i%(n:Int)).toNat) (v:=xs[(i%(n:Int)).toNat]) (Ar hl);rw[<-e] at this;exact this
def Xu:Sp:=fun vs H Q _=>∃a p m:Int,vs=[.int a,.int p,.int m]/\0<p/\0<m/\∀z:Int,Q (.int z) H
def YV:Sp:=fun vs H Q _=>∃s:Int,vs=[.int s]/\∀z:Str,z.length=3->Q (.str z) H
noncomputable def sought:List Str:=["oak","oaks","elm","cat","[]","[a]","Oak","oa","elmelmelm"]
def WB:Sp:=fun vs H Q _=>vs=[]/\∀(p:Addr)(H':Hp),AS H H'->H' p=some (.tup (sought.map V.str))->Q (.ref p) H'
def V5:Sp:=fun vs H Q _=>∃c k:Int,vs=[.int c,.int k]/\∀(z:Str)(H':Hp),z.length<=1000->AS H H'->Q (.str z) H'
theorem i8:A0 ["_law_number","_law_prime","_law_many"] ["_law_number","_law_prime","_law_many"] (Ao O8):=by ac_rfl
theorem gB(F:Ab K "_law_draw" "_law_draw" O8 f fd):AU P w K mg base Aa 1 f fd ["_law_number","_law_prime","_law_many"] Xu:=by
 refine F.ok i8 (fun vs H Q E h=>?_) (fun cdv A outer s H vs Q E hr h=>?_)
 ·obtain⟨a,p,m,rfl,_⟩:=h;rfl
 ·obtain⟨a,p,m,rfl,hp,hm,q⟩:=h;refine⟨_,AV (An (Al Bw (Al Bw (Al Ot (pv 0) AK) (pv 1)) (pv 2))),?_⟩;exact⟨_,rfl,_,_,rfl,rfl,.inr ⟨by decide,by decide⟩,_,rfl,_,_,rfl,rfl,hp,_,rfl,_,_,rfl,rfl,hm,q _⟩
noncomputable def Zp:Str:="abcdefghijklmnopqrstuvwxyzABCDEFGHIJKLMNOPQRSTUVWXYZ0123456789"
noncomputable def ZV:Str:="!#$&()*+,-./:;<=>?\x40[]^_`{|}~'"
def NB:Str:=Zp++ZV
theorem SX:A0 ["_law_spot","_law_signs"] ["_law_spot"] (Ao PY):=by ac_rfl
theorem SQ:("w" :Str).length=1:=by ac_rfl
theorem Wt:NB.cps.toList.length=91:=by ac_rfl
theorem jh(F:Ab K "_law_odd_word" "_law_odd_word" PY f fd):AU P w K mg base Aa 1 f fd ["_law_spot"] YV:=by
 refine F.ok SX (fun vs H Q E h=>?_) (fun cdv A outer s H vs Q E hr h=>?_)
 ·obtain⟨i,rfl,_⟩:=h;rfl
 ·obtain⟨i,rfl,q⟩:=h;refine⟨_,AW (Ax (i:=1) SX.nd rfl (Ad rfl) AX) (AW (Ax (i:=1) SX.nd rfl (Ad rfl) (Al E5 (pv 1) AX))
   (AV (An (Al E5 (Al E5 AX (Ag Kt (pv 1) (Al Bw (pv 0) AK) (fun _ _=>rfl))) (Ag Kt (pv 1) (Al Bw (Al JQ (pv 0) AK) AK) (fun _ _=>rfl)))))),?_⟩;refine⟨_,rfl,Zp,ZV,rfl,rfl,by ac_rfl,?_⟩;obtain⟨v1,_,e1⟩:=Ei NB.cps.toList 91 Wt (by decide) i;obtain⟨v2,_,e2⟩:=Ei NB.cps.toList 91 Wt (by decide) (i/91);refine⟨_,rfl,_,rfl,_,_,rfl,rfl,(by show(0:Int)<91;decide),NB,_,v1,rfl,rfl,by ac_rfl,e1,_,_,rfl,rfl,by rw[SQ];show 1+1<=sizeLine;decide,?_⟩;refine⟨_,rfl,_,rfl,_,_,rfl,rfl,⟨by decide,by decide⟩,_,_,rfl,rfl,(by show(0:Int)<91;decide),NB,_,v2,rfl,rfl,by ac_rfl,e2,_,_,rfl,rfl,by rw[E8,SQ];show 1+1+1<=sizeLine;decide,?_⟩;exact q _ (by rw[E8,E8,SQ];rfl)
def RY:List Expr:=match(Ft MP).getD 0 (.Pass ⟨0,0,0,0⟩) with|.Return (some (.Tuple v _ _)) _=>v|_=>[]
theorem af:Jg RY=some sought:=by ac_rfl
theorem fF:A0 [] [] (Ao MP):=by ac_rfl
theorem cc(F:Ab K "_law_sought" "_law_sought" MP f fd):AU P w K mg base Aa 1 f fd [] WB:=by
 refine F.ok fF (fun vs H Q E h=>?_) (fun cdv A outer s H vs Q E hr h=>?_)
 ·obtain⟨rfl,_⟩:=h;rfl
 ·obtain⟨rfl,q⟩:=h;refine⟨_,@AV _ _ _ (@An _ _ _ _ (@Cd _ RY _ _ _ (@RU _ RY sought af))),?_⟩;exact⟨by show 9<=sizeLine;decide,fun p hp=>q p _ (Ak hp) AR⟩
noncomputable def SK:List Str:=["oak","[a]","elm","[b]","ash","[cat]","oak","[catalogue]","[]","a[b]","[zed]","Oak"]
noncomputable def j8:List Str:=["oaks","oa","elmelmelm","oakum"]
def menu:List Str:=SK++j8
theorem dE:menu.length=16:=by ac_rfl
theorem aP:∀z∈menu,z.length<=11:=by ac_rfl
def Yp:List Expr:=match(Ft MJ).getD 0 (.Pass ⟨0,0,0,0⟩) with|.Assign _ (.List v _) _=>v|_=>[]
theorem gM:Jg Yp=some SK:=by ac_rfl
theorem GJ:A0 ["_law_cell","_law_k","_law_menu","_law_rest","_law_text","_law_left","_law_j","_law_word"] ["_law_cell","_law_k"] (Ao MJ):=by ac_rfl
set_option maxHeartbeats 1000000 in
theorem bp{fD fO:Addr}{fdD fdO:FuncData}(F:Ab K "_law_penned" "_law_penned" MJ f fd)(O:Own mg)
 (FD:Ab K "_law_draw" "_law_draw" O8 fD fdD)(bD:Binds K fdD ["_law_number","_law_prime","_law_many"] [])(mD:mg "_law_draw" =some (.ref fD))
 (FO:Ab K "_law_odd_word" "_law_odd_word" PY fO fdO)(bO:Binds K fdO ["_law_spot"] [])(mO:mg "_law_odd_word" =some (.ref fO)):AU P w K mg base Aa 2 f fd ["_law_cell","_law_k"] V5:=by
 have GD:AU P w K mg base Aa 1 fD fdD ["_law_number","_law_prime","_law_many"] Xu:=gB FD;have GO:AU P w K mg base Aa 1 fO fdO ["_law_spot"] YV:=jh FO;refine F.ok GJ (fun vs H Q E h=>?_) (fun cdv A outer s H vs Q E hr h=>?_)
 ·obtain⟨c,k,rfl,_⟩:=h;rfl
 ·obtain⟨c,k,rfl,q⟩:=h;refine⟨_,@AW _ _ _ _ _ (@gK _ 2 Yp SK gM _ _ _ _ GJ.nd rfl (Ad rfl) rfl)
   (AW (Ax (i:=2) GJ.nd rfl (Ad rfl) (Al Kp (pv 2) (CY (AE AX (AE AX (AE AX (AE AX AI)))))))
   (AW (Ax (i:=3) GJ.nd rfl (Ad rfl) (Al JQ (pv 0) AK))
   (AW (Ax (i:=4) GJ.nd rfl (Ad rfl) (Ag Bq (CY (AE AX (AE AX AI))) (Al Bw (pv 3) AK) (fun _ _=>rfl)))
   (AW (Ax (i:=5) GJ.nd rfl (Ad rfl) (BJ GD hr rfl mD FD.kp bD .nil BB (AE (Al DJ (pv 0) (Al Ot AK (pv 1))) (AE AK (AE AK AI)))))
   (AW (Dx Dr rfl (Q1 rfl O.J0 (AE (Ag Bq (CY (AE (Al Bw (Al DJ (pv 3) (pv 1)) AK) (AE AK AI))) (E6 L3 rfl O.int Kn (AE (Hl BV (Al Bw (pv 0) AK) AK (As _)) AI)) (fun _ _=>rfl)) AI)) (Bl (i:=6) GJ.nd rfl (Ad rfl))
    (AW (Ax (i:=7) GJ.nd rfl (Ad rfl) (Ag Bq (pv 2) (Al Bw (Al DJ (Al DJ (pv 5) (Al Ot AK (pv 6))) (pv 1)) AK) (fun _ _=>rfl)))
    (AW (A1 (Av BV (Al Bw (Al DJ (pv 5) (pv 6)) AK) AK (As _)) (AV (Ax (i:=7) GJ.nd rfl (Ad rfl) (BJ GO hr rfl mO FO.kp bO .nil BB (AE (Al DJ (pv 5) (pv 3)) AI)))) BF)
    (AW (Ax (i:=4) GJ.nd rfl (Ad rfl) (Al E5 (Al E5 (pv 4) (pv 7)) (Al Uo AX (Ag Bq (CY (AE AK (AE AK (AE AK (AE AK (AE AK AI)))))) (Al Bw (Al DJ (pv 5) (pv 6)) AK) (fun _ _=>rfl)))))
    (AV (Ax (i:=5) GJ.nd rfl (Ad rfl) (Al JQ (pv 5) AK)))))))
   (AV (An (pv 4)))))))),?_⟩;refine⟨by show 12<=sizeLine;decide,fun m0 hm0=>⟨_,rfl,by show 4<=sizeLine;decide,fun l4 hl4=>?_⟩⟩;have n04:m0≠l4:=A2 AR hl4;refine⟨m0,l4,_,_,rfl,rfl,(by rw[AO n04];exact AR),AR,by show 16<=sizeLine;decide,fun m hm=>?_⟩;generalize hHm:upd (upd (upd H m0 _) l4 _) m _=Hm;have hmn:H m=none:=((Ak hm0).trans (Ak hl4)).free hm;have sM:AS H Hm:=by rw[<-hHm];exact(((AS.refl H).upd hm0).upd ((Ak hm0).free hl4)).upd hmn
  have mM:Hm m=some (.lst (menu.map V.str)):=by rw[<-hHm];exact AR
  refine⟨_,rfl,_,_,rfl,rfl,⟨by decide,by decide⟩,by show 2<=sizeLine;decide,fun l2 hl2=>?_⟩;obtain⟨v0,hv0,e0⟩:=Ei [V.str "",V.str " "] 2 rfl (by decide) (c/16);have s2:AS Hm (upd Hm l2 (.lst [V.str "",V.str " "])):=Ak hl2;have ht0:∃t0:Str,v0=.str t0/\t0.length<=1:=by
   rcases Bk.mp hv0 with e|e
   ·exact⟨"",e,by ac_rfl⟩
   ·exact⟨" ",by simpa using e,by ac_rfl⟩
  obtain⟨t0,rfl,hl0⟩:=ht0;refine⟨_,rfl,_,_,rfl,rfl,(by show(0:Int)<2;decide),l2,_,_,.str t0,rfl,rfl,AN.of AR,e0,?_⟩;refine⟨_,rfl,_,rfl,_,_,rfl,rfl,.inl ⟨by decide,by decide⟩,_,_,rfl,rfl,_,_,_,rfl,by decide,by decide,fun left0=>?_⟩;have mM2:=s2 _ _ mM;have sM2:=sM.trans s2;generalize upd Hm l2 (.lst [V.str "",V.str " "])=H2 at mM2 sM2;refine⟨_,rfl,_,rfl,_,_,rfl,rfl,_,_,rfl,rfl,(by show(0:Int)<7;decide),by show 2<=sizeLine;decide,fun l3 hl3=>?_⟩;have hm7:0<=(c/16+k)%7/\(c/16+k)%7<7:=⟨Qd _ (by decide),QH _ (by decide)⟩;have s3:AS H2 (upd H2 l3 (.lst [V.int ((c/16+k)%7),V.int 24])):=Ak hl3;have hev:∀b:Bool,∃nn:Int,0<=nn/\nn<=24/\F1 [V.int ((c/16+k)%7),V.int 24] (if b=true then 1 else 0)=some (.int nn):=fun b=>by
   cases b with
   |false=>exact⟨((c/16+k)%7),hm7.1,by lia,rfl⟩
   |true=>exact⟨24,by decide,by decide,rfl⟩
  obtain⟨nn,hn0,hn24,en⟩:=hev (decide (V.int (c%37)=V.int 4));refine⟨_,rfl,_,_,rfl,rfl,(by show(0:Int)<37;decide),rfl,.inr ⟨_,rfl,l3,_,_,.int nn,rfl,rfl,AN.of AR,en,nn,rfl,by lia,by lia,?_⟩⟩;have mM3:=s3 _ _ mM2;have sM3:=sM2.trans s3;refine OA (lo:=0) (n:=nn.toNat) (fun i σ H'=>∃(t:Str)(left:Int)(v6 v7:Option V),σ=[some (.int c),some (.int k),some (.ref m),some (.int (c/16)),some (.str t),some (.int left),v6,v7]/\AS (upd H2 l3 (.lst [V.int ((c/16+k)%7),V.int 24])) H'/\t.length<=1+16*i)
   ⟨t0,left0,none,none,rfl,AS.refl _,by lia⟩ ?_ ?_
  ·rintro i σ H' hi ⟨t,left,v6,v7,rfl,sm,tl⟩;obtain⟨vw,hvw,ew⟩:=Ei (menu.map V.str) 16 (by rw[AL];exact dE) (by decide) (left+5*(0+(i:Int))+k);obtain⟨wd,hwd,rfl⟩:=BY.mp hvw;have hwl:=aP wd hwd;refine⟨_,rfl,_,rfl,_,rfl,_,_,rfl,rfl,.inl ⟨by decide,by decide⟩,_,_,rfl,rfl,_,rfl,_,_,rfl,rfl,_,_,rfl,rfl,(by show(0:Int)<16;decide),m,_,_,.str wd,rfl,rfl,AN.of (sm _ _ mM3),ew,?_⟩;dsimp only[Dj];refine OI (fun σ H2=>∃wd:Str,wd.length<=11/\σ=[some (.int c),some (.int k),some (.ref m),some (.int (c/16)),some (.str t),some (.int left),some (.int (0+(i:Int))),some (.str wd)]/\H2=H') ?_ ?_
   ·rintro σ H2 ⟨wd,hwl,rfl,rfl⟩;obtain⟨vb,hvb,eb⟩:=Ei [V.int 1,V.int 1,V.int 1,V.int 2,V.int 5] 5 rfl (by decide) (left+(0+(i:Int)));have hb:∃nb:Int,vb=.int nb/\0<=nb/\nb<=5:=by simp only[Bk,JB,JM] at hvb;rcases hvb with e|e|e|e|e<;>exact⟨_,e,by decide,by decide⟩
    obtain⟨nb,rfl,hb0,hb5⟩:=hb;refine⟨_,rfl,_,rfl,t,wd,rfl,rfl,by rw[BA];lia,by show 5<=sizeLine;decide,fun l5 hl5=>?_⟩;refine⟨_,rfl,_,rfl,_,_,rfl,rfl,_,_,rfl,rfl,(by show(0:Int)<5;decide),l5,_,_,.int nb,rfl,rfl,AN.of AR,eb," ",nb,rfl,rfl,Z6 nb hb0 (by lia),t++wd,_,rfl,rfl,by rw[E8,UM,BA];lia,?_⟩;exact⟨_,rfl,_,_,rfl,rfl,⟨by decide,by decide⟩,_,_,_,_,rfl,sm.trans (Ak hl5),by rw[E8,E8,UM];lia⟩
   ·intro hG;refine⟨_,rfl,_,rfl,_,_,rfl,rfl,_,_,rfl,rfl,(by show(0:Int)<13;decide),rfl,_,rfl,FH (fun _=>?_) (fun _=>?_)⟩
    ·exact⟨_,rfl,_,rfl,_,_,rfl,rfl,_,rfl,fun z hz=>hG _ _ ⟨z,by lia,rfl,rfl⟩⟩
    ·exact hG _ _ ⟨wd,hwl,rfl,rfl⟩
  ·rintro σ H' ⟨t,left,v6,v7,rfl,sm,tl⟩;exact⟨_,rfl,q t H' (by lia) (sM3.trans sm)⟩
inductive A8 where
 |write (n t:Str)|rename (n o:Str)|join (n o:Str)|cut (n:Str) (p:Int) (o:Str)|drop (n:Str)|text (n:Str)|back (o:Str)|find (ws:List Str) (far:Int)
noncomputable def A8.dt:A8->Dt
 |.write n t=>.tup [.str "write",.str n,.str t]
 |.rename n o=>.tup [.str "rename",.str n,.str o]
 |.join n o=>.tup [.str "join",.str n,.str o]
 |.cut n p o=>.tup [.str "cut",.str n,.int p,.str o]
 |.drop n=>.tup [.str "drop",.str n]
 |.text n=>.tup [.str "text",.str n]
 |.back o=>.tup [.str "back",.str o]
 |.find ws far=>.tup [.str "find",.tup (ws.map Dt.str),.int far]
def A8.Good:A8->Prop
 |.write n t=>n.length<=40/\t.length<=1000
 |.rename n o=>n.length<=40/\o.length<=40
 |.join n o=>n.length<=40/\o.length<=40
 |.cut n _ o=>n.length<=40/\o.length<=40
 |.drop n=>n.length<=40
 |.text n=>n.length<=40
 |.back o=>o.length<=40
 |.find ws _=>ws.length<=9/\∀z∈ws,z.length<=9
def WM:Sp:=fun vs H Q _=>∃(a:Addr)(ns:List Int),vs=[.ref a]/\AN [] H a (ns.map V.int)/\ns.length<=63/\
 ∀(L:Addr)(ds:List A8)(xs:List V)(H':Hp),AS H H'->H L=none->H' L=some (.lst xs)->Am (Ex H' L) (ds.map A8.dt) xs->ds.length=ns.length->(∀d∈ds,d.Good)->Q (.ref L) H'
structure LI(H H':Hp)(nm M:Addr)(xs:List V)(ds:List A8):Prop where
 same:AS H H'
 Pl:H' nm=some (.lst [.str "a",.str "b",.str "cat",.str "catalogue"])
 DR:H' M=some (.lst xs)
 Tg:H M=none
 ne:nm≠M
 rep:Am (Ex H' M) (ds.map A8.dt) xs
 good:∀d∈ds,d.Good
theorem LI.ext{nm M:Addr}{xs:List V}{ds:List A8}(h:LI H H' nm M xs ds)(s:AS H' H2):LI H H2 nm M xs ds:=
 ⟨h.same.trans s,s _ _ h.Pl,s _ _ h.DR,h.Tg,h.ne,h.rep.same (Ex.mono s),h.good⟩
theorem LI.new{nm M l:Addr}{o:HO}{xs:List V}{ds:List A8}(h:LI H H' nm M xs ds)(hl:H' l=none):LI H (upd H' l o) nm M xs ds:=h.ext (Ak hl)
theorem LI.push{nm M:Addr}{xs:List V}{ds:List A8}{d:A8}{x:V}(h:LI H H' nm M xs ds)(r:Rep (Ex H' M) d.dt x)(g:d.Good):LI H (upd H' M (.lst (xs++[x]))) nm M (xs++[x]) (ds++[d]):=by
 refine⟨h.same.upd h.Tg,by rw[AO h.ne];exact h.Pl,AR,h.Tg,h.ne,?_,fun e he=>?_⟩
 ·rw[Ex.upd,BX];exact h.rep.snoc r
 ·rcases CB.mp he with z|z
  ·exact h.good e z
  ·rw[CA.mp z];exact g
theorem V4:∀ws:List Str,Am H (ws.map Dt.str) (ws.map V.str):=fun ws=>by
 refine⟨by rw[AL,AL],fun i d x h1 h2=>?_⟩;rw[Az] at h1 h2
 cases e:ws[i]?with
 |none=>rw[e] at h1;cases h1
 |some z=>
 rw[e] at h1 h2;cases Ah h1;cases Ah h2;exact .str z
noncomputable def S5:Str:="abcdefghijklmnopqrstuvwxyz"
theorem gj:S5.cps.toList.length=26:=by ac_rfl
noncomputable def Pu:Str:=Txt.mul "e" 40
theorem fb:Pu.length=40:=by ac_rfl
theorem ie:MulOk "e" 40:=mulOk_of 1 40 (by ac_rfl) (by decide) (by decide) (by decide) (by decide)
theorem Z5:∀z∈sought,z.length<=9:=by ac_rfl
theorem fK(ws:List Str)(lo hi:Option Int):∃vs:List Str,EA (ws.map V.str) lo hi=vs.map V.str/\vs.length<=ws.length/\∀z∈vs,z∈ws:=by
 unfold EA;refine⟨(ws.drop (A9 (ws.map V.str).length 0 lo)).take (A9 (ws.map V.str).length (ws.map V.str).length hi-A9 (ws.map V.str).length 0 lo),by rw[Nu,Nv],?_,fun z hz=>J7 (HY hz)⟩;rw[Bg,Dq]
 lia
theorem DI:A0 ["_law_cells","_law_names","_law_made","_law_k","_law_rest","_law_pick","_law_name","_law_near","_law_other","_law_place","_law_odd","_law_stop","_law_words","_law_far"] ["_law_cells"] (Ao Oj):=by ac_rfl
variable{fdP:FuncData}
set_option maxHeartbeats 4000000 in
theorem df{fP fS:Addr}{fdS:FuncData}(F:Ab K "_law_deeds" "_law_deeds" Oj f fd)(O:Own mg)
 (FP:Ab K "_law_penned" "_law_penned" MJ fP fdP)(GP:AU P w K mg base Aa 2 fP fdP ["_law_cell","_law_k"] V5)(bP:Binds K fdP ["_law_cell","_law_k"] [])(mP:mg "_law_penned" =some (.ref fP))
 (FS:Ab K "_law_sought" "_law_sought" MP fS fdS)(bS:Binds K fdS [] [])(mS:mg "_law_sought" =some (.ref fS)):AU P w K mg base Aa 3 f fd ["_law_cells"] WM:=by
 have GS:AU P w K mg base Aa 1 fS fdS [] WB:=cc FS;refine F.ok DI (fun vs H Q E h=>?_) (fun cdv A outer s H vs Q E hr h=>?_)
 ·obtain⟨a,ns,rfl,_⟩:=h;rfl
 ·obtain⟨a,ns,rfl,hS,hlen,q⟩:=h;have hr1:Br 1 _:=hr.mono (by decide);refine⟨_,(AW (Ax (i:=1) DI.nd rfl (Ad rfl) (CY (AE AX (AE AX (AE AX (AE AX AI)))))) (AW (Ax (i:=2) DI.nd rfl (Ad rfl) (CY AI)) (AW (Dx Dr rfl (Q1 rfl O.J0 (AE (Bc Hq rfl O.len Dg (AE (pv 0) AI)) AI)) (Bl (i:=3) DI.nd rfl (Ad rfl))
   (AW (Ax (i:=4) DI.nd rfl (Ad rfl) (Al JQ (Ag Bq (pv 0) (pv 3) (fun _ _=>rfl)) AK)) (AW (Ax (i:=5) DI.nd rfl (Ad rfl) (Al Bw (Al DJ (Ag Bq (pv 0) (pv 3) (fun _ _=>rfl)) (Al Ot AK (pv 3))) AK)) (AW (Ax (i:=6) DI.nd rfl (Ad rfl) (Ag Bq (pv 1) (Al Bw (Al DJ (pv 4) (pv 3)) AK) (fun _ _=>rfl))) (AW (Ax (i:=7) DI.nd rfl (Ad rfl) (Ag Bq (pv 0) (Al Bw (Al DJ (pv 3) AK) (Bc Hq rfl O.len Dg (AE (pv 0) AI))) (fun _ _=>rfl))) (AW (Ax (i:=8) DI.nd rfl (Ad rfl) (Ag Bq (Al Kp (pv 1) (CY (AE AX (AE (Al Uo AX AK) AI)))) (Al Bw (Al DJ (pv 7) (Al JQ (pv 3) AK)) AK) (fun _ _=>rfl))) (AW (Ax (i:=9) DI.nd rfl (Ad rfl) (Al Bw (Al DJ (Al JQ (pv 7) AK) (pv 3)) AK)) (AW (A1 (Av BV (Al Bw (Ag Bq (pv 0) (pv 3) (fun _ _=>rfl)) AK) AK (As _))
   (AV (Ax (i:=9) DI.nd rfl (Ad rfl) (Ag Bq (CY (AE (D6 Dy AK) (AE (Al SA AK AK) (AE (Al R7 (D6 Dy AK) (Al Bw (pv 4) (Al SA AK AK))) (AE (Al Bw (pv 7) AK) AI))))) (Al Bw (pv 4) AK) (fun _ _=>rfl))))
   BF) (AW (Ax (i:=10) DI.nd rfl (Ad rfl) (Al E5 AX (Ag Kt AX (Al Bw (pv 4) AK) (fun _ _=>rfl)))) (AW (Ax (i:=6) DI.nd rfl (Ad rfl) (Ag Bq (CY (AE (pv 6) (AE (pv 10) AI))) (E6 L3 rfl O.int Kn (AE (Hl BV (Al Bw (Ag Bq (pv 0) (pv 3) (fun _ _=>rfl)) AK) AK (As _)) AI)) (fun _ _=>rfl))) (AW (Ax (i:=8) DI.nd rfl (Ad rfl) (Ag Bq (CY (AE (pv 8) (AE (pv 10) AI))) (E6 L3 rfl O.int Kn (AE (Hl BV (Al Bw (Ag Bq (pv 0) (pv 3) (fun _ _=>rfl)) AK) AK (As _)) AI)) (fun _ _=>rfl))) (AW (A1 (Av BV (Al Bw (Ag Bq (pv 0) (pv 3) (fun _ _=>rfl)) AK) AK (As _))
   (AV (Ax (i:=8) DI.nd rfl (Ad rfl) (Ag Bq (CY (AE AX (AE AX (AE AX (AE AX AI))))) (Al Bw (pv 4) AK) (fun _ _=>rfl))))
   BF) (AV (A1 (Av IZ (pv 5) AK (As _))
   (AW (A1 (Av BV (Al Bw (Ag Bq (pv 0) (pv 3) (fun _ _=>rfl)) AK) AK (As _))
   (AV (Ax (i:=6) DI.nd rfl (Ad rfl) (pv 8)))
   BF) (AV (Bn (FQ EJ FZ FY Ef (pv 2) (AE (Cd (AE AX (AE (pv 6) (AE (BJ GP hr rfl mP FP.kp bP .nil BB (AE (Ag Bq (pv 0) (pv 3) (fun _ _=>rfl)) (AE (pv 3) AI))) AI)))) AI)))))
   (AV (A1 (Av IZ (pv 5) AK (As _))
   (AV (Bn (FQ EJ FZ FY Ef (pv 2) (AE (Cd (AE AX (AE (pv 6) (AE (pv 8) AI)))) AI))))
   (AV (A1 (Av IZ (pv 5) AK (As _))
   (AV (Bn (FQ EJ FZ FY Ef (pv 2) (AE (Cd (AE AX (AE (pv 6) (AE (pv 8) AI)))) AI))))
   (AV (A1 (Av IZ (pv 5) AK (As _))
   (AV (Bn (FQ EJ FZ FY Ef (pv 2) (AE (Cd (AE AX (AE (pv 6) (AE (pv 9) (AE (pv 8) AI))))) AI))))
   (AV (A1 (Av BV (pv 5) AK (As _))
   (AV (Bn (FQ EJ FZ FY Ef (pv 2) (AE (Cd (AE AX (AE (pv 6) AI))) AI))))
   (AV (A1 (Av BV (pv 5) AK (As _))
   (AV (Bn (FQ EJ FZ FY Ef (pv 2) (AE (Cd (AE AX (AE (pv 6) AI))) AI))))
   (AV (A1 (Av BV (pv 5) AK (As _))
   (AV (Bn (FQ EJ FZ FY Ef (pv 2) (AE (Cd (AE AX (AE (pv 8) AI))) AI))))
   (AW (Ax (i:=11) DI.nd rfl (Ad rfl) (Al DJ (Al Bw (pv 4) AK) (Al Bw (Al DJ (pv 7) (pv 3)) AK))) (AW (Ax (i:=12) DI.nd rfl (Ad rfl) (Fl lW (Vb GS hr1 rfl mS FS.kp bS .nil BB) (DV (Al Bw (pv 4) AK)) (DV (pv 11)))) (AW (Ax (i:=13) DI.nd rfl (Ad rfl) (CY (AE (Al Bw (Al DJ (Al JQ (pv 7) AK) (pv 3)) AK) (AE (D6 Dy AK) (AE (Al SA AK AK) (AE (Al Bw (pv 7) AK) AI)))))) (AW (Ax (i:=13) DI.nd rfl (Ad rfl) (Ag Bq (pv 13) (Al Bw (Ag Bq (pv 0) (Al Bw (Al DJ (pv 3) AK) (Bc Hq rfl O.len Dg (AE (pv 0) AI))) (fun _ _=>rfl)) AK) (fun _ _=>rfl))) (AV (Bn (FQ EJ FZ FY Ef (pv 2) (AE (Cd (AE AX (AE (pv 12) (AE (pv 13) AI)))) AI)))))))))))))))))))))))))))))))))) (AV (An (pv 2)))))),?_⟩;refine⟨by show 4<=sizeLine;decide,fun nm hnm=>⟨by show 0<=sizeLine;decide,fun M hM=>?_⟩⟩;have s1:AS H (upd H nm (.lst [.str "a",.str "b",.str "cat",.str "catalogue"])):=Ak hnm;have hMn:H M=none:=s1.free hM;have nnM:nm≠M:=A2 AR hM;have hnl:(ns.map V.int).length=ns.length:=AL ..;have li0:LI H (upd (upd H nm (.lst [.str "a",.str "b",.str "cat",.str "catalogue"])) M (.lst [])) nm M [] []:=
   ⟨s1.upd hMn,by rw[AO nnM];exact AR,AR,hMn,nnM,Am.nil,fun d hd=>by cases hd⟩;refine⟨_,rfl,a,_,rfl,.inl (li0.same.seq hS),((ns.map V.int).length:Int),rfl,by lia,by lia,?_⟩;refine OA (lo:=0) (n:=(ns.map V.int).length) (fun i σ H'=>∃(xs:List V)(ds:List A8)(v3 v4 v5 v6 v7 v8 v9 v10 v11 v12 v13:Option V),σ=[some (.ref a),some (.ref nm),some (.ref M),v3,v4,v5,v6,v7,v8,v9,v10,v11,v12,v13]/\LI H H' nm M xs ds/\xs.length=i/\ds.length=i)
   ⟨[],[],none,none,none,none,none,none,none,none,none,none,none,rfl,li0,rfl,rfl⟩ ?_ ?_
  ·rintro i σ H' hi ⟨xs,ds,v3,v4,v5,v6,v7,v8,v9,v10,v11,v12,v13,rfl,li,hxl,hdl⟩;rw[hnl] at hi;have hSi:∀{H2:Hp},LI H H2 nm M xs ds->AN [] H2 a (ns.map V.int):=fun l=>l.same.seq hS;generalize ev:ns.getD i 0=c;have hat:F1 (ns.map V.int) (0+(i:Int))=some (.int c):=by rw[Int.zero_add];refine Bv ?_;rw[Az,Ar hi,<-ev,Cj,Ar hi];rfl
   have hcell:∀j:Int,∃z:Int,F1 (ns.map V.int) (j%((ns.map V.int).length:Nat))=some (.int z):=fun j=>by obtain⟨v,hv,e⟩:=Ei (ns.map V.int) (ns.map V.int).length rfl (by lia) j;obtain⟨z,_,rfl⟩:=BY.mp hv;exact⟨z,e⟩
   have hpos:(0:Int)<((ns.map V.int).length:Nat):=by lia
   refine⟨_,rfl,_,rfl,a,_,_,.int c,rfl,rfl,hSi li,hat,_,_,rfl,rfl,⟨by decide,by decide⟩,?_⟩;refine⟨_,rfl,_,rfl,a,_,_,.int c,rfl,rfl,hSi li,hat,_,rfl,_,_,rfl,rfl,.inl ⟨by decide,by decide⟩,_,_,rfl,rfl,_,_,rfl,rfl,(by show(0:Int)<16;decide),?_⟩;obtain⟨vn,hvn,en⟩:=Ei [V.str "a",V.str "b",V.str "cat",V.str "catalogue"] 4 rfl (by decide) (c/16+(0+(i:Int)));have hn0:∃n0:Str,vn=.str n0/\n0.length<=40:=by simp only[Bk,JB,JM] at hvn;rcases hvn with e|e|e|e<;>exact⟨_,e,by ac_rfl⟩
   obtain⟨n0,rfl,ln0⟩:=hn0;refine⟨_,rfl,_,rfl,_,rfl,_,_,rfl,rfl,_,_,rfl,rfl,(by show(0:Int)<4;decide),nm,_,_,.str n0,rfl,rfl,AN.of li.Pl,en,?_⟩;obtain⟨near,enear⟩:=hcell (0+(i:Int)+1);refine⟨_,rfl,_,rfl,_,_,rfl,rfl,_,rfl,a,_,rfl,.inl (hSi li),_,_,rfl,rfl,hpos,a,_,_,.int near,rfl,rfl,hSi li,enear,?_⟩;refine⟨_,rfl,"e",40,rfl,rfl,ie,by show 2<=sizeLine;decide,fun l2 hl2=>?_⟩;have li2:=li.new (o:=.lst [V.str "zed",V.str Pu]) hl2;refine⟨nm,l2,_,_,rfl,rfl,li2.Pl,AR,by show 6<=sizeLine;decide,fun l6 hl6=>?_⟩;have li6:=li2.new (o:=.lst ([V.str "a",V.str "b",V.str "cat",V.str "catalogue"]++[V.str "zed",V.str Pu])) hl6;obtain⟨vo,hvo,eo⟩:=Ei ([V.str "a",V.str "b",V.str "cat",V.str "catalogue"]++[V.str "zed",V.str Pu]) 6 rfl (by decide) (near+(0+(i:Int))/2);have ho0:∃o0:Str,vo=.str o0/\o0.length<=40:=by
    simp only[CB,Bk,JB,JM] at hvo;rcases hvo with(e|e|e|e)|e|e
    ·exact⟨_,e,by ac_rfl⟩
    ·exact⟨_,e,by ac_rfl⟩
    ·exact⟨_,e,by ac_rfl⟩
    ·exact⟨_,e,by ac_rfl⟩
    ·exact⟨_,e,by ac_rfl⟩
    ·exact⟨_,e,by rw[fb];exact Ac _⟩
   obtain⟨o0,rfl,lo0⟩:=ho0;refine⟨_,rfl,_,rfl,_,_,rfl,rfl,⟨by decide,by decide⟩,_,_,rfl,rfl,_,_,rfl,rfl,(by show(0:Int)<6;decide),l6,_,_,.str o0,rfl,rfl,AN.of AR,eo,?_⟩;clear li li2;change LI H (upd (upd H' l2 (.lst [V.str "zed",V.str (Txt.mul "e" 40)])) l6 (.lst ([V.str "a",V.str "b",V.str "cat",V.str "catalogue"]++[V.str "zed",V.str (Txt.mul "e" 40)]))) nm M xs ds at li6;generalize upd (upd H' l2 (.lst [V.str "zed",V.str (Txt.mul "e" 40)])) l6 (.lst ([V.str "a",V.str "b",V.str "cat",V.str "catalogue"]++[V.str "zed",V.str (Txt.mul "e" 40)]))=H6 at li6;refine⟨_,rfl,_,_,rfl,rfl,⟨by decide,by decide⟩,_,rfl,_,_,rfl,rfl,_,_,rfl,rfl,(by show(0:Int)<8;decide),?_⟩;dsimp only[Dj];refine OI (fun σ H7=>∃pl:Int,σ=[some (.ref a),some (.ref nm),some (.ref M),some (.int (0+(i:Int))),some (.int (c/16)),some (.int ((c+5*(0+(i:Int)))%16)),some (.str n0),some (.int near),some (.str o0),some (.int pl),v10,v11,v12,v13]/\LI H H7 nm M xs ds) ?_ ?_
   ·rintro σ H7 ⟨pl,rfl,li⟩;have fin:∀(d:A8)(dds:List Dt)(es:List V)(tp:Addr)(H9:Hp)(w3 w4 w5 w6 w7 w8 w9 w10 w11 w12 w13:Option V),LI H H9 nm M xs ds->H9 tp=none->d.dt=.tup dds->Am (Ex H9 M) dds es->d.Good->
     ∃(xs':List V)(ds':List A8)(v3 v4 v5 v6 v7 v8 v9 v10 v11 v12 v13:Option V),([some (.ref a),some (.ref nm),some (.ref M),w3,w4,w5,w6,w7,w8,w9,w10,w11,w12,w13]:St)=[some (.ref a),some (.ref nm),some (.ref M),v3,v4,v5,v6,v7,v8,v9,v10,v11,v12,v13]/\
      LI H (upd (upd H9 tp (.tup es)) M (.lst (xs++[V.ref tp]))) nm M xs' ds'/\xs'.length=i+1/\ds'.length=i+1:=by
     intro d dds es tp H9 w3 w4 w5 w6 w7 w8 w9 w10 w11 w12 w13 l9 htp ed rp gd;have ntM:tp≠M:=(A2 l9.DR htp).symm;have lt:=l9.new (o:=.tup es) htp;refine⟨_,_,_,_,_,_,_,_,_,_,_,_,_,rfl,lt.push (d:=d) ?_ gd,by rw[BC,hxl];rfl,by rw[BC,hdl];rfl⟩;rw[ed];exact Rep.LR (Ex.at AR ntM) (rp.same (Ex.mono (Ak htp)))
    have hxs:xs.length<sizeLine:=by rw[hxl,BA];lia
    obtain⟨ch,_,ech⟩:=Ei S5.cps.toList 26 gj (by decide) (c/16);refine⟨_,rfl,_,_,rfl,rfl,(by show(0:Int)<26;decide),S5,_,ch,rfl,rfl,by ac_rfl,ech,_,_,rfl,rfl,by show 1+1<=sizeLine;decide,?_⟩;have lodd:(("p" :Str)++(⟨#[ch]⟩:Str)).length<=40:=by rw[E8];show 1+1<=40;decide
    have hat2:∀(b:Bool)(x y:Str),x.length<=40->y.length<=40->∃z:Str,z.length<=40/\F1 [V.str x,V.str y] (if b=true then 1 else 0)=some (V.str z):=fun b x y hx hy=>by
     cases b with
     |false=>exact⟨x,hx,rfl⟩
     |true=>exact⟨y,hy,rfl⟩
    obtain⟨n1,ln1,en1⟩:=hat2 (decide (V.int (c%23)=V.int 7)) n0 _ ln0 lodd;obtain⟨o1,lo1,eo1⟩:=hat2 (decide (V.int (c%23)=V.int 8)) o0 _ lo0 lodd;refine⟨_,rfl,_,rfl,by show 2<=sizeLine;decide,fun l8 hl8=>⟨_,rfl,_,rfl,a,_,_,.int c,rfl,rfl,hSi (li.new hl8),hat,_,_,rfl,rfl,(by show(0:Int)<23;decide),rfl,.inr ⟨_,rfl,l8,_,_,.str n1,rfl,rfl,AN.of AR,en1,?_⟩⟩⟩;have li8:=li.new (o:=.lst [V.str n0,V.str (("p" :Str)++(⟨#[ch]⟩:Str))]) hl8;refine⟨_,rfl,_,rfl,by show 2<=sizeLine;decide,fun l9 hl9=>⟨_,rfl,_,rfl,a,_,_,.int c,rfl,rfl,hSi (li8.new hl9),hat,_,_,rfl,rfl,(by show(0:Int)<23;decide),rfl,.inr ⟨_,rfl,l9,_,_,.str o1,rfl,rfl,AN.of AR,eo1,?_⟩⟩⟩;have li9:=li8.new (o:=.lst [V.str o0,V.str (("p" :Str)++(⟨#[ch]⟩:Str))]) hl9;dsimp only[Dj];refine OI (fun σ H7=>∃o2:Str,o2.length<=40/\σ=[some (.ref a),some (.ref nm),some (.ref M),some (.int (0+(i:Int))),some (.int (c/16)),some (.int ((c+5*(0+(i:Int)))%16)),some (.str n1),some (.int near),some (.str o2),some (.int pl),some (.str (("p" :Str)++(⟨#[ch]⟩:Str))),v11,v12,v13]/\LI H H7 nm M xs ds) ?_ ?_
    ·rintro σ HA ⟨o2,F4,rfl,li⟩;refine⟨_,rfl,_,_,rfl,rfl,_,rfl,FH (fun _=>?_) (fun _=>?_)⟩
     ·
      refine OI (fun σ H7=>∃n2:Str,n2.length<=40/\σ=[some (.ref a),some (.ref nm),some (.ref M),some (.int (0+(i:Int))),some (.int (c/16)),some (.int ((c+5*(0+(i:Int)))%16)),some (.str n2),some (.int near),some (.str o2),some (.int pl),some (.str (("p" :Str)++(⟨#[ch]⟩:Str))),v11,v12,v13]/\H7=HA) ?_ ?_
      ·rintro σ H7 ⟨n2,ln2,rfl,rfl⟩;refine⟨_,rfl,.inl ⟨rfl,_,AN.of li.DR⟩,_,rfl,_,rfl,_,rfl,a,_,_,.int c,rfl,rfl,hSi li,hat,_,rfl,c,_,rfl,fun t H9 lt s9=>⟨by show 3<=sizeLine;decide,fun tp htp=>⟨M,xs,.ref tp,rfl,rfl,((li.ext s9).new htp).DR,hxs,?_⟩⟩⟩;exact fin (.write n2 t) _ _ tp H9 _ _ _ _ _ _ _ _ _ _ _ (li.ext s9) htp rfl (Am.snoc (Am.snoc (Am.snoc Am.nil (.str _)) (.str _)) (.str _)) ⟨ln2,lt⟩
      ·intro hG;refine⟨_,rfl,_,rfl,a,_,_,.int c,rfl,rfl,hSi li,hat,_,_,rfl,rfl,(by show(0:Int)<29;decide),rfl,_,rfl,FH (fun _=>?_) (fun _=>?_)⟩
       ·exact⟨_,rfl,hG _ _ ⟨o2,F4,rfl,rfl⟩⟩
       ·exact hG _ _ ⟨n1,ln1,rfl,rfl⟩
     refine⟨_,rfl,_,_,rfl,rfl,_,rfl,FH (fun _=>?_) (fun _=>?_)⟩
     ·exact⟨_,rfl,.inl ⟨rfl,_,AN.of li.DR⟩,_,rfl,_,rfl,by show 3<=sizeLine;decide,fun tp htp=>⟨M,xs,.ref tp,rfl,rfl,(li.new htp).DR,hxs,fin (.rename n1 o2) _ _ tp HA _ _ _ _ _ _ _ _ _ _ _ li htp rfl (Am.snoc (Am.snoc (Am.snoc Am.nil (.str _)) (.str _)) (.str _)) ⟨ln1,F4⟩⟩⟩
     refine⟨_,rfl,_,_,rfl,rfl,_,rfl,FH (fun _=>?_) (fun _=>?_)⟩
     ·exact⟨_,rfl,.inl ⟨rfl,_,AN.of li.DR⟩,_,rfl,_,rfl,by show 3<=sizeLine;decide,fun tp htp=>⟨M,xs,.ref tp,rfl,rfl,(li.new htp).DR,hxs,fin (.join n1 o2) _ _ tp HA _ _ _ _ _ _ _ _ _ _ _ li htp rfl (Am.snoc (Am.snoc (Am.snoc Am.nil (.str _)) (.str _)) (.str _)) ⟨ln1,F4⟩⟩⟩
     refine⟨_,rfl,_,_,rfl,rfl,_,rfl,FH (fun _=>?_) (fun _=>?_)⟩
     ·exact⟨_,rfl,.inl ⟨rfl,_,AN.of li.DR⟩,_,rfl,_,rfl,_,rfl,by show 4<=sizeLine;decide,fun tp htp=>⟨M,xs,.ref tp,rfl,rfl,(li.new htp).DR,hxs,fin (.cut n1 pl o2) _ _ tp HA _ _ _ _ _ _ _ _ _ _ _ li htp rfl (Am.snoc (Am.snoc (Am.snoc (Am.snoc Am.nil (.str _)) (.str _)) (.int _)) (.str _)) ⟨ln1,F4⟩⟩⟩
     refine⟨_,rfl,rfl,_,rfl,FH (fun _=>?_) (fun _=>?_)⟩
     ·exact⟨_,rfl,.inl ⟨rfl,_,AN.of li.DR⟩,_,rfl,by show 2<=sizeLine;decide,fun tp htp=>⟨M,xs,.ref tp,rfl,rfl,(li.new htp).DR,hxs,fin (.drop n1) _ _ tp HA _ _ _ _ _ _ _ _ _ _ _ li htp rfl (Am.snoc (Am.snoc Am.nil (.str _)) (.str _)) ln1⟩⟩
     refine⟨_,rfl,rfl,_,rfl,FH (fun _=>?_) (fun _=>?_)⟩
     ·exact⟨_,rfl,.inl ⟨rfl,_,AN.of li.DR⟩,_,rfl,by show 2<=sizeLine;decide,fun tp htp=>⟨M,xs,.ref tp,rfl,rfl,(li.new htp).DR,hxs,fin (.text n1) _ _ tp HA _ _ _ _ _ _ _ _ _ _ _ li htp rfl (Am.snoc (Am.snoc Am.nil (.str _)) (.str _)) ln1⟩⟩
     refine⟨_,rfl,rfl,_,rfl,FH (fun _=>?_) (fun _=>?_)⟩
     ·exact⟨_,rfl,.inl ⟨rfl,_,AN.of li.DR⟩,_,rfl,by show 2<=sizeLine;decide,fun tp htp=>⟨M,xs,.ref tp,rfl,rfl,(li.new htp).DR,hxs,fin (.back o2) _ _ tp HA _ _ _ _ _ _ _ _ _ _ _ li htp rfl (Am.snoc (Am.snoc Am.nil (.str _)) (.str _)) F4⟩⟩
     have hm7:0<=c/16%7/\c/16%7<7:=⟨Qd _ (by decide),QH _ (by decide)⟩;have hm4:0<=(near+(0+(i:Int)))%4/\(near+(0+(i:Int)))%4<4:=⟨Qd _ (by decide),QH _ (by decide)⟩;refine⟨_,rfl,_,_,rfl,rfl,(by show(0:Int)<7;decide),_,rfl,_,rfl,_,_,rfl,rfl,_,_,rfl,rfl,(by show(0:Int)<4;decide),_,_,rfl,rfl,?_⟩;refine⟨rfl,fun p HB sB hpB=>⟨_,rfl,_,_,rfl,rfl,(by show(0:Int)<7;decide),_,rfl,_,rfl,_,rfl,p,_,rfl,AY.of hpB,?_,fun t ht=>?_⟩⟩
     ·rintro⟨h1,h2⟩;have h1':(if c/16%7<0 then(c/16%7+((9:Nat):Int)).toNat else min (c/16%7).toNat 9)=0:=h1;have h2':(if c/16%7+(near+(0+(i:Int)))%4<0 then(c/16%7+(near+(0+(i:Int)))%4+((9:Nat):Int)).toNat else min (c/16%7+(near+(0+(i:Int)))%4).toNat 9)=9:=h2;rw[AG (by lia)] at h1' h2'
      lia
     obtain⟨ws,ews,lws,mws⟩:=fK sought (some (c/16%7)) (some (c/16%7+(near+(0+(i:Int)))%4));have liB:=(li.ext sB).new (o:=.tup (EA (sought.map V.str) (some (c/16%7)) (some (c/16%7+(near+(0+(i:Int)))%4)))) ht;have hMB:=(li.ext sB).DR;have ntM:t≠M:=(A2 hMB ht).symm;have htB:(upd HB t (.tup (EA (sought.map V.str) (some (c/16%7)) (some (c/16%7+(near+(0+(i:Int)))%4))))) t=some (.tup (ws.map V.str)):=by rw[AR,ews]
     refine⟨_,rfl,_,_,rfl,rfl,⟨by decide,by decide⟩,_,rfl,_,_,rfl,rfl,_,_,rfl,rfl,(by show(0:Int)<6;decide),_,rfl,_,_,rfl,rfl,⟨by decide,by decide,by ac_rfl⟩,_,rfl,_,_,rfl,rfl,(by show(0:Int)<40;decide),by show 4<=sizeLine;decide,fun fl hfl=>?_⟩;obtain⟨z,ez⟩:=hcell (0+(i:Int)+2);obtain⟨vf,hvf,ef⟩:=Ei [V.int ((near/4+(0+(i:Int)))%6),V.int (-1),V.int (10^Int.toNat 9),V.int (near%40)] 4 rfl (by decide) z;have hfar:∃far:Int,vf=.int far:=by simp only[Bk,JB,JM] at hvf;rcases hvf with e|e|e|e<;>exact⟨_,e⟩
     obtain⟨far,rfl⟩:=hfar;have liC:=liB.new (o:=.lst [V.int ((near/4+(0+(i:Int)))%6),V.int (-1),V.int (10^Int.toNat 9),V.int (near%40)]) hfl;refine⟨_,rfl,_,rfl,_,rfl,_,_,rfl,rfl,_,rfl,a,_,rfl,.inl (hSi liC),_,_,rfl,rfl,hpos,a,_,_,.int z,rfl,rfl,hSi liC,ez,_,_,rfl,rfl,(by show(0:Int)<4;decide),fl,_,_,.int far,rfl,rfl,AN.of AR,ef,?_⟩;refine⟨_,rfl,.inl ⟨rfl,_,AN.of liC.DR⟩,_,rfl,_,rfl,by show 3<=sizeLine;decide,fun tp htp=>⟨M,xs,.ref tp,rfl,rfl,(liC.new htp).DR,hxs,?_⟩⟩;exact fin (.find ws far) _ _ tp _ _ _ _ _ _ _ _ _ _ _ _ liC htp rfl (Am.snoc (Am.snoc (Am.snoc Am.nil (.str _)) (Rep.LR (Ex.at ((Ak hfl) _ _ htB) ntM) (V4 ws))) (.int _)) ⟨lws,fun z hz=>Z5 z (mws z hz)⟩
    ·intro hG;refine⟨_,rfl,_,rfl,a,_,_,.int c,rfl,rfl,hSi li9,hat,_,_,rfl,rfl,(by show(0:Int)<29;decide),rfl,_,rfl,FH (fun _=>?_) (fun _=>?_)⟩
     ·obtain⟨vx,hvx,ex⟩:=Ei [V.str "",V.str "A",V.str "a1",V.str "[a]"] 4 rfl (by decide) (c/16);have hx:∃o2:Str,vx=.str o2/\o2.length<=40:=by simp only[Bk,JB,JM] at hvx;rcases hvx with e|e|e|e<;>exact⟨_,e,by ac_rfl⟩
      obtain⟨o2,rfl,F4⟩:=hx;exact⟨by show 4<=sizeLine;decide,fun lx hlx=>⟨_,rfl,_,_,rfl,rfl,(by show(0:Int)<4;decide),lx,_,_,.str o2,rfl,rfl,AN.of AR,ex,hG _ _ ⟨o2,F4,rfl,li9.new hlx⟩⟩⟩
     ·exact hG _ _ ⟨o1,lo1,rfl,li9⟩
   ·intro hG;refine⟨_,rfl,_,rfl,a,_,_,.int c,rfl,rfl,hSi li6,hat,_,_,rfl,rfl,(by show(0:Int)<31;decide),rfl,_,rfl,FH (fun _=>?_) (fun _=>?_)⟩
    ·refine⟨_,rfl,_,_,rfl,rfl,⟨by decide,by decide,by ac_rfl⟩,_,rfl,_,rfl,_,_,rfl,rfl,⟨by decide,by decide,by ac_rfl⟩,_,_,rfl,rfl,(by show(0:Int)<10^Int.toNat 60;decide+kernel),_,_,rfl,rfl,_,rfl,_,_,rfl,rfl,(by show(0:Int)<30;decide),by show 4<=sizeLine;decide,fun l hl=>?_⟩;obtain⟨vp,hvp,ep⟩:=Ei [V.int (-1),V.int (10^Int.toNat 9),V.int (-2-c/16%10^Int.toNat 60),V.int (near%30)] 4 rfl (by decide) (c/16);have hpl:∃pl:Int,vp=.int pl:=by simp only[Bk,JB,JM] at hvp;rcases hvp with e|e|e|e<;>exact⟨_,e⟩
     obtain⟨pl,rfl⟩:=hpl;exact⟨_,rfl,_,_,rfl,rfl,(by show(0:Int)<4;decide),l,_,_,.int pl,rfl,rfl,AN.of AR,ep,hG _ _ ⟨pl,rfl,li6.new hl⟩⟩
    ·exact hG _ _ ⟨_,rfl,li6⟩
  ·rintro σ H' ⟨xs,ds,v3,v4,v5,v6,v7,v8,v9,v10,v11,v12,v13,rfl,li,hxl,hdl⟩;exact⟨_,rfl,q M ds xs H' li.same hMn li.DR li.rep (by rw[hdl,hnl]) li.good⟩
section
variable[DecidableEq α]{f:α->Key}{g:β->V}(hf:∀a b,f a=f b->a=b)
include hf
noncomputable def AF(l:List (α×β))(k:α):Option β:=(l.find? fun p=>decide (p.1=k)).map (·.2)
noncomputable def AZ(l:List (α×β))(k:α)(v:β):List (α×β):=if(l.any fun p=>decide (p.1=k))=true then l.map (fun p=>if p.1=k then(p.1,v) else p) else l++[(k,v)]
noncomputable def AQ(l:List (α×β))(k:α):List (α×β):=l.filter fun p=>decide (p.1≠k)
noncomputable def Gi(f:α->Key)(g:β->V)(l:List (α×β)):List (Key×V):=l.map fun p=>(f p.1,g p.2)
theorem lA(a b:α):decide (f a=f b)=decide (a=b):=by
 by_cases h:a=b
 ·rw[h];simp
 ·rw[BK h,BK (fun z=>h (hf a b z))]
theorem ER(k:α):∀l:List (α×β),Be (Gi f g l) (f k)=(AF l k).map g
 |[]=>rfl
 |p::l=>by
  show Be ((f p.1,g p.2)::Gi f g l) (f k)=_;by_cases h:p.1=k
  ·rw[Fj (by rw[h])];unfold AF;rw[Cw,Bj h];rfl
  ·rw[Fi (fun z=>h (hf _ _ z)),ER k l];unfold AF;rw[Cw,BK h]
theorem JL(k:α)(v:β)(l:List (α×β)):putK (Gi f g l) (f k) (g v)=Gi f g (AZ l k v):=by
 unfold putK AZ Gi;have e:((l.map fun p=>(f p.1,g p.2)).any fun kv=>decide (kv.1=f k))=l.any fun p=>decide (p.1=k):=by rw[List.any_map];congr 1;funext p;exact lA hf p.1 k
 rw[e];by_cases h:(l.any fun p=>decide (p.1=k))=true
 ·rw[AH h,AH h,Bh,Bh];refine Fc fun p _=>?_;show(if f p.1=f k then(f p.1,g v) else(f p.1,g p.2))=(f (if p.1=k then(p.1,v) else p).1,g (if p.1=k then(p.1,v) else p).2);by_cases hp:p.1=k
  ·rw[AH (by rw[hp]),AH hp]
  ·rw[AG (fun z=>hp (hf _ _ z)),AG hp]
 ·rw[AG h,AG h,BX];rfl
theorem KZ(k:α)(l:List (α×β)):Ie (Gi f g l) (f k)=Gi f g (AQ l k):=by
 unfold Ie AQ Gi;rw[List.filter_map];congr 1;refine List.filter_congr fun p _=>?_;show decide (f p.1≠f k)=decide (p.1≠k);by_cases h:p.1=k
 ·rw[h];simp
 ·have h2:f p.1≠f k:=fun z=>h (hf _ _ z);rw[Bj h2,Bj (show p.1≠k from h)]
end
theorem Ej:∀a b:Int,(Sum.inl a:Key)=Sum.inl b->a=b:=fun _ _ h=>Sum.inl.inj h
theorem E7:∀a b:Str,(Sum.inr a:Key)=Sum.inr b->a=b:=fun _ _ h=>Sum.inr.inj h
structure Wd where
 to:Bool
 nm:Str
 no:Int
noncomputable def Wd.vq(w:Wd):List V:=[.str (if w.to then "to" else "word"),.str w.nm,.int w.no]
structure Nk where
 names:List (Str×Int)
 texts:List (Int×List Wd)
 made:Int
abbrev FU(l:List (Str×Int)):List (Key×V):=Gi Sum.inr V.int l
abbrev CK(l:List (Int×Addr×List Addr)):List (Key×V):=Gi Sum.inl (fun p:Addr×List Addr=>V.ref p.1) l
noncomputable def Ew(an at_:Addr)(made:Int):List (Key×V):=[(.inr "names",.ref an),(.inr "texts",.ref at_),(.inr "made",.int made)]
def PL(H:Hp)(t:Int×Addr×List Addr)(p:Int×List Wd):Prop:=t.1=p.1/\H t.2.1=some (.lst (t.2.2.map V.ref))/\t.2.2.length=p.2.length/\∀(j:Nat) w wd,t.2.2[j]? =some w->p.2[j]? =some wd->H w=some (.lst wd.vq)
structure nN(a b c:Addr):Prop where
 xy:a≠b
 xz:a≠c
 yz:b≠c
structure Cp(H0 H:Hp)(a an at_:Addr)(tx:List (Int×Addr×List Addr))(n:Nk):Prop where
 same:AS H0 H
 ha:H a=some (.dK (Ew an at_ n.made))
 hn:H an=some (.dK (FU n.names))
 ht:H at_=some (.dK (CK tx))
 len:tx.length=n.texts.length
 DG:∀(i:Nat) t p,tx[i]? =some t->n.texts[i]? =some p->PL H t p
 fa:H0 a=none
 fn:H0 an=none
 ft:H0 at_=none
 fw:∀t∈tx,∀w∈t.2.2,H0 w=none
 ap:nN a an at_
def CZ(H0 H:Hp)(a:Addr)(n:Nk):Prop:=∃an at_ tx,Cp H0 H a an at_ tx n
structure Fits(n:Nk):Prop where
 CQ:(n.names.map (·.1)).Nodup
 Cb:(n.texts.map (·.1)).Nodup
 names:n.names.length<=1000
 texts:n.texts.length<=1000
 words:∀p∈n.texts,p.2.length<=100000
noncomputable def Nk.Hu(n:Nk)(g:Wd->Wd):Nk:={n with texts:=n.texts.map fun p=>(p.1,p.2.map g)}
variable{H0:Hp}{an at_:Addr}{n:Nk}
theorem Cp.ext{tx:List (Int×Addr×List Addr)}(h:Cp H0 H a an at_ tx n)(s:AS H H'):Cp H0 H' a an at_ tx n:=
 ⟨h.same.trans s,s _ _ h.ha,s _ _ h.hn,s _ _ h.ht,h.len,fun i t p h1 h2=>let⟨q1,q2,q3,q4⟩:=h.DG i t p h1 h2;⟨q1,s _ _ q2,q3,fun j w wd e1 e2=>s _ _ (q4 j w wd e1 e2)⟩,h.fa,h.fn,h.ft,h.fw,h.ap⟩
theorem Cp.keys{tx:List (Int×Addr×List Addr)}(h:Cp H0 H a an at_ tx n):tx.map (·.1)=n.texts.map (·.1):=by
 apply JA;intro i;rw[Az,Az]
 cases e1:tx[i]?with
 |none=>rw[EL (by rw[<-h.len];exact NM.mp e1)];rfl
 |some t=>
  have hi:i<n.texts.length:=by rw[<-h.len];exact(BW.mp e1).1
  rw[Ar hi];exact BZ some (h.DG i t _ e1 (Ar hi)).1
variable{m:Int}
theorem ME:Be (Ew an at_ m) (.inr "texts")=some (.ref at_):=rfl
theorem eW:Be (Ew an at_ m) (.inr "names")=some (.ref an):=rfl
theorem iH:Be (Ew an at_ m) (.inr "made")=some (.int m):=rfl
theorem jV{k:Int}:putK (Ew an at_ m) (.inr "made") (.int k)=Ew an at_ k:=rfl
structure ZH(a at_ L:Addr)(A:List (Key×V))(tx:List (Int×Addr×List Addr))(H:Hp):Prop where
 ha:H a=some (.dK A)
 hA:Be A (.inr "texts")=some (.ref at_)
 ht:H at_=some (.dK (CK tx))
 hL:H L=some (.lst (tx.map fun t=>V.int t.1))
 hl:∀t∈tx,H t.2.1=some (.lst (t.2.2.map V.ref))
 nd:(tx.map (·.1)).Nodup
theorem IU{α β:Type}[DecidableEq α]:∀{l:List (α×β)}{i:Nat}{p:α×β},(l.map (·.1)).Nodup->l[i]? =some p->AF l p.1=some p.2
 |[],i,p,_,h=>by simp at h
 |q::l,0,p,_,h=>by
  have e:q=p:=by simpa using h
  subst e;unfold AF;rw[Cw,Bj rfl];rfl
 |q::l,i+1,p,nd,h=>by
  have h':l[i]? =some p:=by simpa using h
  have nd':=IG.mp nd;have hne:¬q.1=p.1:=fun z=>nd'.1 (by have:q.1=p.1:=z;show q.1∈l.map (·.1);rw[this];exact BY.mpr ⟨p,CL h',rfl⟩);have:=IU nd'.2 h';unfold AF at this⊢;rw[Cw,BK hne];exact this
theorem Ui{D:Ends}{A:List (Key×V)}{tx:List (Int×Addr×List Addr)}
 (Iv:Addr->Nat->Nat->St->Hp->Prop)(s0:σ[0]? =some (some (.ref a)))
 (ha:H a=some (.dK A))(hA:Be A (.inr "texts")=some (.ref at_))(ht:H at_=some (.dK (CK tx)))
 (h0:∀L,H L=none->Iv L 0 0 σ (upd H L (.lst (tx.map fun t=>V.int t.1))))
 (hw:∀L p q σ H,Iv L p q σ H->ZH a at_ L A tx H/\σ[0]? =some (some (.ref a))/\i<σ.length)(hi:0<i)
 (st:∀L p t q w σ H (D':Ends),tx[p]? =some t->t.2.2[q]? =some w->Iv L p q σ H->(∀σ' H',Iv L p (q+1) σ' H'->D'.nx σ' H')->tb D' (σ.set j (some (.ref w))) H)
 (set:∀L p t σ H,tx[p]? =some t->Iv L p 0 σ H->Iv L p 0 (σ.set i (some (.int t.1))) H)
 (nxt:∀L p t σ H,tx[p]? =some t->Iv L p t.2.2.length σ H->Iv L (p+1) 0 σ H)(hd:∀L σ H,Iv L tx.length 0 σ H->D.nx σ H):
 Mq (Jd [] (Py Rn (Mp (JY (D9 0) (tC (.str "texts"))) Jt))) (Dj i) (Mq (Jd [] (JY (JY (D9 0) (tC (.str "texts"))) (D9 i))) (Dj j) tb) D σ H:=by
 have gt:∀{H:Hp},H a=some (.dK A)->BN H a (.str "texts") (some (.ref at_)):=fun h=>by have:=BN.kq (k:=.inr "texts") h;rw[hA] at this;exact this
 refine⟨_,s0,a,_,rfl,gt ha,at_,_,rfl,ht,fun L hL=>?_⟩;have ek:((CK tx).map fun kv=>kV kv.1)=tx.map fun t=>V.int t.1:=by show(tx.map _).map _=_;rw[Bh];rfl
 rw[ek];refine⟨L,rfl,⟨_,AN.of AR⟩,?_⟩;refine JK (K:=[]) (a:=L) (xs:=tx.map fun t=>V.int t.1) (fun p σ H=>Iv L p 0 σ H) (h0 L hL) (fun p σ H _ iv=>AN.of (hw _ _ _ _ _ iv).1.hL) ?_ (fun σ H iv=>hd L σ H (by rw[AL] at iv;exact iv));intro p x σ1 H1 hx iv;rw[Az] at hx
 cases et:tx[p]?with
 |none=>rw[et] at hx;cases hx
 |some t=>
 rw[et] at hx;obtain rfl:V.int t.1=x:=Ah hx;obtain⟨wk,z0,zi⟩:=hw _ _ _ _ _ iv;have iv2:=set _ _ _ _ _ et iv;obtain⟨wk2,z02,zi2⟩:=hw _ _ _ _ _ iv2;have gv:BN H1 at_ (.int t.1) (some (.ref t.2.1)):=by have:=BN.kq (k:=.inl t.1) wk.ht;rw[ER Ej,IU wk.nd et] at this;exact this
 refine⟨_,z02,a,_,rfl,gt wk.ha,_,by rw[NP zi],at_,_,rfl,gv,t.2.1,rfl,⟨_,AN.of (wk.hl t (CL et))⟩,?_⟩;refine JK (K:=[]) (a:=t.2.1) (xs:=t.2.2.map V.ref) (fun q σ H=>Iv L p q σ H) iv2 (fun q σ H _ iv=>AN.of ((hw _ _ _ _ _ iv).1.hl t (CL et))) ?_ (fun σ H iv=>nxt _ _ _ _ _ et (by rw[AL] at iv;exact iv));intro q x σ2 H2 hx iv3;rw[Az] at hx
 cases ew:t.2.2[q]?with
 |none=>rw[ew] at hx;cases hx
 |some w=>
 rw[ew] at hx;obtain rfl:V.ref w=x:=Ah hx;exact st _ _ _ _ _ _ _ _ et ew iv3 fun σ' H' z=>z
theorem X6{a b:Wd}(h:a.vq=b.vq):a=b:=by
 obtain⟨t1,n1,k1⟩:=a;obtain⟨t2,n2,k2⟩:=b;unfold Wd.vq at h;simp only[List.cons.injEq,V.str.injEq,V.int.injEq,and_true] at h;obtain⟨h1,h2,h3⟩:=h;subst h2 h3;cases t1<;>cases t2
 ·rfl
 ·exact absurd (show("word" :Str)="to" from h1) (by ac_rfl)
 ·exact absurd (show("to" :Str)="word" from h1) (by ac_rfl)
 ·rfl
theorem Ut(as:List Addr)(w:Wd):as.map V.ref≠w.vq:=fun h=>by
 cases as with
 |nil=>cases h
 |cons x xs=>exact absurd (Hf h).1 (by intro z;cases z)
theorem bf(l:List β)(f:β->Int)(w:Wd):(l.map fun t=>V.int (f t))≠w.vq:=fun h=>by
 cases l with
 |nil=>cases h
 |cons x xs=>exact absurd (Hf h).1 (by intro z;cases z)
theorem Xo{o:HO}(h:H a=some o):upd H a o=H:=by
 funext b;unfold upd;by_cases e:b=a
 ·rw[AH e,e,h]
 ·rw[AG e]
structure MI(H0 H:Hp)(a an at_ L:Addr)(tx:List (Int×Addr×List Addr))(n:Nk)(g:Wd->Wd)(p q:Nat)(H':Hp):Prop where
 wk:ZH a at_ L (Ew an at_ n.made) tx H'
 same:AS H0 H'
 hn:H' an=some (.dK (FU n.names))
 c1:∀(i:Nat) t pp (j:Nat) w wd,tx[i]? =some t->n.texts[i]? =some pp->t.2.2[j]? =some w->pp.2[j]? =some wd->H' w=some (.lst wd.vq)\/H' w=some (.lst (g wd).vq)
 c2:∀(i:Nat) t pp (j:Nat) w wd,tx[i]? =some t->n.texts[i]? =some pp->t.2.2[j]? =some w->pp.2[j]? =some wd->(i<p\/(i=p/\j<q))->H' w=some (.lst (g wd).vq)
variable{L:Addr}
theorem MI.set{tx:List (Int×Addr×List Addr)}{g:Wd->Wd}{p q:Nat}{w:Addr}{wd wc:Wd}{t:Int×Addr×List Addr}{pp:Int×List Wd}(idem:∀w,g (g w)=g w)(nk:Cp H0 H a an at_ tx n)
 (m:MI H0 H a an at_ L tx n g p q H')(et:tx[p]? =some t)(ep:n.texts[p]? =some pp)(ew:t.2.2[q]? =some w)(ed:pp.2[q]? =some wd)(hc:H' w=some (.lst wc.vq))(hg:g wc=g wd):MI H0 H a an at_ L tx n g p (q+1) (upd H' w (.lst (g wc).vq)):=by
 have hwn:H0 w=none:=nk.fw t (CL et) w (CL ew);have other:∀b o,H' b=some o->o≠.lst wc.vq->(upd H' w (.lst (g wc).vq)) b=some o:=fun b o h1 h2=>by rw[AO (CT h1 hc h2)];exact h1
 have hw0:H w=some (.lst wd.vq):=(nk.DG p t pp et ep).2.2.2 q w wd ew ed;refine⟨⟨other _ _ m.wk.ha (by intro z;cases z),m.wk.hA,other _ _ m.wk.ht (by intro z;cases z),other _ _ m.wk.hL (by intro z;exact bf tx (·.1) wc (HO.lst.inj z)),fun t' ht'=>other _ _ (m.wk.hl t' ht') (by intro z;exact Ut _ wc (HO.lst.inj z)),m.wk.nd⟩,
  m.same.upd hwn,other _ _ m.hn (by intro z;cases z),fun i t' pp' j w' wd' e1 e2 e3 e4=>?_,fun i t' pp' j w' wd' e1 e2 e3 e4 hlt=>?_⟩
 ·by_cases hww:w'=w
  ·subst hww;have hw1:H w'=some (.lst wd'.vq):=(nk.DG i t' pp' e1 e2).2.2.2 j w' wd' e3 e4;rw[hw0] at hw1;have:wd=wd':=X6 (HO.lst.inj (Ah hw1));subst this;exact .inr (by rw[AR,hg])
  ·rw[AO hww];exact m.c1 i t' pp' j w' wd' e1 e2 e3 e4
 ·by_cases hww:w'=w
  ·subst hww;have hw1:H w'=some (.lst wd'.vq):=(nk.DG i t' pp' e1 e2).2.2.2 j w' wd' e3 e4;rw[hw0] at hw1;have:wd=wd':=X6 (HO.lst.inj (Ah hw1));subst this;rw[AR,hg]
  ·rw[AO hww];rcases hlt with h|⟨h1,h2⟩
   ·exact m.c2 i t' pp' j w' wd' e1 e2 e3 e4 (.inl h)
   ·by_cases hj:j<q
    ·exact m.c2 i t' pp' j w' wd' e1 e2 e3 e4 (.inr ⟨h1,hj⟩)
    ·have hjq:j=q:=by lia
     subst h1 hjq;rw[et] at e1;cases Ah e1;rw[ew] at e3;exact absurd (Ah e3).symm hww
theorem Vz{D:Ends}{tx:List (Int×Addr×List Addr)}(S:St->Prop)(g:Wd->Wd)(idem:∀w,g (g w)=g w)
 (hS:S σ)(S0:∀σ,S σ->σ[0]? =some (some (.ref a))/\i<σ.length)(Si:∀σ v,S σ->S (σ.set i v))(Sj:∀σ v,S σ->S (σ.set j v))(hi:0<i)(nk:Cp H0 H a an at_ tx n)(Cb:(n.texts.map (·.1)).Nodup)
 (bd:∀σ H' (D':Ends) w wd,S σ->H' w=some (.lst wd.vq)->D'.nx (σ.set j (some (.ref w))) (upd H' w (.lst (g wd).vq))->tb D' (σ.set j (some (.ref w))) H')
 (hd:∀σ H',S σ->Cp H0 H' a an at_ tx (n.Hu g)->D.nx σ H'):
 Mq (Jd [] (Py Rn (Mp (JY (D9 0) (tC (.str "texts"))) Jt))) (Dj i) (Mq (Jd [] (JY (JY (D9 0) (tC (.str "texts"))) (D9 i))) (Dj j) tb) D σ H:=by
 have at_p:∀{p t},tx[p]? =some t->∃pp,n.texts[p]? =some pp:=fun{p t} e=>by
  have hp:p<n.texts.length:=by rw[<-nk.len];exact(BW.mp e).1
  exact⟨_,Ar hp⟩
 refine Ui (a:=a) (at_:=at_) (A:=Ew an at_ n.made) (tx:=tx) (fun L p q σ H'=>S σ/\MI H0 H a an at_ L tx n g p q H') (S0 σ hS).1 nk.ha ME nk.ht (fun L hL=>⟨hS,?_⟩) (fun L p q σ H' h=>⟨h.2.wk,S0 σ h.1⟩) hi
  (fun L p t q w σ H' D' et ew h kn=>?_) (fun L p t σ H' et h=>⟨Si _ _ h.1,h.2⟩) (fun L p t σ H' et h=>⟨h.1,h.2.wk,h.2.same,h.2.hn,h.2.c1,fun i t' pp' j w' wd' e1 e2 e3 e4 hlt=>?_⟩) (fun L σ H' h=>hd σ H' h.1 ?_)
 ·have s:AS H (upd H L (.lst (tx.map fun t=>V.int t.1))):=Ak hL;have nk2:=nk.ext s;refine⟨⟨nk2.ha,ME,nk2.ht,AR,fun t ht=>?_,by rw[nk.keys];exact Cb⟩,nk2.same,nk2.hn,fun i t pp j w wd e1 e2 e3 e4=>.inl ((nk2.DG i t pp e1 e2).2.2.2 j w wd e3 e4),fun i t pp j w wd e1 e2 e3 e4 hlt=>by lia⟩;obtain⟨i,hi',e⟩:=HZ.mp ht;have e1:tx[i]? =some t:=by rw[Ar hi',e]
  obtain⟨pp,ep⟩:=at_p e1;exact(nk2.DG i t pp e1 ep).2.1
 ·obtain⟨pp,ep⟩:=at_p et;have hq:q<pp.2.length:=by rw[<-(nk.DG p t pp et ep).2.2.1];exact(BW.mp ew).1
  have ed:pp.2[q]? =some pp.2[q]:=Ar hq;rcases h.2.c1 p t pp q w _ et ep ew ed with hc|hc
  ·exact bd σ H' D' w _ h.1 hc (kn _ _ ⟨Sj _ _ h.1,h.2.set idem nk et ep ew ed hc rfl⟩)
  ·exact bd σ H' D' w _ h.1 hc (kn _ _ ⟨Sj _ _ h.1,h.2.set idem nk et ep ew ed hc (idem _)⟩)
 ·rcases hlt with hlt|⟨_,hlt⟩
  ·by_cases hip:i=p
   ·subst hip;rw[et] at e1;cases Ah e1;exact h.2.c2 i t pp' j w' wd' et e2 e3 e4 (.inr ⟨rfl,(BW.mp e3).1⟩)
   ·exact h.2.c2 i t' pp' j w' wd' e1 e2 e3 e4 (.inl (by lia))
  ·lia
 ·have m:=h.2;refine⟨m.same,m.wk.ha,m.hn,m.wk.ht,by show _=(n.texts.map _).length;rw[AL];exact nk.len,fun i t p' e1 e2=>?_,nk.fa,nk.fn,nk.ft,nk.fw,nk.ap⟩;have e2':(n.texts.map fun p=>(p.1,p.2.map g))[i]? =some p':=e2;rw[Az] at e2';obtain⟨pp,ep⟩:=at_p e1;rw[ep] at e2';cases Ah e2';obtain⟨q1,q2,q3,q4⟩:=nk.DG i t pp e1 ep;refine⟨q1,m.wk.hl t (CL e1),by show _=(pp.2.map g).length;rw[AL];exact q3,fun j w wd e3 e4=>?_⟩;have e4':(pp.2.map g)[j]? =some wd:=e4;rw[Az] at e4'
  cases e5:pp.2[j]?with
  |none=>rw[e5] at e4';cases e4'
  |some wo=>
  rw[e5] at e4';cases Ah e4';exact m.c2 i t pp j w wo e1 ep e3 e5 (.inl (BW.mp e1).1)
noncomputable def CH(name:Str)(no:Int)(w:Wd):Wd:=if w.to=true/\w.no= -1/\w.nm=name then{w with no:=no} else w
noncomputable def CJ(no:Int)(name:Str)(other:Int)(w:Wd):Wd:=if w.to=true/\w.no=no then{w with nm:=name,no:=other} else w
theorem aS(name:Str)(no:Int)(w:Wd):CH name no (CH name no w)=CH name no w:=by
 unfold CH;by_cases h:w.to=true/\w.no= -1/\w.nm=name
 ·rw[AH h];by_cases h2:w.to=true/\no= -1/\w.nm=name
  ·rw[AH h2]
  ·rw[AG h2]
 ·rw[AG h,AG h]
theorem aL(no:Int)(name:Str)(other:Int)(w:Wd):CJ no name other (CJ no name other w)=CJ no name other w:=by
 unfold CJ;by_cases h:w.to=true/\w.no=no
 ·rw[AH h];by_cases h2:w.to=true/\other=no
  ·rw[AH h2]
  ·rw[AG h2]
 ·rw[AG h,AG h]
def Nk.named(n:Nk)(name:Str)(no:Int):Nk:=({n with names:=AZ n.names name no}:Nk).Hu (CH name no)
def Nk.turned(n:Nk)(no:Int)(name:Str)(other:Int):Nk:=n.Hu (CJ no name other)
noncomputable def Nk.flat(n:Nk):List Wd:=n.texts.flatMap (·.2)
noncomputable def GY(no:Int)(w:Wd):Bool:=w.to&&decide (w.no=no)
def Nk.led(n:Nk)(no:Int):Nat:=n.flat.countP (GY no)
theorem Cp.tab{tx:List (Int×Addr×List Addr)}{o:HO}(h:Cp H0 H a an at_ tx n)(hb:H b=some (.dK AA)):∀(i:Nat) t p,tx[i]? =some t->n.texts[i]? =some p->PL (upd H b o) t p:=fun i t p h1 h2=>by
 obtain⟨q1,q2,q3,q4⟩:=h.DG i t p h1 h2;exact⟨q1,by rw[AO (CT q2 hb (by intro z;cases z))];exact q2,q3,fun j w wd e1 e2=>by have:=q4 j w wd e1 e2;rw[AO (CT this hb (by intro z;cases z))];exact this⟩
theorem Cp.putN{tx:List (Int×Addr×List Addr)}(h:Cp H0 H a an at_ tx n)(nm:List (Str×Int)):Cp H0 (upd H an (.dK (FU nm))) a an at_ tx {n with names:=nm}:=
 ⟨h.same.upd h.fn,by rw[AO h.ap.xy];exact h.ha,AR,by rw[AO h.ap.yz.symm];exact h.ht,h.len,h.tab h.hn,h.fa,h.fn,h.ft,h.fw,h.ap⟩
theorem Cp.nI{tx:List (Int×Addr×List Addr)}(h:Cp H0 H a an at_ tx n)(k:Int):Cp H0 (upd H a (.dK (Ew an at_ k))) a an at_ tx {n with made:=k}:=
 ⟨h.same.upd h.fa,AR,by rw[AO h.ap.xy.symm];exact h.hn,by rw[AO h.ap.xz.symm];exact h.ht,h.len,h.tab h.ha,h.fa,h.fn,h.ft,h.fw,h.ap⟩
theorem any_keys{α γ:Type}[DecidableEq α]{l:List (α×β)}{m:List (α×γ)}(e:l.map (·.1)=m.map (·.1))(k:α):(l.any fun p=>decide (p.1=k))=m.any fun p=>decide (p.1=k):=by
 have h1:(l.any fun p=>decide (p.1=k))=(l.map (·.1)).any fun x=>decide (x=k):=by rw[List.any_map];rfl
 have h2:(m.any fun p=>decide (p.1=k))=(m.map (·.1)).any fun x=>decide (x=k):=by rw[List.any_map];rfl
 rw[h1,h2,e]
theorem Cp.Mv{tx:List (Int×Addr×List Addr)}(h:Cp H0 H a an at_ tx n)(k:Int){l:Addr}{ws:List Addr}{CP:List Wd}(hl:H l=some (.lst (ws.map V.ref)))(el:ws.length=CP.length)
 (hw:∀(j:Nat) w wd,ws[j]? =some w->CP[j]? =some wd->H w=some (.lst wd.vq))(hf:∀w∈ws,H0 w=none):
 Cp H0 (upd H at_ (.dK (CK (AZ tx k (l,ws))))) a an at_ (AZ tx k (l,ws)) {n with texts:=AZ n.texts k CP}:=by
 have new:PL (upd H at_ (.dK (CK (AZ tx k (l,ws))))) (k,l,ws) (k,CP):=⟨rfl,by rw[AO (CT hl h.ht (by intro z;cases z))];exact hl,el,fun j w wd e1 e2=>by have:=hw j w wd e1 e2;rw[AO (CT this h.ht (by intro z;cases z))];exact this⟩;have ek:=any_keys h.keys k;refine⟨h.same.upd h.ft,by rw[AO h.ap.xz];exact h.ha,by rw[AO h.ap.yz];exact h.hn,AR,?_,fun i t p h1 h2=>?_,h.fa,h.fn,h.ft,fun t ht w hw'=>?_,h.ap⟩
 ·unfold AZ;by_cases c:(tx.any fun p=>decide (p.1=k))=true
  ·rw[AH c,AH (by rw[<-ek];exact c),AL,AL];exact h.len
  ·rw[AG c,AG (by rw[<-ek];exact c),BC,BC,h.len];rfl
 ·have h2':(AZ n.texts k CP)[i]? =some p:=h2;unfold AZ at h1 h2';by_cases c:(tx.any fun p=>decide (p.1=k))=true
  ·rw[AH c,Az] at h1;rw[AH (by rw[<-ek];exact c),Az] at h2'
   cases e1:tx[i]?with
   |none=>rw[e1] at h1;cases h1
   |some t0=>
   cases e2:n.texts[i]?with
   |none=>rw[e2] at h2';cases h2'
   |some p0=>
   rw[e1] at h1;rw[e2] at h2';have q:=h.tab (o:=.dK (CK (AZ tx k (l,ws)))) h.ht i t0 p0 e1 e2;have f1:(if t0.1=k then(t0.1,(l,ws)) else t0)=t:=Ah h1;have f2:(if p0.1=k then(p0.1,CP) else p0)=p:=Ah h2';by_cases hk:t0.1=k
   ·rw[AH hk] at f1;rw[AH (by rw[<-q.1];exact hk)] at f2;rw[<-f1,<-f2,hk,<-q.1,hk];exact new
   ·rw[AG hk] at f1;rw[AG (by rw[<-q.1];exact hk)] at f2;rw[<-f1,<-f2];exact q
  ·rw[AG c] at h1;rw[AG (by rw[<-ek];exact c)] at h2';by_cases hi:i<tx.length
   ·rw[C9 hi] at h1;rw[C9 (by rw[<-h.len];exact hi)] at h2';exact h.tab h.ht i t p h1 h2'
   ·have C2:i<(tx++[(k,l,ws)]).length:=(BW.mp h1).1;rw[BC,EK] at C2;obtain rfl:i=tx.length:=by lia
    rw[C4 (Ac _),E3] at h1;rw[C4 (by rw[h.len];exact Ac _),h.len,E3] at h2';rw[<-Ah h1,<-Ah h2'];exact new
 ·unfold AZ at ht;by_cases c:(tx.any fun p=>decide (p.1=k))=true
  ·rw[AH c] at ht;obtain⟨t0,ht0,e⟩:=BY.mp ht;by_cases hk:t0.1=k
   ·rw[AH hk] at e;rw[<-e] at hw';exact hf w hw'
   ·rw[AG hk] at e;rw[<-e] at hw';exact h.fw t0 ht0 w hw'
  ·rw[AG c] at ht;rcases CB.mp ht with z|z
   ·exact h.fw t z w hw'
   ·rw[CA.mp z] at hw';exact hf w hw'
noncomputable def F2:Nk:=⟨[],[],0⟩
def Wo:Sp:=fun vs H Q _=>vs=[]/\∀(a:Addr)(H':Hp),CZ H H' a F2->Q (.ref a) H'
def RP:Sp:=fun vs H Q _=>∃(a:Addr)(name:Str)(no:Int)(H0:Hp)(n:Nk),vs=[.ref a,.str name,.int no]/\CZ H0 H a n/\Fits n/\∀H',CZ H0 H' a (n.named name no)->Q .A3 H'
def RC:Sp:=fun vs H Q _=>∃(a:Addr)(no:Int)(name:Str)(other:Int)(H0:Hp)(n:Nk),vs=[.ref a,.int no,.str name,.int other]/\CZ H0 H a n/\Fits n/\∀H',CZ H0 H' a (n.turned no name other)->Q .A3 H'
def SH:Sp:=fun vs H Q _=>∃(a:Addr)(no:Int)(H0:Hp)(n:Nk),vs=[.ref a,.int no]/\CZ H0 H a n/\Fits n/\∀H',AS H H'->Q (.int (n.led no)) H'
theorem Du(h:H a=some (.dK (Ew an at_ m))):BN H a (.str "names") (some (.ref an)):=by have:=BN.kq (k:=.inr "names") h;rw[eW] at this;exact this
theorem GG(h:H a=some (.dK (Ew an at_ m))):BN H a (.str "texts") (some (.ref at_)):=by have:=BN.kq (k:=.inr "texts") h;rw[ME] at this;exact this
theorem cZ(h:H a=some (.dK (Ew an at_ m))):BN H a (.str "made") (some (.int m)):=by have:=BN.kq (k:=.inr "made") h;rw[iH] at this;exact this
theorem dc{X:Cx}{pos:Pos}{k1 k2 k3 v1 v2 v3:Expr}{trs:List (TE×TE)}(h:NH X pos [some k1,some k2,some k3] [v1,v2,v3] trs):PE X (.Dict [some k1,some k2,some k3] [v1,v2,v3] pos) (YC trs):=@gR X pos [some k1,some k2,some k3] [v1,v2,v3] trs h rfl rfl (List.cons_ne_nil _ _) (by show 3<=15;decide)
theorem fg:A0 [] [] (Ao Ou):=by ac_rfl
theorem dR(F:Ab K "_law_begun" "_law_begun" Ou f fd):AU P w K mg base Aa 1 f fd [] Wo:=by
 refine F.ok fg (fun vs H Q E h=>?_) (fun cdv A outer s H vs Q E hr h=>?_)
 ·obtain⟨rfl,_⟩:=h;rfl
 ·obtain⟨rfl,q⟩:=h;refine⟨_,@AV _ _ _ (@An _ _ _ _ (@dc _ _ _ _ _ _ _ _ _ (@RK _ _ _ _ _ _ _ _ _ (@AX _ _ _ _) (@OL _ _) (@RK _ _ _ _ _ _ _ _ _ (@AX _ _ _ _) (@OL _ _) (@RK _ _ _ _ _ _ _ _ _ (@AX _ _ _ _) (@AK _ _ _ _) (@fe _ _)))))),?_⟩;intro a ha an han at_ hat;have n1:a≠an:=A2 AR han;have hA1:(upd (upd H a (.dK [])) an (.dK [])) a=some (.dK []):=by rw[AO n1];exact AR
  have n2:a≠at_:=A2 hA1 hat;have n3:an≠at_:=A2 AR hat;have fan:H an=none:=(Ak ha).free han;have fat:H at_=none:=((Ak ha).trans (Ak han)).free hat;refine⟨by rw[AO n2];exact hA1,[(.inr "names",.ref an),(.inr "texts",.ref at_),(.inr "made",.int 0)],rfl,by show 3<=15;decide,q a _ ⟨an,at_,[],?_⟩⟩;refine⟨(((AS.refl H).upd ha).upd fan).upd fat|>.upd ha,?_,?_,?_,rfl,fun i t p e=>(by simp at e),ha,fan,fat,fun t ht=>(by cases ht),⟨n1,n2,n3⟩⟩
  ·rw[AR];rfl
  ·rw[AO n1.symm,AO n3];exact AR
  ·rw[AO n2.symm];exact AR
theorem Rh:A0 ["_law_nook","_law_name","_law_number","_law_one","_law_word"] ["_law_nook","_law_name","_law_number"] (Ao MZ):=by ac_rfl
theorem Vy(F:Ab K "_law_named" "_law_named" MZ f fd)(O:Own mg):AU P w K mg base Aa 1 f fd ["_law_nook","_law_name","_law_number"] RP:=by
 refine F.ok Rh (fun vs H Q E h=>?_) (fun cdv A outer s H vs Q E hr h=>?_)
 ·obtain⟨a,name,no,H0,n,rfl,_⟩:=h;rfl
 ·obtain⟨a,name,no,H0,n,rfl,⟨an,at_,tx,nk⟩,fit,q⟩:=h;have hu1:=Ce hr;refine⟨_,(AW (Eh hu1 (BQ hu1 (pv 0) AX (fun _ _=>rfl)) (pv 1) (pv 2) rfl) (AV (Dx Dr rfl (Gg (E6 (KU rfl) rfl O.lst HD (AE (BQ hu1 (pv 0) AX (fun _ _=>rfl)) AI))) (Bl (i:=3) Rh.nd rfl (Ad rfl))
   (AV (Dx Dr rfl (Gg (BQ hu1 (BQ hu1 (pv 0) AX (fun _ _=>rfl)) (pv 3) (fun _ _=>rfl))) (Bl (i:=4) Rh.nd rfl (Ad rfl))
   (AV (A1 (PW.pt (Eo (Av BV (Ag Bq (pv 4) AK (fun _ _=>rfl)) AX (As _)) (Eo (Av BV (Ag Bq (pv 4) AK (fun _ _=>rfl)) (D6 Dy AK) (As _)) (GL (Av BV (Ag Bq (pv 4) AK (fun _ _=>rfl)) (pv 1) (As _))))))
   (AV (SG (pv 2) (Ro (pv 4) AK set_list)))
   BF))))))),?_⟩;have hl:(FU n.names).length<sizeLine:=by
   show(n.names.map _).length<_;have:=fit.names;rw[AL,BA]
   lia
  have dp:=DP.kq (k:=.inr name) (v:=.int no) nk.hn hl;rw[JL E7] at dp;refine⟨_,rfl,_,rfl,a,_,rfl,Du nk.ha,_,rfl,an,_,rfl,dp,?_⟩;have nk2:=nk.putN (AZ n.names name no);refine Vz (fun σ=>∃v3 v4,σ=[some (.ref a),some (.str name),some (.int no),v3,v4]) (CH name no) (aS name no) ⟨none,none,rfl⟩ ?_ ?_ ?_ (by decide) nk2 fit.Cb ?_ ?_
  ·rintro σ ⟨v3,v4,rfl⟩;exact⟨rfl,by show 3<5;decide⟩
  ·rintro σ v ⟨v3,v4,rfl⟩;exact⟨_,_,rfl⟩
  ·rintro σ v ⟨v3,v4,rfl⟩;exact⟨_,_,rfl⟩
  ·rintro _ H' D' w wd ⟨v3,v4,rfl⟩ hw kn;obtain⟨to,nm,no0⟩:=wd;have same:CH name no ⟨to,nm,no0⟩=⟨to,nm,no0⟩->D'.nx [some (.ref a),some (.str name),some (.int no),v3,some (.ref w)] H':=fun e=>by rw[e,Xo hw] at kn;exact kn
   cases to with
   |false=>refine⟨_,rfl,w,_,_,.str "word",rfl,rfl,AN.of hw,rfl,rfl,_,rfl,CN (by intro z;exact absurd (V.str.inj z) (by ac_rfl)) (BM (same ?_))⟩;unfold CH;rw[AG (by simp)]
   |true=>
    refine⟨_,rfl,w,_,_,.str "to",rfl,rfl,AN.of hw,rfl,rfl,_,rfl,B1 rfl ⟨_,rfl,w,_,_,.int no0,rfl,rfl,AN.of hw,rfl,_,rfl,rfl,_,rfl,?_⟩⟩;by_cases h1:no0= -1
    ·refine B1 (by rw[h1]) ⟨_,rfl,w,_,_,.str nm,rfl,rfl,AN.of hw,rfl,_,rfl,rfl,_,rfl,?_⟩;by_cases h2:nm=name
     ·refine B1 (by rw[h2]) ⟨_,rfl,_,rfl,w,_,_,2,rfl,rfl,hw,rfl,?_⟩;have eg:CH name no ⟨true,nm,no0⟩=⟨true,nm,no⟩:=by unfold CH;rw[AH ⟨rfl,h1,h2⟩]
      rw[eg] at kn;exact kn
     ·refine CN (by intro z;exact h2 (V.str.inj z)) (same ?_);unfold CH;rw[AG (fun z=>h2 z.2.2)]
    ·refine CN (by intro z;exact h1 (V.int.inj z)) (BM (same ?_));unfold CH;rw[AG (fun z=>h1 z.2.1)]
  ·rintro σ H' ⟨v3,v4,rfl⟩ nk3;exact q H' ⟨an,at_,tx,nk3⟩
theorem RD:A0 ["_law_nook","_law_number","_law_name","_law_other","_law_one","_law_word"] ["_law_nook","_law_number","_law_name","_law_other"] (Ao MH):=by ac_rfl
theorem VU(F:Ab K "_law_turned" "_law_turned" MH f fd)(O:Own mg):AU P w K mg base Aa 1 f fd ["_law_nook","_law_number","_law_name","_law_other"] RC:=by
 refine F.ok RD (fun vs H Q E h=>?_) (fun cdv A outer s H vs Q E hr h=>?_)
 ·obtain⟨a,no,name,other,H0,n,rfl,_⟩:=h;rfl
 ·obtain⟨a,no,name,other,H0,n,rfl,⟨an,at_,tx,nk⟩,fit,q⟩:=h;have hu1:=Ce hr;refine⟨_,(AV (Dx Dr rfl (Gg (E6 (KU rfl) rfl O.lst HD (AE (BQ hu1 (pv 0) AX (fun _ _=>rfl)) AI))) (Bl (i:=4) RD.nd rfl (Ad rfl))
   (AV (Dx Dr rfl (Gg (BQ hu1 (BQ hu1 (pv 0) AX (fun _ _=>rfl)) (pv 4) (fun _ _=>rfl))) (Bl (i:=5) RD.nd rfl (Ad rfl))
   (AV (A1 (PW.pt (Eo (Av BV (Ag Bq (pv 5) AK (fun _ _=>rfl)) AX (As _)) (GL (Av BV (Ag Bq (pv 5) AK (fun _ _=>rfl)) (pv 1) (As _)))))
   (AW (SG (pv 2) (Ro (pv 5) AK set_list)) (AV (SG (pv 3) (Ro (pv 5) AK set_list))))
   BF)))))),?_⟩;refine Vz (fun σ=>∃v4 v5,σ=[some (.ref a),some (.int no),some (.str name),some (.int other),v4,v5]) (CJ no name other) (aL no name other) ⟨none,none,rfl⟩ ?_ ?_ ?_ (by decide) nk fit.Cb ?_ ?_
  ·rintro σ ⟨v3,v4,rfl⟩;exact⟨rfl,by show 4<6;decide⟩
  ·rintro σ v ⟨v3,v4,rfl⟩;exact⟨_,_,rfl⟩
  ·rintro σ v ⟨v3,v4,rfl⟩;exact⟨_,_,rfl⟩
  ·rintro _ H' D' w wd ⟨v3,v4,rfl⟩ hw kn;obtain⟨to,nm,no0⟩:=wd;have same:CJ no name other ⟨to,nm,no0⟩=⟨to,nm,no0⟩->D'.nx [some (.ref a),some (.int no),some (.str name),some (.int other),v3,some (.ref w)] H':=fun e=>by rw[e,Xo hw] at kn;exact kn
   cases to with
   |false=>refine⟨_,rfl,w,_,_,.str "word",rfl,rfl,AN.of hw,rfl,rfl,_,rfl,CN (by intro z;exact absurd (V.str.inj z) (by ac_rfl)) (BM (same ?_))⟩;unfold CJ;rw[AG (by simp)]
   |true=>
    refine⟨_,rfl,w,_,_,.str "to",rfl,rfl,AN.of hw,rfl,rfl,_,rfl,B1 rfl ⟨_,rfl,w,_,_,.int no0,rfl,rfl,AN.of hw,rfl,_,rfl,rfl,_,rfl,?_⟩⟩;by_cases h1:no0=no
    ·refine B1 (by rw[h1]) ⟨_,rfl,_,rfl,w,_,_,1,rfl,rfl,hw,rfl,_,rfl,_,rfl,w,_,_,2,rfl,rfl,AR,rfl,?_⟩;have eg:CJ no name other ⟨true,nm,no0⟩=⟨true,name,other⟩:=by unfold CJ;rw[AH ⟨rfl,h1⟩]
     rw[eg] at kn;rw[JN];exact kn
    ·refine CN (by intro z;exact h1 (V.int.inj z)) (same ?_);unfold CJ;rw[AG (fun z=>h1 z.2)]
  ·rintro σ H' ⟨v3,v4,rfl⟩ nk3;exact q H' ⟨an,at_,tx,nk3⟩
theorem Mo:A0 ["_law_nook","_law_number","_law_many","_law_one","_law_word"] ["_law_nook","_law_number"] (Ao Mu):=by ac_rfl
noncomputable def upTo(n:Nk)(p q:Nat):List Wd:=(n.texts.take p).flatMap (·.2)++(((n.texts[p]?).map (·.2)).getD []).take q
theorem XM(F:Ab K "_law_led" "_law_led" Mu f fd)(O:Own mg):AU P w K mg base Aa 1 f fd ["_law_nook","_law_number"] SH:=by
 refine F.ok Mo (fun vs H Q E h=>?_) (fun cdv A outer s H vs Q E hr h=>?_)
 ·obtain⟨a,no,H0,n,rfl,_⟩:=h;rfl
 ·obtain⟨a,no,H0,n,rfl,⟨an,at_,tx,nk⟩,fit,q⟩:=h;have hu1:=Ce hr;refine⟨_,(AW (Ax (i:=2) Mo.nd rfl (Ad rfl) AK) (AW (Dx Dr rfl (Gg (E6 (KU rfl) rfl O.lst HD (AE (BQ hu1 (pv 0) AX (fun _ _=>rfl)) AI))) (Bl (i:=3) Mo.nd rfl (Ad rfl))
   (AV (Dx Dr rfl (Gg (BQ hu1 (BQ hu1 (pv 0) AX (fun _ _=>rfl)) (pv 3) (fun _ _=>rfl))) (Bl (i:=4) Mo.nd rfl (Ad rfl))
   (AV (Ax (i:=2) Mo.nd rfl (Ad rfl) (Al DJ (pv 2) (E6 L3 rfl O.int Kn (AE (MW (Hl BV (Ag Bq (pv 4) AK (fun _ _=>rfl)) AX (As _)) (MU (Hl BV (Ag Bq (pv 4) AK (fun _ _=>rfl)) (pv 1) (As _)))) AI)))))))) (AV (An (pv 2))))),?_⟩;have at_p:∀{p t},tx[p]? =some t->∃pp,n.texts[p]? =some pp:=fun{p t} e=>by
   have hp:p<n.texts.length:=by rw[<-nk.len];exact(BW.mp e).1
   exact⟨_,Ar hp⟩
  refine Ui (a:=a) (at_:=at_) (A:=Ew an at_ n.made) (tx:=tx) (fun L p q σ H'=>∃(v3 v4:Option V),σ=[some (.ref a),some (.int no),some (.int ((upTo n p q).countP (GY no):Nat)),v3,v4]/\AS H H'/\H' L=some (.lst (tx.map fun t=>V.int t.1))) rfl nk.ha ME nk.ht
   (fun L hL=>⟨none,none,rfl,Ak hL,AR⟩) ?_ (by decide) ?_ ?_ ?_ ?_
  ·rintro L p q σ H' ⟨v3,v4,rfl,sm,hL⟩;have nk2:=nk.ext sm;refine⟨⟨nk2.ha,ME,nk2.ht,hL,fun t ht=>?_,by rw[nk.keys];exact fit.Cb⟩,rfl,by show 3<5;decide⟩;obtain⟨i,hi',e⟩:=HZ.mp ht;have e1:tx[i]? =some t:=by rw[Ar hi',e]
   obtain⟨pp,ep⟩:=at_p e1;exact(nk2.DG i t pp e1 ep).2.1
  ·rintro L p t q w σ H' D' et ew ⟨v3,v4,rfl,sm,hL⟩ kn;obtain⟨pp,ep⟩:=at_p et;have nk2:=nk.ext sm;have hq:q<pp.2.length:=by rw[<-(nk.DG p t pp et ep).2.2.1];exact(BW.mp ew).1
   have ed:pp.2[q]? =some pp.2[q]:=Ar hq;have hw:=(nk2.DG p t pp et ep).2.2.2 q w _ ew ed;generalize pp.2[q]=wd at ed hw;have eu:upTo n p (q+1)=upTo n p q++[wd]:=by unfold upTo;rw[ep];show _++pp.2.take (q+1)=(_++pp.2.take q)++[wd];rw[Dm,ed,Bu];rfl
   have kn':D'.nx [some (.ref a),some (.int no),some (.int (((upTo n p q).countP (GY no):Nat)+(if GY no wd=true then 1 else 0))),v3,some (.ref w)] H':=by
    have h1:=kn [some (.ref a),some (.int no),some (.int ((upTo n p (q+1)).countP (GY no):Nat)),v3,some (.ref w)] H' ⟨_,_,rfl,sm,hL⟩;rw[eu,List.countP_append,List.countP_singleton] at h1;have e2:(((upTo n p q).countP (GY no)+(if GY no wd=true then 1 else 0):Nat):Int)=((upTo n p q).countP (GY no):Nat)+(if GY no wd=true then 1 else 0):=by cases GY no wd<;>rfl
    rw[e2] at h1;exact h1
   obtain⟨to,nm,no0⟩:=wd
   cases to with
   |false=>refine⟨_,rfl,_,rfl,w,_,_,.str "word",rfl,rfl,AN.of hw,rfl,rfl,_,rfl,CN (by intro z;exact absurd (V.str.inj z) (by ac_rfl)) (.inr ⟨_,rfl,_,_,rfl,rfl,kn'⟩)⟩
   |true=>
    refine⟨_,rfl,_,rfl,w,_,_,.str "to",rfl,rfl,AN.of hw,rfl,rfl,_,rfl,B1 rfl ⟨_,rfl,w,_,_,.int no0,rfl,rfl,AN.of hw,rfl,_,rfl,rfl,.inr ⟨_,rfl,_,_,rfl,rfl,?_⟩⟩⟩;have e3:GY no ⟨true,nm,no0⟩=decide (V.int no0=V.int no):=by
     show(true&&decide (no0=no))=_;rw[Bool.true_and];by_cases h:no0=no
     ·rw[h];simp
     ·rw[BK h,BK (fun z=>h (V.int.inj z))]
    rw[e3] at kn';exact kn'
  ·rintro L p t σ H' et ⟨v3,v4,rfl,sm,hL⟩;exact⟨_,_,rfl,sm,hL⟩
  ·rintro L p t σ H' et ⟨v3,v4,rfl,sm,hL⟩;obtain⟨pp,ep⟩:=at_p et;have eu:upTo n p t.2.2.length=upTo n (p+1) 0:=by unfold upTo;rw[ep,Dm,ep,(nk.DG p t pp et ep).2.2.1,KH,Cy];show _++pp.2.take pp.2.length=(_++[pp]).flatMap _;rw[Cv,List.flatMap_append];show _++pp.2=_++(pp.2++[]);rw[Cy]
   rw[eu];exact⟨_,_,rfl,sm,hL⟩
  ·rintro L σ H' ⟨v3,v4,rfl,sm,hL⟩;have eu:upTo n tx.length 0=n.flat:=by unfold upTo Nk.flat;rw[nk.len,Cv,KH,Cy]
   rw[eu];exact⟨_,rfl,q H' sm⟩
theorem cO:Bs X (compareOp .Gt) (fun x y H Q=>∃i j,x=.str i/\y=.str j/\Q (.bl (decide (j.cps.toList<i.cps.toList))) H):=by intro pins s σ H x y v u Q I rx ry h;obtain⟨i,j,rfl,rfl,q⟩:=h;obtain⟨t,rfl⟩:=rx;obtain⟨t',rfl⟩:=ry;exact P.gt_str (By I q rfl)
noncomputable def DT(c:Nat):Bool:=decide (([c]:List Nat)<("a" :Str).cps.toList)||decide (("z" :Str).cps.toList<([c]:List Nat))
def C7(z:Str):Bool:=(!decide (z=""))&&(z.cps.toList.filter DT).isEmpty
def RB:Sp:=fun vs H Q _=>∃z:Str,vs=[.str z]/\z.length<=100000/\∀H',AS H H'->Q (.bl (C7 z)) H'
def Nk.added(n:Nk)(name:Str):Nk:=({n with made:=n.made+1,texts:=AZ n.texts n.made []}:Nk).named name n.made
def Wn:Sp:=fun vs H Q _=>∃(a:Addr)(name:Str)(H0:Hp)(n:Nk),vs=[.ref a,.str name]/\CZ H0 H a n/\Fits n/\n.texts.length<1000/\AF n.texts n.made=none/\∀H',CZ H0 H' a (n.added name)->Q (.int n.made) H'
theorem L8{α β:Type}[DecidableEq α]{k:α}:∀{l:List (α×β)},AF l k=none->k∉l.map (·.1)
 |[],_=>by simp
 |p::l,h=>by
  unfold AF at h;rw[Cw] at h;by_cases e:p.1=k
  ·rw[Bj e] at h;cases h
  ·rw[BK e] at h;have:=L8 (l:=l) (k:=k) h;rw[Au,Bk];rintro(z|z)
   ·exact e z.symm
   ·exact this z
theorem Gz{α:Type}[DecidableEq α]{k:α}{v:β}{l:List (α×β)}(h:AF l k=none):AZ l k v=l++[(k,v)]:=by unfold AZ;rw[AG];intro z;obtain⟨p,hp,e⟩:=KA.mp z;exact L8 h (BY.mpr ⟨p,hp,J9 e⟩)
theorem Fits.mK{k:Int}(h:Fits n)(hk:AF n.texts k=none)(hl:n.texts.length<1000):Fits {n with made:=m,texts:=AZ n.texts k []}:=by
 refine⟨h.CQ,?_,h.names,?_,fun p hp=>?_⟩
 ·show((AZ n.texts k []).map (·.1)).Nodup;rw[Gz hk,BX,QO];refine⟨h.Cb,by simp,fun x hx y hy z=>?_⟩;have:y=k:=by simpa using hy
  rw[this] at z;rw[z] at hx;exact L8 hk hx
 ·show(AZ n.texts k []).length<=1000;rw[Gz hk,BC,EK]
  lia
 ·have hp':p∈AZ n.texts k []:=hp;rw[Gz hk] at hp';rcases CB.mp hp' with z|z
  ·exact h.words p z
  ·rw[CA.mp z];exact CF _
theorem Wz:A0 ["_law_nook","_law_name","_law_number"] ["_law_nook","_law_name"] (Ao Oo):=by ac_rfl
theorem fX{fNa:Addr}{fdNa:FuncData}(F:Ab K "_law_added" "_law_added" Oo f fd)(O:Own mg)
 (FNa:Ab K "_law_named" "_law_named" MZ fNa fdNa)(bNa:Binds K fdNa ["_law_nook","_law_name","_law_number"] [])(mNa:mg "_law_named" =some (.ref fNa)):AU P w K mg base Aa 2 f fd ["_law_nook","_law_name"] Wn:=by
 have GNa:AU P w K mg base Aa 1 fNa fdNa ["_law_nook","_law_name","_law_number"] RP:=Vy FNa O;refine F.ok Wz (fun vs H Q E h=>?_) (fun cdv A outer s H vs Q E hr h=>?_)
 ·obtain⟨a,name,H0,n,rfl,_⟩:=h;rfl
 ·obtain⟨a,name,H0,n,rfl,⟨an,at_,tx,nk⟩,fit,hlt,hnew,q⟩:=h;have hu1:=Ce hr;refine⟨_,(AW (Ax (i:=2) Wz.nd rfl (Ad rfl) (BQ hu1 (pv 0) AX (fun _ _=>rfl))) (AW (Eh hu1 (pv 0) AX (Al DJ (pv 2) AK) rfl) (AW (Eh hu1 (BQ hu1 (pv 0) AX (fun _ _=>rfl)) (pv 2) (CY AI) rfl) (AW (Bn (BJ GNa hr rfl mNa FNa.kp bNa .nil BB (AE (pv 0) (AE (pv 1) (AE (pv 2) AI))))) (AV (An (pv 2))))))),?_⟩;have dp1:=DP.kq (k:=.inr "made") (v:=.int (n.made+1)) nk.ha (by show 3<sizeLine;decide);rw[jV] at dp1;refine⟨_,rfl,a,_,rfl,cZ nk.ha,_,rfl,_,_,rfl,rfl,_,rfl,a,_,rfl,dp1,?_⟩;have nk1:=nk.nI (n.made+1);generalize upd H a (.dK (Ew an at_ (n.made+1)))=H1 at nk1;refine⟨by show 0<=sizeLine;decide,fun l hl=>?_⟩;have nk2:=nk1.ext (Ak (o:=.lst []) hl);have htl:(CK tx).length<sizeLine:=by
   show(tx.map _).length<_;rw[AL,nk.len,BA]
   lia
  have dp2:=DP.kq (k:=.inl n.made) (v:=.ref l) nk2.ht htl;have e2:putK (CK tx) (.inl n.made) (.ref l)=CK (AZ tx n.made (l,[])):=JL (g:=fun p:Addr×List Addr=>V.ref p.1) Ej n.made (l,[]) tx;rw[e2] at dp2;refine⟨_,rfl,a,_,rfl,GG nk2.ha,_,rfl,at_,_,rfl,dp2,?_⟩;have nk3:=nk2.Mv n.made (l:=l) (ws:=[]) (CP:=[]) AR rfl (fun j w wd e=>by simp at e) (fun w hw=>by cases hw);exact⟨_,rfl,_,rfl,_,rfl,a,name,n.made,H0,_,rfl,⟨an,at_,_,nk3⟩,fit.mK hnew hlt,fun H' nk'=>⟨_,rfl,q H' nk'⟩⟩
theorem dj:A0 ["_law_text"] ["_law_text"] (Ao MG):=by ac_rfl
theorem VL(F:Ab K "_law_is_name" "_law_is_name" MG f fd):AU P w K mg base Aa 1 f fd ["_law_text"] RB:=by
 refine F.ok dj (fun vs H Q E h=>?_) (fun cdv A outer s H vs Q E hr h=>?_)
 ·obtain⟨z,rfl,_⟩:=h;rfl
 ·obtain⟨x,rfl,hx,k⟩:=h;have hu:=hr.Rw;refine⟨_,(AV (An (MW (Hl Gd (pv 0) AX (As _)) (MU (Hl (mw hu) (ES (ts:=["_law_sign"]) (cap:=[]) (ix:=[]) (Kd rfl rfl (by ac_rfl) (by ac_rfl)) (Xj (pv 0)) (fun _ _ _ _ _=>Bl (i:=0) NC rfl (Ad rfl) (Co rfl)) (fun _ _ _ _ _=>(Oh (PW.pt (Jb (Av cX (pv 0) AX (As _)) (JS (Av cO (pv 0) AX (As _))))))) (fun _ _ _ _ _=>(pv 0))) (CY AI) (As _)))))),?_⟩;refine⟨_,rfl,rfl,_,rfl,?_⟩;by_cases e:x=""
  ·refine D5 (by rw[e]) ?_;have:C7 x=false:=by unfold C7;rw[Bj e];rfl
   have q:=k H (AS.refl H);rw[this] at q;exact q
  ·refine Ga (fun z=>e (V.str.inj z)) ?_;have en:C7 x=(x.cps.toList.filter DT).isEmpty:=by unfold C7;rw[BK e];rfl
   have el:x.cps.toList.length<=100000:=by simpa[Str.length] using hx
   refine⟨_,rfl,x,rfl,fun D hD=>Vo (fun i H'=>AS H H'/\H' D=some (.lst (((x.cps.toList.take i).filter DT).map fun c=>V.str ⟨#[c]⟩))) ⟨Ak hD,AR⟩ ?_ ?_⟩
   ·rintro i c H' hc ⟨sm,hD'⟩;have hlt:i<x.cps.toList.length:=(BW.mp hc).1;have et:x.cps.toList.take (i+1)=x.cps.toList.take i++[c]:=by rw[Dm,hc];rfl
    have put:DT c=true->∃ys,H' D=some (.lst ys)/\ys.length<sizeLine/\AS H (upd H' D (.lst (ys++[V.str ⟨#[c]⟩])))/\(upd H' D (.lst (ys++[V.str ⟨#[c]⟩]))) D=some (.lst (((x.cps.toList.take (i+1)).filter DT).map fun c=>V.str ⟨#[c]⟩)):=fun hb=>by
     refine⟨_,hD',?_,sm.upd hD,?_⟩
     ·have:=F8 DT (x.cps.toList.take i);rw[Bg] at this;rw[AL,BA]
      lia
     ·rw[AR,et,NX,BX];have:[c].filter DT=[c]:=by simp[hb]
      rw[this];rfl
    have skip:DT c=false->AS H H'/\H' D=some (.lst (((x.cps.toList.take (i+1)).filter DT).map fun c=>V.str ⟨#[c]⟩)):=fun hb=>by
     refine⟨sm,?_⟩;rw[hD',et,NX];have:[c].filter DT=[]:=by simp[hb]
     rw[this,Cy]
    refine⟨FG,_,rfl,_,_,rfl,rfl,_,rfl,?_⟩;by_cases h1:([c]:List Nat)<("a" :Str).cps.toList
    ·exact B1 h1 (Bf ⟨_,rfl,put (by unfold DT;rw[Bj h1];rfl)⟩)
    ·refine CN h1 ⟨_,rfl,_,_,rfl,rfl,_,rfl,?_⟩;by_cases h2:("z" :Str).cps.toList<([c]:List Nat)
     ·exact B1 h2 ⟨_,rfl,put (by unfold DT;rw[Bj h2,Bool.or_true])⟩
     ·exact CN h2 (skip (by unfold DT;rw[BK h1,BK h2];rfl))
   ·rintro H' ⟨sm,hD'⟩;rw[Cv] at hD';refine⟨by show 0<=sizeLine;decide,fun q hq=>⟨D,q,_,rfl,rfl,AN.of ((Ak hq) _ _ hD'),AN.of AR,?_⟩⟩;have h1:=k _ (sm.trans (Ak (o:=.lst []) hq));have h2:((x.cps.toList.filter DT).map fun c=>V.str ⟨#[c]⟩).isEmpty=(x.cps.toList.filter DT).isEmpty:=by cases x.cps.toList.filter DT<;>rfl
    rw[h2,<-en];exact h1
theorem cn{c:TT}{t u:TS}{D:Ends}(G:Hp->Prop)(hG:∀H2,G H2->u D σ H2)(h:(∀H2,G H2->u D σ H2)->Gf c t u D σ H):Gf c t u D σ H:=h hG
theorem cu(t p:Str)(h:p∈Txt.split t " "):p.length<=t.length:=by
 have hw:=Lp t " " (by decide);have h2:p.length<=((Txt.split t " ").map (·.length)).sum:=by
  generalize Txt.split t " " =L at h
  induction L with
  |nil=>cases h
  |cons a r ih=>
   rw[Au,CM];rcases Bk.mp h with e|e
   ·subst e;lia
   ·have:=ih e;lia
 have h3:1<=(Txt.split t " ").length:=Tv h
 lia
noncomputable def inner(p:Str):Str:=Txt.slice p (some 1) (some (-1))
def HL(p:Str):Bool:=decide (V.str (Txt.slice p none (some 1))=V.str "[")&&(decide (V.str (Txt.slice p (some (-1)) none)=V.str "]")&&C7 (inner p))
def DX(names:List (Str×Int))(p:Str):Option Wd:=if HL p=true then some ⟨true,inner p,(AF names (inner p)).getD (-1)⟩ else if p="" then none else some ⟨false,p,-1⟩
def Fu(names:List (Str×Int))(z:Str):List Wd:=(Txt.split z " ").filterMap (DX names)
structure HT(H H':Hp)(ws:List Addr)(CP:List Wd):Prop where
 len:ws.length=CP.length
 at_:∀(j:Nat) w wd,ws[j]? =some w->CP[j]? =some wd->H' w=some (.lst wd.vq)
 new:∀w∈ws,H w=none
def Uj:Sp:=fun vs H Q _=>∃(a:Addr)(z:Str)(H0:Hp)(n:Nk),vs=[.ref a,.str z]/\CZ H0 H a n/\z.length<=1000/\
 ∀(L:Addr)(ws:List Addr)(H':Hp),AS H H'->H L=none->H' L=some (.lst (ws.map V.ref))->HT H H' ws (Fu n.names z)->Q (.ref L) H'
theorem HT.snoc{ws:List Addr}{CP:List Wd}{w:Addr}{wd:Wd}{o:HO}(h:HT H H2 ws CP)(hw:H2 w=none)(hn:H w=none)(hL:H2 L=some (.lst (ws.map V.ref))):HT H (upd (upd H2 w (.lst wd.vq)) L o) (ws++[w]) (CP++[wd]):=by
 have nLw:w≠L:=(A2 hL hw).symm;refine⟨by rw[BC,BC,h.len];rfl,fun j x xd h1 h2=>?_,fun x hx=>?_⟩
 ·by_cases hj:j<ws.length
  ·rw[C9 hj] at h1;rw[C9 (by rw[<-h.len];exact hj)] at h2;have:=h.at_ j x xd h1 h2;rw[AO (CT this hL (by intro z;exact Ut _ xd (HO.lst.inj z).symm)),AO (A2 this hw)];exact this
  ·have hj1:j<(ws++[w]).length:=(BW.mp h1).1;rw[BC,EK] at hj1;obtain rfl:j=ws.length:=by lia
   rw[C4 (Ac _),E3] at h1;rw[C4 (by rw[h.len];exact Ac _),h.len,E3] at h2;cases Ah h1;cases Ah h2;rw[AO nLw,AR]
 ·rcases CB.mp hx with z|z
  ·exact h.new x z
  ·rw[CA.mp z];exact hn
theorem HT.ext{H3:Hp}{ws:List Addr}{CP:List Wd}(h:HT H H2 ws CP)(s:AS H2 H3):HT H H3 ws CP:=⟨h.len,fun j w wd h1 h2=>s _ _ (h.at_ j w wd h1 h2),h.new⟩
theorem Qv:A0 ["_law_nook","_law_text","_law_words","_law_one"] ["_law_nook","_law_text"] (Ao N6):=by ac_rfl
theorem aE{fIs:Addr}{fdIs:FuncData}(F:Ab K "_law_penned_in" "_law_penned_in" N6 f fd)(FIs:Ab K "_law_is_name" "_law_is_name" MG fIs fdIs)(bIs:Binds K fdIs ["_law_text"] [])(mIs:mg "_law_is_name" =some (.ref fIs)):
 AU P w K mg base Aa 2 f fd ["_law_nook","_law_text"] Uj:=by
 have GIs:AU P w K mg base Aa 1 fIs fdIs ["_law_text"] RB:=VL FIs;refine F.ok Qv (fun vs H Q E h=>?_) (fun cdv A outer s H vs Q E hr h=>?_)
 ·obtain⟨a,z,H0,n,rfl,_⟩:=h;rfl
 ·obtain⟨a,z,H0,n,rfl,⟨an,at_,tx,nk⟩,hz,q⟩:=h;have hu1:=Ce hr;refine⟨_,(AW (Ax (i:=2) Qv.nd rfl (Ad rfl) (CY AI)) (AW (Dx Dr rfl (Gg (FQ LX PySem.F.slot_str_split PySem.F.type_str_split Vf (pv 1) (AE AX AI))) (Bl (i:=3) Qv.nd rfl (Ad rfl))
   (AV (A1 (PW.pt (Eo (Av BV (Fl Kq (pv 3) Kl (DV AK)) AX (As _)) (Eo (Av BV (Fl Kq (pv 3) (DV (D6 Dy AK)) Kl) AX (As _)) (GL (Em (BJ GIs hr rfl mIs FIs.kp bIs .nil BB (AE (Fl Kq (pv 3) (DV AK) (DV (D6 Dy AK))) AI)))))))
   (AV (Bn (FQ EJ FZ FY Ef (pv 2) (AE (CY (AE AX (AE (Fl Kq (pv 3) (DV AK) (DV (D6 Dy AK))) (AE (dN hu1 (BQ hu1 (pv 0) AX (fun _ _=>rfl)) (Fl Kq (pv 3) (DV AK) (DV (D6 Dy AK))) (D6 Dy AK) ⟨rfl,rfl,rfl,rfl⟩) AI)))) AI))))
   (AV (A1 (Av Gd (pv 3) AX (As _))
   (AV (Bn (FQ EJ FZ FY Ef (pv 2) (AE (CY (AE AX (AE (pv 3) (AE (D6 Dy AK) AI)))) AI))))
   BF))))) (AV (An (pv 2))))),?_⟩;have hpl:(Txt.split z " ").length<=1001:=by
   have:=Lp z " " (by decide)
   lia
  refine⟨by show 0<=sizeLine;decide,fun L hL=>⟨_,rfl,rfl,z,_,rfl,rfl,by ac_rfl,by rw[BA];lia,fun D0 hD0=>?_⟩⟩;have nL0:L≠D0:=A2 AR hD0;have hD0n:H D0=none:=(Ak hL).free hD0;refine⟨D0,rfl,⟨_,AN.of AR⟩,?_⟩;refine JK (K:=[]) (a:=D0) (xs:=(Txt.split z " ").map V.str) (fun i σ H'=>∃(ws:List Addr)(v3:Option V),σ=[some (.ref a),some (.str z),some (.ref L),v3]/\AS H H'/\H' D0=some (.lst ((Txt.split z " ").map V.str))/\H' L=some (.lst (ws.map V.ref))/\HT H H' ws (((Txt.split z " ").take i).filterMap (DX n.names))/\ws.length<=i)
   ⟨[],none,rfl,((AS.refl H).upd hL).upd hD0n,AR,by rw[AO nL0];exact AR,⟨rfl,fun j w wd e=>by simp at e,fun w hw=>by cases hw⟩,Ac _⟩ (fun i σ H' _ ⟨_,_,_,_,h,_⟩=>AN.of h) ?_ ?_
  ·rintro i x σ H' hx ⟨ws,v3,rfl,sm,hD',hL',pw,wl⟩;rw[Az] at hx
   cases ep:(Txt.split z " ")[i]?with
   |none=>rw[ep] at hx;cases hx
   |some pc=>
   rw[ep] at hx;obtain rfl:V.str pc=x:=Ah hx;have hi:i<(Txt.split z " ").length:=(BW.mp ep).1;have hpc:=cu z pc (CL ep);have lpc:pc.length<=sizeLine:=by rw[BA];lia
   have li:(inner pc).length<=100000:=by have:=Ny pc (some 1) (some (-1));unfold inner;lia
   have etk:((Txt.split z " ").take (i+1)).filterMap (DX n.names)=((Txt.split z " ").take i).filterMap (DX n.names)++(DX n.names pc).toList:=by rw[Dm,ep,List.filterMap_append];show _++[pc].filterMap _=_;cases e:DX n.names pc<;>simp[e]
   have hlt:(ws.map V.ref).length<sizeLine:=by rw[AL,BA];lia
   have fin:∀(wd:Wd)(es:List V)(H2:Hp)(w:Addr),DX n.names pc=some wd->es=wd.vq->AS H' H2->H2 w=none->∃(ws':List Addr)(v3:Option V),([some (V.ref a),some (.str z),some (.ref L),some (.str pc)]:St)=[some (.ref a),some (.str z),some (.ref L),v3]/\AS H (upd (upd H2 w (.lst es)) L (.lst (ws.map V.ref++[V.ref w])))/\
    (upd (upd H2 w (.lst es)) L (.lst (ws.map V.ref++[V.ref w]))) D0=some (.lst ((Txt.split z " ").map V.str))/\(upd (upd H2 w (.lst es)) L (.lst (ws.map V.ref++[V.ref w]))) L=some (.lst (ws'.map V.ref))/\
    HT H (upd (upd H2 w (.lst es)) L (.lst (ws.map V.ref++[V.ref w]))) ws' (((Txt.split z " ").take (i+1)).filterMap (DX n.names))/\ws'.length<=i+1:=by
    rintro wd es H2 w e rfl s2 hw;have hwn:H w=none:=(sm.trans s2).free hw;refine⟨ws++[w],_,rfl,((sm.trans s2).upd hwn).upd hL,?_,by rw[AR,BX];rfl,?_,by rw[BC,EK];lia⟩
    ·rw[AO nL0.symm,AO (A2 (s2 _ _ hD') hw)];exact s2 _ _ hD'
    ·rw[etk,e];exact(pw.ext s2).snoc hw hwn (s2 _ _ hL')
   refine cn (fun H2=>AS H' H2/\HL pc=false) ?_ ?_
   ·rintro H2 ⟨s2,hnp⟩;refine⟨_,rfl,rfl,_,rfl,?_⟩;by_cases e0:pc=""
    ·refine D5 (by rw[e0]) ?_;have er:DX n.names pc=none:=by unfold DX;rw[hnp,AG (by decide),AH e0]
     exact⟨ws,_,rfl,sm.trans s2,s2 _ _ hD',s2 _ _ hL',by rw[etk,er];show HT _ _ _ (_++[]);rw[Cy];exact pw.ext s2,by lia⟩
    ·refine Ga (fun z=>e0 (V.str.inj z)) ⟨_,rfl,.inl ⟨rfl,_,AN.of (s2 _ _ hL')⟩,_,rfl,_,rfl,by show 3<=sizeLine;decide,fun w hw=>⟨L,_,.ref w,rfl,rfl,(Ak hw) _ _ (s2 _ _ hL'),hlt,?_⟩⟩;have er:DX n.names pc=some ⟨false,pc,-1⟩:=by unfold DX;rw[hnp,AG (by decide),AG e0]
     exact fin _ _ H2 w er rfl s2 hw
   ·intro hG;refine⟨_,rfl,_,rfl,pc,rfl,lpc,rfl,_,rfl,?_⟩;by_cases h1:V.str (Txt.slice pc none (some 1))=V.str "["
    ·refine B1 h1 ⟨_,rfl,_,rfl,_,rfl,pc,rfl,lpc,rfl,_,rfl,?_⟩;by_cases h2:V.str (Txt.slice pc (some (-1)) none)=V.str "]"
     ·refine B1 h2 ⟨_,rfl,_,rfl,_,rfl,_,rfl,pc,rfl,lpc,inner pc,rfl,li,fun H2 s2=>⟨_,rfl,?_⟩⟩
      cases h3:C7 (inner pc) with
      |false=>exact BM (hG H2 ⟨s2,by unfold HL;rw[h3,KJ,KJ]⟩)
      |true=>
       have hp:HL pc=true:=by unfold HL;rw[h3,Bj h1,Bj h2];rfl
       have nk2:=nk.ext (sm.trans s2);have dg:=BN.kq (k:=.inr (inner pc)) nk2.hn;rw[ER E7] at dg;refine Bf ⟨_,rfl,.inl ⟨rfl,_,AN.of (s2 _ _ hL')⟩,_,rfl,_,rfl,_,rfl,_,rfl,pc,rfl,lpc,_,rfl,a,_,rfl,Du nk2.ha,an,rfl,.inl ⟨_,.inl nk2.hn⟩,_,rfl,_,rfl,_,rfl,_,rfl,pc,rfl,lpc,_,rfl,_,dg,by show 3<=sizeLine;decide,fun w hw=>⟨L,_,.ref w,rfl,rfl,(Ak hw) _ _ (s2 _ _ hL'),hlt,?_⟩⟩;have er:DX n.names pc=some ⟨true,inner pc,(AF n.names (inner pc)).getD (-1)⟩:=by unfold DX;rw[AH hp]
       refine fin _ _ H2 w er ?_ s2 hw;show[V.str "to",V.str (inner pc),((AF n.names (inner pc)).map V.int).getD (V.int (-1))]=[V.str "to",V.str (inner pc),V.int ((AF n.names (inner pc)).getD (-1))];cases AF n.names (inner pc)<;>rfl
     ·exact CN h2 (BM (hG _ ⟨AS.refl _,by unfold HL;rw[BK h2,Ln,KJ]⟩))
    ·exact CN h1 (BM (hG _ ⟨AS.refl _,by unfold HL;rw[BK h1,Ln]⟩))
  ·rintro σ H' ⟨ws,v3,rfl,sm,hD',hL',pw,wl⟩;rw[AL,Cv] at pw;exact⟨_,rfl,q L ws H' sm hL hL' pw⟩
noncomputable def nameOf(names:List (Str×Int))(no:Int):Str:=((names.find? fun p=>decide (p.2=no)).map (·.1)).getD ""
def shown(names:List (Str×Int))(w:Wd):Str:=if w.to=true then(if w.no= -1 then "[" ++w.nm++ "]" else "[" ++nameOf names w.no++ "]") else w.nm
def Ve:Sp:=fun vs H Q _=>∃(a:Addr)(no:Int)(H0:Hp)(n:Nk),vs=[.ref a,.int no]/\CZ H0 H a n/\Fits n/\∀H',AS H H'->Q (.str (nameOf n.names no)) H'
def Wl:Sp:=fun vs H Q _=>∃(a w:Addr)(wd:Wd)(H0:Hp)(n:Nk),vs=[.ref a,.ref w]/\CZ H0 H a n/\Fits n/\H w=some (.lst wd.vq)/\wd.nm.length<=2000/\(∀p∈n.names,p.1.length<=2000)/\∀H',AS H H'->Q (.str (shown n.names wd)) H'
variable{names:List (Str×Int)}{no:Int}
theorem aM(h:∀p∈names,p.1.length<=2000):(nameOf names no).length<=2000:=by
 unfold nameOf
 cases e:names.find? fun p=>decide (p.2=no) with
 |none=>show("" :Str).length<=2000;decide+kernel
 |some p=>exact h p (List.mem_of_find?_eq_some e)
theorem Vg:A0 ["_law_nook","_law_number","_law_name"] ["_law_nook","_law_number"] (Ao OO):=by ac_rfl
theorem bN(F:Ab K "_law_name_of" "_law_name_of" OO f fd)(O:Own mg):AU P w K mg base Aa 1 f fd ["_law_nook","_law_number"] Ve:=by
 refine F.ok Vg (fun vs H Q E h=>?_) (fun cdv A outer s H vs Q E hr h=>?_)
 ·obtain⟨a,no,H0,n,rfl,_⟩:=h;rfl
 ·obtain⟨a,no,H0,n,rfl,⟨an,at_,tx,nk⟩,fit,q⟩:=h;have hu1:=Ce hr;refine⟨_,(AW (Dx Dr rfl (Gg (E6 (KU rfl) rfl O.lst HD (AE (BQ hu1 (pv 0) AX (fun _ _=>rfl)) AI))) (Bl (i:=2) Vg.nd rfl (Ad rfl))
   (AV (A1 (Av BV (BQ hu1 (BQ hu1 (pv 0) AX (fun _ _=>rfl)) (pv 2) (fun _ _=>rfl)) (pv 1) (As _))
   (AV (An (pv 2)))
   BF))) (AV (An AX))),?_⟩;refine⟨_,rfl,a,_,rfl,Du nk.ha,an,_,rfl,nk.hn,fun L hL=>?_⟩;have ek:((FU n.names).map fun kv=>kV kv.1)=n.names.map fun p=>V.str p.1:=by
   show(n.names.map _).map _=_;rw[Bh];rfl
  rw[ek];refine⟨L,rfl,⟨_,AN.of AR⟩,?_⟩;refine JK (K:=[]) (a:=L) (xs:=n.names.map fun p=>V.str p.1) (fun i σ H'=>∃v2:Option V,σ=[some (.ref a),some (.int no),v2]/\AS (upd H L (.lst (n.names.map fun p=>V.str p.1))) H'/\(n.names.take i).find? (fun p=>decide (p.2=no))=none)
   ⟨none,rfl,AS.refl _,rfl⟩ (fun i σ H' _ ⟨_,_,sm,_⟩=>AN.of (sm _ _ AR)) ?_ ?_
  ·rintro i x σ H' hx ⟨v2,rfl,sm,hno⟩;rw[Az] at hx
   cases ep:n.names[i]?with
   |none=>rw[ep] at hx;cases hx
   |some p=>
   rw[ep] at hx;obtain rfl:V.str p.1=x:=Ah hx;have sm1:=(Ak hL).trans sm;have nk2:=nk.ext sm1;have dg:=BN.kq (k:=.inr p.1) nk2.hn;rw[ER E7,IU fit.CQ ep] at dg;refine⟨_,rfl,a,_,rfl,Du nk2.ha,_,rfl,an,_,rfl,dg,_,rfl,rfl,_,rfl,?_⟩;have etk:n.names.take (i+1)=n.names.take i++[p]:=by rw[Dm,ep];rfl
   by_cases hp:p.2=no
   ·refine B1 (by rw[hp]) ⟨_,rfl,?_⟩;have en:nameOf n.names no=p.1:=by
     unfold nameOf;have:n.names.find? (fun p=>decide (p.2=no))=some p:=by
      conv=>lhs;rw[<-De (i+1) n.names]
      rw[etk,QQ,QQ,hno,List.find?_singleton,AH (Bj hp)];rfl
     rw[this];rfl
    have:=q H' sm1;rw[en] at this;exact this
   ·refine CN (fun z=>hp (V.int.inj z)) ⟨_,rfl,sm,?_⟩;rw[etk,QQ,hno,List.find?_singleton,AG (by rw[BK hp];decide)];rfl
  ·rintro σ H' ⟨v2,rfl,sm,hno⟩;rw[AL,Cv] at hno;have en:nameOf n.names no="" :=by unfold nameOf;rw[hno];rfl
   have:=q H' ((Ak hL).trans sm);rw[en] at this;exact this
theorem f9:A0 ["_law_nook","_law_word"] ["_law_nook","_law_word"] (Ao Ov):=by ac_rfl
theorem fm:("[" :Str).length=1/\("]" :Str).length=1:=by ac_rfl
theorem eF{fNo:Addr}{fdNo:FuncData}(F:Ab K "_law_shown" "_law_shown" Ov f fd)(O:Own mg)(FNo:Ab K "_law_name_of" "_law_name_of" OO fNo fdNo)(bNo:Binds K fdNo ["_law_nook","_law_number"] [])(mNo:mg "_law_name_of" =some (.ref fNo)):
 AU P w K mg base Aa 2 f fd ["_law_nook","_law_word"] Wl:=by
 have GNo:AU P w K mg base Aa 1 fNo fdNo ["_law_nook","_law_number"] Ve:=bN FNo O;refine F.ok f9 (fun vs H Q E h=>?_) (fun cdv A outer s H vs Q E hr h=>?_)
 ·obtain⟨a,w,wd,H0,n,rfl,_⟩:=h;rfl
 ·obtain⟨a,w,wd,H0,n,rfl,nk,fit,hw,hnl,hnn,q⟩:=h;refine⟨_,(AW (A1 (Av BV (Ag Bq (pv 1) AK (fun _ _=>rfl)) AX (As _))
   (AV (An (Ag Bq (pv 1) AK (fun _ _=>rfl))))
   BF) (AW (A1 (Av BV (Ag Bq (pv 1) AK (fun _ _=>rfl)) (D6 Dy AK) (As _))
   (AV (An (Al E5 (Al E5 AX (Ag Bq (pv 1) AK (fun _ _=>rfl))) AX)))
   BF) (AV (An (Al E5 (Al E5 AX (BJ GNo hr rfl mNo FNo.kp bNo .nil BB (AE (pv 0) (AE (Ag Bq (pv 1) AK (fun _ _=>rfl)) AI)))) AX))))),?_⟩;obtain⟨b1,b2⟩:=fm;have hnn':=aM (no:=wd.no) hnn;obtain⟨to,nm,no⟩:=wd
  cases to with
  |false=>exact⟨_,rfl,w,_,_,.str "word",rfl,rfl,AN.of hw,rfl,rfl,_,rfl,B1 rfl ⟨_,rfl,w,_,_,.str nm,rfl,rfl,AN.of hw,rfl,q H (AS.refl H)⟩⟩
  |true=>
   refine⟨_,rfl,w,_,_,.str "to",rfl,rfl,AN.of hw,rfl,rfl,_,rfl,CN (by intro z;exact absurd (V.str.inj z) (by ac_rfl)) ⟨_,rfl,w,_,_,.int no,rfl,rfl,AN.of hw,rfl,_,rfl,rfl,_,rfl,?_⟩⟩;by_cases h:no= -1
   ·refine B1 (by rw[h]) ⟨_,rfl,w,_,_,.str nm,rfl,rfl,AN.of hw,rfl,_,_,rfl,rfl,by rw[b1,BA];show 1+nm.length<=_;have:nm.length<=2000:=hnl;lia,_,_,rfl,rfl,by rw[E8,b1,b2,BA];have:nm.length<=2000:=hnl;lia,?_⟩;have:=q H (AS.refl H);have es:shown n.names ⟨true,nm,no⟩="[" ++nm++ "]" :=by unfold shown;rw[AH rfl,AH h]
    rw[es] at this;exact this
   ·refine CN (fun z=>h (V.int.inj z)) ⟨_,rfl,_,rfl,w,_,_,.int no,rfl,rfl,AN.of hw,rfl,a,no,H0,n,rfl,nk,fit,fun H' s'=>⟨_,_,rfl,rfl,by rw[b1,BA];have:(nameOf n.names no).length<=2000:=hnn';lia,_,_,rfl,rfl,by rw[E8,b1,b2,BA];have:(nameOf n.names no).length<=2000:=hnn';lia,?_⟩⟩;have:=q H' s';have es:shown n.names ⟨true,nm,no⟩="[" ++nameOf n.names no++ "]" :=by unfold shown;rw[AH rfl,AG h]
    rw[es] at this;exact this
theorem RZ{α β γ:Type}[DecidableEq α]{R:(α×β)->(α×γ)->Prop}(hR:∀t p,R t p->t.1=p.1)(k:α):∀(l:List (α×β))(m:List (α×γ)),l.length=m.length->(∀(i:Nat) t p,l[i]? =some t->m[i]? =some p->R t p)->
 (AQ l k).length=(AQ m k).length/\∀(i:Nat) t p,(AQ l k)[i]? =some t->(AQ m k)[i]? =some p->R t p
 |[],[],_,_=>⟨rfl,fun i t p e=>by simp[AQ] at e⟩
 |t0::l,p0::m,hl,h=>by
  have h0:=h 0 t0 p0 rfl rfl;obtain⟨e1,e2⟩:=RZ hR k l m (by simpa using hl) fun i t p a b=>h (i+1) t p (by simpa using a) (by simpa using b);have ek:=hR _ _ h0;by_cases c:t0.1=k
  ·have d1:AQ (t0::l) k=AQ l k:=by unfold AQ;rw[Gs];simp[c]
   have d2:AQ (p0::m) k=AQ m k:=by unfold AQ;rw[Gs];simp[<-ek,c]
   rw[d1,d2];exact⟨e1,e2⟩
  ·have d1:AQ (t0::l) k=t0::AQ l k:=by unfold AQ;rw[F6];simp[c]
   have d2:AQ (p0::m) k=p0::AQ m k:=by unfold AQ;rw[F6];simp[<-ek,c]
   rw[d1,d2];refine⟨by rw[CV,CV,e1],fun i t p a b=>?_⟩
   cases i with
   |zero=>
    have a':t0=t:=by simpa using a
    have b':p0=p:=by simpa using b
    rw[<-a',<-b'];exact h0
   |succ i=>exact e2 i t p (by simpa using a) (by simpa using b)
 |[],_::_,hl,_=>by cases hl
 |_::_,[],hl,_=>by cases hl
theorem Cp.O5{tx:List (Int×Addr×List Addr)}(h:Cp H0 H a an at_ tx n)(k:Int):Cp H0 (upd H at_ (.dK (CK (AQ tx k)))) a an at_ (AQ tx k) {n with texts:=AQ n.texts k}:=by obtain⟨e1,e2⟩:=RZ (R:=PL (upd H at_ (.dK (CK (AQ tx k))))) (fun t p r=>r.1) k tx n.texts h.len (h.tab h.ht);exact⟨h.same.upd h.ft,by rw[AO h.ap.xz];exact h.ha,by rw[AO h.ap.yz];exact h.hn,AR,e1,e2,h.fa,h.fn,h.ft,fun t ht=>h.fw t (IH.mp ht).1,h.ap⟩
theorem Fn{α β:Type}[DecidableEq α]{k:α}{v:β}:∀{l:List (α×β)},AF l k=some v->∃i:Nat,l[i]? =some (k,v)
 |[],h=>by cases h
 |p::l,h=>by
  unfold AF at h;rw[Cw] at h;by_cases e:p.1=k
  ·rw[Bj e] at h;have hv:p.2=v:=Ah h;exact⟨0,by rw[<-e,<-hv];rfl⟩
  ·rw[BK e] at h;obtain⟨i,hi⟩:=Fn (l:=l) h;exact⟨i+1,by simpa using hi⟩
theorem Cp.find{tx:List (Int×Addr×List Addr)}(h:Cp H0 H a an at_ tx n)(Cb:(n.texts.map (·.1)).Nodup){k:Int}{CP:List Wd}(hk:AF n.texts k=some CP):
 ∃(l:Addr)(ws:List Addr),AF tx k=some (l,ws)/\H l=some (.lst (ws.map V.ref))/\ws.length=CP.length/\(∀(j:Nat) w wd,ws[j]? =some w->CP[j]? =some wd->H w=some (.lst wd.vq))/\∀w∈ws,H0 w=none:=by
 obtain⟨i,hi⟩:=Fn hk;have hl:i<tx.length:=by rw[h.len];exact(BW.mp hi).1
 have et:tx[i]? =some tx[i]:=Ar hl;generalize tx[i]=t at et;obtain⟨q1,q2,q3,q4⟩:=h.DG i t _ et hi;obtain⟨k',l,ws⟩:=t;have hk':k'=k:=q1;subst hk';exact⟨l,ws,IU (by rw[h.keys];exact Cb) et,q2,q3,q4,h.fw _ (CL et)⟩
theorem Dv{α β:Type}[DecidableEq α]{k j:α}(hne:j≠k):∀l:List (α×β),AF (AQ l k) j=AF l j
 |[]=>rfl
 |p::l=>by
  have ih:=Dv hne l;by_cases c:p.1=k
  ·have d1:AQ (p::l) k=AQ l k:=by unfold AQ;rw[Gs];simp[c]
   rw[d1,ih];unfold AF;rw[Cw,BK (fun z=>hne (z.symm.trans c))]
  ·have d1:AQ (p::l) k=p::AQ l k:=by unfold AQ;rw[F6];simp[c]
   rw[d1];unfold AF at ih⊢;rw[Cw,Cw]
   cases decide (p.1=j) with
   |true=>rfl
   |false=>exact ih
theorem DC{α:Type}[DecidableEq α]{k:α}{l:List (α×β)}(h:(l.map (·.1)).Nodup):((AQ l k).map (·.1)).Nodup:=by unfold AQ;exact h.sublist (List.filter_sublist.map _)
theorem VW{α:Type}[DecidableEq α]{k:α}{v w:β}{l:List (α×β)}(h:AF l k=some w):(AZ l k v).map (·.1)=l.map (·.1):=by
 unfold AZ;obtain⟨i,hi⟩:=Fn h;rw[AH (KA.mpr ⟨_,CL hi,Bj rfl⟩),Bh];refine Fc fun p _=>?_;show(if p.1=k then(p.1,v) else p).1=p.1;by_cases c:p.1=k
 ·rw[AH c]
 ·rw[AG c]
def Nk.joined(n:Nk)(no:Int)(other:Str)(gone:Int)(w1 w2:List Wd):Nk:=({n with names:=AQ n.names other,texts:=AZ (AQ n.texts gone) no (w1++w2)}:Nk).turned gone "" no
def Vj:Sp:=fun vs H Q _=>∃(a:Addr)(no:Int)(other:Str)(H0:Hp)(n:Nk)(gone:Int)(w1 w2:List Wd),vs=[.ref a,.int no,.str other]/\CZ H0 H a n/\Fits n/\AF n.names other=some gone/\AF n.texts no=some w1/\AF n.texts gone=some w2/\no≠gone/\(w1++w2).length<=100000/\
 ∀H',CZ H0 H' a (n.joined no other gone w1 w2)->Q (.int ((n.joined no other gone w1 w2).led no)) H'
theorem Fits.map{n:Nk}{g:Wd->Wd}(h:Fits n):Fits (n.Hu g):=by
 have ek:(n.Hu g).texts.map (·.1)=n.texts.map (·.1):=by show(n.texts.map _).map _=_;rw[Bh];rfl
 refine⟨h.CQ,by rw[ek];exact h.Cb,h.names,?_,fun p hp=>?_⟩
 ·show(n.texts.map _).length<=1000;rw[AL];exact h.texts
 ·obtain⟨q,hq,e⟩:=BY.mp (show p∈n.texts.map _ from hp);rw[<-e];show(q.2.map g).length<=_;rw[AL];exact h.words q hq
theorem Fits.join{gone:Int}{other:Str}{w1 w2:List Wd}(h:Fits n)(h1:AF n.texts no=some w1)(hne:no≠gone)(hl:(w1++w2).length<=100000):Fits {n with names:=AQ n.names other,texts:=AZ (AQ n.texts gone) no (w1++w2)}:=by
 have hg:AF (AQ n.texts gone) no=some w1:=by rw[Dv hne];exact h1
 refine⟨DC h.CQ,?_,BI (F8 _ _) h.names,?_,fun p hp=>?_⟩
 ·show((AZ (AQ n.texts gone) no (w1++w2)).map (·.1)).Nodup;rw[VW hg];exact DC h.Cb
 ·show(AZ (AQ n.texts gone) no (w1++w2)).length<=1000;have:=BZ List.length (VW (v:=w1++w2) hg);rw[AL,AL] at this;rw[this];exact BI (F8 _ _) h.texts
 ·have hp':p∈AZ (AQ n.texts gone) no (w1++w2):=hp;unfold AZ at hp';by_cases c:((AQ n.texts gone).any fun p=>decide (p.1=no))=true
  ·rw[AH c] at hp';obtain⟨q,hq,e⟩:=BY.mp hp';by_cases d:q.1=no
   ·rw[AH d] at e;rw[<-e];exact hl
   ·rw[AG d] at e;rw[<-e];exact h.words q (IH.mp hq).1
  ·rw[AG c] at hp';rcases CB.mp hp' with z|z
   ·exact h.words p (IH.mp z).1
   ·rw[CA.mp z];exact hl
theorem Vi:A0 ["_law_nook","_law_number","_law_other","_law_gone"] ["_law_nook","_law_number","_law_other"] (Ao Oc):=by ac_rfl
theorem cI{fTu fLe:Addr}{fdTu fdLe:FuncData}(F:Ab K "_law_joined" "_law_joined" Oc f fd)(O:Own mg)
 (FTu:Ab K "_law_turned" "_law_turned" MH fTu fdTu)(bTu:Binds K fdTu ["_law_nook","_law_number","_law_name","_law_other"] [])(mTu:mg "_law_turned" =some (.ref fTu))
 (FLe:Ab K "_law_led" "_law_led" Mu fLe fdLe)(bLe:Binds K fdLe ["_law_nook","_law_number"] [])(mLe:mg "_law_led" =some (.ref fLe)):AU P w K mg base Aa 2 f fd ["_law_nook","_law_number","_law_other"] Vj:=by
 have GTu:AU P w K mg base Aa 1 fTu fdTu ["_law_nook","_law_number","_law_name","_law_other"] RC:=VU FTu O;have GLe:AU P w K mg base Aa 1 fLe fdLe ["_law_nook","_law_number"] SH:=XM FLe O;refine F.ok Vi (fun vs H Q E h=>?_) (fun cdv A outer s H vs Q E hr h=>?_)
 ·obtain⟨a,no,other,H0,n,gone,w1,w2,rfl,_⟩:=h;rfl
 ·obtain⟨a,no,other,H0,n,gone,w1,w2,rfl,⟨an,at_,tx,nk⟩,fit,hgo,hw1,hw2,hne,hlen,q⟩:=h;have hu1:=Ce hr;refine⟨_,(AW (Ax (i:=3) Vi.nd rfl (Ad rfl) (IM (BQ hu1 (pv 0) AX (fun _ _=>rfl)) (pv 2) ⟨rfl,rfl,rfl,rfl⟩)) (AW (Eh hu1 (BQ hu1 (pv 0) AX (fun _ _=>rfl)) (pv 1) (Al Kp (BQ hu1 (BQ hu1 (pv 0) AX (fun _ _=>rfl)) (pv 1) (fun _ _=>rfl)) (IM (BQ hu1 (pv 0) AX (fun _ _=>rfl)) (pv 3) ⟨rfl,rfl,rfl,rfl⟩)) rfl) (AW (Bn (BJ GTu hr rfl mTu FTu.kp bTu .nil BB (AE (pv 0) (AE (pv 3) (AE AX (AE (pv 1) AI)))))) (AV (An (BJ GLe hr rfl mLe FLe.kp bLe .nil BB (AE (pv 0) (AE (pv 1) AI)))))))),?_⟩;have v1:Be (FU n.names) (.inr other)=some (.int gone):=by rw[ER E7,hgo];rfl
  refine⟨_,rfl,a,_,rfl,Du nk.ha,an,rfl,.inl ⟨_,.inl nk.hn⟩,_,rfl,_,.inr other,_,nk.hn,rfl,v1,?_⟩;rw[KZ E7];have nk1:=nk.putN (AQ n.names other);generalize upd H an (.dK (FU (AQ n.names other)))=H1 at nk1;obtain⟨l1,ws1,g1,hl1,EZ,at1,new1⟩:=nk1.find (show(n.texts.map (·.1)).Nodup from fit.Cb) hw1;obtain⟨l2,ws2,g2,hl2,K2,at2',new2⟩:=nk1.find (show(n.texts.map (·.1)).Nodup from fit.Cb) hw2;have d1:BN H1 at_ (.int no) (some (.ref l1)):=by have:=BN.kq (k:=.inl no) nk1.ht;rw[ER Ej,g1] at this;exact this
  have v2:Be (CK tx) (.inl gone)=some (.ref l2):=by rw[ER Ej,g2];rfl
  refine⟨_,rfl,a,_,rfl,GG nk1.ha,_,rfl,at_,_,rfl,d1,_,rfl,a,_,rfl,GG nk1.ha,at_,rfl,.inl ⟨_,.inl nk1.ht⟩,_,rfl,_,.inl gone,_,nk1.ht,rfl,v2,?_⟩;rw[KZ Ej];have nk2:=nk1.O5 gone;have keep:∀b xs,H1 b=some (.lst xs)->(upd H1 at_ (.dK (CK (AQ tx gone)))) b=some (.lst xs):=fun b xs e=>by rw[AO (CT e nk1.ht (by intro z;cases z))];exact e
  have hl1':=keep _ _ hl1;have hl2':=keep _ _ hl2;have at1':=fun j w wd (e1:ws1[j]? =some w)(e2:w1[j]? =some wd)=>keep _ _ (at1 j w wd e1 e2);have at2'':=fun j w wd (e1:ws2[j]? =some w)(e2:w2[j]? =some wd)=>keep _ _ (at2' j w wd e1 e2);generalize upd H1 at_ (.dK (CK (AQ tx gone)))=H2 at nk2 hl1' hl2' at1' at2'';rw[BC] at hlen;refine⟨l1,l2,_,_,rfl,rfl,hl1',hl2',by rw[AL,AL,BA];lia,fun l hl=>?_⟩;have s3:AS H2 (upd H2 l (.lst (ws1.map V.ref++ws2.map V.ref))):=Ak hl;have nk3:=nk2.ext s3;have htl:(CK (AQ tx gone)).length<sizeLine:=by
   show((AQ tx gone).map _).length<_;have h1:=F8 (fun p:Int×Addr×List Addr=>decide (p.1≠gone)) tx;have h2:=fit.texts;have h3:=nk.len;rw[AL,BA];show(tx.filter _).length<_
   lia
  have dp:=DP.kq (k:=.inl no) (v:=.ref l) nk3.ht htl;have e2:putK (CK (AQ tx gone)) (.inl no) (.ref l)=CK (AZ (AQ tx gone) no (l,ws1++ws2)):=JL (g:=fun p:Addr×List Addr=>V.ref p.1) Ej no (l,ws1++ws2) (AQ tx gone);rw[e2] at dp;refine⟨_,rfl,a,_,rfl,GG nk3.ha,_,rfl,at_,_,rfl,dp,?_⟩;have nk4:=nk3.Mv no (l:=l) (ws:=ws1++ws2) (CP:=w1++w2) (by rw[AR,BX]) (by rw[BC,BC,EZ,K2]) (fun j w wd e1 e2=>?_) (fun w hw=>(CB.mp hw).elim (new1 w) (new2 w))
  ·have fit4:Fits {n with names:=AQ n.names other,texts:=AZ (AQ n.texts gone) no (w1++w2)}:=fit.join hw1 hne (by rw[BC];exact hlen);refine⟨_,rfl,_,rfl,_,rfl,a,gone,"",no,H0,_,rfl,⟨an,at_,_,nk4⟩,fit4,fun H5 nk5=>?_⟩;exact⟨_,rfl,_,rfl,a,no,H0,_,rfl,nk5,fit4.map,fun H6 s6=>q H6 (let⟨x,y,z,nk⟩:=nk5;⟨x,y,z,nk.ext s6⟩)⟩
  ·by_cases hj:j<ws1.length
   ·rw[C9 hj] at e1;rw[C9 (by lia)] at e2;exact s3 _ _ (at1' j w wd e1 e2)
   ·rw[C4 (by lia)] at e1;rw[C4 (by lia),<-EZ] at e2;exact s3 _ _ (at2'' _ w wd e1 e2)
theorem az(hu:X.A.units<cLine):Bs X (compareOp .Eq) (fun x y H Q=>∃a b xs,x=.ref a/\y=.ref b/\AY [] H a xs/\AY [] H b []/\Q (.bl xs.isEmpty) H):=by intro pins s σ H x y v u Q I rx ry h;obtain⟨a,b,xs,rfl,rfl,ha,hb,q⟩:=h;cases rx;cases ry;obtain⟨AM,r,pl,hz⟩:=I.tuple (K6 ha);obtain⟨its2,r2,pl2,hz2⟩:=I.tuple (K6 hb);cases r2;refine SeqAt.eq_tupleAt (e:=fun _=>true) pl pl2 hu (fun j h1 h2=>absurd h2 (by simp)) ⟨.bl xs.isEmpty,H,I,?_,q⟩;cases r<;>rfl
theorem Ba(r:Rep H (.str z) v):v=.str z:=by cases r;rfl
theorem gO{z:Int}(r:Rep H (.int z) v):v=.int z:=by cases r;rfl
theorem CC(r:Rep H (.tup ds) v):∃a xs,v=.ref a/\H a=some (.tup xs)/\Am H ds xs:=by
 cases r with
 |tup h hl rr=>exact⟨_,_,rfl,h,hl,rr⟩
theorem HN{x y:Dt}{xs:List V}(r:Am H [x,y] xs):∃u v,xs=[u,v]/\Rep H x u/\Rep H y v:=by exact K2 (C:=fun xs=>Am H [x,y] xs->∃u v,xs=[u,v]/\Rep H x u/\Rep H y v) (fun u v r=>⟨u,v,rfl,r.2 0 x u rfl rfl,r.2 1 y v rfl rfl⟩) r.1.symm r
theorem EU{x y z:Dt}{xs:List V}(r:Am H [x,y,z] xs):∃u v w,xs=[u,v,w]/\Rep H x u/\Rep H y v/\Rep H z w:=by exact Sl (C:=fun xs=>Am H [x,y,z] xs->∃u v w,xs=[u,v,w]/\Rep H x u/\Rep H y v/\Rep H z w) (fun u v w r=>⟨u,v,w,rfl,r.2 0 x u rfl rfl,r.2 1 y v rfl rfl,r.2 2 z w rfl rfl⟩) r.1.symm r
theorem O0{x y z t:Dt}{xs:List V}(r:Am H [x,y,z,t] xs):∃u v w q,xs=[u,v,w,q]/\Rep H x u/\Rep H y v/\Rep H z w/\Rep H t q:=by exact Yo (C:=fun xs=>Am H [x,y,z,t] xs->∃u v w q,xs=[u,v,w,q]/\Rep H x u/\Rep H y v/\Rep H z w/\Rep H t q) (fun u v w q r=>⟨u,v,w,q,rfl,r.2 0 x u rfl rfl,r.2 1 y v rfl rfl,r.2 2 z w rfl rfl,r.2 3 t q rfl rfl⟩) r.1.symm r
def BR(n:Nk):A8->Str
 |.find ws _=>if ws=[] then "no words" else ""
 |.back _=>""
 |.write nm _=>if C7 nm=true then "" else "no name"
 |.rename nm o=>if AF n.names nm=none then "no page" else if C7 o=false then "no name" else if AF n.names o=none then "" else "taken"
 |.join nm o=>if AF n.names nm=none then "no page" else if AF n.names o=none then "no page" else if nm=o then "same page" else ""
 |.cut nm p o=>match AF n.names nm with
  |none=>"no page"
  |some no=>if C7 o=false then "no name" else if AF n.names o=none then(if p<0 then "no place" else if((AF n.texts no).getD []).length<p then "no place" else "") else "taken"
 |.drop nm=>if AF n.names nm=none then "no page" else ""
 |.text nm=>if AF n.names nm=none then "no page" else ""
def Vx:Sp:=fun vs H Q _=>∃(a:Addr)(d:V)(dd:A8)(H0:Hp)(n:Nk),vs=[.ref a,d]/\CZ H0 H a n/\Fits n/\Rep H dd.dt d/\dd.Good/\(∀nm no,AF n.names nm=some no->∃ws,AF n.texts no=some ws)/\∀H',AS H H'->Q (.str (BR n dd)) H'
theorem Dw(h:H an=some (.dK (FU names)))(z:Str):BN H an (.str z) ((AF names z).map V.int):=by have:=BN.kq (k:=.inr z) h;rw[ER E7] at this;exact this
section
variable{y:Str}{a rest:TS}{t:TT}{D:Ends}
theorem Bb(hx:σ[i]? =some (some (.str x)))(ne:x≠y)(h:rest D σ H):Il (Gf (Ja (F0 LP (D9 i) (tC (.str y)))) a Je) rest D σ H:=⟨_,hx,rfl,_,rfl,CN (fun z=>ne (V.str.inj z)) h⟩
theorem Ir(hx:σ[i]? =some (some (.str y)))(h:a {D with nx:=rest D} σ H):Il (Gf (Ja (F0 LP (D9 i) (tC (.str y)))) a Je) rest D σ H:=⟨_,hx,rfl,_,rfl,B1 rfl h⟩
theorem DQ(hx:σ[i]? =some (some (.str x)))(ne:x≠y)(h:rest D σ H):Il (Gf (Sy (Ja (F0 LP (D9 i) (tC (.str y)))) t) a Je) rest D σ H:=⟨_,hx,rfl,_,rfl,CN (fun z=>ne (V.str.inj z)) (BM h)⟩
theorem nS(hx:σ[i]? =some (some (.str y)))(h:rest D σ H):Il (Gf (Sy (Ja (F0 Za (D9 i) (tC (.str y)))) t) a Je) rest D σ H:=⟨_,hx,rfl,_,rfl,D5 rfl (BM h)⟩
end
variable{d:Addr}
section
variable{y:Str}{a rest:TS}{t:TT}{D:Ends}
theorem HW{vs:List V}(hx:σ[i]? =some (some (.ref d)))(hd:H d=some (.tup (.str x::vs)))(ne:x≠y)(h:rest D σ H):Il (Gf (Ja (F0 LP (F0 (Ms []) (D9 i) (tC (.int 0))) (tC (.str y)))) a Je) rest D σ H:=⟨_,hx,d,_,_,.str x,rfl,rfl,AY.of hd,Bv (j:=0) rfl,rfl,_,rfl,CN (fun z=>ne (V.str.inj z)) h⟩
theorem Pw{vs:List V}(hx:σ[i]? =some (some (.ref d)))(hd:H d=some (.tup (.str y::vs)))(h:a {D with nx:=rest D} σ H):Il (Gf (Ja (F0 LP (F0 (Ms []) (D9 i) (tC (.int 0))) (tC (.str y)))) a Je) rest D σ H:=⟨_,hx,d,_,_,.str y,rfl,rfl,AY.of hd,Bv (j:=0) rfl,rfl,_,rfl,B1 rfl h⟩
end
theorem RF:A0 ["_law_nook","_law_deed","_law_names","_law_word"] ["_law_nook","_law_deed"] (Ao Og):=by ac_rfl
set_option maxHeartbeats 2000000 in
theorem cG{fIs:Addr}{fdIs:FuncData}(F:Ab K "_law_barred" "_law_barred" Og f fd)(O:Own mg)(FIs:Ab K "_law_is_name" "_law_is_name" MG fIs fdIs)(bIs:Binds K fdIs ["_law_text"] [])(mIs:mg "_law_is_name" =some (.ref fIs)):
 AU P w K mg base Aa 2 f fd ["_law_nook","_law_deed"] Vx:=by
 have GIs:AU P w K mg base Aa 1 fIs fdIs ["_law_text"] RB:=VL FIs;refine F.ok RF (fun vs H Q E h=>?_) (fun cdv A outer s H vs Q E hr h=>?_)
 ·obtain⟨a,d,dd,H0,n,rfl,_⟩:=h;rfl
 ·obtain⟨a,dv,dd,H0,n,rfl,⟨an,at_,tx,nk⟩,fit,rd,gd,BE,q⟩:=h;have hu:=hr.Rw;have hu1:=Ce hr;refine⟨_,(AW (Ax (i:=2) RF.nd rfl (Ad rfl) (BQ hu1 (pv 0) AX (fun _ _=>rfl))) (AW (Ax (i:=3) RF.nd rfl (Ad rfl) (Ag BS (pv 1) AK (fun _ _=>rfl))) (AW (A1 (Av BV (pv 3) AX (As _))
   (AV (An (Ag Bq (CY (AE AX (AE AX AI))) (E6 L3 rfl O.int Kn (AE (Hl (az hu) (Ag BS (pv 1) AK (fun _ _=>rfl)) (Cd AI) (As _)) AI)) (fun _ _=>rfl))))
   BF) (AW (A1 (Av BV (pv 3) AX (As _))
   (AV (An AX))
   BF) (AW (A1 (PW.pt (Eo (Av Gd (pv 3) AX (As _)) (GL (IV (N7 hu1 (Ag BS (pv 1) AK (fun _ _=>rfl)) (pv 2))))))
   (AV (An AX))
   BF) (AW (A1 (PW.pt (Eo (Av BV (pv 3) AX (As _)) (GL (IV (N7 hu1 (Ag BS (pv 1) AK (fun _ _=>rfl)) (pv 2))))))
   (AV (An AX))
   BF) (AW (A1 (PW.pt (Eo (Av BV (pv 3) AX (As _)) (GL (JW (Em (BJ GIs hr rfl mIs FIs.kp bIs .nil BB (AE (Ag BS (pv 1) AK (fun _ _=>rfl)) AI)))))))
   (AV (An AX))
   BF) (AW (A1 (Av mq (pv 3) (CY (AE AX (AE AX AI))) rfl)
   (AW (A1 (JW (Em (BJ GIs hr rfl mIs FIs.kp bIs .nil BB (AE (Ag BS (pv 1) (D6 Dy AK) (fun _ _=>rfl)) AI))))
   (AV (An AX))
   BF) (AV (A1 (IV (Xg hu1 (Ag BS (pv 1) (D6 Dy AK) (fun _ _=>rfl)) (pv 2)))
   (AV (An AX))
   BF)))
   BF) (AW (A1 (PW.pt (Eo (Av BV (pv 3) AX (As _)) (GL (Av BV (Ag BS (pv 1) AK (fun _ _=>rfl)) (Ag BS (pv 1) AK (fun _ _=>rfl)) (As _)))))
   (AV (An AX))
   BF) (AW (A1 (PW.pt (Eo (Av BV (pv 3) AX (As _)) (GL (PW.pt (Jb (Av IZ (Ag BS (pv 1) AK (fun _ _=>rfl)) AK (As _)) (JS (Av SU (Ag BS (pv 1) AK (fun _ _=>rfl)) (Bc Hq rfl O.len Dg (AE (BQ hu1 (BQ hu1 (pv 0) AX (fun _ _=>rfl)) (BQ hu1 (pv 2) (Ag BS (pv 1) AK (fun _ _=>rfl)) (fun _ _=>rfl)) (fun _ _=>rfl)) AI)) (As _))))))))
   (AV (An AX))
   BF) (AV (An AX)))))))))))),?_⟩;refine⟨_,rfl,a,_,rfl,Du nk.ha,?_⟩;have q0:=q H (AS.refl H)
  cases dd with
  |back o=>obtain⟨d,xs,rfl,hd,rs⟩:=CC rd;obtain⟨u,v,rfl,r1,r2⟩:=HN rs;cases Ba r1;cases Ba r2;refine⟨_,rfl,d,_,_,.str "back",rfl,rfl,AY.of hd,rfl,?_⟩;refine Bb rfl (by ac_rfl) ?_;exact Ir rfl q0
  |find ws far=>
   obtain⟨d,xs,rfl,hd,rs⟩:=CC rd;obtain⟨u,v,x,rfl,r1,r2,r3⟩:=EU rs;cases Ba r1;obtain⟨t,ys,rfl,ht,ry⟩:=CC r2;refine⟨_,rfl,d,_,_,.str "find",rfl,rfl,AY.of hd,rfl,?_⟩;refine⟨_,rfl,rfl,_,rfl,B1 rfl ⟨by show 2<=sizeLine;decide,fun l hl=>?_⟩⟩;have s1:AS H (upd H l (.lst [V.str "",V.str "no words"])):=Ak hl;refine⟨_,rfl,d,_,_,.ref t,rfl,rfl,AY.of (s1 _ _ hd),rfl,by show 0<=sizeLine;decide,fun e he=>?_⟩;have s2:=Ak (o:=.tup []) he;have hly:=ry.1;rw[AL] at hly;refine⟨t,e,ys,rfl,rfl,AY.of (s2 _ _ (s1 _ _ ht)),AY.of AR,.inr ⟨_,rfl,l,_,_,.str (BR n (.find ws far)),rfl,rfl,AN.of (s2 _ _ AR),?_,q _ (s1.trans s2)⟩⟩
   cases ws with
   |nil=>
    cases ys with
    |nil=>rfl
    |cons y ys=>cases hly
   |cons w ws=>
    cases ys with
    |nil=>cases hly
    |cons y ys=>rfl
  |write nm t=>
   obtain⟨d,xs,rfl,hd,rs⟩:=CC rd;obtain⟨u,v,x,rfl,r1,r2,r3⟩:=EU rs;cases Ba r1;cases Ba r2;cases Ba r3;refine⟨_,rfl,d,_,_,.str "write",rfl,rfl,AY.of hd,rfl,?_⟩;refine Bb rfl (by ac_rfl) ?_;refine Bb rfl (by ac_rfl) ?_;refine nS rfl ?_;refine DQ rfl (by ac_rfl) ?_;refine⟨_,rfl,rfl,_,rfl,B1 rfl ⟨_,rfl,d,_,_,.str nm,rfl,rfl,AY.of hd,rfl,nm,rfl,by have:=gd.1;lia,fun H2 s2=>⟨_,rfl,?_⟩⟩⟩;have q2:=q H2 s2
   cases hn:C7 nm with
   |false=>
    have eb:BR n (.write nm t)="no name" :=by show(if C7 nm=true then _ else _)=_;rw[hn];rfl
    rw[eb] at q2;exact Bf q2
   |true=>
    have eb:BR n (.write nm t)="" :=by show(if C7 nm=true then _ else _)=_;rw[hn];rfl
    refine BM ?_;refine⟨_,rfl,by show 2<=sizeLine;decide,fun l hl=>⟨l,_,rfl,.inl (AN.of AR),rfl,rfl,false,BZ V.bl (by ac_rfl),BM ?_⟩⟩;refine DQ rfl (by ac_rfl) ?_;refine DQ rfl (by ac_rfl) ?_;have q3:=q _ (s2.trans (Ak (o:=.lst [V.str "rename",V.str "cut"]) hl));rw[eb] at q3;exact q3
  |drop nm=>
   obtain⟨d,xs,rfl,hd,rs⟩:=CC rd;obtain⟨u,v,rfl,r1,r2⟩:=HN rs;cases Ba r1;cases Ba r2;refine⟨_,rfl,d,_,_,.str "drop",rfl,rfl,AY.of hd,rfl,?_⟩;refine Bb rfl (by ac_rfl) ?_;refine Bb rfl (by ac_rfl) ?_;refine⟨_,rfl,rfl,_,rfl,Ga (by intro z;exact absurd (V.str.inj z) (by ac_rfl)) ⟨_,rfl,d,_,_,.str nm,rfl,rfl,AY.of hd,rfl,_,rfl,an,_,rfl,Dw nk.hn nm,_,rfl,?_⟩⟩
   cases hg:AF n.names nm with
   |none=>
    have eb:BR n (.drop nm)="no page" :=by unfold BR;simp only[hg,CG]
    rw[eb] at q0;exact Bf q0
   |some no=>
   refine BM ?_;refine DQ rfl (by ac_rfl) ?_;refine DQ rfl (by ac_rfl) ?_;refine⟨_,rfl,by show 2<=sizeLine;decide,fun l hl=>⟨l,_,rfl,.inl (AN.of AR),rfl,rfl,false,BZ V.bl (by ac_rfl),?_⟩⟩;have s1:AS H (upd H l (.lst [V.str "rename",V.str "cut"])):=Ak hl;generalize upd H l (.lst [V.str "rename",V.str "cut"])=H1 at s1⊢;have q1:=q H1 s1;refine BM ?_;refine DQ rfl (by ac_rfl) ?_;refine DQ rfl (by ac_rfl) ?_;have eb:BR n (.drop nm)="" :=by unfold BR;simp only[hg,Bp,reduceCtorEq]
   rw[eb] at q1;exact q1
  |text nm=>
   obtain⟨d,xs,rfl,hd,rs⟩:=CC rd;obtain⟨u,v,rfl,r1,r2⟩:=HN rs;cases Ba r1;cases Ba r2;refine⟨_,rfl,d,_,_,.str "text",rfl,rfl,AY.of hd,rfl,?_⟩;refine Bb rfl (by ac_rfl) ?_;refine Bb rfl (by ac_rfl) ?_;refine⟨_,rfl,rfl,_,rfl,Ga (by intro z;exact absurd (V.str.inj z) (by ac_rfl)) ⟨_,rfl,d,_,_,.str nm,rfl,rfl,AY.of hd,rfl,_,rfl,an,_,rfl,Dw nk.hn nm,_,rfl,?_⟩⟩
   cases hg:AF n.names nm with
   |none=>
    have eb:BR n (.text nm)="no page" :=by unfold BR;simp only[hg,CG]
    rw[eb] at q0;exact Bf q0
   |some no=>
   refine BM ?_;refine DQ rfl (by ac_rfl) ?_;refine DQ rfl (by ac_rfl) ?_;refine⟨_,rfl,by show 2<=sizeLine;decide,fun l hl=>⟨l,_,rfl,.inl (AN.of AR),rfl,rfl,false,BZ V.bl (by ac_rfl),?_⟩⟩;have s1:AS H (upd H l (.lst [V.str "rename",V.str "cut"])):=Ak hl;generalize upd H l (.lst [V.str "rename",V.str "cut"])=H1 at s1⊢;have q1:=q H1 s1;refine BM ?_;refine DQ rfl (by ac_rfl) ?_;refine DQ rfl (by ac_rfl) ?_;have eb:BR n (.text nm)="" :=by unfold BR;simp only[hg,Bp,reduceCtorEq]
   rw[eb] at q1;exact q1
  |join nm o=>
   obtain⟨d,xs,rfl,hd,rs⟩:=CC rd;obtain⟨u,v,x,rfl,r1,r2,r3⟩:=EU rs;cases Ba r1;cases Ba r2;cases Ba r3;refine⟨_,rfl,d,_,_,.str "join",rfl,rfl,AY.of hd,rfl,?_⟩;refine Bb rfl (by ac_rfl) ?_;refine Bb rfl (by ac_rfl) ?_;refine⟨_,rfl,rfl,_,rfl,Ga (by intro z;exact absurd (V.str.inj z) (by ac_rfl)) ⟨_,rfl,d,_,_,.str nm,rfl,rfl,AY.of hd,rfl,_,rfl,an,_,rfl,Dw nk.hn nm,_,rfl,?_⟩⟩
   cases hg:AF n.names nm with
   |none=>
    have eb:BR n (.join nm o)="no page" :=by unfold BR;simp only[hg,CG]
    rw[eb] at q0;exact Bf q0
   |some no=>
   refine BM ?_;refine⟨_,rfl,rfl,_,rfl,B1 rfl ⟨_,rfl,d,_,_,.str o,rfl,rfl,AY.of hd,rfl,_,rfl,an,_,rfl,Dw nk.hn o,_,rfl,?_⟩⟩
   cases ho:AF n.names o with
   |none=>
    have eb:BR n (.join nm o)="no page" :=by unfold BR;simp only[hg,ho,CG,Bp,reduceCtorEq]
    rw[eb] at q0;exact Bf q0
   |some no2=>
   refine BM ?_;refine DQ rfl (by ac_rfl) ?_;refine⟨_,rfl,by show 2<=sizeLine;decide,fun l hl=>⟨l,_,rfl,.inl (AN.of AR),rfl,rfl,false,BZ V.bl (by ac_rfl),?_⟩⟩;have s1:AS H (upd H l (.lst [V.str "rename",V.str "cut"])):=Ak hl;generalize upd H l (.lst [V.str "rename",V.str "cut"])=H1 at s1⊢;have q1:=q H1 s1;refine BM ?_;refine⟨_,rfl,rfl,_,rfl,B1 rfl ⟨_,rfl,d,_,_,.str nm,rfl,rfl,AY.of (s1 _ _ hd),rfl,_,rfl,d,_,_,.str o,rfl,rfl,AY.of (s1 _ _ hd),rfl,rfl,_,rfl,?_⟩⟩;by_cases he:nm=o
   ·have eb:BR n (.join nm o)="same page" :=by unfold BR;simp only[hg,ho,Bp,reduceCtorEq];rw[AH he]
    rw[eb] at q1;exact B1 (by rw[he]) q1
   ·refine CN (fun z=>he (V.str.inj z)) ?_;refine DQ rfl (by ac_rfl) ?_;have eb:BR n (.join nm o)="" :=by unfold BR;simp only[hg,ho,Bp,reduceCtorEq];rw[AG he]
    rw[eb] at q1;exact q1
  |rename nm o=>
   obtain⟨d,xs,rfl,hd,rs⟩:=CC rd;obtain⟨u,v,x,rfl,r1,r2,r3⟩:=EU rs;cases Ba r1;cases Ba r2;cases Ba r3;refine⟨_,rfl,d,_,_,.str "rename",rfl,rfl,AY.of hd,rfl,?_⟩;refine Bb rfl (by ac_rfl) ?_;refine Bb rfl (by ac_rfl) ?_;refine⟨_,rfl,rfl,_,rfl,Ga (by intro z;exact absurd (V.str.inj z) (by ac_rfl)) ⟨_,rfl,d,_,_,.str nm,rfl,rfl,AY.of hd,rfl,_,rfl,an,_,rfl,Dw nk.hn nm,_,rfl,?_⟩⟩
   cases hg:AF n.names nm with
   |none=>
    have eb:BR n (.rename nm o)="no page" :=by unfold BR;simp only[hg,CG]
    rw[eb] at q0;exact Bf q0
   |some no=>
   refine BM ?_;refine DQ rfl (by ac_rfl) ?_;refine DQ rfl (by ac_rfl) ?_;refine⟨_,rfl,by show 2<=sizeLine;decide,fun l hl=>⟨l,_,rfl,.inl (AN.of AR),rfl,rfl,true,BZ V.bl (by ac_rfl),?_⟩⟩;have s1:AS H (upd H l (.lst [V.str "rename",V.str "cut"])):=Ak hl;generalize upd H l (.lst [V.str "rename",V.str "cut"])=H1 at s1⊢;have q1:=q H1 s1;refine Bf ⟨_,rfl,_,rfl,d,_,_,.str o,rfl,rfl,AY.of (s1 _ _ hd),rfl,o,rfl,by have:=gd.2;lia,fun H2 s2=>⟨_,rfl,?_⟩⟩;have s12:=s1.trans s2;have q2:=q H2 s12;have nk2:=nk.ext s12
   cases hn:C7 o with
   |false=>
    have eb:BR n (.rename nm o)="no name" :=by unfold BR;simp only[hg,hn,CG,Bp,reduceCtorEq]
    rw[eb] at q2;exact Bf q2
   |true=>
   refine BM ⟨_,rfl,_,rfl,d,_,_,.str o,rfl,rfl,AY.of (s12 _ _ hd),rfl,_,rfl,an,_,rfl,Dw nk2.hn o,_,rfl,?_⟩
   cases ho:AF n.names o with
   |some no2=>
    have eb:BR n (.rename nm o)="taken" :=by unfold BR;simp only[hg,hn,ho,Bp,reduceCtorEq,Lg]
    rw[eb] at q2;exact Bf q2
   |none=>
   refine BM ?_;refine DQ rfl (by ac_rfl) ?_;refine DQ rfl (by ac_rfl) ?_;have eb:BR n (.rename nm o)="" :=by unfold BR;simp only[hg,hn,ho,CG,Bp,reduceCtorEq,Lg]
   rw[eb] at q2;exact q2
  |cut nm p o=>
   obtain⟨d,xs,rfl,hd,rs⟩:=CC rd;obtain⟨u,v,x,y,rfl,r1,r2,r3,r4⟩:=O0 rs;cases Ba r1;cases Ba r2;cases gO r3;cases Ba r4;refine⟨_,rfl,d,_,_,.str "cut",rfl,rfl,AY.of hd,rfl,?_⟩;refine Bb rfl (by ac_rfl) ?_;refine Bb rfl (by ac_rfl) ?_;refine⟨_,rfl,rfl,_,rfl,Ga (by intro z;exact absurd (V.str.inj z) (by ac_rfl)) ⟨_,rfl,d,_,_,.str nm,rfl,rfl,AY.of hd,rfl,_,rfl,an,_,rfl,Dw nk.hn nm,_,rfl,?_⟩⟩
   cases hg:AF n.names nm with
   |none=>
    have eb:BR n (.cut nm p o)="no page" :=by unfold BR;simp only[hg,CG]
    rw[eb] at q0;exact Bf q0
   |some no=>
   refine BM ?_;refine DQ rfl (by ac_rfl) ?_;refine DQ rfl (by ac_rfl) ?_;refine⟨_,rfl,by show 2<=sizeLine;decide,fun l hl=>⟨l,_,rfl,.inl (AN.of AR),rfl,rfl,true,BZ V.bl (by ac_rfl),?_⟩⟩;have s1:AS H (upd H l (.lst [V.str "rename",V.str "cut"])):=Ak hl;generalize upd H l (.lst [V.str "rename",V.str "cut"])=H1 at s1⊢;have q1:=q H1 s1;refine Bf ⟨_,rfl,_,rfl,d,_,_,.str o,rfl,rfl,AY.of (s1 _ _ hd),rfl,o,rfl,by have:=gd.2;lia,fun H2 s2=>⟨_,rfl,?_⟩⟩;have s12:=s1.trans s2;have q2:=q H2 s12;have nk2:=nk.ext s12
   cases hn:C7 o with
   |false=>
    have eb:BR n (.cut nm p o)="no name" :=by unfold BR;simp only[hg,hn,CG,Bp,reduceCtorEq]
    rw[eb] at q2;exact Bf q2
   |true=>
   refine BM ⟨_,rfl,_,rfl,d,_,_,.str o,rfl,rfl,AY.of (s12 _ _ hd),rfl,_,rfl,an,_,rfl,Dw nk2.hn o,_,rfl,?_⟩
   cases ho:AF n.names o with
   |some no2=>
    have eb:BR n (.cut nm p o)="taken" :=by unfold BR;simp only[hg,hn,ho,Bp,reduceCtorEq,Lg]
    rw[eb] at q2;exact Bf q2
   |none=>
   refine BM ?_;refine DQ rfl (by ac_rfl) ?_;obtain⟨ws,hws⟩:=BE nm no hg;obtain⟨l1,ws1,g1,hl1,EZ,_,_⟩:=nk2.find fit.Cb hws;have d1:BN H2 at_ (.int no) (some (.ref l1)):=by have:=BN.kq (k:=.inl no) nk2.ht;rw[ER Ej,g1] at this;exact this
   have d2:BN H2 an (.str nm) (some (.int no)):=by have:=Dw nk2.hn nm;rw[hg] at this;exact this
   refine⟨_,rfl,rfl,_,rfl,B1 rfl ⟨_,rfl,d,_,_,.int p,rfl,rfl,AY.of (s12 _ _ hd),rfl,_,_,rfl,rfl,_,rfl,?_⟩⟩;by_cases hp:p<0
   ·have eb:BR n (.cut nm p o)="no place" :=by unfold BR;simp only[hg,hn,ho,CG,Bp,reduceCtorEq,Lg];rw[AH hp]
    rw[eb] at q2;exact B1 hp (Bf q2)
   ·refine CN hp ⟨_,rfl,d,_,_,.int p,rfl,rfl,AY.of (s12 _ _ hd),rfl,_,rfl,a,_,rfl,GG nk2.ha,_,rfl,_,rfl,d,_,_,.str nm,rfl,rfl,AY.of (s12 _ _ hd),rfl,an,_,rfl,d2,at_,_,rfl,d1,l1,_,rfl,.inl (AN.of hl1),_,_,rfl,rfl,_,rfl,?_⟩;rw[AL,EZ];by_cases hq:(ws.length:Int)<p
    ·have eb:BR n (.cut nm p o)="no place" :=by unfold BR;simp only[hg,hn,ho,hws,CG,Bp,reduceCtorEq,Lg,Option.getD_some];rw[AG hp,AH hq]
     rw[eb] at q2;exact B1 hq q2
    ·have eb:BR n (.cut nm p o)="" :=by unfold BR;simp only[hg,hn,ho,hws,CG,Bp,reduceCtorEq,Lg,Option.getD_some];rw[AG hp,AG hq]
     rw[eb] at q2;exact CN hq q2
noncomputable def Cg(C:Addr)(dd:Option Addr)(vs:Array Value):Obj:={cls:=.ref C,dict:=dd,data:=.fields vs}
def Hd(h:Heap)(e:Addr)(vs:Array Value):Prop:=
 vs[1]? =some .none\/∃T oT ts,vs[1]? =some (.ref T)/\T≠e/\h.get? T=some oT/\oT.data=.fields ts/\ts[3]? =some .none
structure Lv(fs:List Addr)(e C:Addr)(dd:Option Addr)(vs:Array Value)(h h':Heap):Prop where
 keep:∀b o,h.get? b=some o->b∉fs->b≠e->(∀T,vs[1]? =some (.ref T)->b≠T)->h'.get? b=some o
 slot:∀b o,h.get? b=some o->b∈fs->∃sl,h'.get? b=some {o with slots:=sl}
 size:h.objs.size<=h'.objs.size
 here:∃T oT ts,h'.get? e=some (Cg C dd (vs.setIfInBounds 1 (.ref T)))/\h.objs.size<=T/\h'.get? T=some oT/\oT.data=.fields ts/\ts[3]? =some .none
theorem U0{l:List Env}(hl:h.FunFrames base l)(hb:h.get? b=some o)(hd:o.data=.fields vs):b∉Ci l:=fun hm=>by obtain⟨_,u,hu,hn⟩:=hl.mem hm;rw[hb] at hu;cases hu;exact hn vs hd
variable{dd:Option Addr}
theorem W3{e:Addr}{head:Value}{hn:Bool}{Q:Unit->Shared->Prop}
 (hfr:A.frames=some (env::outer))(hl:s.heap.FunFrames base (env::outer))(hf:env.frame=some L)(he:s.heap.get? e=some (Cg C dd vs))(hz:1<vs.size)
 (h:∀h',(∀b o,s.heap.get? b=some o->b∉Ci (env::outer)->b≠e->h'.get? b=some o)->(∀b o,s.heap.get? b=some o->b∈Ci (env::outer)->∃sl,h'.get? b=some {o with slots:=sl})->
  s.heap.objs.size<=h'.objs.size->(∃T oT ts,h'.get? e=some (Cg C dd (vs.setIfInBounds 1 (.ref T)))/\s.heap.objs.size<=T/\h'.get? T=some oT/\oT.data=.fields ts/\ts[3]? =some .none)->Q () {s with heap:=h'}):
 wpAny M A (do
  let a<-frameOf env;let pl<-entryPlaceOf L hn;let b<-EntryCells.newEntry head a .none (rawInt L) .none pl
  setField (.ref e) 1 b) (fun _ s'=>wpAny M A (setFlight (.ref e) none) Q E s') E s:=by
 have nf:e∉Ci (env::outer):=U0 hl he rfl;refine AJ (wpAny_frameOf_fun hfr hl hf fun h1 q1=>?_);obtain⟨z1,k1,sl1⟩:=q1;have e1:h1.get? e=some (Cg C dd vs):=(k1 e nf).trans he;refine AJ (wpAny_entryPlaceOf fun pl hpl=>?_);unfold EntryCells.newEntry newFields;refine AJ (Hc ?_ (hpl.sizeOk5 _ _ _ _ _));generalize hrec:(([head,Value.ref L,Value.none,rawInt L,Value.none]++(if pl.isEmpty then List.replicate 6 Value.none else pl)).toArray)=rec_;have z3:3<rec_.size:=by rw[<-hrec,CU,BC];simp only[CV,KG];lia
 have Tn:h1.objs.size≠e:=EN (Aw e1);have e2:=A7 {cls:=.type "traceback",dict:=none,data:=.fields rec_} e1;refine Nl e2 rfl hz ?_;have e3:=IC (Obj.mapFields (·.setIfInBounds 1 (Value.ref h1.objs.size))) e2 rfl;have t3:((h1.push {cls:=.type "traceback",dict:=none,data:=.fields rec_}).update e (Obj.mapFields (·.setIfInBounds 1 (Value.ref h1.objs.size)))).get? h1.objs.size=some {cls:=.type "traceback",dict:=none,data:=.fields rec_}:=
  (Dc _ _ (C5 Tn)).trans (Bx h1 rfl);unfold setFlight;refine AJ (JF e3 rfl (x:=.ref h1.objs.size) (by simp[hz]) ?_);rw[AH (show(Value.ref h1.objs.size !=Value.none)=true from by simp)];refine Nl t3 rfl z3 (h _ (fun b o hb nb ne=>?_) (fun b o hb mb=>?_) ?_ ⟨h1.objs.size,_,_,?_,Nat.le_of_eq z1.symm,IC _ t3 rfl,rfl,by simp[z3]⟩)
 ·have hb1:=(k1 b nb).trans hb;rw[Dc _ _ (EN (Aw hb1)),Dc _ _ (C5 ne)];exact A7 _ hb1
 ·obtain⟨sl,hb1⟩:=sl1 b o hb;refine⟨sl,?_⟩;rw[Dc _ _ (EN (Aw hb1)),Dc _ _ (show e≠b from fun z=>nf (by rw[z];exact mb))];exact A7 _ hb1
 ·rw[NQ,NQ,GF,z1];exact EO _
 ·rw[Dc _ _ Tn];exact e3
theorem XU{e:Addr}{Q:Unit->Shared->Prop}
 (hfr:A.frames=some (env::outer))(hl:s.heap.FunFrames base (env::outer))(hf:env.frame=some L)(he:s.heap.get? e=some (Cg C dd vs))(hz:1<vs.size)(hh:Hd s.heap e vs)
 (h:∀h',Lv (Ci (env::outer)) e C dd vs s.heap h'->Q () {s with heap:=h'}):
 wpAny M A (noteFrame (.ref e) env) (fun _ s'=>wpAny M A (setFlight (.ref e) none) Q E s') E s:=by
 unfold noteFrame;simp only[hf];rcases hh with h1|⟨T,oT,ts,h1,nT,hT,dT,h3⟩
 ·refine AJ (JF he rfl h1 ?_);rw[AG (by decide)];exact W3 hfr hl hf he hz fun h' a b c d=>h h' ⟨fun x o q n1 n2 _=>a x o q n1 n2,b,c,d⟩
 ·refine AJ (JF he rfl h1 ?_);rw[AH (show(Value.ref T !=Value.none)=true from by simp)];refine AJ (JF hT dT h3 ?_);rw[AG (show¬((Value.none==rawInt L)=true) from by simp[rawInt])];refine AJ (Nl hT dT (Array.getElem?_eq_some_iff.mp h3).1 ?_);have ot:∀b,b≠T->(s.heap.update T (Obj.mapFields (·.setIfInBounds 3 Value.none))).get? b=s.heap.get? b:=fun b hb=>Dc _ _ (C5 hb);have nfT:T∉Ci (env::outer):=U0 hl hT dT;refine W3 (s:={s with heap:=s.heap.update T (Obj.mapFields (·.setIfInBounds 3 Value.none))}) hfr
   (hl.of_keeps fun b o hb hnf=>⟨o,(ot b fun z=>hnf ts (by subst z;rw[hT] at hb;cases hb;exact dT)).trans hb,rfl⟩) hf ((ot e (C5 nT)).trans he) hz fun h' a b c d=>h h' ⟨fun x o q n1 n2 n3=>a x o ((ot x (n3 T h1)).trans q) n1 n2,fun x o q m=>b x o ((ot x fun z=>nfT (z▸m)).trans q) m,?_,?_⟩
  ·have:=c;rw[NQ] at this;exact this
  ·have:=d;rw[NQ] at this;exact this
theorem jL{e:Addr}{T:Addr}{oT:Obj}{ts:Array Value}{Q:Unit->Shared->Prop}
 (he:s.heap.get? e=some (Cg C dd vs))(h1:vs[1]? =some (.ref T))(hT:s.heap.get? T=some oT)(dT:oT.data=.fields ts)(h3:ts[3]? =some .none)
 (h:∀h',(∀b,b≠T->h'.get? b=s.heap.get? b)->(∃o,h'.get? T=some o)->h'.objs.size=s.heap.objs.size->Q () {s with heap:=h'}):wpAny M A (setFlight (.ref e) none) Q E s:=by
 unfold setFlight;refine AJ (JF he rfl h1 ?_);rw[AH (show(Value.ref T !=Value.none)=true from by simp)];exact Nl hT dT (Array.getElem?_eq_some_iff.mp h3).1 (h _ (fun b hb=>Dc _ _ (C5 hb)) ⟨_,IC _ hT (Obj.isFreed_of_fields (Obj.data_mapFields dT _))⟩ (NQ ..))
def Fv(h:Heap)(C:Addr)(bm:List Value)(N:Addr):Prop:=
 ∃nm q bs hdct sn sub ab col dd k0 k1 k2 k3 k5,h.get? C=some (excClassObj nm q C N bs bm hdct sn sub ab col dd k0 k1 k2 k3 k5 "Exception.__new__")
variable{bm:List Value}
theorem Fv.keeps{N:Addr}(x:Fv h C bm N)(k:∀b o,h.get? b=some o->h'.get? b=some o):Fv h' C bm N:=by obtain⟨a1,a2,a3,a4,a5,a6,a7,a8,a9,b1,b2,b3,b4,b5,hC⟩:=x;exact⟨a1,a2,a3,a4,a5,a6,a7,a8,a9,b1,b2,b3,b4,b5,k _ _ hC⟩
structure Hs(bm:List Value):Prop where
 exc:bm.contains (.type "Exception")=true
 base:bm.contains (.type "BaseException")=true
 Iq:bm.contains (.type "AttributeError")=false
 ZW:bm.contains (.type "NameError")=false
section
variable{g:Array GenState}{d:Drawn}{t:Nat}{N:Addr}{rest:List Value}
theorem HI{v:Value}{b:Bool}(e:bm.contains v=b)(hv:(v==Value.ref C)=false):(Value.ref C::bm).contains v=b:=by rw[QG,hv,Qo];exact e
theorem dO(xc:Fv h C bm N)(ln:Hs bm){Q:Unit->Shared->Prop}(hq:Q () ⟨h,g,d,t,os⟩):wpAny M A (checkBuiltinCall "Exception.__new__" ⟨.ref C::rest,[]⟩) Q E ⟨h,g,d,t,os⟩:=by
 obtain⟨a1,a2,a3,a4,a5,a6,a7,a8,a9,b1,b2,b3,b4,b5,cAt⟩:=xc;have cE:(Value.ref C::bm).contains (.type "Exception")=true:=HI ln.exc rfl;have star:=IA.noStar;simp only[checkBuiltinCall,IA.newKind,IA.newSplit,IA.newRow];repeat (first|refine IE cAt ?_|(refine Lc cAt ?_;rw[cE])|refine wpAny_staticBase_exc cAt ?_|refine wpAny_madeBy_exc cAt ?_|simp only[I9,DA,Bp]|wp_step)
 exact hq
abbrev Ia(h:Heap)(C:Addr)(rest:List Value):Heap:=(h.push {cls:=.type "tuple",data:=.seq rest.toArray}).push (Cg C none #[.ref h.objs.size,.none,.none,.none,.bool false,.none])
theorem j4(xc:Fv h C bm N)(ln:Hs bm)(hq:R (.ok (.ret (.ref (h.objs.size+1)))) ⟨Ia h C rest,g,d,t,os⟩)(hrest:rest.length<=sizeLine):
 codeAny (model prog w) A (.builtin "Exception.__new__" ⟨.ref C::rest,[]⟩) R ⟨h,g,d,t,os⟩:=by
 obtain⟨a1,a2,a3,a4,a5,a6,a7,a8,a9,b1,b2,b3,b4,b5,cAt⟩:=xc;have fends:=IA.ends;have cE:(Value.ref C::bm).contains (.type "Exception")=true:=HI ln.exc rfl;have cA:(Value.ref C::bm).contains (.type "AttributeError")=false:=HI ln.Iq rfl;have cN:(Value.ref C::bm).contains (.type "NameError")=false:=HI ln.ZW rfl;refine codeAny_builtinAt IA.entry ?_;unfold Builtin.«BaseException.__new__»;refine PySem.wpAt_bind ?_;show PySem.wpAt _ _ _ (stack>>=_) _ _ _;refine PySem.wpAt_bind (PySem.wpAt_stack fun p below=>PySem.wpAt_of_wpAny ?_)
 wp_walk
 refine PySem.wpAt_of_wpAny ?_;rw[IA.owner];repeat (first|with_reducible refine wpAny_madeHere_exc IA.canon cAt ?_|with_reducible refine IE cAt ?_|(with_reducible refine Lc cAt ?_;first|rw[cE]|rw[cA]|rw[cN])|wp_step)
 show R _ _;rw[GF];exact hq
end
variable{fI:Addr}
section
variable{g:Array GenState}{d:Drawn}{t:Nat}{N:Addr}{rest:List Value}
theorem ik(X:K.In h)(xc:Fv h C bm N)(ln:Hs bm){oI:Obj}(hi:findIn K (.ref C) "__init__" =some (some (.ref fI)))(hfI:h.get? fI=some oI)(hfc:oI.cls=.type "function")
 (hq:wpAny (model prog w) (A.under (.builtin "type.__call__" ⟨.ref C::rest,[]⟩)) (call (.ref fI) (.ref (h.objs.size+1)::rest)) (fun r s'=>r=.none/\Q (.ref (h.objs.size+1)) s') E ⟨Ia h C rest,g,d,t,os⟩)(hrest:rest.length<=sizeLine):
 wpAny (model prog w) A (call (.ref C) rest) Q E ⟨h,g,d,t,os⟩:=by
 have kk:∀b o,h.get? b=some o->(Ia h C rest).get? b=some o:=fun b o e=>A7 _ (A7 _ e);have xc2:=xc.keeps kk;have hget:(Ia h C rest).get? (h.objs.size+1)=some (Cg C none #[.ref h.objs.size,.none,.none,.none,.bool false,.none]):=by have z:=Bx (h.push {cls:=.type "tuple",data:=.seq rest.toArray}) (o:=Cg C none #[.ref h.objs.size,.none,.none,.none,.bool false,.none]) rfl;rw[GF] at z;exact z
 have xc':=xc;obtain⟨a1,a2,a3,a4,a5,a6,a7,a8,a9,b1,b2,b3,b4,b5,cAt⟩:=xc';have f1:=tc_lookup;have f2:=tc_bind (.ref C);have tT:(⟨h,g,d,t,os⟩:Shared).TypeIs (.ref C) "type" :=⟨_,cAt,rfl⟩;refine Lu (codeAny_of_tree ?_);show wpAny _ _ (callAny (.ref C) _) _ _ _;repeat (any_goals (first|assumption|with_reducible refine IE cAt ?_|wp_step))
 refine⟨rfl,?_⟩;refine codeAny_call_builtin_at (NY _ (by ac_rfl)) entry_typeCall (wpAny_check_type_call_sub cAt ?_);repeat (first|with_reducible refine IE cAt ?_|with_reducible refine wpAny_madeBy_exc cAt ?_|wp_step)
 refine codeAny_call_builtin_code (NY _ IA.quiet) (dO (rest:=rest) xc ln ?_);refine j4 (rest:=rest) xc ln ?_ hrest;show wpAny _ _ _ _ _ _;obtain⟨c1,c2,c3,c4,c5,c6,c7,c8,c9,d1,d2,d3,d4,d5,cAt2⟩:=xc2;have cC:(Value.ref C::bm).contains (.ref C)=true:=by simp
 have hI2:=kk _ _ hfI;have hget2:(Ia h C rest).get? (h.objs.size+1)=some {cls:=.ref C,dict:=none,data:=.fields #[.ref h.objs.size,.none,.none,.none,.bool false,.none]}:=hget;unfold isInstance;repeat (first|(with_reducible refine IE hget2 ?_)|(with_reducible refine Lc cAt2 ?_;rw[cC])|wp_step)
 show wpAny _ _ (typeLookup (.ref C) _) _ _ _;refine(NS (X.keeps kk) hi).at ?_;refine Fd (AJ ?_);unfold bindSpecial;refine AJ (wpAny_typeOf (T:="function") ⟨_,hI2,hfc⟩ ?_);rw[AH (by decide)];refine Af (AJ (Cz hq (fun r s' hr=>?_) fun _ _ x=>x));obtain⟨rfl,hQ⟩:=hr
 wp_walk
 exact hQ
theorem gy{x:Sem Value}{Q:Flow->Shared->Prop}(hh:A.handled=none)(ln:Hs bm)
 (hx:wpAny M A x (fun v s1=>∃e N t0 dd,v=.ref e/\Fv s1.heap C bm N/\s1.heap.get? e=some (Cg C dd #[.ref t0,.none,.none,.none,.bool false,.none])/\E (.ref e) s1) E s):
 wpAny M A (raiseStmt env (some x) none) Q E s:=by
 have cB:(Value.ref C::bm).contains (.type "BaseException")=true:=HI ln.base rfl;unfold raiseStmt;refine AJ (Cz hx (fun v s1 h1=>?_) fun _ _ z=>z);obtain⟨e,N,t0,dd,rfl,xc,he,hE⟩:=h1;obtain⟨a1,a2,a3,a4,a5,a6,a7,a8,a9,b1,b2,b3,b4,b5,cAt⟩:=xc;obtain⟨hp,g,d,tk,os⟩:=s1;unfold Cg at he;repeat (first|with_reducible refine IE he ?_|with_reducible refine IE cAt ?_|(with_reducible refine Lc cAt ?_;rw[cB])|wp_step)
 exact wpAny_raiseNew_none hh hE
end
section
open PySem.Builtin PySem.Builtin.ObjectAttr
section
variable{g:Array GenState}{d:Drawn}{t:Nat}{N e:Addr}{v:Value}
structure DK(K:PySem.W.Frag)(C:Addr)(name:Str):Prop where
 dict:hasDictIn K C=true
 no:findIn K (.ref C) name=some none
 sa:findIn K (.ref C) "__setattr__" =some (some (.builtin "object.__setattr__"))
 ga:findIn K (.ref C) "__getattribute__" =some (some (.builtin "BaseException.__getattribute__"))
 hook:findIn K (.ref C) "__getattr__" =some none
 mro:∃cd l,clsIn K C=some cd/\cd.mro=l++[.type "Exception",.type "BaseException",.type "object"]/\∀c∈l,∃a,c=Value.ref a
theorem UR(self:Value)(what:Str)(r:List Value):∀l:List Value,(∀c∈l,∃a,c=Value.ref a)->refuseLoop self what (l++r)=refuseLoop self what r
 |[],_=>rfl
 |c::l,hc=>by obtain⟨a,rfl⟩:=hc c (.head _);rw[Nf,refuseLoop_ref];exact UR self what r l fun c' h'=>hc c' (.tail _ h')
theorem Vh{x:Value}{r:List Value}{b:Bool}(hx:∀a,(x==Value.ref a)=false)(e:r.contains x=b):∀l:List Value,(∀c∈l,∃a,c=Value.ref a)->(l++r).contains x=b
 |[],_=>e
 |c::l,hc=>by obtain⟨a,rfl⟩:=hc c (.head _);rw[Nf,QG,hx a,Qo];exact Vh hx e l fun c' h'=>hc c' (.tail _ h')
theorem lI(he:h.get? e=some (Cg C none vs)):InstAt h e (Cg C none vs) C none:=⟨he,rfl,rfl,Cm⟩
theorem lM{od:Obj}(he:h.get? e=some (Cg C (some D) vs))(hd:h.get? D=some od):InstAt h e (Cg C (some D) vs) C (some od):=⟨he,rfl,rfl,hd⟩
theorem YU(X:K.In h)(xa:DK K C name){b:Bool}(e:[Value.type "Exception",.type "BaseException",.type "object"].contains (.type T)=b):mroIn K C (.type T)=some b:=by obtain⟨cd,l,hc,hm,hl⟩:=xa.mro;unfold mroIn;rw[hc,Lk,hm];rw[AG (by cases l<;>simp),Vh (fun _=>rfl) e l hl]
theorem kj(X:K.In h)(xa:DK K C name)(he:h.get? e=some (Cg C none vs)){Q:Unit->Shared->Prop}
 (hq:∀h' tk,h'.get? e=some (Cg C (some h.objs.size) vs)->h'.Ns1 h.objs.size (fun y=>if y=name then some v else none)->(∀b o,b≠e->h.get? b=some o->h'.get? b=some o)->Q () ⟨h',g,d,tk,os⟩):
 wpAny (model prog w) A (setAttr (.ref e) name v) Q E ⟨h,g,d,t,os⟩:=by
 have SF:=PySem.F.store_object;have I:InstAt h e (Cg C none vs) C none:=lI he;have T0:PySem.W.Looks (model prog w) h (typeOf (.ref e)) (.ref C):=I.type;obtain⟨cd,l,hc,hm,hl⟩:=xa.mro;obtain⟨cd',hc',hdict⟩:=any_some xa.dict;obtain rfl:cd=cd':=Ah (hc.symm.trans hc');have hmro:PySem.W.Looks (model prog w) h (mroOf (.ref C)) cd.mro:=(UA X hc).andThen .now;have sub:PySem.W.Looks (model prog w) h (isInstance (.ref e) (.type "object")) true:=T0.andThen (looks_mroIn X (YU X xa rfl));refine set_plain X I xa.sa ?_;refine T4 SF.slot.plain SF.entry ?_;refine @check_slot (model prog w) _ _ ⟨h,g,d,t+1,os⟩ "object.__setattr__" "object" "__setattr__" (.ref e) [.str name t,v] [] _ SF.kind SF.split sub (SF.args (.ref e) (.str name t) v) ?_;rw[osa_eq,refuse_eq];refine AJ (AJ (T0.at (AJ (hmro.at ?_))));rw[hm,UR _ _ _ l hl,PySem.F.store_Exception.passes];refine Af (AJ (T0.at (AJ ((NS X xa.no).at (AJ (Af ?_))))));show wpAny _ _ (storeInOwnDict (.ref e) (.ref C) _ name v _) _ _ _;have ne:e≠h.objs.size:=BH (Aw he);unfold storeInOwnDict;refine AJ (Af ?_);rw[AG (show¬((Value.ref C==Value.type "module")=true) from CS)];refine AJ (AJ (wpAny_loadPart he ?_));refine AJ ((UA X hc).at ?_);rw[hdict,AG (by decide)];have e1:=A7 {cls:=.type "dict",data:=.dict #[]} he;have e2:=IC (fun o=>{o with dict:=some h.objs.size}) e1 rfl;have d2:((h.push {cls:=.type "dict",data:=.dict #[]}).update e fun o=>{o with dict:=some h.objs.size}).get? h.objs.size=some {cls:=.type "dict",data:=.dict #[]}:=
  (Dc _ _ ne).trans (Bx h rfl);show wpAny _ _ (do
  let dd<-alloc {cls:=Value.type "dict",data:=Data.dict #[]}
  update e fun o=>{o with dict:=some dd}
  dictMade (.ref C) e dd) _ _ _;refine AJ (wpAny_alloc' ?_);refine AJ (wpAny_update' e1 ?_);refine Af ?_;show wpAny _ _ (storeInDict h.objs.size (.str name t) name v) _ _ _;have nd:((h.push {cls:=.type "dict",data:=.dict #[]}).update e fun o=>{o with dict:=some h.objs.size}).Ns h.objs.size (fun _=>none):=⟨_,#[],_,d2,rfl,fun x hx=>absurd hx (by simp),fun _=>rfl⟩;unfold storeInDict newKeyGuard;refine AJ (Af (AJ (wpAny_nsSet1 (Heap.Ns1.of_empty nd) fun h' hn' hs=>?_)));obtain⟨oD,esD,epD,hoD,hdD,hcD⟩:=hn'.count (Within.cons name v Within.nil);refine AJ (wpAny_lookBehind hoD (by rw[hdD];exact pastItsLine_dict (BI hcD (by rw[CV,KG,BA];lia))) ?_);refine Af ?_;exact hq h' _ ((hs.2 e ne).trans e2) hn' fun b o nb hb=>(hs.2 b (BH (Aw hb))).trans ((Dc _ _ (C5 nb)).trans (A7 _ hb))
theorem jq{expr:Bool}(X:K.In h)(xa:DK K C name)(he:h.get? e=some (Cg C (some D) vs))(hn:h.Ns1 D mA)(hv:mA name=some v)(hh:handedIn v=true)
 (hq:∀tk,Q v ⟨h,g,d,tk,os⟩):wpAny (model prog w) A (getAttr (.ref e) name expr) Q E ⟨h,g,d,t,os⟩:=by
 obtain⟨od,hod,hlk⟩:=VB hn;have I:InstAt h e (Cg C (some D) vs) C (some od):=lM he hod;have T0:PySem.W.Looks (model prog w) h (typeOf (.ref e)) (.ref C):=I.type;obtain⟨cd,l,hc,hm,hl⟩:=xa.mro;obtain⟨cd',hc',hdict⟩:=any_some xa.dict;obtain rfl:cd=cd':=Ah (hc.symm.trans hc');have fo:findObj K C (some od) name=some (.value v):=by unfold findObj;rw[hc,Lk,xa.no,Lk];dsimp only[Lk];unfold PySem.W.ownOf;rw[hdict,AH rfl];dsimp only;rw[hlk,hv];rfl
 have L1:=looks_find (M:=model prog w) X I fo;have sub:PySem.W.Looks (model prog w) h (isInstance (.ref e) (.type "BaseException")) true:=T0.andThen (looks_mroIn X (YU X xa rfl));have GA:=PySem.F.attr_Exception.ga;unfold getAttr getAttrBy;refine AJ (wpAny_mkText (Fd (AJ (T0.at (AJ ((NS X xa.ga).at ?_))))));dsimp only;rw[show(onTheHeap (Value.ref C)&&Value.builtin "BaseException.__getattribute__" ==Value.builtin "object.__getattribute__")=false from by rw[show(Value.builtin "BaseException.__getattribute__" ==Value.builtin "object.__getattribute__")=false from by ac_rfl,KJ],AG (by decide)];unfold getAttrByItsOwn;refine AJ ((show PySem.W.Looks (model prog w) h (hookBefore (.ref C)) none from NS X xa.hook).at ?_);refine AJ (wpAny_attempt (Fd ?_));unfold callGetattribute;rw[show(expr&&onTheHeap (Value.builtin "BaseException.__getattribute__"))=false from KJ _,AG (by decide)];unfold boundAndCalled;rw[GA.bind];refine AJ (Af ?_);show wpAny _ _ (call (.builtin "BaseException.__getattribute__") [.ref e,.str name t]) _ _ _;refine Lu (T4 GA.plain PySem.F.entry_bexc_ga ?_);refine @check_slot (model prog w) _ _ ⟨h,g,d,t+1,os⟩ "BaseException.__getattribute__" "BaseException" "__getattribute__" (.ref e) [.str name t] [] _ (by ac_rfl) (by ac_rfl) sub (PySem.F.args_bexc_ga (.ref e) (.str name t)) ?_;unfold Builtin.«object.__getattribute__»;refine AJ (Af ?_);refine AJ (Af ?_);refine AJ (T0.at (AJ (L1.at ?_)));refine Af ?_;show wpAny _ _ (handedOut v) _ _ _;rw[handedOut_of hh];exact Af (hq _)
end
end
def xO(e C:Addr)(dd:Option Addr)(vs:Array Value):HO:=.ext fun h=>h.get? e=some (Cg C dd vs)
theorem SW{e:Addr}(he:h.get? e=some (Cg C dd vs)):BL P w H h e (xO e C dd vs):=
 ⟨he,⟨_,he⟩,fun _ _ p k=>k _ p⟩
theorem Jc{e:Addr}(ok:Bt P w H h)(q:H e=some (xO e C dd vs)):h.get? e=some (Cg C dd vs):=(ok e _ q).1
structure Gm(h0:Heap)(H:Hp)(h:Heap)(e C D:Addr)(vs:Array Value):Prop where
 xo:H e=some (xO e C (some D) vs)
 hd:Hd h e vs
 new:h0.objs.size<=e
 M4:∀T,vs[1]? =some (.ref T)->h0.objs.size<=T/\H T=none
 two:1<vs.size
def Ca(P:Program)(w:World):Iy:=fun outer H s E v s'=>∃e C D vs H',v=Value.ref e/\s'.os=s.os/\AllBare s'.gens/\Un (Ci outer) [] H H' s.heap s'.heap/\Bt P w H' s'.heap/\Gm s.heap H' s'.heap e C D vs/\
 ∀vs,E (.ref C) (some D) (upd H' e (xO e C (some D) vs))
section
variable{h0 h2 h3:Heap}{e:Addr}{fs:List Addr}
theorem Gm.ne(f:Gm h0 H2 h2 e C D vs)(hb:h0.get? b=some o):b≠e/\∀T,vs[1]? =some (.ref T)->b≠T:=
 ⟨fun z=>absurd (Aw hb) (N5.mpr (z▸f.new)),fun T ht z=>absurd (Aw hb) (N5.mpr (z▸(f.M4 T ht).1))⟩
theorem Gm.step(ok:Bt P w H2 h2)(f:Gm h0 H2 h2 e C D vs)(lv:Lv fs e C (some D) vs h2 h3)(ff:∀b∈fs,H2 b=none):
 ∃vs3,Bt P w (upd H2 e (xO e C (some D) vs3)) h3/\Gm h0 (upd H2 e (xO e C (some D) vs3)) h3 e C D vs3:=by
 obtain⟨T,oT,ts,he,hT,gT,dT,h3'⟩:=lv.here;have e2:=Jc ok f.xo;have Tn:T≠e:=EN (Cu (Aw e2) hT);have one:(vs.setIfInBounds 1 (.ref T))[1]? =some (.ref T):=by simp[f.two]
 refine⟨_,fun b o q=>?_,AR,.inr ⟨T,oT,ts,one,Tn,gT,dT,h3'⟩,f.new,fun T' ht=>?_,by simpa using f.two⟩
 ·by_cases hb:b=e
  ·subst hb;rw[AR] at q;cases q;exact SW he
  ·rw[AO hb] at q;refine(ok b o q).EB (fun c u hc g=>?_) (fun c g=>?_) fun c xs g=>?_
   ·have tc:H2 c≠none:=by
     rcases hc with z|z
     ·rw[z,q];exact fun y=>nomatch y
     ·rw[z];exact fun y=>nomatch y
    refine lv.keep c u g (fun m=>tc (ff c m)) (fun z=>?_) fun T' ht z=>tc (z▸(f.M4 T' ht).2);rcases hc with y|y
    ·exact hb (y.symm.trans z)
    ·rw[z,f.xo] at y;cases y
   ·rw[AO (fun z=>by rw[z,f.xo] at g;cases g)];exact g
   ·rw[AO (fun z=>by rw[z,f.xo] at g;cases g)];exact g
 ·rw[one] at ht;obtain rfl:T=T':=by cases ht;rfl
  refine⟨BI (BI f.new (E4 (Aw e2))) hT,?_⟩;rw[AO Tn];exact ok.fresh hT
theorem Gm.un(u:Un (Ci outer) [] H H2 h0 h2)(f:Gm h0 H2 h2 e C D vs){vs3:Array Value}(lv:Lv fs e C (some D) vs h2 h3)(hfs:∀b,b∈fs↔b=L\/b∈Ci outer)(hL:h0.objs.size<=L):
 Un (Ci outer) [] H (upd H2 e (xO e C (some D) vs3)) h0 h3:=by
 have nl:∀b o,h0.get? b=some o->b≠L:=fun b o q z=>absurd (Aw q) (N5.mpr (z▸hL));have nil:∀b:Addr,b∉([]:List Addr):=fun b=>by simp
 refine⟨fun b o q n nb _=>?_,fun b o q n mb _=>?_,fun b o q n _=>?_,fun b o q _=>?_,fun b xs q=>?_,fun b o u' q=>?_,fun b ps q=>?_⟩
 ·exact lv.keep b o (u.keep b o q n nb (nil b)) (fun m=>((hfs b).mp m).elim (nl b o q) nb) (f.ne q).1 (f.ne q).2
 ·obtain⟨sl,e1⟩:=u.slot b o q n mb (nil b);obtain⟨sl',e2⟩:=lv.slot b _ e1 ((hfs b).mpr (.inr mb));exact⟨sl',e2⟩
 ·rw[AO (f.ne q).1];exact u.free b o q n (nil b)
 ·obtain⟨o',e1⟩:=u.there b o q (nil b);by_cases m:b∈fs
  ·obtain⟨sl,e2⟩:=lv.slot b _ e1 m;exact⟨_,e2⟩
  ·exact⟨o',lv.keep b o' e1 m (f.ne q).1 (f.ne q).2⟩
 ·have:=u.EY b xs q;rw[AO (fun z=>by rw[z,f.xo] at this;cases this)];exact this
 ·have:=u.Dk b o u' q;rw[AO (fun z=>by rw[z,f.xo] at this;cases this)];exact this
 ·obtain⟨more,this⟩:=u.EX b ps q;exact⟨more,by rw[AO (fun z=>by rw[z,f.xo] at this;cases this)];exact this⟩
theorem Gm.nO(u:Un fs [] H H2 h0 h2)(f:Gm h0 H2 h2 e C D vs){vs3:Array Value}(lv:Lv fs e C (some D) vs h2 h3):Un fs [] H (upd H2 e (xO e C (some D) vs3)) h0 h3:=by
 have nil:∀b:Addr,b∉([]:List Addr):=fun b=>by simp
 refine⟨fun b o q n nb _=>lv.keep b o (u.keep b o q n nb (nil b)) nb (f.ne q).1 (f.ne q).2,fun b o q n mb _=>?_,fun b o q n _=>?_,fun b o q _=>?_,fun b xs q=>?_,fun b o u' q=>?_,fun b ps q=>?_⟩
 ·obtain⟨sl,e1⟩:=u.slot b o q n mb (nil b);obtain⟨sl',e2⟩:=lv.slot b _ e1 mb;exact⟨sl',e2⟩
 ·rw[AO (f.ne q).1];exact u.free b o q n (nil b)
 ·obtain⟨o',e1⟩:=u.there b o q (nil b);by_cases m:b∈fs
  ·obtain⟨sl,e2⟩:=lv.slot b _ e1 m;exact⟨_,e2⟩
  ·exact⟨o',lv.keep b o' e1 m (f.ne q).1 (f.ne q).2⟩
 ·have:=u.EY b xs q;rw[AO (fun z=>by rw[z,f.xo] at this;cases this)];exact this
 ·have:=u.Dk b o u' q;rw[AO (fun z=>by rw[z,f.xo] at this;cases this)];exact this
 ·obtain⟨more,this⟩:=u.EX b ps q;exact⟨more,by rw[AO (fun z=>by rw[z,f.xo] at this;cases this)];exact this⟩
end
section
variable{E:XK}
abbrev Fy(P:Program)(w:World)(K:PySem.W.Frag)(mg:Str->Option Value)(base:Heap)(N:List Str)(qual:Str)(scope:Scope)(f:Addr)(cd:Value)(A:Around)(outer:List Env)(s:Shared)(H:Hp)(E:XK):Cx:=
 Ij (Ca P w) P w K mg base N qual scope f cd A outer s H E
theorem d7(hf:env.frame=some L)(outer:List Env)(b:Addr):b∈Ci (env::outer)↔b=L\/b∈Ci outer:=by unfold Ci;rw[QB,hf];exact Bk
theorem W7{s2:Shared}{e:Addr}(J:Inv (Fy P w K mg base N qual scope f cd A outer s H E) pins σ H2 s2)(fl:Gm s.heap H2 s2.heap e C D vs)
 (hE:∀vs,E (.ref C) (some D) (upd H2 e (xO e C (some D) vs))):(Fy P w K mg base N qual scope f cd A outer s H E).xe (.ref e) s2:=by
 show wpAny _ _ (leaving (envOfC qual scope s.heap.objs.size f cd) (.ref e)) _ _ s2;refine AJ (XU (base:=base) (L:=s.heap.objs.size) (outer:=outer) J.ok.frames J.stack rfl (Jc J.hok fl.xo) fl.two fl.hd fun h3 lv=>?_);obtain⟨vs3,ok3,fl3⟩:=fl.step J.hok lv J.Oi;refine⟨e,C,D,vs3,_,rfl,J.os,J.bare,?_,ok3,fl3,fun vs'=>?_⟩
 ·exact fl.un J.base lv (d7 rfl outer) (Ac _)
 ·rw[JN];exact hE vs'
theorem ET:Passes (Ca P w) (Fy P w K mg base N qual scope f cd A outer s H E) E:=fun pins σ H1 s1 v s2 I cx=>by obtain⟨e,C,D,vs,H2,rfl,os,bare,un,ok,fl,hE⟩:=cx;have J:=I.Oz (ch:=[]) os un ok bare (fun b z=>absurd z (by simp));exact W7 J ⟨fl.xo,fl.hd,BI I.sz fl.new,fun T ht=>⟨BI I.sz (fl.M4 T ht).1,(fl.M4 T ht).2⟩,fl.two⟩ hE
theorem jx:Passes (Ca P w) X E0:=fun _ _ _ _ _ _ _ ⟨_,_,_,vs,_,_,_,_,_,_,_,h⟩=>(h vs).elim
theorem HV{st:Stmt}(F:Ab K x qual st f fd)(S:A0 N ps (Ao st))(len:∀vs H Q E,sp vs H Q E->vs.length=ps.length)
 (hbody:∀(cdv:Value)(A:Around)(outer:List Env)(s:Shared)(H:Hp)(vs:List V)(Q:VK)(E:XK),Br k (A.deeper (envOfC qual (Ao st) s.heap.objs.size f cdv))->sp vs H Q E->
  ∃t,EE (Fy P w K mg base N qual (Ao st) f cdv A outer s H E) (Ft st) t/\t {nx:=fun _ H'=>Q .A3 H',rt:=Q} (start N vs) H):AU P w K mg base (Ca P w) (k+1) f fd ps sp:=by
 obtain⟨oc,od,kV,doc,pm,an,cdv,ct,osl,rfl,lk,hcd⟩:=F.ex;exact Yj lk hcd S len (hbody cdv)
end
structure TU(K:PySem.W.Frag)(C fI:Addr)(bm:List Value):Prop where
 cls:∃N,∀h:Heap,K.In h->Fv h C bm N
 init:findIn K (.ref C) "__init__" =some (some (.ref fI))
 line:Hs bm
 fn:isFn K (.ref fI)=true
 kp:keepIn K (.ref C)=true
def FA(C:Addr)(f:Str)(msg:Str):Sp:=fun vs H Q _=>∃e ws,vs=[.ref e]/\H e=some (xO e C none ws)/\∀D,H D=none->D≠e->Q .A3 (upd (upd H D (.xd [(f,.str msg)])) e (xO e C (some D) ws))
noncomputable def Iz(t:Addr):Array Value:= #[.ref t,.none,.none,.none,.bool false,.none]
theorem fV{o u:HO}(h:a≠b):upd (upd H a o) b u=upd (upd H b u) a o:=by
 funext c;unfold upd;by_cases h1:c=a
 ·subst h1;rw[AG h,AH rfl,AH rfl]
 ·by_cases h2:c=b
  ·subst h2;rw[AH rfl,AG h1,AH rfl]
  ·rw[AG h2,AG h1,AG h1,AG h2]
section
variable{p:Pos}{f:Str}
theorem eI(I:Inv X pins σ H s)(C:Addr):Inv X pins σ (upd H (s.heap.objs.size+1) (xO (s.heap.objs.size+1) C none (Iz s.heap.objs.size))) {s with heap:=Ia s.heap C []}:=by
 have kk:∀b o,s.heap.get? b=some o->(Ia s.heap C []).get? b=some o:=fun b o e=>A7 _ (A7 _ e);have e2:(Ia s.heap C []).get? (s.heap.objs.size+1)=some (Cg C none (Iz s.heap.objs.size)):=by have z:=Bx (s.heap.push {cls:=.type "tuple",data:=.seq ([]:List Value).toArray}) (o:=Cg C none (Iz s.heap.objs.size)) rfl;rw[GF] at z;exact z
 exact I.laid (t':=s.toks) kk (EO _) (SW e2)
end
variable{msg:Str}
section
variable{p:Pos}{f:Str}
theorem iN(M:TU X.K C fI bm)(F:AU X.prog X.w X.K X.mg X.base Aa k fI fd ["self"] (FA C f msg))(hr:Br (k+1) X.A)(hg:Gl X x)(hm:X.mg x=some (.ref C))(hb:Binds X.K fd ["self"] [])
 (hdb:(x==("__debug__" :Str))=false)(I:Inv X pins σ H s):
 wpAny (model X.prog X.w) X.A (eval (.Call (.Name x p) [] [] pos) X.env) (fun u s2=>∃e D t,u=Value.ref e/\s.heap.objs.size<=e/\H e=none/\H D=none/\D≠e/\Inv X pins σ (upd (upd H D (.xd [(f,.str msg)])) e (xO e C (some D) (Iz t))) s2) X.xe s:=by
 refine Lf (Kj I hg hm ?_ hdb);refine P9 I.BP M.kp ?_;obtain⟨N,xc⟩:=M.cls;obtain⟨o,ho,hcf⟩:=NO.mp (Fg.mp M.fn);have I2:=eI I C;have sp:FA C f msg [.ref (s.heap.objs.size+1)] (upd H (s.heap.objs.size+1) (xO (s.heap.objs.size+1) C none (Iz s.heap.objs.size))) (fun v H2=>v=.A3/\∃D,H D=none/\D≠s.heap.objs.size+1/\
  H2=upd (upd H D (.xd [(f,.str msg)])) (s.heap.objs.size+1) (xO (s.heap.objs.size+1) C (some D) (Iz s.heap.objs.size))) E0:=by
  refine⟨_,_,rfl,AR,fun D hD nD=>⟨rfl,D,?_,nD,?_⟩⟩
  ·rw[AO nD] at hD;exact hD
  ·rw[fV (C5 nD),JN]
 have run:=F.run (X.A.under (.builtin "type.__call__" ⟨[.ref C],[]⟩)) X.stack _ _ ⟨[.ref (s.heap.objs.size+1)],[]⟩ [.ref (s.heap.objs.size+1)] [.ref (s.heap.objs.size+1)] _ E0 (hr.make C [] []) (I2.Sw.make C [] [])
  (hb _ [.ref (s.heap.objs.size+1)] I2.BP rfl) (.cons rfl .nil) sp;obtain⟨hp,g,d,tk,os⟩:=s;refine ik (rest:=[]) I.BP (xc _ I.BP) M.line M.init (I.BP _ _ ho) hcf ?_ (CF _);refine Lu (KP run fun r s' hq=>?_)
 cases r with
 |error e=>exact hq.elim
 |ok fl=>
  cases fl with
  |ret u=>obtain⟨v,H',I3,rv,ev,D,q1,q2,q3⟩:=I2.after hq;subst ev q3;exact⟨rv,hp.objs.size+1,D,hp.objs.size,rfl,EO _,I.hok.fresh (EO _),q1,q2,I3⟩
  |next=>exact False.elim hq
  |brk=>exact False.elim hq
  |cont=>exact False.elim hq
theorem dC{g:Addr}{dvs:List V}{ds:List Value}{E:XK}{m:Str}{es:List Expr}{t:TA}(hg:Gl X x)(hm:X.mg x=some (.ref C))(hrd:readsIn X.K C (.type "type")=true)
 (hf:findCls X.K (.ref C) (.type "type") m=some (.val (.ref g)))(hs:specialIn X.K (.ref C) "__getattribute__" =some (some (.builtin "type.__getattribute__")))(hk:keepIn X.K (.ref g)=true)
 (F:AU X.prog X.w X.K X.mg X.base CX k g fd ps sp)(hr:Br k X.A)(hb:Binds X.K fd ps ds)(hd:Vals dvs ds)(hx:Passes CX X E)(ha:PA X (e::es) t)(hdb:(x==("__debug__" :Str))=false:=by decide)
 (hst:starEach (e::es) X.env=(false,eval e X.env)::starEach es X.env:=by rfl)(hpl:(backTo pos (starEach es X.env)).any (·.1)=false:=by rfl)
 (ht:eval (.Call (.Attribute (.Name x p) m apos) (e::es) [] pos) X.env=(do
  let ov<-eval (.Name x p) X.env
  standAt apos.atName
  let(f,first)<-holding [ov] (getMethod ov m pl)
  callWith pos f first (backTo pos (starEach (e::es) X.env)) (backToKw pos (keywordEach [] X.env))):=by rfl):
 PE X (.Call (.Attribute (.Name x p) m apos) (e::es) [] pos) (Oy sp dvs E t):=by
 intro pins s σ H Q I h;refine Tz (pl:=pl) (Kj I hg hm ?_ hdb) ht;refine method_cls I.BP hs (cls_value I.BP hrd hf rfl ?_);have I1:=I.tok (s.toks+1);refine UD (first:=[]) (h₀:=X.base) I.ok.mod.NJ hk (Ae (ha pos pins _ σ H _ I1 h) fun us s2 ⟨vs,H2,I2,r,q2⟩=>⟨I2.BP,?_⟩) hst hpl;exact MY F hr hb hd hx I2 r q2
def lP(K:PySem.W.Frag)(ta tv:TE)(f:Str):TS:=fun D σ H=>tv σ H fun y H1=>ta σ H1 fun x H2=>∃e C ws,x=.ref e/\H2 e=some (xO e C none ws)/\DK K C f/\
 ∀d,H2 d=none->d≠e->D.nx σ (upd (upd H2 d (.xd [(f,y)])) e (xO e C (some d) ws))
theorem gS{o value:Expr}{pos':Pos}{tv:TE}(ha:PE X o ta)(hv:PE X value tv)(hs:swapsWith value (some (.Attribute o f pos')) pos.line X.env=pure false):PS X (.Assign [.Attribute o f pos'] value pos) (lP X.K ta tv f):=by
 intro pins s σ H D I h;refine plainObj_wpAny_Assign_Attribute (Ae (hv pins s σ H _ I h) fun u s1 ⟨y,H1,I1,ry,q⟩=>Ae (ha pins s1 σ H1 _ I1 q) fun ov s2 ⟨x,H2,I2,rx,e,C,ws,ex,ea,xa,q2⟩=>?_) hs;subst ex;obtain rfl:ov=Value.ref e:=rx;have he:=Jc I2.hok ea;have nD:s2.heap.objs.size≠e:=EN (Aw he);have fr:H2 s2.heap.objs.size=none:=I2.hok.fresh (Ac _);obtain⟨hp,g,d,tk,os⟩:=s2;refine kj I2.BP xa he fun h' tk' he' hn' hk'=>⟨σ,_,?_,q2 hp.objs.size fr nD⟩;have hD:∃o,h'.get? hp.objs.size=some o:=let⟨o,_,_,q,_⟩:=hn';⟨o,q⟩;have un:Un X.fs [] H2 (upd (upd H2 hp.objs.size (.xd [(f,y)])) e (xO e C (some hp.objs.size) ws)) hp h':=by
  refine⟨fun b o q n _ _=>hk' b o (fun z=>by rw[z,ea] at n;cases n) q,fun b o q n _ _=>⟨o.slots,hk' b o (fun z=>by rw[z,ea] at n;cases n) q⟩,fun b o q n _=>?_,fun b o q _=>?_,fun b xs q=>?_,fun b o u q=>?_,fun b ps q=>⟨#[],?_⟩⟩
  ·rw[AO (fun z=>by rw[z,ea] at n;cases n),AO (BH (Aw q))];exact n
  ·by_cases z:b=e
   ·rw[z];exact⟨_,he'⟩
   ·exact⟨o,hk' b o z q⟩
  ·rw[AO (fun z=>by rw[z,ea] at q;cases q),AO (A2 q fr)];exact q
  ·rw[AO (fun z=>by rw[z,ea] at q;cases q),AO (A2 q fr)];exact q
  ·rw[AO (fun z=>by rw[z,ea] at q;cases q),AO (A2 q fr),q];simp
 refine I2.un (t':=tk') (h':=h') un fun b o q=>?_;by_cases hb:b=e
 ·subst hb;rw[AR] at q;cases q;exact SW he'
 ·rw[AO hb] at q;by_cases hb2:b=hp.objs.size
  ·subst hb2;rw[AR] at q;cases q;refine⟨_,hn',fun y'=>?_⟩;show DN (List.lookup y' [(f,y)]) (if y'=f then some u else none);by_cases z:y'=f
   ·subst z;rw[AH rfl,GC,IF];exact ry
   ·rw[AG z,GC,KD z];exact Cm
  ·rw[AO hb2] at q;refine(I2.hok b o q).EB (fun c v hc gg=>hk' c v (fun z=>?_) gg) (fun c gg=>?_) fun c xs gg=>?_
   ·rcases hc with y1|y1
    ·exact hb (y1.symm.trans z)
    ·rw[z,ea] at y1;cases y1
   ·rw[AO (fun z=>by rw[z,ea] at gg;cases gg),AO (A2 gg fr)];exact gg
   ·rw[AO (fun z=>by rw[z,ea] at gg;cases gg),AO (A2 gg fr)];exact gg
end
section
variable{E:XK}
def iX(C:Addr)(fl msg:Str)(E:XK):TS:=fun _ _ H=>∀e D ws,H e=none->H D=none->D≠e->E (.ref C) (some D) (upd (upd H D (.xd [(fl,.str msg)])) e (xO e C (some D) ws))
theorem fJ{np:Pos}{fl:Str}(M:TU K C fI bm)(F:AU P w K mg base Aa k fI fd ["self"] (FA C fl msg))
 (hr:Br (k+1) (Fy P w K mg base N qual scope f cd A outer s H E).A)(hg:Gl (Fy P w K mg base N qual scope f cd A outer s H E) x)(hm:mg x=some (.ref C))(hb:Binds K fd ["self"] [])(hdb:(x==("__debug__" :Str))=false:=by decide):
 PS (Fy P w K mg base N qual scope f cd A outer s H E) (.Raise (some (.Call (.Name x np) [] [] cpos)) none pos) (iX C fl msg E):=by
 intro pins s1 σ H1 D I h;rw[arm_exec_Raise];refine AJ (Nr ?_);have ev:=iN (X:=Fy P w K mg base N qual scope f cd A outer s H E) (p:=np) (pos:=cpos) M F hr hg hm hb hdb I;refine gy (C:=C) (bm:=bm) (I.ok.hd rfl) M.line ?_;refine AJ (Cz ev (fun v s2 z=>?_) fun _ _ z=>z);obtain⟨e,D',t,rfl,new,he,hD,ne,I2⟩:=z;refine AJ (Nr (Af ?_));obtain⟨Nn,xc⟩:=M.cls;have at2:(upd (upd H1 D' (.xd [(fl,.str msg)])) e (xO e C (some D') (Iz t))) e=some (xO e C (some D') (Iz t)):=AR;refine⟨e,Nn,t,some D',rfl,xc _ I2.BP,Jc I2.hok at2,?_⟩;refine W7 I2 ⟨at2,.inl rfl,?_,(fun T hT=>by cases hT),(by show 1<6;decide)⟩ fun ws=>?_
 ·exact BI I.sz new
 ·rw[JN];exact h e D' ws he hD ne
end
abbrev MX(X:Cx)(pins:List (Addr×Obj))(W:Value->Shared->Prop):Cx:={X with pn:=X.pn++pins,xe:=W}
abbrev JR(X:Cx)(e:Addr)(W:Value->Shared->Prop):Cx:={X with A:=X.A.mark (some (.ref e)),calm:=false,xe:=W}
theorem Inv.kg(I:Inv X pins σ H s)(W:Value->Shared->Prop):Inv (MX X pins W) [] σ H s:=
 ⟨⟨I.ok.mod,I.ok.kind,I.ok.glob,I.ok.blt,I.ok.above,I.ok.inj,I.ok.has,I.ok.J1,I.ok.hd,I.ok.frames,I.ok.K9,I.ok.Pm,I.ok.bs,I.ok.F3,I.ok.Jj,I.ok.Jk,I.ok.Ea,I.ok.HU⟩,
  I.os,I.bare,I.base,I.loc,I.cell,I.free,I.C8,fun p hp=>I.pin p (by rw[Cy] at hp;exact hp),I.hok,I.len⟩
theorem Inv.MF{pins1:List (Addr×Obj)}{W:Value->Shared->Prop}(ok:X.Ok)(I:Inv (MX X pins W) pins1 σ H s):Inv X pins σ H s:=
 ⟨ok,I.os,I.bare,I.base,I.loc,I.cell,I.free,I.C8,fun p hp=>I.pin p (Ha _ hp),I.hok,I.len⟩
theorem Inv.marked(I:Inv X pins σ H s)(e:Addr)(W:Value->Shared->Prop):Inv (JR X e W) pins σ H s:=
 ⟨⟨I.ok.mod,I.ok.kind,I.ok.glob,I.ok.blt,I.ok.above,I.ok.inj,I.ok.has,I.ok.J1,(fun z=>nomatch z),I.ok.frames,I.ok.K9,I.ok.Pm,I.ok.bs,I.ok.F3,I.ok.Jj,I.ok.Jk,I.ok.Ea,I.ok.HU⟩,
  I.os,I.bare,I.base,I.loc,I.cell,I.free,I.C8,I.pin,I.hok,I.len⟩
theorem Inv.unmarked{e:Addr}{W:Value->Shared->Prop}(ok:X.Ok)(I:Inv (JR X e W) pins σ H s):Inv X pins σ H s:=
 ⟨ok,I.os,I.bare,I.base,I.loc,I.cell,I.free,I.C8,I.pin,I.hok,I.len⟩
structure S4(K:PySem.W.Frag)(R:Addr):Prop where
 cls:∃bm N,(∀h:Heap,K.In h->Fv h R bm N)/\Hs bm
structure So(K:PySem.W.Frag)(C R:Addr):Prop where
 cls:∃bm N,(∀h:Heap,K.In h->Fv h C bm N)/\(Value.ref C::bm).contains (.ref R)=true
section
variable{g:Array GenState}{d:Drawn}{t:Nat}{R N NR e:Addr}{bmR:List Value}
theorem gZ(xc:Fv h C bm N)(xr:Fv h R bmR NR)(ln:Hs bmR)(he:h.get? e=some (Cg C dd vs))(hs:(Value.ref C::bm).contains (.ref R)=true){Q:Bool->Shared->Prop}(hq:Q true ⟨h,g,d,t,os⟩):
 wpAny M A (excMatches (.ref e) (.ref R)) Q E ⟨h,g,d,t,os⟩:=by
 obtain⟨a1,a2,a3,a4,a5,a6,a7,a8,a9,b1,b2,b3,b4,b5,cAt⟩:=xc;obtain⟨c1,c2,c3,c4,c5,c6,c7,c8,c9,d1,d2,d3,d4,d5,rAt⟩:=xr;have rB:(Value.ref R::bmR).contains (.type "BaseException")=true:=HI ln.base rfl;have nt:=tc_notTuple;unfold Cg at he;unfold excMatches;repeat (first|with_reducible refine IE he ?_|with_reducible refine IE rAt ?_|(with_reducible refine Lc rAt ?_;rw[rB])|(with_reducible refine Lc cAt ?_;rw[hs])|wp_step)
 exact hq
end
def R0(K:PySem.W.Frag)(R:Addr)(f:Str)(Q:VK):XK:=fun c d H'=>∃C D msg,c=.ref C/\d=some D/\So K C R/\DK K C f/\H' D=some (.xd [(f,.str msg)])/\Q (.str msg) H'
theorem kG{e:Addr}{ws:Array Value}{f:Str}{fs:List (Str×V)}{expr:Bool}{Q:VK}(I:Inv X pins σ H s)(he:H e=some (xO e C (some D) ws))(xa:DK X.K C f)
 (hD:H D=some (.xd fs))(hv:fs.lookup f=some v)(q:Q v H):wpAny (model X.prog X.w) A (getAttr (.ref e) f expr) (EP X pins σ Q) E s:=by
 obtain⟨mA,hn,rel⟩:=(show BL X.prog X.w H s.heap D (.xd fs) from I.hok D _ hD);have r:=rel f;rw[hv] at r;obtain⟨u,hu,ru⟩:=r.some_of;have at_:=Jc I.hok he;obtain⟨hp,g,d,tk,os⟩:=s;exact jq I.BP xa at_ hn hu (Uq ru) fun tk=>⟨v,H,I.tok tk,ru,q⟩
def j7(K:PySem.W.Frag)(ta:TE)(f:Str):TE:=fun σ H Q=>ta σ H fun x H1=>∃e C D ws fs v,x=.ref e/\H1 e=some (xO e C (some D) ws)/\DK K C f/\H1 D=some (.xd fs)/\fs.lookup f=some v/\Q v H1
theorem gw{o:Expr}{f:Str}(he:PE X o ta)(hb:attributeBase o f X.env (eval o X.env)=eval o X.env):PE X (.Attribute o f pos) (j7 X.K ta f):=by intro pins s σ H Q I h;refine Wg hb (Ae (he pins s σ H _ I h) fun u s1 ⟨x,H1,I1,rx,e,C,D,ws,fs,v,ex,ea,xa,eD,l,q⟩=>?_);subst ex;obtain rfl:u=Value.ref e:=rx;exact kG I1 ea xa eD l q
theorem eS{m':Str->Option Value}(I:Inv X pins σ H s)(hs:Heap.SameBut X.env.locals s.heap h')(hn:h'.Ns X.env.locals m'):
 Inv X pins (List.replicate X.N.length none) H {s with heap:=h',toks:=t'}:=by
 have nl:∀b o,X.s₀.heap.get? b=some o->b≠X.env.locals:=fun b o e=>BH (Cu (Aw e) I.ok.above);refine⟨I.ok,I.os,I.bare,⟨fun b o e n hb hx=>(hs.2 b (nl b o e)).trans (I.base.keep b o e n hb hx),fun b o e n hb hx=>?_,I.base.free,fun b o e hx=>?_,I.base.EY,I.base.Dk,I.base.EX⟩,⟨m',hn,fun j y v' _ e2 _=>?_⟩,fun y c e=>?_,I.free,I.C8,
  fun p hp=>?_,fun b u e=>?_,by simp⟩
 ·obtain⟨sl,e1⟩:=I.base.slot b o e n hb hx;exact⟨sl,(hs.2 b (nl b o e)).trans e1⟩
 ·obtain⟨o',e1⟩:=I.base.there b o e hx;exact⟨o',(hs.2 b (nl b o e)).trans e1⟩
 ·rw[List.getElem?_replicate] at e2;split at e2<;>cases e2
 ·obtain⟨v,z⟩:=I.cell y c e;exact⟨v,z.sameBut hs (I.Iu y c e)⟩
 ·obtain⟨e,n,ne,nf,dt⟩:=I.pin p hp;exact⟨(hs.2 p.1 ne).trans e,n,ne,nf,dt⟩
 ·refine(I.hok b u e).EB (fun c w' hc q=>(hs.2 c ?_).trans q) (fun _ q=>q) fun _ _ q=>q;intro z;rcases hc with y|y
  ·rw[<-y,z,I.free] at e;cases e
  ·rw[z,I.free] at y;cases y
theorem ip{tb:XK->TS}{n R:Str}{Rc:Addr}{f:Str}{np p1 p2 p3 hpos:Pos}(hN:X.N.Nodup)(hi:X.N[i]? =some n)(hn:X.env.scope.names.lookup n=some .local)
 (hb:∀(pins:List (Addr×Obj))(W:Value->Shared->Prop)(E:XK),Passes (Ca X.prog X.w) (MX X pins W) E->EE (MX X pins W) body (tb E))
 (hg:Gl X R)(hm:X.mg R=some (.ref Rc))(hR:S4 X.K Rc)(hst:X.stack=X.env::X.outer/\X.env.frame=some X.env.locals)(hd1:(R==("__debug__" :Str))=false:=by decide)(hd2:(n==("__debug__" :Str))=false:=by decide)(hd3:(n==("__classdict__" :Str))=false:=by decide)
 (hab:attributeBase (.Name n p1) f X.env (eval (.Name n p1) X.env)=eval (.Name n p1) X.env:=by rfl):
 PS X (.Try body [.ExceptHandler (some (.Name R np)) (some n) [.Return (some (.Attribute (.Name n p1) f p2)) p3] hpos] [] [] pos) (fun D σ H=>tb (R0 X.K Rc f D.rt) D σ H):=by
 intro pins s σ H D I h;let W:Value->Shared->Prop:=fun v s'=>∃σ1 H1 s1,Inv X pins σ1 H1 s1/\Ca X.prog X.w X.stack H1 s1 (R0 X.K Rc f D.rt) v s';have ps:Passes (Ca X.prog X.w) (MX X pins W) (R0 X.K Rc f D.rt):=fun pins1 σ1 H1 s1 v s2 I1 cx=>⟨σ1,H1,s1,Inv.MF I.ok I1,cx⟩;have hr:=hb pins W _ ps [] s σ H D (Inv.kg I W) h;refine wpAny_Try_except (Cz hr (fun fl s1 z=>?_) fun v s2 z=>?_)
 ·cases fl with
  |next=>obtain⟨σ',H',J,q⟩:=z;exact Nh ⟨σ',H',Inv.MF I.ok J,q⟩
  |brk=>obtain⟨σ',H',J,q⟩:=z;exact⟨σ',H',Inv.MF I.ok J,q⟩
  |cont=>obtain⟨σ',H',J,q⟩:=z;exact⟨σ',H',Inv.MF I.ok J,q⟩
  |ret u=>obtain⟨v,σ',H',J,r,q⟩:=z;exact⟨v,σ',H',Inv.MF I.ok J,r,q⟩
 ·obtain⟨σ1,H1,s1,I1,e,C,Dd,vs,H2,rfl,os,bare,un,ok,fl,hE⟩:=z;have J:=I1.Oz (ch:=[]) os un ok bare (fun b z=>absurd z (by simp));have ff:(envs:List Env)->X.stack=envs->s2.heap.FunFrames X.base envs:=fun l e=>e▸J.stack;refine XU (base:=X.base) (L:=X.env.locals) (outer:=X.outer) (hst.1▸J.ok.frames) (ff _ hst.1) hst.2 (Jc J.hok fl.xo) fl.two fl.hd fun h3 lv=>?_;obtain⟨vs3,ok3,fl3⟩:=fl.step J.hok lv (fun b hb=>J.Oi b (by rw[hst.1];exact hb));have un3:Un (Ci X.stack) [] H1 (upd H2 e (xO e C (some Dd) vs3)) s1.heap h3:=by rw[hst.1] at un⊢;exact fl.nO un lv
  have J3:Inv X pins σ1 (upd H2 e (xO e C (some Dd) vs3)) {s2 with heap:=h3}:=I1.Oz (s':={s2 with heap:=h3}) (ch:=[]) os un3 ok3 bare (fun b z=>absurd z (by simp));obtain⟨C',D',msg,eC,eD,xs,xa,hD,hQ⟩:=hE vs3;obtain rfl:C=C':=by cases eC;rfl
  obtain rfl:Dd=D':=by cases eD;rfl
  obtain⟨bm,N,xc,hsub⟩:=xs.cls;obtain⟨bmR,NR,xr,lnR⟩:=hR.cls;have e3:=Jc J3.hok fl3.xo;refine wpAny_handleBy_cons (codeAny_handlers_test ?_) (by intro q;cases q);refine Kj (X:=JR X e fun _ _=>True) (Inv.marked J3 e _) hg hm ?_ hd1;refine gZ (xc _ J3.BP) (xr _ J3.BP) lnR e3 hsub ?_;refine codeAny_handlers_suite_as ?_;obtain⟨T,oT,ts,h1,nT,hT,dT,h3n⟩:∃T oT ts,vs3[1]? =some (.ref T)/\T≠e/\h3.get? T=some oT/\oT.data=.fields ts/\ts[3]? =some .none:=by
   rcases fl3.hd with z|z
   ·obtain⟨T,oT,ts,he,_,gT,dT,h3'⟩:=lv.here;have:vs3=vs.setIfInBounds 1 (.ref T):=by have a:=e3.symm.trans he;cases a;rfl
    rw[this] at z;simp[fl.two] at z
   ·exact z
  have nT':=fl3.M4 T h1;refine jL e3 h1 hT dT h3n fun h4 k4 x4 z4=>?_;have J4:=J3.turned (t':=s2.toks) (it:=T) (h':=h4) (fun b o nb q=>(k4 b nb).trans q) nT'.2 (EN (Cu I1.lt nT'.1)) (.inr (BI I1.sz nT'.1))
   (fun x c q=>by obtain⟨v,z⟩:=I1.cell x c q;exact BH (Cu z.lt nT'.1))
   fun p hp=>BH (Cu (Aw (I1.pin p hp).1) nT'.1);refine Q6 (X:=JR X e fun _ _=>True) (Inv.marked J4 e _) hN hi (.inl hn) (v:=.ref e) rfl (fun s5 J5=>?_) (.inr hn);have hil:i<σ1.length:=by rw[I1.len];exact(BW.mp hi).1
  refine Cz ((AV (An (gw (X:=JR X e _) (f:=f) (pos:=p2) (XT (X:=JR X e _) (pos:=p1) hi (.inl hn) hd2 hd3) hab)):EE (JR X e _) _ _) pins s5 _ _ {nx:=fun _ _=>False,rt:=D.rt} (Inv.marked (Inv.unmarked I.ok J5) e _)
   ⟨.ref e,NP hil,e,C,Dd,vs3,_,.str msg,rfl,fl3.xo,xa,hD,by rw[GC,IF],hQ⟩) (fun fl6 s6 z=>?_) fun _ _ z=>z
  cases fl6 with
  |next=>obtain⟨_,_,_,q⟩:=z;exact q.elim
  |brk=>obtain⟨_,_,_,q⟩:=z;exact q.elim
  |cont=>obtain⟨_,_,_,q⟩:=z;exact q.elim
  |ret u=>obtain⟨v,σ6,H6,J6,r6,q6⟩:=z;obtain⟨m6,n6,_⟩:=J6.loc;exact wpAny_nameGoes hn n6 (by rw[I.ok.kind];rfl) fun h7 m7 n7 s7=>⟨v,_,H6,eS (Inv.unmarked I.ok J6) s7 n7,r6,q6⟩
abbrev PR:=Str×Str
noncomputable def FV(p:PR):List V:=[.str p.1,.str p.2]
noncomputable def DL(p:PR):Dt:=.tup [.str p.1,.str p.2]
noncomputable def M3(H:Hp)(a:Addr):Option PR:=match H a with
 |some (.tup [.str k,.str z])=>some (k,z)
 |_=>none
variable{p:PR}
theorem W9(h:H a=some (.tup (FV p))):M3 H a=some p:=by unfold M3;rw[h];rfl
theorem MS(r:Rep H (DL p) v):∃a,v=.ref a/\H a=some (.tup (FV p)):=by
 cases r with
 |@tup ds a xs h hl rr=>refine⟨a,rfl,?_⟩;revert h rr;refine K2 (C:=fun xs=>H a=some (.tup xs)->(∀(i:Nat) d x,[Dt.str p.1,Dt.str p.2][i]? =some d->xs[i]? =some x->Rep H d x)->H a=some (.tup (FV p))) (fun u v h rr=>?_) hl.symm;have e1:=rr 0 (.str p.1) u rfl rfl;have e2:=rr 1 (.str p.2) v rfl rfl;cases e1;cases e2;exact h
theorem R9(h:H a=some (.tup (FV p))):Rep H (DL p) (.ref a):=by
 refine .tup h rfl fun i d x h1 h2=>?_
 match i with
 |0=>cases h1;cases h2;exact .str _
 |1=>cases h1;cases h2;exact .str _
 |i+2=>simp at h1
theorem Xe(p q:PR):decide (p=q)=((p.1==q.1)&&((p.2==q.2)&&true)):=by
 by_cases h1:p.1=q.1
 ·by_cases h2:p.2=q.2
  ·rw[Bj (Prod.ext h1 h2),h1,h2,IF,IF];rfl
  ·rw[BK (fun z=>h2 (BZ Prod.snd z)),KD h2,Ln,KJ]
 ·rw[BK (fun z=>h1 (BZ Prod.fst z)),KD h1,Ln]
theorem gV(I:Inv X pins σ H s){q:PR}(ha:H a=some (.tup (FV p)))(hb:H b=some (.tup (FV q)))(hu:A.units<cLine):SeqAt.EqAt A s (.ref a) (.ref b) (decide (p=q)):=by
 by_cases hab:a=b
 ·subst hab;rw[ha] at hb;have e:p=q:=by have:=Ah hb;cases p;cases q;simp[FV] at this;exact Prod.ext this.1 this.2
  rw[Bj e];exact .same _
 ·obtain⟨AM,r,pl,hz⟩:=I.tuple (AY.of (K:=X.K) ha);obtain⟨its2,r2,pl2,hz2⟩:=I.tuple (AY.of (K:=X.K) hb);obtain⟨u1,u2,rfl,e1,e2⟩:=Vals.two r;obtain⟨w1,w2,rfl,e3,e4⟩:=Vals.two r2;obtain⟨t1,rfl⟩:=e1;obtain⟨t2,rfl⟩:=e2;obtain⟨t3,rfl⟩:=e3;obtain⟨t4,rfl⟩:=e4;have rc:=SeqAt.RcAt.tuples (e:=fun j=>if j=0 then p.1==q.1 else p.2==q.2) pl pl2 hu (fun j h1 h2=>?_)
  ·refine SeqAt.EqAt.of_refs hab ?_;have:decide (p=q)=((List.range (min #[Value.str p.1 t1,Value.str p.2 t2].size #[Value.str q.1 t3,Value.str q.2 t4].size)).all (fun j=>if j=0 then p.1==q.1 else p.2==q.2)&& #[Value.str p.1 t1,Value.str p.2 t2].size== #[Value.str q.1 t3,Value.str q.2 t4].size):=by show decide (p=q)=((List.range 2).all (fun j=>if j=0 then p.1==q.1 else p.2==q.2)&&true);rw[Bool.and_true,show List.range 2=[0,1] from rfl,KN,KN,List.all_nil];exact Xe p q
   rw[this];exact rc
  ·match j,h1 with
   |0,_=>exact .str_str _ _ _ _
   |1,_=>exact .str_str _ _ _ _
def Fz(H:Hp)(p:PR)(u:Value):Bool:=match u with
 |.ref a=>decide (M3 H a=some p)
 |_=>false
theorem Xn(I:Inv X pins σ H s)(hu:A.units<cLine)(hb:H b=some (.tup (FV p))):∀{ws:List PR}{xs:List V}{us:List Value},Am H (ws.map DL) xs->Vals xs us->∀u∈us,SeqAt.EqAt A s u (.ref b) (Fz H p u):=fun{ws xs us} rr rv u hu'=>by
 obtain⟨i,hi⟩:=T5 hu';have hl:i<ws.length:=by
  have h1:=(BW.mp hi).1;have h2:=rv.length;have h3:=rr.1;rw[AL] at h3
  lia
 have hx:i<xs.length:=by have:=rr.1;rw[AL] at this;lia
 have ex:xs[i]? =some xs[i]:=Ar hx;have ew:(ws.map DL)[i]? =some (DL ws[i]):=by rw[Az,Ar hl];rfl
 obtain⟨a,ea,ha⟩:=MS (rr.2 i _ _ ew ex);obtain⟨u',hu2,ru⟩:=rv.get ex;rw[hi] at hu2;cases hu2;rw[ea] at ru;cases ru;have e:Fz H p (.ref a)=decide (ws[i]=p):=by
  show decide (M3 H a=some p)=_;rw[W9 ha];by_cases z:ws[i]=p
  ·rw[z];simp
  ·rw[BK z,BK (fun y=>z (Ah y))]
 rw[e];exact gV I ha hb hu
theorem Ry(H:Hp)(p:PR):∀{ws:List PR}{xs:List V}{us:List Value},Am H (ws.map DL) xs->Vals xs us->us.map (Fz H p)=ws.map fun q=>decide (q=p)
 |[],[],_,_,.nil=>rfl
 |w::ws,x::xs,u::us,rr,.cons r t=>by
  obtain⟨a,ea,ha⟩:=MS (rr.2 0 _ x rfl rfl);rw[Au,Au,Ry H p (ws:=ws) (xs:=xs) ⟨by simpa using rr.1,fun i d y h1 h2=>rr.2 (i+1) d y (by simpa using h1) (by simpa using h2)⟩ t];rw[ea] at r;cases r;congr 1;show decide (M3 H a=some p)=_;rw[W9 ha];by_cases z:w=p
  ·rw[z];simp
  ·rw[BK z,BK (fun y=>z (Ah y))]
 |[],_::_,_,rr,_=>by cases rr.1
 |_::_,[],_,rr,_=>by cases rr.1
def md:R2:=fun x y H Q=>∃a b p q,x=.ref a/\y=.ref b/\H a=some (.tup (FV p))/\H b=some (.tup (FV q))/\Q (.bl (decide (p=q))) H
theorem Vm(hu:X.A.units<cLine):Bs X (compareOp .Eq) md:=by
 intro pins s σ H x y v u Q I rx ry h;obtain⟨a,b,p,q,rfl,rfl,ha,hb,qq⟩:=h;cases rx;cases ry;obtain⟨AM,r,pl,hz⟩:=I.tuple (AY.of (K:=X.K) ha);obtain⟨its2,r2,pl2,hz2⟩:=I.tuple (AY.of (K:=X.K) hb);obtain⟨u1,u2,rfl,e1,e2⟩:=Vals.two r;obtain⟨w1,w2,rfl,e3,e4⟩:=Vals.two r2;obtain⟨t1,rfl⟩:=e1;obtain⟨t2,rfl⟩:=e2;obtain⟨t3,rfl⟩:=e3;obtain⟨t4,rfl⟩:=e4;refine SeqAt.eq_tupleAt (e:=fun j=>if j=0 then p.1==q.1 else p.2==q.2) pl pl2 hu (fun j h1 h2=>?_) ⟨.bl (decide (p=q)),H,I,?_,qq⟩
 ·match j,h1 with
  |0,_=>exact .str_str _ _ _ _
  |1,_=>exact .str_str _ _ _ _
 ·show Value.bool ((List.range 2).all (fun j=>if j=0 then p.1==q.1 else p.2==q.2)&&true)=Value.bool (decide (p=q));rw[Bool.and_true,show List.range 2=[0,1] from rfl,KN,KN,List.all_nil];exact BZ Value.bool (Xe p q).symm
def lh:R2:=fun x y H Q=>∃(b l:Addr)(p:PR)(ws:List PR)(xs:List V),x=.ref b/\y=.ref l/\H b=some (.tup (FV p))/\H l=some (.lst xs)/\Am H (ws.map DL) xs/\Q (.bl (ws.any fun q=>decide (q=p))) H
theorem dF(hu:X.A.units+1<cLine):Bs X (compareOp .In) lh:=by intro pins s σ H x y v u Q I rx ry h;obtain⟨b,l,p,ws,xs,rfl,rfl,hb,hl,rr,q⟩:=h;cases rx;cases ry;obtain⟨AM,r,pl,hz⟩:=I.list (AN.of (K:=X.K) hl);refine SeqAt.in_listAt (Fz H p) pl.isList (fun w hw=>Xn I (show X.A.in1.units<cLine from hu) hb rr r w (by simpa using hw)) ⟨.bl _,H,I,rfl,?_⟩;have e:=BZ (fun l:List Bool=>l.any id) (Ry H p rr r);simp only[List.any_map] at e;rw[show AM.toArray.any (Fz H p)=AM.any (Fz H p) by simp,show AM.any (Fz H p)=AM.any (id∘Fz H p) from rfl,e];exact q
def gc:V->List V->Hp->VK->Prop:=fun x vs H Q=>∃(b l:Addr)(p:PR)(ws:List PR)(xs:List V),x=.ref l/\vs=[.ref b]/\H b=some (.tup (FV p))/\H l=some (.lst xs)/\Am H (ws.map DL) xs/\Q (.int (ws.countP fun q=>decide (q=p):Nat)) H
theorem aA(hu:X.A.units+1<cLine):HX X "list.count" gc:=by intro pins s σ H x vs v us Q I rx rv h;obtain⟨b,l,p,ws,xs,rfl,rfl,hb,hl,rr,q⟩:=h;cases rx;obtain⟨u,rfl,ru⟩:=rv.one;cases ru;obtain⟨z,AM,n,r,hl',e⟩:=I.Jv hl;refine JH F.slot_list_count ⟨_,e,rfl⟩ F.entry_list_count (F.args_list_count_2 _ _) (SeqAt.list_countAt l AM.toArray n none #[] (.ref b) (Fz H p)) ⟨e,fun w hw=>Xn I (show X.A.in1.units<cLine from hu) hb rr r w (by simpa using hw),?_⟩;refine⟨.int _,H,I.tok _,⟨_,rfl⟩,?_⟩;have e2:=BZ (fun l:List Bool=>l.countP id) (Ry H p rr r);simp only[List.countP_map] at e2;show Q (.int (AM.countP (Fz H p):Nat)) H;rw[show AM.countP (Fz H p)=AM.countP (id∘Fz H p) from rfl,e2];exact q
theorem Inv.Xk{o u:HO}(I:Inv X pins σ H s)(h:H d=some o)(nt:∀xs,o≠.tup xs)(nw:∀x,o≠.own x)(nf:∀b u',X.H₀ d≠some (.BO b u'))(nb:∀ps,o≠.Iw ps)(new:BL X.prog X.w (upd H d u) s.heap d u):Inv X pins σ (upd H d u) s:=by
 refine⟨I.ok,I.os,I.bare,⟨I.base.keep,I.base.slot,fun b ob q n hx=>?_,I.base.there,fun b xs q=>?_,fun b ob u' q=>?_,fun b ps q=>?_⟩,I.loc,I.cell,?_,fun x c e=>?_,fun p hp=>?_,fun b ob q=>?_,I.len⟩
 ·have z:=I.base.free b ob q n hx;rw[AO (fun y=>by rw[y,h] at z;cases z)];exact z
 ·have z:=I.base.EY b xs q;rw[AO (fun y=>by rw[y,h] at z;exact nt xs (Ah z))];exact z
 ·have z:=I.base.Dk b ob u' q;rw[AO (fun y=>nf ob u' (by rw[<-y];exact q))];exact z
 ·obtain⟨m,z⟩:=I.base.EX b ps q;exact⟨m,by rw[AO (fun y=>by rw[y,h] at z;exact nb _ (Ah z))];exact z⟩
 ·rw[AO (fun y=>by have:=I.free;rw[y,h] at this;cases this)];exact I.free
 ·rw[AO (fun y=>by have:=I.C8 x c e;rw[y,h] at this;cases this)];exact I.C8 x c e
 ·obtain⟨e,n,r⟩:=I.pin p hp;exact⟨e,by rw[AO (fun y=>by rw[y,h] at n;cases n)];exact n,r⟩
 ·by_cases hb:b=d
  ·subst hb;rw[AR] at q;cases q;exact new
  ·rw[AO hb] at q;refine(I.hok b ob q).EB (fun _ _ _ z=>z) (fun c z=>?_) fun c xs z=>?_
   ·rw[AO (fun y=>by rw[y,h] at z;exact nw _ (Ah z))];exact z
   ·rw[AO (fun y=>by rw[y,h] at z;exact nt _ (Ah z))];exact z
theorem Inv.Kx(I:Inv X pins σ H s)(h:H d=some (.dK AA))(b:Obj)(u:HO):X.H₀ d≠some (.BO b u):=fun z=>by have:=I.base.Dk d b u z;rw[h] at this;cases this
theorem BL.Yk(x:BL P w H h d (.dK AA)):BL P w H' h d (.dK AA):=x
theorem Inv.YI(I:Inv X pins σ H s)(h:H d=some (.dK AA)):∃o es ep,s.heap.get? d=some o/\o.data=.dict es ep/\Inv X pins σ (upd H d (.BO o (.dK AA))) s:=by have ok:=I.hok d _ h;obtain⟨z,hm,vs,rel,o,es,ep,ho,hc,hd,r⟩:=(show BL X.prog X.w H s.heap d (.dK AA) from ok);refine⟨o,es,ep,ho,hd,I.Xk h (fun _ q=>nomatch q) (fun _ q=>nomatch q) (I.Kx h) (fun _ q=>nomatch q) ⟨ho,BL.Yk (show BL X.prog X.w H s.heap d (.dK AA) from ok)⟩⟩
theorem Inv.Mx(I:Inv X pins σ H s)(nf:∀b u',X.H₀ d≠some (.BO b u'))(h:H d=some (.BO o (.dK AA))):Inv X pins σ (upd H d (.dK AA)) s:=by have ok:=I.hok d _ h;obtain⟨ho,z⟩:=(show BL X.prog X.w H s.heap d (.BO o (.dK AA)) from ok);exact I.Xk h (fun _ q=>nomatch q) (fun _ q=>nomatch q) nf (fun _ q=>nomatch q) (BL.Yk (show BL X.prog X.w H s.heap d (.dK AA) from z))
def kc(d:Addr)(AA:List (Key×V))(te:TE):TE:=fun σ H Q=>H d=some (.dK AA)/\te σ H fun v H'=>∃o,H' d=some (.BO o (.dK AA))/\Q v (upd H' d (.dK AA))
theorem WS(he:PE X e te):PE X e (fun σ H Q=>∃d AA,kc d AA te σ H Q):=by intro pins s σ H Q I h;obtain⟨d,AA,hd,h⟩:=h;refine Ae (he pins s σ H _ I h) fun v s1 ⟨x,H',I1,r,o,ho,q⟩=>?_;exact⟨x,_,I1.Mx (I.Kx hd) ho,r,q⟩
def js(d:Addr)(AA:List (Key×V))(t:TS):TS:=fun D σ H=>H d=some (.dK AA)/\t {nx:=(fun σ' H'=>∃o,H' d=some (.BO o (.dK AA))/\D.nx σ' (upd H' d (.dK AA))),rt:=(fun v H'=>∃o,H' d=some (.BO o (.dK AA))/\D.rt v (upd H' d (.dK AA))),bk:=(fun σ' H'=>∃o,H' d=some (.BO o (.dK AA))/\D.bk σ' (upd H' d (.dK AA))),ct:=(fun σ' H'=>∃o,H' d=some (.BO o (.dK AA))/\D.ct σ' (upd H' d (.dK AA)))} σ H
theorem gP{st:Stmt}{t:TS}(hs:PS X st t):PS X st (fun D σ H=>∃d AA,js d AA t D σ H):=by
 intro pins s σ H D I h;obtain⟨d,AA,hd,h⟩:=h;refine Ae (hs pins s σ H _ I h) fun f s1 z=>?_
 cases f with
 |next=>obtain⟨σ',H',J,o,ho,q⟩:=z;exact⟨σ',_,J.Mx (I.Kx hd) ho,q⟩
 |brk=>obtain⟨σ',H',J,o,ho,q⟩:=z;exact⟨σ',_,J.Mx (I.Kx hd) ho,q⟩
 |cont=>obtain⟨σ',H',J,o,ho,q⟩:=z;exact⟨σ',_,J.Mx (I.Kx hd) ho,q⟩
 |ret u=>obtain⟨v,σ',H',J,r,o,ho,q⟩:=z;exact⟨v,σ',_,J.Mx (I.Kx hd) ho,r,q⟩
noncomputable def HK(p d:Addr):HO:=.ext fun h=>h.IsItemsView p d
def jk:V->List V->Hp->VK->Prop:=fun x vs H Q=>∃d AA,x=.ref d/\vs=[]/\H d=some (.dK AA)/\∀p,H p=none->Q (.ref p) (upd H p (HK p d))
theorem Vn:HX X "dict.items" jk:=by intro pins s σ H x vs v us Q I rx rv h;obtain⟨d,AA,rfl,rfl,hd,q⟩:=h;cases rx;cases rv;obtain⟨z,hm,ws,rel,dd⟩:=Ic I.hok hd;refine Nx Tr dd.typeIs PySem.F.entry_dict_items (PySem.F.args_dict_items_1 _) (meets_dict_items (CW X.prog X.w) d hm) ⟨⟨ws,dd⟩,?_⟩;refine⟨.ref s.heap.objs.size,_,I.laid (t':=s.toks) (o:=HK s.heap.objs.size d) (fun b o e=>A7 _ e) (Ac _) ?_,rfl,q _ I.fresh⟩;have hv:(s.heap.push {cls:=.type "dict_items",data:=.fields #[.ref d]}).IsItemsView s.heap.objs.size d:=⟨_,Bx _ rfl,rfl,rfl⟩;exact⟨hv,⟨_,Bx _ rfl⟩,fun h1 h2 a k=>let⟨o,e,r⟩:=a;⟨o,k o e,r⟩⟩
def LS(d:Addr)(o:Obj)(AA:List (Key×V)):It:=
 ⟨fun i H=>H d=some (.BO o (.dK AA))/\i<AA.length,fun i H v H'=>∃p k x,v=.ref p/\H p=none/\AA[i]? =some (k,x)/\H'=upd H p (.tup [kV k,x]),fun i H=>H d=some (.BO o (.dK AA))/\AA.length<=i⟩
def TF(d:Addr)(o:Obj)(AA:List (Key×V)):It:=
 ⟨fun i H=>H d=some (.BO o (.dK AA))/\i<AA.length,fun i H v H'=>∃k,AA[i]? =some (k,v)/\H'=H,fun i H=>H d=some (.BO o (.dK AA))/\AA.length<=i⟩
variable{ep:Nat}
theorem Km{es:Array DictEntry}(ok:Bt P w H h)(e:H d=some (.BO o (.dK AA)))(hd:o.data=.dict es ep):∃vs,KV AA vs/\h.DictAt (CW P w) d vs ep:=by obtain⟨ho,z,hm,vs,rel,o',es',ep',ho',hc,hd',r⟩:=(show BL P w H h d (.BO o (.dK AA)) from ok d _ e);rw[ho] at ho';cases ho';rw[hd] at hd';cases hd';exact⟨vs,rel,o,es,ho,hc,hd,r⟩
theorem Rr{AA:List (Key×V)}{ws:List (Key×Value)}:KV AA ws->∀{i:Nat}{k:Key}{x:V},AA[i]? =some (k,x)->∃u,ws[i]? =some (k,u)/\RelV x u
 |.nil,i,k,x,e=>by simp at e
 |.cons r t,0,k,x,e=>by have e':=Ah (show some _=some (k,x) from by simpa using e);subst e';rename_i b _ _;obtain⟨k',u⟩:=b;obtain⟨h1,h2⟩:=r;exact⟨u,by simp;exact h1.symm,h2⟩
 |.cons _ t,i+1,k,x,e=>by obtain⟨u,h1,h2⟩:=Rr (show KV _ _ from t) (i:=i) (k:=k) (x:=x) (by simpa using e);exact⟨u,by simpa using h1,h2⟩
theorem iF{k:Key}{key:Value}(h:(CW P w).is k key=true):RelV (kV k) key:=by
 rcases Ff h with⟨i,t,rfl,rfl⟩|⟨x,t,rfl,rfl⟩
 ·exact⟨t,rfl⟩
 ·exact⟨t,rfl⟩
theorem Zv:entryFor table "dict_itemiterator.__iter__" =some Builtin.«dict_keyiterator.__iter__»:=
 entryFor_alias (id':="dict_keyiterator.__iter__") (by kernel_rfl) rfl (by ac_rfl) (by kernel_rfl)
theorem aV{x1:Nat}(d it:Addr)(o:Obj)(AA:List (Key×V))(es:Array DictEntry)(ep:Nat)(hod:o.data=.dict es ep):
 Turn P w K (.Tuple elts x1 tpos) (LS d o AA) [it] it (fun i h=>∃ok ov,IsItemIter h it d i AA.length ep ok ov) where
 mem:=by simp
 obj:=fun i h st b hb=>by
  obtain⟨ok,ov,he⟩:=st;have hb':b=it:=by simpa using hb
  subst hb';exact⟨_,he,fun v q=>nomatch q⟩
 keep:=fun i h h' st k=>by obtain⟨ok,ov,he⟩:=st;exact⟨ok,ov,k it (by simp) _ he⟩
 item:=by
  intro X hP hw hK hc i pins s σ H E I hf st hg;subst hP hw hK;obtain⟨ok,ov,he⟩:=st;obtain⟨hd,hi⟩:=hg;obtain⟨vs,rel,dat⟩:=Km I.hok hd hod;have ex:AA[i]? =some (AA[i].1,AA[i].2):=Ar hi;obtain⟨u,hu,ru⟩:=Rr rel ex;have hl:AA.length=vs.length:=IK rel;have hn:H s.heap.objs.size=none:=I.hok.fresh (Ac _);have lt:=Aw he;rw[hl] at he;refine wpAny_pyNext_items_item (knd:=CW X.prog X.w) he dat hu fun key h1 hkey e1 t1 z1 k1=>⟨_,rfl,?_⟩;refine wpAny_letOwnedTupleGo_items e1 fun h2 e2 sb=>?_;have sb':Heap.SameBut it h1 h2:=sb;have k2:∀b o,b∉[it]->s.heap.get? b=some o->h2.get? b=some o:=fun b o hb z=>by
   have hb':b≠it:=by simpa using hb
   exact(sb'.2 b hb').trans (k1 b o hb' z)
  have t2:IsTup h2 s.heap.objs.size [key,u].toArray:=⟨_,(sb'.2 _ (EN lt)).trans t1,rfl,_,rfl⟩;have I2:=I.Us (h':=h2) (t':=s.toks) (xs:=[kV AA[i].1,AA[i].2]) hf k2 (fun b hb=>by
   have hb':b=it:=by simpa using hb
   rw[hb'];exact⟨_,e2⟩) (.cons (iF hkey) (.cons ru .nil)) (by show 2<=sizeLine;decide) t2;refine⟨.ref s.heap.objs.size,_,I2,rfl,⟨_,_,_,rfl,hn,ex,rfl⟩,⟨key,u,by rw[hl];exact e2⟩,fun b hb=>?_⟩;have hb':b=it:=by simpa using hb
  rw[hb',AO (BH lt)];exact(hf it (by simp)).1
 done:=by intro X hP hw hK hc i pins s σ H E I hf st hg;subst hP hw hK;obtain⟨ok,ov,he⟩:=st;obtain⟨hd,hi⟩:=hg;obtain⟨vs,rel,dat⟩:=Km I.hok hd hod;have hl:AA.length=vs.length:=IK rel;obtain⟨f0,f1,f2,f3,f4,f5⟩:=hf it (by simp);rw[hl] at he;exact wpAny_pyNext_items_end (knd:=CW X.prog X.w) (I.ok.hd hc) he dat (NM.mpr (by lia)) fun h' eb=>⟨rfl,I.turned (t':=s.toks) (fun b o hb e=>eb b o hb e) f0 f1 f3 f4 f5⟩
 self:=fun A i s Q E st h=>by obtain⟨ok,ov,he⟩:=st;have ty:s.TypeIs (.ref it) "dict_itemiterator" :=⟨_,he,rfl⟩;refine wpAny_pyIter_slot ty Zq (Nb Zq ty Zv ?_ (PySem.F.args_dict_itemiterator_iter_1 _));show wpAny _ _ (ret (.ref it)) _ _ s;exact Af ⟨_,rfl,"dict_itemiterator",_,ty,PySem.F.slot_dict_itemiterator_next.lookup,h⟩
theorem aC(d it:Addr)(o:Obj)(AA:List (Key×V))(es:Array DictEntry)(ep:Nat)(hod:o.data=.dict es ep):
 Turn P w K tg (TF d o AA) [it] it (fun i h=>h.IsValIter it d i AA.length ep) where
 mem:=by simp
 obj:=fun i h st b hb=>by
  obtain⟨oi,he,hc,hdt⟩:=st;have hb':b=it:=by simpa using hb
  subst hb';exact⟨_,he,fun v q=>by rw[hdt] at q;cases q⟩
 keep:=fun i h h' st k=>st.at fun o z=>k it (by simp) o z
 item:=by
  intro X hP hw hK hc i pins s σ H E I hf st hg;subst hP hw hK;obtain⟨hd,hi⟩:=hg;obtain⟨vs,rel,dat⟩:=Km I.hok hd hod;have ex:AA[i]? =some (AA[i].1,AA[i].2):=Ar hi;obtain⟨u,hu,ru⟩:=Rr rel ex;have hl:AA.length=vs.length:=IK rel;obtain⟨f0,f1,f2,f3,f4,f5⟩:=hf it (by simp);rw[hl] at st;refine wpAny_pyNext_values_item (knd:=CW X.prog X.w) st dat hu fun h1 e1 sb=>⟨_,rfl,?_⟩;obtain⟨oi,he,hci,hdt⟩:=id e1;refine Ox (s:={s with heap:=h1}) he hci hdt (by decide) ?_;exact⟨AA[i].2,H,I.turned (t':=s.toks) (fun b o hb e=>(sb.2 b hb).trans e) f0 f1 f3 f4 f5,ru,⟨_,ex,rfl⟩,by rw[hl];exact e1,fun b hb=>by
   have hb':b=it:=by simpa using hb
   rw[hb'];exact f0⟩
 done:=by intro X hP hw hK hc i pins s σ H E I hf st hg;subst hP hw hK;obtain⟨hd,hi⟩:=hg;obtain⟨vs,rel,dat⟩:=Km I.hok hd hod;have hl:AA.length=vs.length:=IK rel;obtain⟨f0,f1,f2,f3,f4,f5⟩:=hf it (by simp);rw[hl] at st;exact wpAny_pyNext_values_end (knd:=CW X.prog X.w) (I.ok.hd hc) st dat (NM.mpr (by lia)) fun h' eb=>⟨rfl,I.turned (t':=s.toks) (fun b o hb e=>eb b o hb e) f0 f1 f3 f4 f5⟩
 self:=fun _ _ _ _ _ st h=>wpAny_pyIter_valiter st h
def jG(tl:TE):TI:=fun σ H R=>tl σ H fun x H1=>∃p d AA,x=.ref p/\H1 p=some (HK p d)/\H1 d=some (.dK AA)/\∀o,R (LS d o AA) (upd H1 d (.BO o (.dK AA)))
def kr(tl:TE):TI:=fun σ H R=>tl σ H fun x H1=>∃p d AA,x=.ref p/\H1 p=some (Gb p d)/\H1 d=some (.dK AA)/\∀o,R (TF d o AA) (upd H1 d (.BO o (.dK AA)))
theorem V2{x1:Nat}{l:Expr}{tl:TE}(hl:PE X l tl):PI X (.Tuple elts x1 tpos) l (jG tl):=by
 intro pins s σ H R I h;refine Ae (hl pins s σ H _ I h) fun v s1 ⟨x,H1,I1,r,p,d,AA,ex,hp,hd,q⟩=>?_;subst ex;cases r;obtain⟨hvw,_⟩:=(show BL X.prog X.w H1 s1.heap p (HK p d) from I1.hok p _ hp);obtain⟨o,es,ep,ho,hod,I2⟩:=I1.YI hd;obtain⟨vs,rel,dat⟩:=Km I2.hok AR hod;have hlv:AA.length=vs.length:=IK rel;refine wpAny_pyIter_items (knd:=CW X.prog X.w) hvw dat ?_;refine⟨s1.heap.objs.size,[s1.heap.objs.size],_,_,_,rfl,I2.kept (t':=s1.toks) (fun b o e=>A7 _ e),aV d _ o AA es ep hod,⟨.none,.none,?_⟩,fun b hb=>?_,q o⟩
 ·rw[hlv];exact Bx _ rfl
 ·have hb':b=s1.heap.objs.size:=by simpa using hb
  rw[hb'];exact I2.Js (Ac _) (I2.hok.fresh (Ac _))
theorem iK{l:Expr}{tl:TE}(hl:PE X l tl):PI X tg l (kr tl):=by
 intro pins s σ H R I h;refine Ae (hl pins s σ H _ I h) fun v s1 ⟨x,H1,I1,r,p,d,AA,ex,hp,hd,q⟩=>?_;subst ex;cases r;obtain⟨hvw,_⟩:=(show BL X.prog X.w H1 s1.heap p (Gb p d) from I1.hok p _ hp);obtain⟨o,es,ep,ho,hod,I2⟩:=I1.YI hd;obtain⟨vs,rel,dat⟩:=Km I2.hok AR hod;have hlv:AA.length=vs.length:=IK rel;refine wpAny_pyIter_values (knd:=CW X.prog X.w) hvw dat ?_;refine⟨s1.heap.objs.size,[s1.heap.objs.size],_,_,_,rfl,I2.kept (t':=s1.toks) (fun b o e=>A7 _ e),aC d _ o AA es ep hod,?_,fun b hb=>?_,q o⟩
 ·exact⟨_,Bx _ rfl,rfl,by rw[hlv];rfl⟩
 ·have hb':b=s1.heap.objs.size:=by simpa using hb
  rw[hb'];exact I2.Js (Ac _) (I2.hok.fresh (Ac _))
theorem aX{Q:VK}(Pv:Nat->Hp->Prop)(h0:Pv 0 (upd H1 D (.lst [])))(hl:∀i H,Pv i H->H d=some (.BO o (.dK AA)))
 (hs:∀i k x p H,AA[i]? =some (k,x)->H p=none->Pv i H->g (.ref p) (ts.map (fun _=>none)++DY ix σ) (upd H p (.tup [kV k,x])) fun σ2 H2=>Hz ts ix σ σ2/\ti σ2 H2 fun b H3=>if b=true then te σ2 H3 fun y H4=>∃ys,H4 D=some (.lst ys)/\ys.length<sizeLine/\Pv (i+1) (upd H4 D (.lst (ys++[y]))) else Pv (i+1) H3)
 (hd:∀H,Pv AA.length H->Q (.ref D) H):K0 ts ix σ (LS d o AA) g ti te D Q H1:=by
 refine⟨fun i m H=>m=AA.length-i/\i<=AA.length/\Pv i H,⟨AA.length,by simp,CF _,h0⟩,?_⟩;rintro i m H ⟨rfl,hi,p⟩;by_cases hlt:i<AA.length
 ·refine .inr ⟨⟨hl i H p,hlt⟩,Pv (i+1),fun H' p'=>⟨AA.length-(i+1),by lia,rfl,hlt,p'⟩,fun v H' y=>?_⟩;obtain⟨q,k,x,ev,hq,ex,eH⟩:=y;subst ev eH;exact hs i k x q H ex hq p
 ·obtain rfl:i=AA.length:=by lia
  exact .inl ⟨⟨hl _ H p,Ac _⟩,hd H p⟩
theorem bZ{Q:VK}(Pv:Nat->Hp->Prop)(h0:Pv 0 (upd H1 D (.lst [])))(hl:∀i H,Pv i H->H d=some (.BO o (.dK AA)))
 (hs:∀i k x H,AA[i]? =some (k,x)->Pv i H->g x (ts.map (fun _=>none)++DY ix σ) H fun σ2 H2=>Hz ts ix σ σ2/\ti σ2 H2 fun b H3=>if b=true then te σ2 H3 fun y H4=>∃ys,H4 D=some (.lst ys)/\ys.length<sizeLine/\Pv (i+1) (upd H4 D (.lst (ys++[y]))) else Pv (i+1) H3)
 (hd:∀H,Pv AA.length H->Q (.ref D) H):K0 ts ix σ (TF d o AA) g ti te D Q H1:=by
 refine⟨fun i m H=>m=AA.length-i/\i<=AA.length/\Pv i H,⟨AA.length,by simp,CF _,h0⟩,?_⟩;rintro i m H ⟨rfl,hi,p⟩;by_cases hlt:i<AA.length
 ·refine .inr ⟨⟨hl i H p,hlt⟩,Pv (i+1),fun H' p'=>⟨AA.length-(i+1),by lia,rfl,hlt,p'⟩,fun v H' y=>?_⟩;obtain⟨k,ex,eH⟩:=y;subst eH;exact hs i k v _ ex p
 ·obtain rfl:i=AA.length:=by lia
  exact .inl ⟨⟨hl _ H p,Ac _⟩,hd H p⟩
theorem bV{D:Ends}(Pv:Nat->St->Hp->Prop)(h0:Pv 0 σ H)(hl:∀i σ H,Pv i σ H->H d=some (.BO o (.dK AA)))
 (hs:∀i k x p σ H,AA[i]? =some (k,x)->H p=none->Pv i σ H->g (.ref p) σ (upd H p (.tup [kV k,x])) fun σ2 H2=>tb {D with nx:=Pv (i+1),ct:=Pv (i+1),bk:=D.nx} σ2 H2)(hd:∀σ H,Pv AA.length σ H->D.nx σ H):
 ∃W:Nat->Nat->St->Hp->Prop,(∃m,W 0 m σ H)/\∀i m σ H,W i m σ H->
  ((LS d o AA).stop i H/\D.nx σ H)\/((LS d o AA).go i H/\∃N:St->Hp->Prop,(∀σ' H',N σ' H'->∃m',m'<m/\W (i+1) m' σ' H')/\∀x H',(LS d o AA).Io i H x H'->g x σ H' fun σ2 H2=>tb {D with nx:=N,ct:=N,bk:=D.nx} σ2 H2):=by
 refine⟨fun i m σ H=>m=AA.length-i/\i<=AA.length/\Pv i σ H,⟨AA.length,by simp,CF _,h0⟩,?_⟩;rintro i m σ H ⟨rfl,hi,p⟩;by_cases hlt:i<AA.length
 ·refine .inr ⟨⟨hl i σ H p,hlt⟩,Pv (i+1),fun σ' H' p'=>⟨AA.length-(i+1),by lia,rfl,hlt,p'⟩,fun v H' y=>?_⟩;obtain⟨q,k,x,ev,hq,ex,eH⟩:=y;subst ev eH;exact hs i k x q σ H ex hq p
 ·obtain rfl:i=AA.length:=by lia
  exact .inl ⟨⟨hl _ σ H p,Ac _⟩,hd σ H p⟩
theorem fN{y:Str}{c e:Addr}(hc:X.calm=true)(hk:scope.kind=.function)(h:scope.names.all (fun p=>p.2 !=.cell&&(p.2 !=.free||(p.1==y||p.1==z)))=true)
 (hn:∀q∈scope.names,q.2=.local->scope.names.lookup q.1=some .local)(hcl:closureFor scope X.env=pure [(y,c),(z,e)])(hyz:z≠y)(hce:X.env.cells.lookup y=some c)(hce2:X.env.cells.lookup z=some e)(hx:X.env.kindOf y=some .cell)(hx2:X.env.kindOf z=some .cell)
 (hj:X.N[j]? =some y)(hj2:X.N[k]? =some z)(hr:(relabel scope X.env).names.lookup y=some .cell)(hr2:(relabel scope X.env).names.lookup z=some .cell):JV X ts [y,z] [j,k] scope [(y,c),(z,e)]:=by
 have hall:∀q∈scope.names,q.2≠.cell/\(q.2=.free->q.1=y\/q.1=z):=fun q hq=>by have:=Ng.mp h q hq;simp only[E2,Bool.or_eq_true,bne_iff_ne,Fg] at this;exact⟨this.1,fun e=>this.2.elim (fun q=>absurd e q) id⟩
 have rel:∀q kd,(relabel scope X.env).names.lookup q=some kd->(kd=.cell\/kd=.free)->q=y\/q=z:=fun q kd hq hk'=>by
  have hm:=ID hq;obtain⟨p,hp,e⟩:=BY.mp (show(q,kd)∈scope.names.map _ from hm);obtain⟨n,kq⟩:=p;have hp':=hall (n,kq) hp;by_cases hf:kq=.free
  ·have e1:=hp'.2 hf;have e2:n=q:=by have:=BZ Prod.fst e;revert this;dsimp only;split<;>exact id
   rw[<-e2];exact e1
  ·have e3:(n,kq)=(q,kd):=by
    rw[<-e];dsimp only;rw[AG (by
     intro zz;have:(kq==NameKind.free)=true:=by simp only[E2] at zz;exact zz.1.1
     exact hf (by simpa using this))]
   have e4:kq=kd:=BZ Prod.snd e3;rcases hk' with z1|z1
   ·exact absurd (e4.trans z1) hp'.1
   ·exact absurd (e4.trans z1) hf
 have l1:List.lookup y [(y,c),(z,e)]=some c:=by rw[GC,IF]
 have l2:List.lookup z [(y,c),(z,e)]=some e:=by rw[GC,KD hyz,GC,IF]
 refine⟨hc,hcl,fun q hq=>(hall q hq).1,hk,hn,fun q a e'=>?_,fun q hq=>?_,rfl,fun i q m e1 e2=>?_,fun q hq=>?_⟩
 ·by_cases h1:q=y
  ·rw[h1] at e'⊢;rw[l1] at e';rw[<-Ah e'];exact hce
  ·by_cases h2:q=z
   ·rw[h2] at e'⊢;rw[l2] at e';rw[<-Ah e'];exact hce2
   ·rw[GC,KD h1,GC,KD h2] at e';cases e'
 ·have e:=hq.elim (fun r=>rel q _ r (.inl rfl)) fun r=>rel q _ r (.inr rfl);rcases e with e|e
  ·rw[e];exact⟨c,l1⟩
  ·rw[e];exact⟨_,l2⟩
 ·match i with
  |0=>
   have e3:q=y:=by simpa using e1.symm
   have e4:m=j:=by simpa using e2.symm
   rw[e3,e4];exact hj
  |1=>
   have e3:q=z:=by simpa using e1.symm
   have e4:m=k:=by simpa using e2.symm
   rw[e3,e4];exact hj2
  |i+2=>simp at e1
 ·have e:q=y\/q=z:=by simpa using hq
  rcases e with e|e
  ·rw[e];exact⟨.inr (.inl hx),(by rw[hx];intro q;cases q),.inl hr⟩
  ·rw[e];exact⟨.inr (.inl hx2),(by rw[hx2];intro q;cases q),.inl hr2⟩
theorem nj{y:Str}(h:x≠y)(h2:x≠z)(h3:y≠z):([x]++[y,z]:List Str).Nodup:=by simp[h,h2,h3]
theorem Yq{y:Str}{u:V}:Hz [x,y] ix σ (((([x,y]:List Str).map (fun _=>(none:Option V))++DY ix σ).set 0 (some u)).set 1 (some v)):=⟨[some u,some v],rfl,rfl⟩
theorem U7(hc:X.calm=true):C6 X (.builtin "sum") (fun xs H Q=>∃(l:Addr)(ns:List Int),xs=[.ref l]/\AN X.K H l (ns.map V.int)/\Q (.int ns.sum) H):=by
 intro pins s σ H xs us Q I r h;obtain⟨l,ns,rfl,hq,q⟩:=h;obtain⟨u,rfl,rx⟩:=vals1 r;cases rx;obtain⟨AM,rv,pl,hz⟩:=I.list hq;have hh:X.A.handled=none:=I.ok.hd hc;obtain⟨l',e,en⟩:∃l:List (Int×Tok),l.map (fun p=>Value.int p.1 p.2)=AM/\l.map (·.1)=ns:=by
  have:∀(ns:List Int)(us:List Value),Vals (ns.map V.int) us->∃l:List (Int×Tok),l.map (fun p=>Value.int p.1 p.2)=us/\l.map (·.1)=ns:=by
   intro ns
   induction ns with
   |nil=>intro us h;cases h;exact⟨[],rfl,rfl⟩
   |cons n r ih=>
    intro us h
    cases h with
    |cons a t=>obtain⟨l,e,en⟩:=ih _ t;obtain⟨k,ek⟩:=a;exact⟨(n,k)::l,by rw[Au,e,ek],by rw[Au,en]⟩
  exact this ns AM rv
 have ex:intItems l'.toArray=AM.toArray:=by unfold intItems;rw[<-e];simp
 refine sum_intListG hh (xs:=l'.toArray) (by rw[ex];exact pl.isList) fun h' tk t' kk=>?_;refine⟨.int _,H,I.kept kk,⟨t',rfl⟩,?_⟩;rw[preSum_eq];have:((l'.toArray.toList.map (·.1)).take l'.toArray.size)=ns:=by
  show(l'.map (·.1)).take l'.length=ns;rw[en,F7];have:=BZ List.length en;rw[AL] at this
  lia
 rw[this];exact q
noncomputable def Pt(sep:Str):List Str->Str
 |[p]=>p
 |l=>PySem.Builtin.Str.glued sep l
def rJoin(K:PySem.W.Frag):V->List V->Hp->VK->Prop:=fun x vs H Q=>∃(sep:Str)(l:Addr)(zs:List Str),x=.str sep/\vs=[.ref l]/\AN K H l (zs.map V.str)/\zs.foldl (·+·.length+sep.length) 0<=sizeLine/\(Pt sep zs).length<=sizeLine/\Q (.str (Pt sep zs)) H
theorem WO:∀(zs:List Str)(us:List Value),Vals (zs.map V.str) us->∃l:List (Str×Tok),strValues l=us/\l.map (·.1)=zs
 |[],us,h=>by cases h;exact⟨[],rfl,rfl⟩
 |z::zs,us,h=>by
  cases h with
  |cons a t=>obtain⟨l,e,en⟩:=WO zs _ t;obtain⟨k,ek⟩:=a;exact⟨(z,k)::l,by show Value.str z k::strValues l=_;rw[e,ek],by rw[Au,en]⟩
theorem XE:HX X "str.join" (rJoin X.K):=by
 intro pins s σ H x vs v us Q I rx rv h;obtain⟨sep,l,zs,rfl,rfl,hq,hz,hz3,q⟩:=h;obtain⟨t,rfl⟩:=rx;obtain⟨u,rfl,ru⟩:=rv.one;cases ru;obtain⟨AM,r,pl,hz2⟩:=I.list hq;obtain⟨l',e,en⟩:=WO zs AM r;refine JH F.slot_str_join (KW _ _ _) F.entry_str_join (F.args_str_join_2 _ _) (meets_str_join_list sep t l l' ?_) ⟨by rw[e];exact pl.isList,?_⟩
 ·rw[en];unfold Builtin.Str.tooLong;simpa using hz
 ·match l',en with
  |[],en=>subst en;exact⟨hz3,.str _,H,I.tok _,⟨_,rfl⟩,q⟩
  |[p],en=>subst en;exact⟨.str _,H,I,⟨_,rfl⟩,q⟩
  |p::p2::l,en=>subst en;exact⟨hz3,.str _,H,I.tok _,⟨_,rfl⟩,q⟩
def kM(a b:Str)(tx:TE):TE:=fun σ H Q=>tx σ H fun v H1=>∃z,v=.str z/\z.length<=4000000/\Q (.str (a++z++b)) H1
theorem gY{a b:Str}{x:Expr}{tx:TE}{k1 k2:Nat}{p1 p2 p3 p4:Pos}(hx:PE X x tx)(ha:a.length<=1000)(hb:b.length<=1000):PE X (.JoinedStr [.Constant (.str a) k1 p1,.FormattedValue x (-1) none p2,.Constant (.str b) k2 p3] p4) (kM a b tx):=by
 intro pins s σ H Q I h;refine wpAny_JoinedStr ?_;refine UI ⟨a,_,rfl,?_,?_⟩
 ·rw[Gx,BA];show 0+a.length<=_;lia
 refine wpAny_FormattedValue_plain (Ae (hx pins _ σ H _ (I.tok _) h) fun v s1 ⟨y,H1,I1,r,z,ey,hz,q⟩=>?_);subst ey;obtain⟨t,rfl⟩:=r;have fin:∀(u:Tok)(s2:Shared),Inv X pins σ H1 s2->∃y t,Value.str z u=.str y t/\(Str.empty++a++y).length<=sizeLine/\Joins (model X.prog X.w) X.A X.xe [eval (.Constant (.str b) k2 p3) X.env] (Str.empty++a++y) (fun out s₁=>out.length<=sizeLine/\EP X pins σ Q (.str out s₁.toks) {s₁ with toks:=s₁.toks+1}) s2:=fun u s2 I2=>by
  refine⟨z,u,rfl,?_,UI ⟨b,_,rfl,?_,?_,?_⟩⟩
  ·rw[Gx,Gx,BA];show 0+a.length+z.length<=_;lia
  ·rw[Gx,Gx,Gx,BA];show 0+a.length+z.length+b.length<=_;lia
  ·rw[Gx,Gx,Gx,BA];show 0+a.length+z.length+b.length<=_;lia
  ·refine⟨.str (Str.empty++a++z++b),H1,(I2.tok _).tok _,⟨_,rfl⟩,?_⟩;have e:Str.empty++a=a:=by obtain⟨c⟩:=a;show(⟨#[]++c⟩:Str)=⟨c⟩;rw[Array.empty_append]
   rw[e];exact q
 exact wpAny_formatField_str (fin t s1 I1) (fin _ _ (I1.tok _)) (by rw[BA];lia)
structure CI(H1:Hp)(D:Addr)(out:List Dt)(H:Hp):Prop where
 same:AS H1 H
 fr:H1 D=none
 lst:∃ys,H D=some (.lst ys)/\Am (Ex H D) out ys
theorem CI.start(h:H1 D=none):CI H1 D [] (upd H1 D (.lst [])):=⟨Ak h,h,[],AR,Am.nil⟩
theorem CI.ext{out:List Dt}(c:CI H1 D out H)(s:AS H H'):CI H1 D out H':=by obtain⟨ys,h,r⟩:=c.lst;exact⟨c.same.trans s,c.fr,ys,s _ _ h,r.same (Ex.mono s)⟩
theorem CI.push{out:List Dt}{d:Dt}(c:CI H1 D out H)(r:Rep (Ex H D) d y)(hl:out.length<=200000):∃ys,H D=some (.lst ys)/\ys.length<sizeLine/\CI H1 D (out++[d]) (upd H D (.lst (ys++[y]))):=by
 obtain⟨ys,h,rr⟩:=c.lst;refine⟨ys,h,?_,c.same.upd c.fr,c.fr,ys++[y],AR,?_⟩
 ·have:=rr.1;rw[BA]
  lia
 ·rw[Ex.upd];exact rr.snoc r
theorem CI.done{out:List Dt}(c:CI H1 D out H):Rep H (.lst out) (.ref D):=by obtain⟨ys,h,rr⟩:=c.lst;exact Rep.LH h (rr.same Ex.sub)
theorem Eg(r:Rep H (.lst ds) v):∃a xs,v=.ref a/\H a=some (.lst xs)/\Am H ds xs:=by
 cases r with
 |lst h hl rr=>exact⟨_,_,rfl,h,hl,rr⟩
theorem Lq(hD:H D=some (.dK AA)){d:Dt}(r:Rep H d v):Rep (Ex H D) d v:=by
 induction r with
 |bl b=>exact .bl b
 |int i=>exact .int i
 |str x=>exact .str x
 |lst h hl _ ih=>exact .lst (Ex.at h (CT h hD (by intro z;cases z))) hl ih
 |tup h hl _ ih=>exact .tup (Ex.at h (CT h hD (by intro z;cases z))) hl ih
theorem IT{f:α->Dt}{ws:List α}{xs:List V}(r:Am H (ws.map f) xs){x:V}(h:xs[i]? =some x):∃w,ws[i]? =some w/\Rep H (f w) x:=by
 have hl:i<ws.length:=by
  have h1:=(BW.mp h).1;have h2:=r.1;rw[AL] at h2
  lia
 refine⟨ws[i],Ar hl,r.2 i _ x ?_ h⟩;rw[Az,Ar hl];rfl
theorem JE{f:α->β}{ws:List α}{w:α}(h:ws[i]? =some w):(ws.take (i+1)).map f=(ws.take i).map f++[f w]:=by rw[Dm,h,BX];rfl
theorem take_succ_filter{p:α->Bool}{ws:List α}{w:α}(h:ws[i]? =some w):(ws.take (i+1)).filter p=(ws.take i).filter p++(if p w=true then[w] else[]):=by
 rw[Dm,h,NX];congr 1;show List.filter p [w]=_;by_cases z:p w=true
 ·rw[AH z,F6 z];rfl
 ·rw[AG z,Gs z];rfl
theorem WT{y:Str}{p1 p2:Pos}(hK:X.K=K)(hc:X.calm=true)(hN:X.N.Nodup)(hi:X.N[i]? =some x)(hx:Loc X.env.scope x)(hf:X.fn x=true\/X.env.scope.names.lookup x=some .local)(hj:X.N[j]? =some y)(hy:Loc X.env.scope y)(hg:X.fn y=true\/X.env.scope.names.lookup y=some .local):
 PG X (.Tuple [.Name x p1,.Name y p2] k pos) (Sa K 2 (Kz (Dj i) (Kz (Dj j) Sh))):=by
 subst hK;exact Ma hc (GK (Bl hN hi hx hf) (GK (Bl hN hj hy hg) MQ))
theorem gJ{l:Nat}{y:Str}{p1 p2 p3:Pos}(hK:X.K=K)(hc:X.calm=true)(hN:X.N.Nodup)(hi:X.N[i]? =some x)(hx:Loc X.env.scope x)(hf:X.fn x=true\/X.env.scope.names.lookup x=some .local)(hj:X.N[j]? =some y)(hy:Loc X.env.scope y)(hg:X.fn y=true\/X.env.scope.names.lookup y=some .local)
 (hl:X.N[l]? =some z)(hz:Loc X.env.scope z)(hh:X.fn z=true\/X.env.scope.names.lookup z=some .local):
 PG X (.Tuple [.Name x p1,.Name y p2,.Name z p3] k pos) (Sa K 3 (Kz (Dj i) (Kz (Dj j) (Kz (Dj l) Sh)))):=by
 subst hK;exact Ma hc (GK (Bl hN hi hx hf) (GK (Bl hN hj hy hg) (GK (Bl hN hl hz hh) MQ)))
section
variable{o:Expr}{es:List Expr}{to:TE}{t:TA}{id:String}
theorem iP(K:PySem.W.Frag)(hK:X.K=K)(pa:PlainAttrs T)(slot:Slot T name id)(hty:typeOf (.builtin id)=pure (.type "method_descriptor"))(hm:NA X id r)(ho:PE X o to)(ha:PA X (e::es) t)
 (hbase:attributeBase o name X.env (eval o X.env)=eval o X.env:=by rfl)
 (hfew:((backTo cpos (starEach (e::es) X.env)).all (fun x=> !x.1)&&(backToKw cpos (keywordEach [] X.env)).all (fun x=>x.1.isSome)&&decide ((e::es).length+([]:List Keyword).length+(if([]:List Keyword).isEmpty then 0 else 1)<30))=true:=by rfl)
 (hline:(apos.endLine==cpos.line)=true:=by rfl)(hs:starEach (e::es) X.env=(false,eval e X.env)::starEach es X.env:=by rfl)(hplain:(backTo cpos (starEach es X.env)).any (·.1)=false:=by rfl):
 PE X (.Call (.Attribute o name apos) (e::es) [] cpos) (TV K T r to t):=by
 subst hK;exact Ht pa slot hty hm ho ha hbase hfew hline hs hplain
end
theorem cg{xs:List V}{Q:VK}(Pv:Nat->Hp->Prop)(h0:Pv 0 (upd H1 D (.lst [])))(hl:∀i H,i<=xs.length->Pv i H->AN K H a xs)
 (hs:∀i x p H,xs[i]? =some x->H p=none->Pv i H->g (.ref p) (ts.map (fun _=>none)++DY ix σ) (upd H p (.tup [.int i,x])) fun σ2 H2=>Hz ts ix σ σ2/\ti σ2 H2 fun b H3=>if b=true then te σ2 H3 fun y H4=>∃ys,H4 D=some (.lst ys)/\ys.length<sizeLine/\Pv (i+1) (upd H4 D (.lst (ys++[y]))) else Pv (i+1) H3)
 (hd:∀H,Pv xs.length H->Q (.ref D) H):K0 ts ix σ (LM K a) g ti te D Q H1:=by
 refine⟨fun i m H=>m=xs.length-i/\i<=xs.length/\Pv i H,⟨xs.length,by simp,CF _,h0⟩,?_⟩;rintro i m H ⟨rfl,hi,p⟩;have q:=hl i H hi p;by_cases hlt:i<xs.length
 ·refine .inr ⟨⟨xs,xs[i],q,by simp[hlt]⟩,Pv (i+1),fun H' p'=>⟨xs.length-(i+1),by lia,rfl,hlt,p'⟩,fun v H' y=>?_⟩;obtain⟨pa,ev,hp,y⟩:=y;obtain⟨x,hx,eH⟩:=y xs q;subst ev eH;exact hs i x pa H hx hp p
 ·obtain rfl:i=xs.length:=by lia
  exact .inl ⟨⟨xs,q,Ac _⟩,hd H p⟩
section
variable{xs:List V}
theorem Ex.ne(h:b≠D):Ex H D b=H b:=by unfold Ex;rw[AG h]
theorem Ex.self:Ex H D D=none:=by unfold Ex;rw[AH rfl]
theorem Inv.lB(I:Inv X pins σ H s)(h:H D=some (.lst xs)):∃o:Obj,(∃(AM:List Value)(n:Nat),Vals xs AM/\o={cls:=.type "list",data:=.seq AM.toArray n})/\xs.length<=sizeLine/\Inv X (pins++[(D,o)]) σ (Ex H D) s:=by
 obtain⟨hz,AM,n,rv,ho⟩:=(show BL X.prog X.w H s.heap D (.lst xs) from I.hok D _ h);have nD:∀b,H b=none->b≠D:=fun b hb z=>by rw[z,h] at hb;cases hb
 refine⟨_,⟨AM,n,rv,rfl⟩,hz,I.ok,I.os,I.bare,⟨I.base.keep,I.base.slot,fun b ob q nn hx=>?_,I.base.there,fun b ys q=>?_,fun b ob u q=>?_,fun b ps q=>?_⟩,I.loc,I.cell,?_,fun x c e=>?_,fun p hp=>?_,fun b ob q=>?_,I.len⟩
 ·have z:=I.base.free b ob q nn hx;rw[Ex.ne (nD b z)];exact z
 ·have z:=I.base.EY b ys q;rw[Ex.ne (fun y=>by rw[y,h] at z;cases z)];exact z
 ·have z:=I.base.Dk b ob u q;rw[Ex.ne (fun y=>by rw[y,h] at z;cases z)];exact z
 ·obtain⟨m,z⟩:=I.base.EX b ps q;exact⟨m,by rw[Ex.ne (fun y=>by rw[y,h] at z;cases z)];exact z⟩
 ·rw[Ex.ne (nD _ I.free)];exact I.free
 ·rw[Ex.ne (nD _ (I.C8 x c e))];exact I.C8 x c e
 ·rw[<-Bu] at hp;rcases CB.mp hp with z|z
  ·obtain⟨e,nn,r⟩:=I.pin p z;exact⟨e,by rw[Ex.ne (nD _ nn)];exact nn,r⟩
  ·have e:=CA.mp z;subst e;refine⟨ho,Ex.self,fun z=>?_,fun z=>?_,fun v z=>nomatch z⟩
   ·have:=I.free;rw[<-z,h] at this;cases this
   ·obtain⟨_,o,ho',_⟩:=I.ok.Ea.mem z;by_cases hx:D∈X.ex
    ·exact I.ok.Jk D hx z
    ·have:=I.base.free D o ho' (I.ok.HU D z) hx;rw[h] at this;cases this
 ·by_cases hb:b=D
  ·rw[hb,Ex.self] at q;cases q
  ·rw[Ex.ne hb] at q;refine(I.hok b ob q).EB (fun _ _ _ z=>z) (fun c z=>?_) fun c ys z=>?_
   ·rw[Ex.ne (fun y=>by rw[y,h] at z;cases z)];exact z
   ·rw[Ex.ne (fun y=>by rw[y,h] at z;cases z)];exact z
theorem Inv.kZ{n:Nat}(I:Inv X (pins++[(D,{cls:=.type "list",data:=.seq AM.toArray n})]) σ H s)(rv:Vals xs AM)(hz:xs.length<=sizeLine)(h0:∀o,X.s₀.heap.get? D=some o->D∈X.ex\/X.H₀ D≠none)(hp0:∀p∈X.pn++pins,p.1≠D):H D=none/\Inv X pins σ (upd H D (.lst xs)) s:=by
 obtain⟨e,nn,nl,nf,_⟩:=I.pin (D,{cls:=.type "list",data:=.seq AM.toArray n}) (by rw[<-Bu];exact Df _ (.head _));have nn:H D=none:=nn;refine⟨nn,I.ok,I.os,I.bare,⟨I.base.keep,I.base.slot,fun b ob q n0 hx=>?_,I.base.there,fun b ys q=>?_,fun b ob u q=>?_,fun b ps q=>?_⟩,I.loc,I.cell,?_,fun x c ec=>?_,fun p hp=>?_,fun b ob q=>?_,I.len⟩
 ·have z:=I.base.free b ob q n0 hx;by_cases hb:b=D
  ·subst hb;rcases h0 ob q with y|y
   ·exact absurd y hx
   ·exact absurd n0 y
  ·rw[AO hb];exact z
 ·have z:=I.base.EY b ys q;rw[AO (A2 z nn)];exact z
 ·have z:=I.base.Dk b ob u q;rw[AO (A2 z nn)];exact z
 ·obtain⟨m,z⟩:=I.base.EX b ps q;exact⟨m,by rw[AO (A2 z nn)];exact z⟩
 ·rw[AO (fun z=>nl z.symm)];exact I.free
 ·have hc:=I.cell x c ec;rw[AO (fun z=>by obtain⟨v,oc,h1,h2⟩:=hc;rw[z] at h1;have e':s.heap.get? D=some {cls:=.type "list",data:=.seq AM.toArray n}:=e;rw[e'] at h1;cases h1;cases h2)];exact I.C8 x c ec
 ·obtain⟨e1,n1,r1⟩:=I.pin p (by rw[<-Bu];exact Ha _ hp);exact⟨e1,by rw[AO (hp0 p hp)];exact n1,r1⟩
 ·by_cases hb:b=D
  ·subst hb;rw[AR] at q;cases q;exact⟨hz,AM,n,rv,e⟩
  ·rw[AO hb] at q;refine(I.hok b ob q).EB (fun _ _ _ z=>z) (fun c z=>?_) fun c ys z=>?_
   ·rw[AO (A2 z nn)];exact z
   ·rw[AO (A2 z nn)];exact z
end
theorem V0(he:PE X e te):PE X e (fun σ H Q=>∃D xs,H D=some (.lst xs)/\te σ (Ex H D) fun v H'=>H' D=none->Q v (upd H' D (.lst xs))):=by
 intro pins s σ H Q I h;obtain⟨D,xs,hD,h⟩:=h;obtain⟨o,⟨AM,n,rv,rfl⟩,hz,I2⟩:=I.lB hD;have h0:∀o,X.s₀.heap.get? D=some o->D∈X.ex\/X.H₀ D≠none:=fun o ho=>by
  by_cases hx:D∈X.ex
  ·exact .inl hx
  ·exact .inr fun z=>by have:=I.base.free D o ho z hx;rw[hD] at this;cases this
 have hp0:∀p∈X.pn++pins,p.1≠D:=fun p hp z=>by obtain⟨_,nn,_⟩:=I.pin p hp;rw[z,hD] at nn;cases nn
 refine Ae (he _ s σ _ _ I2 h) fun v s1 ⟨x,H',I1,r,q⟩=>?_;obtain⟨nn,I3⟩:=I1.kZ rv hz h0 hp0;exact⟨x,_,I3,r,q nn⟩
section
variable(O:My α)
noncomputable def K4(a:α):List α->List α
 |[]=>[a]
 |b::l=>if O.lt b a=true then b::K4 a l else a::b::l
def Jp:List α->List α
 |[]=>[]
 |a::l=>K4 O a (Jp l)
theorem Q2(a:α):∀l:List α,(K4 O a l).Perm (a::l)
 |[]=>.refl _
 |b::l=>by
  unfold K4;split
  ·exact((Q2 a l).cons b).trans (.swap a b l)
  ·exact .refl _
theorem Qy:∀l:List α,(Jp O l).Perm l
 |[]=>.refl _
 |a::l=>(Q2 O a (Jp O l)).trans ((Qy l).cons a)
theorem Wj(a:α):∀l:List α,l.Pairwise (fun x y=>O.lt y x=false)->(K4 O a l).Pairwise (fun x y=>O.lt y x=false)
 |[],_=>Ts _ _
 |b::l,h=>by
  obtain⟨h1,h2⟩:=NW.mp h;unfold K4;by_cases z:O.lt b a=true
  ·rw[AH z];refine NW.mpr ⟨fun c hc=>?_,Wj a l h2⟩;rcases Bk.mp ((Q2 O a l).mem_iff.mp hc) with e|e
   ·rw[e]
    cases y:O.lt a b with
    |false=>rfl
    |true=>have:=O.tr _ _ _ z y;rw[O.ZS] at this;cases this
   ·exact h1 c e
  ·rw[AG z];have z':O.lt b a=false:=by simpa using z
   refine NW.mpr ⟨fun c hc=>?_,h⟩;rcases Bk.mp hc with e|e
   ·rw[e];exact z'
   ·cases y:O.lt c a with
    |false=>rfl
    |true=>
     exfalso
     cases w:O.lt a b with
     |true=>have:=O.tr _ _ _ y w;rw[h1 c e] at this;cases this
     |false=>have:=O.BE _ _ w z';subst this;rw[h1 c e] at y;cases y
theorem Wx:∀l:List α,(Jp O l).Pairwise (fun x y=>O.lt y x=false)
 |[]=>List.Pairwise.nil
 |a::l=>Wj O a _ (Wx l)
theorem UT:∀l m:List α,l.Perm m->l.Pairwise (fun x y=>O.lt y x=false)->m.Pairwise (fun x y=>O.lt y x=false)->l=m
 |[],m,p,_,_=>p.nil_eq
 |a::l,[],p,_,_=>absurd p.symm.nil_eq (by intro z;cases z)
 |a::l,b::m,p,h1,h2=>by
  obtain⟨a1,a2⟩:=NW.mp h1;obtain⟨b1,b2⟩:=NW.mp h2;have e:a=b:=by
   rcases Bk.mp (p.mem_iff.mp (.head _)) with e|e
   ·exact e
   ·rcases Bk.mp (p.mem_iff.mpr (List.Mem.head m)) with f|f
    ·exact f.symm
    ·exact O.BE _ _ (b1 a e) (a1 b f)
  subst e;rw[UT l m p.cons_inv a2 b2]
theorem Ru{l m:List α}(p:l.Perm m)(h:l.Pairwise (fun x y=>O.lt y x=false)):l=Jp O m:=UT O _ _ (p.trans (Qy O m).symm) h (Wx O m)
end
abbrev K5:List Str->List Str:=Jp Hn
section
open PySem.W
noncomputable def dK:Keyed:=(Value.none,Value.none)
abbrev SM:=StateT SortSt Sem
noncomputable def up1(lo b BG:Nat):SM (Option (Option Nat)×Nat):=
 forIn [b:BG] ((none,b):Option (Option Nat)×Nat) fun _ z=>ltAt' (lo+z.2) (lo+z.2-1)>>=fun t=>
  match t with
  |some c=>if c=true then pure (.done (none,z.2)) else pure (.yield (none,z.2+1))
  |none=>pure (.done (some none,z.2))
noncomputable def lY(z:Option (Option Nat)×Nat):SM (Option Nat):=
 match z.1 with
 |some r=>pure r
 |none=>pure (some z.2)
def Jx(lo n BG:Nat):SM (Option Nat):=reverseSlice' lo (lo+n)>>=fun _=>up1 lo n BG>>=lY
noncomputable def S7(lo b BG:Nat):SM (Option (Option Nat)×Nat×Nat):=
 forIn [b:BG] ((none,b,0):Option (Option Nat)×Nat×Nat) fun _ z=>ltAt' (lo+z.2.1) (lo+z.2.1-1)>>=fun t=>
  match t with
  |some c=>
   if c=true then
    (if z.2.2>0 then(reverseSlice' (lo+z.2.1-(z.2.2+1)) (lo+z.2.1)>>=fun _=>pure (.yield (none,z.2.1+1,0))) else pure (.yield (none,z.2.1+1,0)))
   else ltAt' (lo+z.2.1-1) (lo+z.2.1)>>=fun t=>
    match t with
    |some d=>if d=true then pure (.done (none,z.2.1,z.2.2)) else pure (.yield (none,z.2.1+1,z.2.2+1))
    |none=>pure (.done (some none,z.2.1,z.2.2))
  |none=>pure (.done (some none,z.2.1,z.2.2))
def my(lo BG:Nat)(z:Option (Option Nat)×Nat×Nat):SM (Option Nat):=
 match z.1 with
 |some r=>pure r
 |none=>if z.2.2>0 then(reverseSlice' (lo+z.2.1-(z.2.2+1)) (lo+z.2.1)>>=fun _=>Jx lo z.2.1 BG) else Jx lo z.2.1 BG
def O6(lo n BG:Nat):SM (Option Nat):=(liftM (rule "list.sort.descending-run"):SM Unit)>>=fun _=>S7 lo (n+1) BG>>=my lo BG
def nV(lo BG:Nat)(z:Option (Option Nat)×Nat):SM (Option Nat):=
 match z.1 with
 |some r=>pure r
 |none=>if(z.2==BG)=true then pure (some z.2) else
  if z.2>1 then(ltAt' lo (lo+z.2-1)>>=fun t=>
   match t with
   |some c=>if c=true then pure (some z.2) else reverseSlice' lo (lo+z.2)>>=fun _=>O6 lo z.2 BG
   |none=>pure none)
  else O6 lo z.2 BG
theorem BD{m m':SM α}{f f':α->SM β}(h:m=m')(g:∀x,f x=f' x):(m>>=f)=(m'>>=f'):=by rw[h,funext g]
theorem GV{a b:Nat}{c:β}{f g:Nat->β->SM (ForInStep β)}(h:∀i z,f i z=g i z):forIn [a:b] c f=forIn [a:b] c g:=by rw[funext fun i=>funext (h i)]
theorem count_eq(lo BG:Nat):countRun' lo BG=(up1 lo 1 BG>>=nV lo BG):=by
 rw[countRun'_eq];refine BD (GV fun i z=>BD rfl fun x=>?_) fun z=>?_
 ·cases x<;>rfl
 ·obtain⟨r,n⟩:=z
  match r with
  |some r=>rfl
  |none=>
   refine DB rfl (fun _=>rfl) fun _=>DB rfl (fun _=>BD rfl fun x=>?_) fun _=>?_;rcases x with _|c
   ·rfl
   refine DB rfl (fun _=>rfl) fun _=>BD rfl fun _=>?_;all_goals
    refine BD rfl fun _=>BD (GV fun i z=>BD rfl fun x=>?_) fun z=>?_
    ·cases x with
     |none=>rfl
     |some c=>refine DB rfl (fun _=>rfl) fun _=>BD rfl fun x=>?_;cases x<;>rfl
    ·obtain⟨r,n,q⟩:=z
     match r with
     |some r=>rfl
     |none=>refine DB rfl (fun _=>BD rfl fun _=>?_) fun _=>?_<;>exact BD rfl fun _=>BD (GV fun i z=>BD rfl fun x=>by cases x<;>rfl) fun z=>by obtain⟨r,n⟩:=z;cases r<;>rfl
section
variable(rk:Keyed->Nat)
def kv(xs:Array Keyed)(i:Nat):Nat:=rk (xs.getD i dK)
end
end
variable{xs:Array Keyed}
section
open PySem.W
section
variable(rk:Keyed->Nat)
theorem HM{ys:Array Keyed}(h:xs[i]? =ys[j]?):kv rk xs i=kv rk ys j:=by unfold kv;rw[F5,F5,h]
def Up(xs:Array Keyed)(lo hi:Nat):Prop:=∀i j,lo<=i->i<=j->j<hi->kv rk xs i<=kv rk xs j
def Dn(xs:Array Keyed)(lo hi:Nat):Prop:=∀i j,lo<=i->i<=j->j<hi->kv rk xs j<=kv rk xs i
def Ev(xs:Array Keyed)(lo hi:Nat):Prop:=∀i,lo<=i->i<hi->kv rk xs i=kv rk xs (hi-1)
theorem SE(hj:j<=xs.size)(k:Nat):kv rk (mirror xs i j ((j-i)/2)) k=if i<=k/\k<j then kv rk xs (i+j-1-k) else kv rk xs k:=by
 have e:=getElem?_mirror_all (i:=i) hj k;by_cases c:i<=k/\k<j
 ·rw[AH c] at e⊢;exact HM rk e
 ·rw[AG c] at e⊢;exact HM rk e
theorem OU(hj:j<=xs.size)(he:Ev rk xs i j)(k:Nat):kv rk (mirror xs i j ((j-i)/2)) k=kv rk xs k:=by
 rw[SE rk hj];split
 ·rw[he _ (by lia) (by lia),he k (by lia) (by lia)]
 ·rfl
theorem Up.one(xs:Array Keyed)(lo:Nat):Up rk xs lo (lo+1):=fun i j h1 h2 h3=>by
 have:i=j:=by lia
 rw[this];exact Ac _
end
end
variable{lo:Nat}
section
open PySem.W
section
variable(rk:Keyed->Nat)
theorem Up.step{n:Nat}(h1:1<=n)(h:Up rk xs lo (lo+n))(hl:¬kv rk xs (lo+n)<kv rk xs (lo+n-1)):Up rk xs lo (lo+(n+1)):=fun i j a b c=>by
 by_cases e:j<lo+n
 ·exact h i j a b e
 ·have e':j=lo+n:=by lia
  subst e';by_cases e2:i=lo+n
  ·rw[e2];exact Ac _
  ·exact BI (h i (lo+n-1) a (by lia) (by lia)) (Nd hl)
theorem Dn.step{ys:Array Keyed}{n:Nat}(h1:1<=n)(hk:∀k,kv rk ys k=kv rk xs k)(h:Dn rk xs lo (lo+n))(hl:kv rk xs (lo+n)<=kv rk xs (lo+n-1)):Dn rk ys lo (lo+(n+1)):=fun i j a b c=>by
 rw[hk,hk];by_cases e:j<lo+n
 ·exact h i j a b e
 ·have e':j=lo+n:=by lia
  subst e';by_cases e2:i=lo+n
  ·rw[e2];exact Ac _
  ·exact BI hl (h i (lo+n-1) a (by lia) (by lia))
end
structure Ok(κ:SortKind)(a0:Array Keyed)(lo:Nat)(P:Array (Nat×Nat×Nat))(st:SortSt):Prop where
 perm:(arrOf st).Perm a0
 fix:∀k,k<lo->(arrOf st)[k]? =a0[k]?
 kind:kindOf st=κ
 failed:failedOf st=none
 pend:pendingOf st=P
end
variable{κ:SortKind}{a0:Array Keyed}{st:SortSt}
section
open PySem.W
theorem Ok.size{P:Array (Nat×Nat×Nat)}(h:Ok κ a0 lo P st):(arrOf st).size=a0.size:=h.perm.size_eq
theorem Ok.set{P:Array (Nat×Nat×Nat)}(h:Ok κ a0 lo P st)(hp:xs.Perm (arrOf st))(hf:∀k,k<lo->xs[k]? =(arrOf st)[k]?):Ok κ a0 lo P (setArr st xs):=
 ⟨hp.trans h.perm,fun k hk=>(hf k hk).trans (h.fix k hk),h.kind,h.failed,h.pend⟩
theorem Ok.Pr{P:Array (Nat×Nat×Nat)}(h:Ok κ a0 lo P st)(hi:lo<=i)(hj:j<=a0.size):Ok κ a0 lo P (setArr st (mirror (arrOf st) i j ((j-i)/2))):=
 h.set (mirror_perm _ _ _ _) fun k hk=>by rw[getElem?_mirror_all (by rw[h.size];exact hj),AG (by lia)]
end
variable{rk:Keyed->Nat}
section
open PySem.W
section
variable{P:Array (Nat×Nat×Nat)}
def Ct(prog:Program)(w:World)(A:Around)(s:Shared)(κ:SortKind)(rk:Keyed->Nat)(a0:Array Keyed):Prop:=
 ∀x y,x∈a0.toList->y∈a0.toList->∀C:Bool->Shared->Prop,C (decide (rk x<rk y)) s->wpAny (model prog w) A (keyLt' κ x.1 y.1) C (fun _ _=>False) s
theorem Mt(hc:Ct prog w A s κ rk a0){x y:Keyed}{Q:Option Bool->SortSt->Prop}(hk:kindOf st=κ)(hx:x∈a0.toList)(hy:y∈a0.toList)(h:Q (some (decide (rk x<rk y))) st):
 wpS (model prog w) A E s (lt' x y) Q st:=by
 rw[lt'_eq];refine Ai (HF ?_);rw[hk];refine Ai (Kf (wpAny_attempt (Cz (hc x y hx hy (fun c s'=>c=decide (rk x<rk y)/\s'=s) ⟨rfl,rfl⟩) (fun c s' z=>?_) fun _ _ z=>z.elim)));obtain⟨rfl,rfl⟩:=z;exact⟨rfl,Ap h⟩
theorem Ok.at(hB:Ok κ a0 lo P st)(hi:i<a0.size):(arrOf st)[i]? =some ((arrOf st).getD i dK)/\(arrOf st).getD i dK∈a0.toList:=by
 have hi':i<(arrOf st).size:=by rw[hB.size];exact hi
 have e:(arrOf st)[i]? =some (arrOf st)[i]:=Fe _ i hi';have e2:(arrOf st).getD i dK=(arrOf st)[i]:=by rw[F5,e];rfl
 rw[e2];exact⟨e,(LV.mp hB.perm).mem_iff.mp (by simp)⟩
theorem Mc(hc:Ct prog w A s κ rk a0){Q:Option Bool->SortSt->Prop}(hB:Ok κ a0 lo P st)(hi:i<a0.size)(hj:j<a0.size)
 (h:Q (some (decide (kv rk (arrOf st) i<kv rk (arrOf st) j))) st):wpS (model prog w) A E s (ltAt' i j) Q st:=by
 rw[ltAt'_eq];refine Ai (HF ?_);show wpS _ _ _ _ (elem' (arrOf st) i>>=fun x=>elem' (arrOf st) j>>=fun y=>lt' x y) Q st;rw[elem'_eq,elem'_eq,(hB.at hi).1,(hB.at hj).1];exact Ai (Ap (Ai (Ap (Mt hc hB.kind (hB.at hi).2 (hB.at hj).2 h))))
theorem O1{Q:Unit->SortSt->Prop}(h:Q () (setArr st (mirror (arrOf st) i j ((j-i)/2)))):wpS (model prog w) A E s (reverseSlice' i j) Q st:=by rw[reverseSlice'_eq];exact JG h
theorem YF(hc:Ct prog w A s κ rk a0){b BG:Nat}{Q:Option (Option Nat)×Nat->SortSt->Prop}(hn:lo+BG<=a0.size)(hb:1<=b)(hbn:b<=BG)(hB:Ok κ a0 lo P st)(hs:Up rk (arrOf st) lo (lo+b))
 (h:∀n,b<=n->n<=BG->Up rk (arrOf st) lo (lo+n)->(n=BG\/kv rk (arrOf st) (lo+n)<kv rk (arrOf st) (lo+n-1))->Q (none,n) st):
 wpS (model prog w) A E s (up1 lo b BG) Q st:=by
 unfold up1;refine Ee (I:=fun x c st'=>st'=st/\c=(none,x)/\Up rk (arrOf st) lo (lo+x)) ?_ ?_ ⟨rfl,rfl,hs⟩
 ·rintro x c st' h1 h2 ⟨rfl,rfl,hs'⟩;refine Ai (Mc hc hB (by dsimp only;lia) (by dsimp only;lia) ?_);by_cases hl:kv rk (arrOf st') (lo+x)<kv rk (arrOf st') (lo+x-1)
  ·simp only[hl,KR,CG];exact Ap (h x h1 (by lia) hs' (.inr hl))
  ·simp only[hl,KO,DA,Bp];exact Ap ⟨rfl,rfl,hs'.step rk (by lia) hl⟩
 ·rintro c st' ⟨rfl,rfl,hs'⟩;rw[show max b BG=BG by lia] at hs'⊢;exact h BG hbn (Ac _) hs' (.inl rfl)
theorem Ye(hc:Ct prog w A s κ rk a0){n BG:Nat}{Q:Option Nat->SortSt->Prop}(hn:lo+BG<=a0.size)(h1:1<=n)(hnn:n<=BG)(hB:Ok κ a0 lo P st)(hs:Dn rk (arrOf st) lo (lo+n))
 (h:∀m st',Ok κ a0 lo P st'->1<=m->m<=BG->Up rk (arrOf st') lo (lo+m)->Q (some m) st'):wpS (model prog w) A E s (Jx lo n BG) Q st:=by
 unfold Jx;refine Ai (O1 ?_);have hB':=hB.Pr (i:=lo) (j:=lo+n) (Ac _) (by lia);refine Ai (YF hc hn h1 hnn hB' ?_ fun m a b c _=>Ap (h m _ hB' (by lia) b c));intro i j a b c;have hz:lo+n<=(arrOf st).size:=by rw[hB.size];lia
 show kv rk (mirror (arrOf st) lo (lo+n) _) i<=kv rk (mirror (arrOf st) lo (lo+n) _) j;rw[SE rk hz,SE rk hz,AH (by lia),AH (by lia)];exact hs _ _ (by lia) (by lia) (by lia)
theorem lN(hc:Ct prog w A s κ rk a0){n BG:Nat}{Q:Option (Option Nat)×Nat×Nat->SortSt->Prop}(hn:lo+BG<=a0.size)(h1:1<=n)(hnn:n<=BG)(hB:Ok κ a0 lo P st)(hs:Dn rk (arrOf st) lo (lo+n))
 (h:∀m q st',Ok κ a0 lo P st'->n<=m->m<=BG->Dn rk (arrOf st') lo (lo+m)->q+1<=m->Ev rk (arrOf st') (lo+m-(q+1)) (lo+m)->Q (none,m,q) st'):
 wpS (model prog w) A E s (S7 lo n BG) Q st:=by
 unfold S7;refine Ee (I:=fun x c st'=>∃q,c=(none,x,q)/\Ok κ a0 lo P st'/\Dn rk (arrOf st') lo (lo+x)/\q+1<=x/\Ev rk (arrOf st') (lo+x-(q+1)) (lo+x)) ?_ ?_
  ⟨0,rfl,hB,hs,by lia,fun i a b=>by congr 1;lia⟩
 ·rintro x c st' h2 h3 ⟨q,rfl,hB',hs',hq,he⟩;have hz:lo+x<=(arrOf st').size:=by rw[hB'.size];lia
  refine Ai (Mc hc hB' (by dsimp only;lia) (by dsimp only;lia) ?_);by_cases hl:kv rk (arrOf st') (lo+x)<kv rk (arrOf st') (lo+x-1)
  ·simp only[hl,KR,CG];by_cases hq0:q>0
   ·rw[AH hq0];refine Ai (O1 (Ap ⟨0,rfl,hB'.Pr (by lia) (by lia),hs'.step rk (by lia) (OU rk hz he) (E4 hl),by lia,fun i a b=>by congr 1;lia⟩))
   ·rw[AG hq0];exact Ap ⟨0,rfl,hB',hs'.step rk (by lia) (fun _=>rfl) (E4 hl),by lia,fun i a b=>by congr 1;lia⟩
  ·simp only[hl,KO,DA,Bp];refine Ai (Mc hc hB' (by lia) (by lia) ?_);by_cases hg:kv rk (arrOf st') (lo+x-1)<kv rk (arrOf st') (lo+x)
   ·simp only[hg,KR,CG];exact Ap (h x q st' hB' h2 (by lia) hs' hq he)
   ·simp only[hg,KO,DA,Bp];have ex:kv rk (arrOf st') (lo+x)=kv rk (arrOf st') (lo+x-1):=by lia
    refine Ap ⟨q+1,rfl,hB',hs'.step rk (by lia) (fun _=>rfl) (by lia),by lia,fun i a b=>?_⟩;rw[show lo+(x+1)-1=lo+x by lia,ex];by_cases ei:i=lo+x
    ·rw[ei,ex]
    ·exact he i (by lia) (by lia)
 ·rintro c st' ⟨q,rfl,hB',hs',hq,he⟩;rw[show max n BG=BG by lia] at hs' hq he⊢;exact h BG q st' hB' hnn (Ac _) hs' hq he
theorem WQ(hc:Ct prog w A s κ rk a0){n BG:Nat}{Q:Option Nat->SortSt->Prop}(hn:lo+BG<=a0.size)(hnn:n+1<=BG)(hB:Ok κ a0 lo P st)(hs:Dn rk (arrOf st) lo (lo+(n+1)))
 (h:∀m st',Ok κ a0 lo P st'->1<=m->m<=BG->Up rk (arrOf st') lo (lo+m)->Q (some m) st'):wpS (model prog w) A E s (O6 lo n BG) Q st:=by
 unfold O6;refine Ai (Kf (Gy ⟨rfl,?_⟩));refine Ai (lN hc hn (by lia) hnn hB hs fun m q st' hB' a b hs' hq he=>?_);have hz:lo+m<=(arrOf st').size:=by rw[hB'.size];lia
 show wpS _ _ _ _ (if q>0 then _ else _) Q st';by_cases hq0:q>0
 ·rw[AH hq0];refine Ai (O1 (Ye hc hn (by show 1<=m;lia) b (hB'.Pr (by dsimp only;lia) (by dsimp only;lia)) (fun i j c d e=>?_) h));show kv rk (mirror (arrOf st') _ _ _) j<=kv rk (mirror (arrOf st') _ _ _) i;rw[OU rk hz he,OU rk hz he];exact hs' i j c d e
 ·rw[AG hq0];exact Ye hc hn (by show 1<=m;lia) b hB' hs' h
theorem fq(hc:Ct prog w A s κ rk a0){BG:Nat}{Q:Option Nat->SortSt->Prop}(hn:lo+BG<=a0.size)(h1:1<=BG)(hB:Ok κ a0 lo P st)
 (h:∀m st',Ok κ a0 lo P st'->1<=m->m<=BG->Up rk (arrOf st') lo (lo+m)->Q (some m) st'):wpS (model prog w) A E s (countRun' lo BG) Q st:=by
 rw[count_eq];refine Ai (YF hc hn (Ac _) h1 hB (Up.one rk _ _) fun n a b hs ho=>?_);show wpS _ _ _ _ (if(n==BG)=true then _ else _) Q st;by_cases e:n=BG
 ·rw[AH (by simpa using e)];exact Ap (h n st hB a b hs)
 ·rw[AG (by simpa using e)];have hl:=ho.resolve_left e;by_cases g:n>1
  ·show wpS _ _ _ _ (if n>1 then _ else _) Q st;rw[AH g];refine Ai (Mc hc hB (by lia) (by dsimp only;lia) ?_);by_cases hr:kv rk (arrOf st) lo<kv rk (arrOf st) (lo+n-1)
   ·simp only[hr,KR,CG];exact Ap (h n st hB a b hs)
   ·simp only[hr,KO,DA,Bp];have hz:lo+n<=(arrOf st).size:=by rw[hB.size];lia
    have hall:Ev rk (arrOf st) lo (lo+n):=fun k x y=>by
     have a1:=hs lo k (Ac _) x y;have a2:=hs k (lo+n-1) x (by lia) (by lia)
     lia
    refine Ai (O1 (WQ hc hn (by lia) (hB.Pr (Ac _) (by lia)) (Dn.step rk (xs:=arrOf st) (by lia) (OU rk hz hall) (fun i j x y z=>?_) (E4 hl)) h));rw[hall i x (by lia),hall j (by lia) z];exact Ac _
  ·show wpS _ _ _ _ (if n>1 then _ else _) Q st;rw[AG g];have e1:n=1:=by lia
   subst e1;refine WQ hc hn (by lia) hB (Dn.step rk (xs:=arrOf st) (Ac _) (fun _=>rfl) (fun i j x y z=>?_) (E4 hl)) h;have:i=j:=by lia
   rw[this];exact Ac _
end
abbrev G3:=Option (Option Nat)×Nat×Nat
noncomputable def past(left:Bool)(key:Keyed)(arr:Array Keyed)(base i:Nat):SM (Option Bool):=
 elem' arr (base+i)>>=fun x=>if left=true then lt' x key else lt' key x>>=fun t=>pure (t.map (!·))
noncomputable def Mr(f:Nat->SM (Option Bool))(n lo hi:Nat):SM G3:=
 forIn [0:n] ((none,lo,hi):G3) fun _ z=>if z.2.1>=z.2.2 then pure (.done (none,z.2.1,z.2.2)) else f (z.2.1+(z.2.2-z.2.1)/2)>>=fun t=>
  match t with
  |some c=>if c=true then pure (.yield (none,z.2.1+(z.2.2-z.2.1)/2+1,z.2.2)) else pure (.yield (none,z.2.1,z.2.1+(z.2.2-z.2.1)/2))
  |none=>pure (.done (some none,z.2.1,z.2.2))
noncomputable def SY(z:G3):SM (Option Nat):=
 match z.1 with
 |some r=>pure r
 |none=>pure (some z.2.2)
noncomputable def Ky(f:Nat->SM (Option Bool))(n most:Nat)(go:Nat->Nat)(stop:Bool->Bool):SM G3:=
 forIn [0:n] ((none,0,1):G3) fun _ z=>if z.2.2>=most then pure (.done (none,z.2.1,z.2.2)) else f (go z.2.2)>>=fun t=>
  match t with
  |some c=>if stop c=true then pure (.done (none,z.2.1,z.2.2)) else pure (.yield (none,z.2.2,2*z.2.2+1))
  |none=>pure (.done (some none,z.2.1,z.2.2))
def YB(f:Nat->SM (Option Bool))(n:Nat)(lo hi:Nat->Nat->Nat)(z:G3):SM (Option Nat):=
 match z.1 with
 |some r=>pure r
 |none=>Mr f n (lo z.2.1 z.2.2) (hi z.2.1 z.2.2)>>=SY
def Td(f:Nat->SM (Option Bool))(n hint:Nat):SM (Option Nat):=f hint>>=fun t=>
 match t with
 |some c=>if c=true then Ky f n (n-hint) (fun o=>hint+o) (fun c=> !c)>>=YB f n (fun l _=>hint+l+1) (fun _ o=>hint+min o (n-hint))
  else Ky f n (hint+1) (fun o=>hint-o) (fun c=>c)>>=YB f n (fun _ o=>hint+1-min o (hint+1)) (fun l _=>hint-l)
 |none=>pure none
noncomputable def IQ:Bool->Keyed->Array Keyed->Nat->Nat->Nat->SM (Option Nat):=sortPriv%PySem.Builtin.gallop
theorem cf(left:Bool)(key:Keyed)(arr:Array Keyed)(base n hint:Nat):IQ left key arr base n hint=Td (past left key arr base) n hint:=by
 refine BD rfl fun x=>?_
 cases x with
 |none=>rfl
 |some c=>
  refine DB rfl (fun _=>?_) fun _=>?_;all_goals
   refine BD (GV fun i z=>DB rfl (fun _=>rfl) fun _=>BD rfl fun x=>?_) fun z=>?_
   ·cases x<;>rfl
   ·obtain⟨r,l,h⟩:=z
    match r with
    |some r=>rfl
    |none=>
     refine BD (GV fun i z=>DB rfl (fun _=>rfl) fun _=>BD rfl fun x=>?_) fun z=>?_
     ·cases x<;>rfl
     ·obtain⟨r,l,h⟩:=z;cases r<;>rfl
section
variable{f:Nat->SM (Option Bool)}{B:Nat->Bool}{n:Nat}
theorem Yg{hi:Nat}{Q:G3->SortSt->Prop}(hf:∀i,i<n->∀R:Option Bool->SortSt->Prop,R (some (B i)) st->wpS M A E s (f i) R st)(hm:∀i j,i<=j->j<n->B j=true->B i=true)
 (h1:lo<=hi)(h2:hi<=n)(h3:∀i,i<lo->B i=true)(h4:∀i,hi<=i->i<n->B i=false)
 (h:∀l k,k<=n->(∀i,i<k->B i=true)->(∀i,k<=i->i<n->B i=false)->Q (none,l,k) st):wpS M A E s (Mr f n lo hi) Q st:=by
 unfold Mr;refine Ee (I:=fun x c st'=>st'=st/\∃l r,c=(none,l,r)/\l<=r/\r<=n/\r-l<=n-x/\(∀i,i<l->B i=true)/\∀i,r<=i->i<n->B i=false) ?_ ?_ ⟨rfl,lo,hi,rfl,h1,h2,by lia,h3,h4⟩
 ·rintro x c st' _ hx ⟨rfl,l,r,rfl,a1,a2,a3,a4,a5⟩;dsimp only;by_cases hg:l>=r
  ·rw[AH hg];have e:l=r:=by lia
   subst e;exact Ap (h l l a2 a4 a5)
  ·rw[AG hg];refine Ai (hf _ (by lia) _ ?_)
   cases e:B (l+(r-l)/2) with
   |true=>refine Ap ⟨rfl,_,_,rfl,by lia,a2,by lia,fun i hi=>hm i (l+(r-l)/2) (by lia) (by lia) e,a5⟩
   |false=>
    refine Ap ⟨rfl,_,_,rfl,by lia,by lia,by lia,a4,fun i hi hn=>?_⟩
    cases e2:B i with
    |false=>rfl
    |true=>rw[hm _ i hi hn e2] at e;cases e
 ·rintro c st' ⟨rfl,l,r,rfl,a1,a2,a3,a4,a5⟩;have e:l=r:=by lia
  subst e;exact h l l a2 a4 a5
theorem Wb{most:Nat}{go:Nat->Nat}{stop:Bool->Bool}{Q:G3->SortSt->Prop}(J:Nat->Prop)(hf:∀i,i<n->∀R:Option Bool->SortSt->Prop,R (some (B i)) st->wpS M A E s (f i) R st)(hmost:0<most)(hmn:most<=n)(hgo:∀o,o<most->go o<n)
 (h0:J 0)(hJ:∀o,o<most->stop (B (go o))=false->J o)
 (h:∀l o,l<o->l<most->J l->(o>=most\/(o<most/\stop (B (go o))=true))->Q (none,l,o) st):wpS M A E s (Ky f n most go stop) Q st:=by
 unfold Ky;refine Ee (I:=fun x c st'=>st'=st/\∃l o,c=(none,l,o)/\l<o/\l<most/\J l/\x+1<=o) ?_ ?_ ⟨rfl,0,1,rfl,by lia,hmost,h0,by lia⟩
 ·rintro x c st' _ hx ⟨rfl,l,o,rfl,a1,a2,a3,a4⟩;dsimp only;by_cases hg:o>=most
  ·rw[AH hg];exact Ap (h l o a1 a2 a3 (.inl hg))
  ·rw[AG hg];refine Ai (hf _ (hgo o (by lia)) _ ?_);dsimp only
   cases e:stop (B (go o)) with
   |true=>rw[AH rfl];exact Ap (h l o a1 a2 a3 (.inr ⟨by lia,e⟩))
   |false=>rw[AG (by simp)];exact Ap ⟨rfl,o,2*o+1,rfl,by lia,by lia,hJ o (by lia) e,by lia⟩
 ·rintro c st' ⟨rfl,l,o,rfl,a1,a2,a3,a4⟩;exact h l o a1 a2 a3 (.inl (by lia))
theorem kO{hint:Nat}{Q:Option Nat->SortSt->Prop}(hf:∀i,i<n->∀R:Option Bool->SortSt->Prop,R (some (B i)) st->wpS M A E s (f i) R st)(hm:∀i j,i<=j->j<n->B j=true->B i=true)(hh:hint<n)
 (h:∀k,k<=n->(∀i,i<k->B i=true)->(∀i,k<=i->i<n->B i=false)->Q (some k) st):wpS M A E s (Td f n hint) Q st:=by
 have hm':∀i j,i<=j->j<n->B i=false->B j=false:=fun i j a b c=>by
  cases e:B j with
  |false=>rfl
  |true=>rw[hm i j a b e] at c;cases c
 unfold Td;refine Ai (hf _ hh _ ?_)
 cases e:B hint with
 |true=>
  show wpS _ _ _ _ (Ky f n (n-hint) _ _>>=_) Q st;refine Ai (Wb (B:=B) (fun l=>B (hint+l)=true) hf (by lia) (by lia) (fun o ho=>by lia) e (fun o ho hs=>by simpa using hs) fun l o a1 a2 a3 a4=>?_);show wpS _ _ _ _ (Mr f n (hint+l+1) (hint+min o (n-hint))>>=SY) Q st;refine Ai (Yg hf hm (by lia) (by lia) (fun i hi=>hm i (hint+l) (by lia) (by lia) a3) (fun i hi hn=>?_) fun l k b1 b2 b3=>Ap (h k b1 b2 b3));rcases a4 with c|⟨c1,c2⟩
  ·lia
  ·exact hm' (hint+o) i (by lia) hn (by simpa using c2)
 |false=>
  show wpS _ _ _ _ (Ky f n (hint+1) _ _>>=_) Q st;refine Ai (Wb (B:=B) (fun l=>B (hint-l)=false) hf (by lia) (by lia) (fun o ho=>by lia) e (fun o ho hs=>hs) fun l o a1 a2 a3 a4=>?_);show wpS _ _ _ _ (Mr f n (hint+1-min o (hint+1)) (hint-l)>>=SY) Q st;refine Ai (Yg hf hm (by lia) (by lia) (fun i hi=>?_) (fun i hi hn=>hm' (hint-l) i (by lia) hn a3) fun l k b1 b2 b3=>Ap (h k b1 b2 b3));rcases a4 with c|⟨c1,c2⟩
  ·lia
  ·exact hm i (hint-o) (by lia) (by lia) c2
end
end
variable{arr:Array Keyed}
section
open PySem.W
theorem DD{Q:Keyed->SortSt->Prop}(hi:i<arr.size)(h:Q (arr.getD i dK) st):wpS M A E s (elem' arr i) Q st:=by
 have e:arr[i]? =some (arr.getD i dK):=by rw[F5,Fe _ i hi];rfl
 rw[elem'_eq,e];exact Ap h
theorem getD_mem(hi:i<arr.size):arr.getD i dK∈arr.toList:=by rw[F5,Fe _ i hi];simp
theorem Kc(hc:Ct prog w A s κ rk a0){left:Bool}{key:Keyed}{base n hint:Nat}{Q:Option Nat->SortSt->Prop}(hk:kindOf st=κ)(hkey:key∈a0.toList)(ha:∀x∈arr.toList,x∈a0.toList)
 (hn:base+n<=arr.size)(hh:hint<n)(hs:Up rk arr base (base+n))
 (h:∀k,k<=n->(∀i,i<k->(kv rk arr (base+i)<rk key\/(left=false/\kv rk arr (base+i)=rk key)))->(∀i,k<=i->i<n->(rk key<kv rk arr (base+i)\/(left=true/\kv rk arr (base+i)=rk key)))->Q (some k) st):
 wpS (model prog w) A E s (IQ left key arr base n hint) Q st:=by
 rw[cf];refine kO (B:=fun i=>if left=true then decide (kv rk arr (base+i)<rk key) else !decide (rk key<kv rk arr (base+i))) (fun i hi R hR=>?_) (fun i j a b c=>?_) hh fun k a b c=>h k a (fun i hi=>?_) fun i hi hn'=>?_
 ·unfold past;have hz:base+i<arr.size:=by lia
  refine Ai (DD hz ?_)
  cases left with
  |true=>exact Mt hc hk (ha _ (getD_mem hz)) hkey hR
  |false=>exact Ai (Mt hc hk hkey (ha _ (getD_mem hz)) (Ap hR))
 ·have:=hs (base+i) (base+j) (by lia) (by lia) (by lia)
  cases left with
  |true=>simp only[CG,NZ] at c⊢;lia
  |false=>simp only[DA,Bp,Bool.not_eq_true',Tq] at c⊢;lia
 ·have:=b i hi
  cases left with
  |true=>simp only[CG,NZ] at this;exact .inl this
  |false=>simp only[DA,Bp,Bool.not_eq_true',Tq] at this;simp;lia
 ·have:=c i hi hn'
  cases left with
  |true=>simp only[CG,Tq] at this;simp;lia
  |false=>simp only[DA,Bp,Bool.not_eq_false',NZ] at this;exact .inl this
def SL(rk:Keyed->Nat)(l:List Keyed):Prop:=l.Pairwise fun x y=>rk x<=rk y
theorem SL.app{l m:List Keyed}:SL rk (l++m)↔SL rk l/\SL rk m/\∀x∈l,∀y∈m,rk x<=rk y:=List.pairwise_append
structure Mi(rk:Keyed->Nat)(out p q:List Keyed):Prop where
 l:SL rk (out++p)
 r:SL rk (out++q)
theorem Mi.swap{out p q:List Keyed}(h:Mi rk out p q):Mi rk out q p:=⟨h.r,h.l⟩
theorem Mi.SJ{out p u q:List Keyed}(h:Mi rk out p (u++q))(hu:∀x∈u,∀y∈p,rk x<=rk y):Mi rk (out++u) p q:=by
 refine⟨?_,by rw[Bu];exact h.r⟩;obtain⟨a,b,c⟩:=SL.app.mp h.l;obtain⟨a',b',c'⟩:=SL.app.mp h.r;refine SL.app.mpr ⟨SL.app.mpr ⟨a,(SL.app.mp b').1,fun x hx y hy=>c' x hx y (Ha _ hy)⟩,b,fun x hx y hy=>?_⟩;rcases CB.mp hx with z|z
 ·exact c x z y hy
 ·exact hu x z y hy
theorem MO(h:i<xs.size):kv rk xs i=rk (xs.toList[i]'(by simpa using h)):=by unfold kv;rw[F5,Fe _ i h];simp
theorem Kh(h:Up rk xs 0 xs.size):∀y∈xs.toList.drop i,kv rk xs i<=rk y:=by
 intro y hy;obtain⟨j,hj,e⟩:=HZ.mp hy;rw[Dq] at hj;have hl:xs.toList.length=xs.size:=by simp
 rw[List.getElem_drop] at e;rw[<-e,<-MO (rk:=rk) (i:=i+j) (by lia)];exact h _ _ (CF _) (by lia) (by lia)
theorem Oe(h:i<xs.size):xs.toList.drop i=xs.getD i dK::xs.toList.drop (i+1):=by
 have hl:xs.toList.length=xs.size:=by simp
 rw[NN (by lia)];congr 1;rw[F5,Fe _ i h];simp
theorem O9(h:Up rk xs 0 xs.size):SL rk xs.toList:=by
 refine NL.mpr fun i j hi hj hij=>?_;have hl:xs.toList.length=xs.size:=by simp
 rw[<-MO (rk:=rk) (by lia),<-MO (rk:=rk) (by lia)];exact h _ _ (CF _) (by lia) (by lia)
theorem fc(hk:i+k<=xs.size){y:Keyed}(h:y∈(xs.toList.drop i).take k):∃j,j<k/\y=xs.getD (i+j) dK:=by
 obtain⟨j,hj,e⟩:=HZ.mp h;rw[Bg] at hj;have hl:xs.toList.length=xs.size:=by simp
 refine⟨j,by lia,?_⟩;rw[List.getElem_take,List.getElem_drop] at e;rw[<-e,F5,Fe _ (i+j) (by lia)];simp
theorem MC(xs:Array Keyed)(i j:Nat):(xs.extract i j).toList=(xs.toList.drop i).take (j-i):=by rw[T8]
theorem Ka(xs:Array Keyed)(i:Nat):(xs.extract i xs.size).toList=xs.toList.drop i:=by rw[MC,F7 (by simp)]
structure Mg(rk:Keyed->Nat)(a b out:Array Keyed)(ia ib:Nat):Prop where
 mi:Mi rk out.toList (a.toList.drop ia) (b.toList.drop ib)
 pm:out.toList.Perm (a.toList.take ia++b.toList.take ib)
 ha:ia+1<a.size
 hb:ib<b.size
end
variable{out:Array Keyed}
section
open PySem.W
section
variable{a b:Array Keyed}
structure Me(rk:Keyed->Nat)(a b out:Array Keyed):Prop where
 sl:SL rk out.toList
 pm:out.toList.Perm (a.toList++b.toList)
end
end
variable{ia ib:Nat}
section
open PySem.W
section
variable{a b:Array Keyed}
noncomputable def Es(a b out:Array Keyed)(ia ib:Nat):Array Keyed:=out++a.extract ia a.size++b.extract ib b.size
noncomputable def Jn(a b out:Array Keyed)(ia ib:Nat):Array Keyed:=out++b.extract ib b.size++a.extract ia a.size
theorem Q4{o a b:List Keyed}(h:o.Perm (a.take i++b.take j)):(o++(a.drop i++b.drop j)).Perm (a++b):=by
 have e:a++b=(a.take i++a.drop i)++(b.take j++b.drop j):=by rw[De,De]
 rw[e];refine(h.append_right _).trans ?_;rw[Bu,Bu];refine P7 _ ?_;rw[<-Bu,<-Bu];exact Tw _ IB
theorem PD(mi:Mi rk out.toList (a.toList.drop ia) (b.toList.drop ib))(pm:out.toList.Perm (a.toList.take ia++b.toList.take ib))(hb:ib=b.size):Me rk a b (Es a b out ia ib):=by
 have e:b.toList.drop ib=[]:=by rw[hb];simp
 have e2:(Es a b out ia ib).toList=out.toList++(a.toList.drop ia++b.toList.drop ib):=by unfold Es;rw[F9,F9,Ka,Ka,Bu]
 refine⟨?_,by rw[e2];exact Q4 pm⟩;rw[e2,e,Cy];exact mi.l
theorem lj(mi:Mi rk out.toList (a.toList.drop ia) (b.toList.drop ib))(pm:out.toList.Perm (a.toList.take ia++b.toList.take ib))(ha:ia=a.size):Me rk a b (Es a b out ia ib):=by
 have e:a.toList.drop ia=[]:=by rw[ha];simp
 have e2:(Es a b out ia ib).toList=out.toList++(a.toList.drop ia++b.toList.drop ib):=by unfold Es;rw[F9,F9,Ka,Ka,Bu]
 refine⟨?_,by rw[e2];exact Q4 pm⟩;rw[e2,e,Qc];exact mi.r
theorem PU(mi:Mi rk out.toList (a.toList.drop ia) (b.toList.drop ib))(pm:out.toList.Perm (a.toList.take ia++b.toList.take ib))(ha:ia+1=a.size)(hl:∀y∈b.toList,rk y<=kv rk a (a.size-1)):Me rk a b (Jn a b out ia ib):=by
 have e:a.toList.drop ia=[a.getD ia dK]:=by rw[Oe (by lia),ha];simp
 have e2:(Jn a b out ia ib).toList=out.toList++(b.toList.drop ib++a.toList.drop ia):=by unfold Jn;rw[F9,F9,Ka,Ka,Bu]
 refine⟨?_,by rw[e2];exact(P7 _ IB).trans (Q4 pm)⟩;rw[e2,e,<-Bu];refine SL.app.mpr ⟨mi.r,Ts _ _,fun x hx y hy=>?_⟩;rw[CA] at hy;rcases CB.mp hx with z|z
 ·exact(SL.app.mp mi.l).2.2 x z y (by rw[e,hy];exact CA.mpr rfl)
 ·have:=hl x (J7 z);rw[hy];unfold kv at this
  rwa [show a.size-1=ia by lia] at this
end
end
variable{out':Array Keyed}
section
open PySem.W
section
variable{a b:Array Keyed}
theorem Mz(mi:Mi rk out.toList (a.toList.drop ia) (b.toList.drop ib))(pm:out.toList.Perm (a.toList.take ia++b.toList.take ib))(k:Nat)(hk:ib+k<=b.size)(e:out'.toList=out.toList++(b.toList.drop ib).take k)(hle:∀i,i<k->∀y∈a.toList.drop ia,kv rk b (ib+i)<=rk y):
 Mi rk out'.toList (a.toList.drop ia) (b.toList.drop (ib+k))/\out'.toList.Perm (a.toList.take ia++b.toList.take (ib+k)):=by
 rw[e];constructor
 ·have e3:b.toList.drop ib=(b.toList.drop ib).take k++b.toList.drop (ib+k):=by rw[<-List.drop_drop,De]
  rw[e3] at mi;refine mi.SJ fun x hx y hy=>?_;obtain⟨j,hj,rfl⟩:=fc hk hx;exact hle j hj y hy
 ·have e3:b.toList.take (ib+k)=b.toList.take ib++(b.toList.drop ib).take k:=List.take_add;rw[e3,<-Bu];exact pm.append_right _
theorem S2(mi:Mi rk out.toList (a.toList.drop ia) (b.toList.drop ib))(pm:out.toList.Perm (a.toList.take ia++b.toList.take ib))(k:Nat)(hk:ia+k<=a.size)(e:out'.toList=out.toList++(a.toList.drop ia).take k)(hle:∀i,i<k->∀y∈b.toList.drop ib,kv rk a (ia+i)<=rk y):
 Mi rk out'.toList (a.toList.drop (ia+k)) (b.toList.drop ib)/\out'.toList.Perm (a.toList.take (ia+k)++b.toList.take ib):=by
 have:=Mz (a:=b) (b:=a) mi.swap (pm.trans IB) k hk e hle;exact⟨this.1.swap,this.2.trans IB⟩
theorem L6(h:i<xs.size)(out:Array Keyed):(out.push (xs.getD i dK)).toList=out.toList++(xs.toList.drop i).take 1:=by rw[Lj,Oe h];rfl
theorem WX(i k:Nat)(out:Array Keyed):(out++xs.extract i (i+k)).toList=out.toList++(xs.toList.drop i).take k:=by rw[F9,MC,Nat.add_sub_cancel_left]
end
abbrev A4:=Option (Array Keyed)×Array Keyed×Nat×Nat×Nat
abbrev A5:=Option (Array Keyed)×Array Keyed×Nat×Nat×Nat×Nat
abbrev A6:=Option (Array Keyed)×Array Keyed×Nat×Nat×Nat×Nat×Nat
noncomputable def MR:Nat->SM Unit:=sortPriv%PySem.Builtin.setMinGallop
def lo1(a b:Array Keyed)(mg:Nat)(out:Array Keyed)(ia ib:Nat):SM A5:=
 forIn [0:a.size+b.size] ((none,out,ia,ib,0,0):A5) fun _ z=>elem' b z.2.2.2.1>>=fun y=>elem' a z.2.2.1>>=fun x=>lt' y x>>=fun t=>
  match t with
  |some c=>
   if c=true then(elem' b z.2.2.2.1>>=fun y=>
    if(z.2.2.2.1+1==b.size)=true then pure (.done (some (Es a b (z.2.1.push y) z.2.2.1 (z.2.2.2.1+1)),z.2.1.push y,z.2.2.1,z.2.2.2.1+1,0,z.2.2.2.2.2+1))
    else if z.2.2.2.2.2+1>=mg then pure (.done (none,z.2.1.push y,z.2.2.1,z.2.2.2.1+1,0,z.2.2.2.2.2+1))
    else pure (.yield (none,z.2.1.push y,z.2.2.1,z.2.2.2.1+1,0,z.2.2.2.2.2+1)))
   else(elem' a z.2.2.1>>=fun x=>
    if(z.2.2.1+1+1==a.size)=true then pure (.done (some (Jn a b (z.2.1.push x) (z.2.2.1+1) z.2.2.2.1),z.2.1.push x,z.2.2.1+1,z.2.2.2.1,z.2.2.2.2.1+1,0))
    else if z.2.2.2.2.1+1>=mg then pure (.done (none,z.2.1.push x,z.2.2.1+1,z.2.2.2.1,z.2.2.2.2.1+1,0))
    else pure (.yield (none,z.2.1.push x,z.2.2.1+1,z.2.2.2.1,z.2.2.2.2.1+1,0)))
  |none=>pure (.done (some (Es a b z.2.1 z.2.2.1 z.2.2.2.1),z.2.1,z.2.2.1,z.2.2.2.1,z.2.2.2.2.1,z.2.2.2.2.2))
def P0(a b:Array Keyed)(mg ac bc:Nat)(out:Array Keyed)(ia ib:Nat):SM (ForInStep A6):=
 elem' a ia>>=fun x=>
  if(ia+1+1==a.size)=true then pure (.done (some (Jn a b (out.push x) (ia+1) ib),out.push x,ia+1,ib,mg,ac,bc))
  else if(decide (ac<7)&&decide (bc<7))=true then pure (.done (none,out.push x,ia+1,ib,mg,ac,bc))
  else pure (.yield (none,out.push x,ia+1,ib,mg,ac,bc))
def Pe(a b:Array Keyed)(mg ac bc:Nat)(out:Array Keyed)(ia ib:Nat):SM (ForInStep A6):=
 elem' b ib>>=fun y=>
  if(ib+1==b.size)=true then pure (.done (some (Es a b (out.push y) ia (ib+1)),out.push y,ia,ib+1,mg,ac,bc))
  else elem' a ia>>=fun x=>IQ true x b (ib+1) (b.size-(ib+1)) 0>>=fun t=>
   match t with
   |some k=>
    if k>0 then
     (if(ib+1+k==b.size)=true then pure (.done (some (Es a b (out.push y++b.extract (ib+1) (ib+1+k)) ia (ib+1+k)),out.push y++b.extract (ib+1) (ib+1+k),ia,ib+1+k,mg,ac,k))
     else P0 a b mg ac k (out.push y++b.extract (ib+1) (ib+1+k)) ia (ib+1+k))
    else P0 a b mg ac k (out.push y) ia (ib+1)
   |none=>pure (.done (some (Es a b (out.push y) ia (ib+1)),out.push y,ia,ib+1,mg,ac,bc))
def F4(a b:Array Keyed)(mg ac bc:Nat)(out:Array Keyed)(ia ib:Nat):SM (ForInStep A6):=
 MR mg>>=fun _=>elem' b ib>>=fun y=>IQ false y a ia (a.size-ia) 0>>=fun t=>
  match t with
  |some k=>
   if k>0 then
    (if(ia+k+1==a.size)=true then pure (.done (some (Jn a b (out++a.extract ia (ia+k)) (ia+k) ib),out++a.extract ia (ia+k),ia+k,ib,mg,k,bc))
    else if(ia+k==a.size)=true then pure (.done (some (Es a b (out++a.extract ia (ia+k)) (ia+k) ib),out++a.extract ia (ia+k),ia+k,ib,mg,k,bc))
    else Pe a b mg k bc (out++a.extract ia (ia+k)) (ia+k) ib)
   else Pe a b mg k bc out ia ib
  |none=>pure (.done (some (Es a b out ia ib),out,ia,ib,mg,ac,bc))
def TB(a b:Array Keyed)(out:Array Keyed)(ia ib mg ac bc:Nat):SM A6:=
 forIn [0:a.size+b.size] ((none,out,ia,ib,mg,ac,bc):A6) fun _ z=>if z.2.2.2.2.1>1 then F4 a b (z.2.2.2.2.1-1) z.2.2.2.2.2.1 z.2.2.2.2.2.2 z.2.1 z.2.2.1 z.2.2.2.1 else F4 a b z.2.2.2.2.1 z.2.2.2.2.2.1 z.2.2.2.2.2.2 z.2.1 z.2.2.1 z.2.2.2.1
def nU(z:A6):SM (ForInStep A4):=
 match z.1 with
 |some r=>pure (.done (some r,z.2.1,z.2.2.1,z.2.2.2.1,z.2.2.2.2.1))
 |none=>MR (z.2.2.2.2.1+1)>>=fun _=>pure (.yield (none,z.2.1,z.2.2.1,z.2.2.2.1,z.2.2.2.2.1+1))
def nh(a b:Array Keyed)(mg:Nat)(z:A5):SM (ForInStep A4):=
 match z.1 with
 |some r=>pure (.done (some r,z.2.1,z.2.2.1,z.2.2.2.1,mg))
 |none=>(liftM (rule "list.sort.gallop"):SM Unit)>>=fun _=>TB a b z.2.1 z.2.2.1 z.2.2.2.1 (mg+1) z.2.2.2.2.1 z.2.2.2.2.2>>=nU
def Zi(a b:Array Keyed)(out:Array Keyed)(ia ib mg:Nat):SM A4:=
 forIn [0:a.size+b.size] ((none,out,ia,ib,mg):A4) fun _ z=>lo1 a b z.2.2.2.2 z.2.1 z.2.2.1 z.2.2.2.1>>=nh a b z.2.2.2.2
noncomputable def nP(z:A4):SM (Array Keyed):=
 match z.1 with
 |some r=>pure r
 |none=>liftM (unsupported "internal:list.sort.merge-bound" :Sem (Array Keyed))
def low(a b:Array Keyed):SM (Array Keyed):=
 (liftM (rule "list.sort.merge-lo"):SM Unit)>>=fun _=>elem' b 0>>=fun y=>
  if(1==b.size)=true then pure (Es a b #[y] 0 1)
  else if(0+1==a.size)=true then pure (Jn a b #[y] 0 1)
  else get>>=fun st=>Zi a b #[y] 0 1 (gallopOf st)>>=nP
noncomputable def Q7:Array Keyed->Array Keyed->SM (Array Keyed):=sortPriv%PySem.Builtin.mergeLo
theorem iU(a b:Array Keyed):Q7 a b=low a b:=by
 refine BD rfl fun _=>BD rfl fun y=>DB rfl (fun _=>rfl) fun _=>DB rfl (fun _=>rfl) fun _=>BD rfl fun st=>BD (GV fun i z=>BD (GV fun i z=>?_) fun z'=>?_) fun z=>?_
 ·refine BD rfl fun y=>BD rfl fun x=>BD rfl fun t=>?_;cases t<;>rfl
 ·obtain⟨r,o,ia,ib,ac,bc⟩:=z'
  match r with
  |some r=>rfl
  |none=>
   refine BD rfl fun _=>BD (GV fun i z=>?_) fun z=>?_
   ·refine DB rfl (fun _=>?_) fun _=>?_;all_goals
     refine BD rfl fun _=>BD rfl fun y=>BD rfl fun t=>?_
     cases t with
     |none=>rfl
     |some k=>
      refine DB rfl (fun _=>DB rfl (fun _=>rfl) fun _=>DB rfl (fun _=>rfl) fun _=>?_) fun _=>?_;all_goals
       refine BD rfl fun y=>DB rfl (fun _=>rfl) fun _=>BD rfl fun x=>BD rfl fun t=>?_;cases t<;>rfl
   ·obtain⟨r,o,ia,ib,mg,ac,bc⟩:=z;cases r<;>rfl
 ·obtain⟨r,z⟩:=z;cases r<;>rfl
structure Sm(st st':SortSt):Prop where
 k:kindOf st'=kindOf st
 a:arrOf st'=arrOf st
 p:pendingOf st'=pendingOf st
 f:failedOf st'=failedOf st
theorem Sm.Ik(st:SortSt):Sm st st:=⟨rfl,rfl,rfl,rfl⟩
theorem Sm.trans{x y z:SortSt}(h:Sm x y)(g:Sm y z):Sm x z:=⟨g.k.trans h.k,g.a.trans h.a,g.p.trans h.p,g.f.trans h.f⟩
theorem OH{m:Nat}{Q:Unit->SortSt->Prop}(h:∀st',Sm st st'->Q () st'):wpS M A E s (MR m) Q st:=
 JG (f:=fun z=>SortSt.mk' (kindOf z) (arrOf z) (pendingOf z) m (failedOf z)) (h _ ⟨rfl,rfl,rfl,rfl⟩)
def Tf(rk:Keyed->Nat)(a b:Array Keyed)(N:Nat)(z:A6):Prop:=z.1=none/\Mg rk a b z.2.1 z.2.2.1 z.2.2.2.1/\N<=z.2.2.1+z.2.2.2.1
def ZU(rk:Keyed->Nat)(a b:Array Keyed)(N:Nat)(z:A6):Prop:=(∃r,z.1=some r/\Me rk a b r)\/Tf rk a b N z
def S6(rk:Keyed->Nat)(a b:Array Keyed)(N:Nat):ForInStep A6->Prop
 |.done z=>ZU rk a b N z
 |.yield z=>Tf rk a b N z
section
variable{a b:Array Keyed}
structure FX(rk:Keyed->Nat)(a0 a b:Array Keyed):Prop where
 LU:∀x∈a.toList,x∈a0.toList
 LL:∀x∈b.toList,x∈a0.toList
 ua:Up rk a 0 a.size
 ub:Up rk b 0 b.size
 na:0<a.size
 nb:0<b.size
 first:∀y∈a.toList,kv rk b 0<=rk y
 last:∀y∈b.toList,rk y<=kv rk a (a.size-1)
theorem Up.part(h:Up rk xs 0 xs.size){n:Nat}(hn:i+n<=xs.size):Up rk xs i (i+n):=fun x y a b c=>h x y (CF _) b (by lia)
theorem kl(hc:Ct prog w A s κ rk a0)(T:FX rk a0 a b)(hk:kindOf st=κ){mg:Nat}{N:Nat}(g:Mg rk a b out ia ib)(hN:N<=ia+ib){Q:A5->SortSt->Prop}
 (h1:∀r z,Me rk a b r->Q (some r,z) st)(h2:∀out ia ib ac bc,Mg rk a b out ia ib->N+1<=ia+ib->Q (none,out,ia,ib,ac,bc) st):wpS (model prog w) A E s (lo1 a b mg out ia ib) Q st:=by
 unfold lo1;refine Ee (I:=fun x c st'=>st'=st/\∃out ia ib ac bc,c=(none,out,ia,ib,ac,bc)/\Mg rk a b out ia ib/\N+x<=ia+ib) ?_ ?_ ⟨rfl,out,ia,ib,0,0,rfl,g,hN⟩
 ·rintro x c st' _ hx ⟨rfl,out,ia,ib,ac,bc,rfl,g,hx2⟩;have ha:ia<a.size:=by have:=g.ha;lia
  refine Ai (DD g.hb (Ai (DD ha (Ai (Mt hc hk (T.LL _ (getD_mem g.hb)) (T.LU _ (getD_mem ha)) ?_)))));by_cases hl:rk (b.getD ib dK)<rk (a.getD ia dK)
  ·simp only[hl,KR,CG];refine Ai (DD g.hb ?_);obtain⟨m1,m2⟩:=Mz g.mi g.pm 1 (by have:=g.hb;lia) (L6 g.hb out) (fun i hi y hy=>by
    have e:i=0:=by lia
    subst e;exact BI (E4 hl) (Kh T.ua y hy));by_cases e:ib+1=b.size
   ·rw[AH (by simpa using e)];exact Ap (h1 _ _ (PD m1 m2 e))
   ·rw[AG (by simpa using e)];have g2:Mg rk a b (out.push (b.getD ib dK)) ia (ib+1):=⟨m1,m2,g.ha,by have:=g.hb;lia⟩;by_cases e2:bc+1>=mg
    ·rw[AH e2];exact Ap (h2 _ _ _ _ _ g2 (by lia))
    ·rw[AG e2];exact Ap ⟨rfl,_,_,_,_,_,rfl,g2,by lia⟩
  ·simp only[hl,KO,DA,Bp];refine Ai (DD ha ?_);obtain⟨m1,m2⟩:=S2 g.mi g.pm 1 (by lia) (L6 ha out) (fun i hi y hy=>by
    have e:i=0:=by lia
    subst e;exact BI (Nd hl) (Kh T.ub y hy));by_cases e:ia+1+1=a.size
   ·rw[AH (by simpa using e)];exact Ap (h1 _ _ (PU m1 m2 e T.last))
   ·rw[AG (by simpa using e)];have g2:Mg rk a b (out.push (a.getD ia dK)) (ia+1) ib:=⟨m1,m2,by have:=g.ha;lia,g.hb⟩;by_cases e2:ac+1>=mg
    ·rw[AH e2];exact Ap (h2 _ _ _ _ _ g2 (by lia))
    ·rw[AG e2];exact Ap ⟨rfl,_,_,_,_,_,rfl,g2,by lia⟩
 ·rintro c st' ⟨rfl,out,ia,ib,ac,bc,rfl,g,hx2⟩;refine h2 _ _ _ _ _ g ?_;have:=T.na
  lia
end
end
variable{ac bc:Nat}
section
open PySem.W
section
variable{a b:Array Keyed}
theorem X9(T:FX rk a0 a b){mg:Nat}{N:Nat}(g:Mg rk a b out ia ib)(hN:N<=ia+ib)(hle:∀y∈b.toList.drop ib,kv rk a ia<=rk y){Q:ForInStep A6->SortSt->Prop}
 (h:∀z,S6 rk a b N z->Q z st):wpS (model prog w) A E s (P0 a b mg ac bc out ia ib) Q st:=by
 have ha:ia<a.size:=by have:=g.ha;lia
 unfold P0;refine Ai (DD ha ?_);obtain⟨m1,m2⟩:=S2 g.mi g.pm 1 (by lia) (L6 ha out) (fun i hi y hy=>by
  have e:i=0:=by lia
  subst e;exact hle y hy);by_cases e:ia+1+1=a.size
 ·rw[AH (by simpa using e)];exact Ap (h _ (.inl ⟨_,rfl,PU m1 m2 e T.last⟩))
 ·rw[AG (by simpa using e)];have g2:Mg rk a b (out.push (a.getD ia dK)) (ia+1) ib:=⟨m1,m2,by have:=g.ha;lia,g.hb⟩;by_cases e3:(decide (ac<7)&&decide (bc<7))=true
  ·rw[AH e3];exact Ap (h _ (.inr ⟨rfl,g2,by show N<=ia+1+ib;lia⟩))
  ·rw[AG e3];exact Ap (h _ ⟨rfl,g2,by show N<=ia+1+ib;lia⟩)
theorem YJ(hc:Ct prog w A s κ rk a0)(T:FX rk a0 a b)(hk:kindOf st=κ){mg:Nat}{N:Nat}(g:Mg rk a b out ia ib)(hN:N<=ia+ib)(hle:∀y∈a.toList.drop ia,kv rk b ib<=rk y){Q:ForInStep A6->SortSt->Prop}
 (h:∀z,S6 rk a b N z->Q z st):wpS (model prog w) A E s (Pe a b mg ac bc out ia ib) Q st:=by
 have ha:ia<a.size:=by have:=g.ha;lia
 unfold Pe;refine Ai (DD g.hb ?_);obtain⟨m1,m2⟩:=Mz g.mi g.pm 1 (by have:=g.hb;lia) (L6 g.hb out) (fun i hi y hy=>by
  have e:i=0:=by lia
  subst e;exact hle y hy);by_cases e:ib+1=b.size
 ·rw[AH (by simpa using e)];exact Ap (h _ (.inl ⟨_,rfl,PD m1 m2 e⟩))
 ·rw[AG (by simpa using e)];have hb:=g.hb;have g2:Mg rk a b (out.push (b.getD ib dK)) ia (ib+1):=⟨m1,m2,g.ha,by lia⟩;refine Ai (DD ha (Ai (Kc hc hk (T.LU _ (getD_mem ha)) T.LL (by lia) (by lia) (T.ub.part (by lia)) fun k k1 k2 k3=>?_)));dsimp only;have rest:∀y∈b.toList.drop (ib+1+k),kv rk a ia<=rk y:=fun y hy=>by
   by_cases hz:ib+1+k<b.size
   ·have h1:=k3 k (Ac _) (by lia);have h2:=Kh T.ub y hy;have h3:rk (a.getD ia dK)<=kv rk b (ib+1+k):=by rcases h1 with z|⟨_,z⟩<;>lia
    exact BI h3 h2
   ·rw[La (by simp;lia)] at hy;cases hy
  by_cases k0:k>0
  ·rw[AH k0];obtain⟨n1,n2⟩:=Mz m1 m2 k (by lia) (WX (xs:=b) (ib+1) k (out.push (b.getD ib dK))) (fun i hi y hy=>by
    have h1:=k2 i hi;have h2:=Kh T.ua y hy;have h3:kv rk b (ib+1+i)<=rk (a.getD ia dK):=by rcases h1 with z|⟨_,z⟩<;>lia
    exact BI h3 h2);by_cases e2:ib+1+k=b.size
   ·rw[AH (by simpa using e2)];exact Ap (h _ (.inl ⟨_,rfl,PD n1 n2 e2⟩))
   ·rw[AG (by simpa using e2)];exact X9 T ⟨n1,n2,g.ha,by lia⟩ (by lia) rest h
  ·rw[AG k0];have k00:k=0:=by lia
   subst k00;exact X9 T g2 (by lia) rest h
theorem YD(hc:Ct prog w A s κ rk a0)(T:FX rk a0 a b)(hk:kindOf st=κ){mg:Nat}{N:Nat}(g:Mg rk a b out ia ib)(hN:N<=ia+ib){Q:ForInStep A6->SortSt->Prop}
 (h:∀z st',Sm st st'->S6 rk a b N z->Q z st'):wpS (model prog w) A E s (F4 a b mg ac bc out ia ib) Q st:=by
 have ha:=g.ha;have hb:=g.hb;unfold F4;refine Ai (OH fun st' sm=>Ai (DD g.hb (Ai (Kc hc (sm.k.trans hk) (T.LL _ (getD_mem g.hb)) T.LU (by lia) (by lia) (T.ua.part (by lia)) fun k k1 k2 k3=>?_))));dsimp only;have rest:∀y∈a.toList.drop (ia+k),kv rk b ib<=rk y:=fun y hy=>by
  by_cases hz:ia+k<a.size
  ·have h1:=k3 k (Ac _) (by lia);have h2:=Kh T.ua y hy;have h3:rk (b.getD ib dK)<=kv rk a (ia+k):=by rcases h1 with z|⟨_,z⟩<;>lia
   exact BI h3 h2
  ·rw[La (by simp;lia)] at hy;cases hy
 by_cases k0:k>0
 ·rw[AH k0];obtain⟨n1,n2⟩:=S2 g.mi g.pm k (by lia) (WX (xs:=a) ia k out) (fun i hi y hy=>by
   have h1:=k2 i hi;have h2:=Kh T.ub y hy;have h3:kv rk a (ia+i)<=rk (b.getD ib dK):=by rcases h1 with z|⟨_,z⟩<;>lia
   exact BI h3 h2);by_cases e1:ia+k+1=a.size
  ·rw[AH (by simpa using e1)];exact Ap (h _ _ sm (.inl ⟨_,rfl,PU n1 n2 e1 T.last⟩))
  ·rw[AG (by simpa using e1)];by_cases e2:ia+k=a.size
   ·rw[AH (by simpa using e2)];exact Ap (h _ _ sm (.inl ⟨_,rfl,lj n1 n2 e2⟩))
   ·rw[AG (by simpa using e2)];exact YJ hc T (sm.k.trans hk) ⟨n1,n2,by lia,g.hb⟩ (by lia) rest fun z hz=>h z _ sm hz
 ·rw[AG k0];have k00:k=0:=by lia
  subst k00;exact YJ hc T (sm.k.trans hk) g hN rest fun z hz=>h z _ sm hz
theorem kb(hc:Ct prog w A s κ rk a0)(T:FX rk a0 a b)(hk:kindOf st=κ){mg:Nat}{N:Nat}(g:Mg rk a b out ia ib)(hN:N<=ia+ib){Q:A6->SortSt->Prop}
 (h:∀z st',Sm st st'->ZU rk a b N z->Q z st'):wpS (model prog w) A E s (TB a b out ia ib mg ac bc) Q st:=by
 unfold TB;refine Ee (I:=fun x c st'=>Sm st st'/\Tf rk a b N c) ?_ ?_ ⟨Sm.Ik _,rfl,g,hN⟩
 ·rintro x c st' _ hx ⟨sm,c1,c2,c3⟩;by_cases e3:c.2.2.2.2.1>1
  ·rw[AH e3];refine YD hc T (sm.k.trans hk) c2 c3 fun z st'' s2 hz=>?_
   cases z with
   |done z=>exact h z _ (sm.trans s2) hz
   |yield z=>exact⟨sm.trans s2,hz⟩
  ·rw[AG e3];refine YD hc T (sm.k.trans hk) c2 c3 fun z st'' s2 hz=>?_
   cases z with
   |done z=>exact h z _ (sm.trans s2) hz
   |yield z=>exact⟨sm.trans s2,hz⟩
 ·rintro c st' ⟨sm,hz⟩;exact h c st' sm (.inr hz)
theorem k6(hc:Ct prog w A s κ rk a0)(T:FX rk a0 a b)(hk:kindOf st=κ){Q:Array Keyed->SortSt->Prop}(h:∀r st',Sm st st'->Me rk a b r->Q r st'):wpS (model prog w) A E s (Q7 a b) Q st:=by
 rw[iU];unfold low;have nb:=T.nb;have na:=T.na;refine Ai (Kf (Gy ⟨rfl,?_⟩));refine Ai (DD nb ?_);obtain⟨m1,m2⟩:=Mz (rk:=rk) (a:=a) (b:=b) (out:= #[]) (ia:=0) (ib:=0) ⟨O9 T.ua,O9 T.ub⟩ (Nq _) 1 (by lia) (L6 nb #[]) (fun i hi y hy=>by
  have e:i=0:=by lia
  subst e;exact T.first y hy);by_cases e1:1=b.size
 ·rw[AH (by simpa using e1)];exact Ap (h _ _ (Sm.Ik _) (PD m1 m2 e1))
 ·rw[AG (by simpa using e1)];by_cases e2:0+1=a.size
  ·rw[AH (by simpa using e2)];exact Ap (h _ _ (Sm.Ik _) (PU m1 m2 e2 T.last))
  ·rw[AG (by simpa using e2)];refine Ai (HF (Ai ?_));unfold Zi;refine Ee (I:=fun x c st'=>Sm st st'/\∃out ia ib mg,c=(none,out,ia,ib,mg)/\Mg rk a b out ia ib/\x+1<=ia+ib) ?_ ?_ ⟨Sm.Ik _,_,0,1,_,rfl,⟨m1,m2,by lia,by lia⟩,by lia⟩
   ·rintro x c st' _ hx ⟨sm,out,ia,ib,mg,rfl,g,hx2⟩;refine Ai (kl hc T (sm.k.trans hk) g hx2 (fun r z hr=>Ap ?_) fun out ia ib ac bc g2 hx3=>?_)
    ·exact Ap (h r _ sm hr)
    ·refine Ai (Kf (Gy ⟨rfl,?_⟩));refine Ai (kb hc T (sm.k.trans hk) g2 hx3 fun z st2 s2 hz=>?_);obtain⟨r,o,ia',ib',mg',ac',bc'⟩:=z;rcases hz with⟨r',rfl,hr⟩|⟨rfl,g3,hx4⟩
     ·exact Ap (Ap (h r' _ (sm.trans s2) hr))
     ·exact Ai (OH fun st3 s3=>Ap ⟨(sm.trans s2).trans s3,o,ia',ib',_,rfl,g3,hx4⟩)
   ·rintro c st' ⟨sm,out,ia,ib,mg,rfl,g,hx2⟩;exfalso;have:=g.ha;have:=g.hb
    lia
end
structure Mj(rk:Keyed->Nat)(p q o:List Keyed):Prop where
 l:SL rk (p++o)
 r:SL rk (q++o)
theorem Mj.swap{p q o:List Keyed}(h:Mj rk p q o):Mj rk q p o:=⟨h.r,h.l⟩
theorem Mj.SJ{p q u o:List Keyed}(h:Mj rk p (q++u) o)(hu:∀x∈p,∀y∈u,rk x<=rk y):Mj rk p q (u++o):=by
 refine⟨?_,by rw[<-Bu];exact h.r⟩;obtain⟨a,b,c⟩:=SL.app.mp h.l;obtain⟨a',b',c'⟩:=SL.app.mp h.r;refine SL.app.mpr ⟨a,SL.app.mpr ⟨(SL.app.mp a').2.1,b,fun x hx y hy=>c' x (Df _ hx) y hy⟩,fun x hx y hy=>?_⟩;rcases CB.mp hy with z|z
 ·exact hu x hx y z
 ·exact c x hx y z
theorem OZ(h:Up rk xs 0 xs.size){n:Nat}(hn:n<=i+1)(hi:i<xs.size):∀y∈xs.toList.take n,rk y<=kv rk xs i:=by
 intro y hy;obtain⟨j,hj,e⟩:=HZ.mp hy;rw[Bg] at hj;have hl:xs.toList.length=xs.size:=by simp
 rw[List.getElem_take] at e;rw[<-e,<-MO (rk:=rk) (i:=j) (by lia)];exact h _ _ (CF _) (by lia) (by lia)
theorem Hj{m n:Nat}(hn:n<=xs.size){y:Keyed}(h:y∈(xs.toList.take n).drop m):∃j,m<=j/\j<n/\y=xs.getD j dK:=by
 obtain⟨j,hj,e⟩:=HZ.mp h;rw[Dq,Bg] at hj;have hl:xs.toList.length=xs.size:=by simp
 refine⟨m+j,by lia,by lia,?_⟩;rw[List.getElem_drop,List.getElem_take] at e;rw[<-e,F5,Fe _ (m+j) (by lia)];simp
theorem L5{n:Nat}(h:n<xs.size)(out:Array Keyed):(out.push (xs.getD n dK)).toList.reverse=(xs.toList.take (n+1)).drop n++out.toList.reverse:=by
 have hl:xs.toList.length=xs.size:=by simp
 have e:(xs.toList.take (n+1)).drop n=[xs.getD n dK]:=by rw[List.drop_take,Oe h];simp
 rw[e,Lj,List.reverse_append];rfl
theorem Vk(m n:Nat)(out:Array Keyed):(out++(xs.extract m n).reverse).toList.reverse=(xs.toList.take n).drop m++out.toList.reverse:=by rw[F9,List.reverse_append,T7,List.reverse_reverse,MC,List.drop_take]
structure Mh(rk:Keyed->Nat)(a b out:Array Keyed)(na nb:Nat):Prop where
 mi:Mj rk (a.toList.take na) (b.toList.take nb) out.toList.reverse
 pm:out.toList.reverse.Perm (a.toList.drop na++b.toList.drop nb)
 ha:0<na
 la:na<=a.size
 hb:1<nb
 lb:nb<=b.size
end
variable{na nb:Nat}
section
open PySem.W
section
variable{a b:Array Keyed}
noncomputable def Fw(a b out:Array Keyed)(na nb:Nat):Array Keyed:=a.extract 0 na++b.extract 0 nb++out.reverse
noncomputable def Ji(a b out:Array Keyed)(na nb:Nat):Array Keyed:=b.extract 0 nb++a.extract 0 na++out.reverse
theorem OC(xs:Array Keyed)(i:Nat):(xs.extract 0 i).toList=xs.toList.take i:=by rw[MC];simp
theorem Qw{o a b:List Keyed}(h:o.Perm (a.drop i++b.drop j)):(a.take i++b.take j++o).Perm (a++b):=by
 have e:a++b=(a.take i++a.drop i)++(b.take j++b.drop j):=by rw[De,De]
 rw[e];refine(h.append_left _).trans ?_;rw[Bu,Bu];refine P7 _ ?_;rw[<-Bu,<-Bu];exact Tw _ IB
theorem OB:(Fw a b out na nb).toList=a.toList.take na++b.toList.take nb++out.toList.reverse:=by unfold Fw;rw[F9,F9,OC,OC,T7]
theorem VJ:(Ji a b out na nb).toList=b.toList.take nb++a.toList.take na++out.toList.reverse:=by unfold Ji;rw[F9,F9,OC,OC,T7]
theorem PJ(mi:Mj rk (a.toList.take na) (b.toList.take nb) out.toList.reverse)(pm:out.toList.reverse.Perm (a.toList.drop na++b.toList.drop nb))(ha:na=0):Me rk a b (Fw a b out na nb):=by refine⟨?_,by rw[OB];exact Qw pm⟩;rw[OB,ha,KH,Qc];exact mi.r
theorem mH(mi:Mj rk (a.toList.take na) (b.toList.take nb) out.toList.reverse)(pm:out.toList.reverse.Perm (a.toList.drop na++b.toList.drop nb))(hb:nb=0):Me rk a b (Fw a b out na nb):=by refine⟨?_,by rw[OB];exact Qw pm⟩;rw[OB,hb,KH,Cy];exact mi.l
theorem Pb(mi:Mj rk (a.toList.take na) (b.toList.take nb) out.toList.reverse)(pm:out.toList.reverse.Perm (a.toList.drop na++b.toList.drop nb))(hb:nb=1)(hz:0<b.size)(hl:∀y∈a.toList,kv rk b 0<=rk y):Me rk a b (Ji a b out na nb):=by
 have e:b.toList.take nb=[b.getD 0 dK]:=by have:=Oe (xs:=b) (i:=0) hz;rw[Np] at this;rw[hb,this];rfl
 refine⟨?_,?_⟩
 ·rw[VJ,e,Bu];refine SL.app.mpr ⟨Ts _ _,mi.l,fun x hx y hy=>?_⟩;rw[CA] at hx;rw[hx];rcases CB.mp hy with z|z
  ·exact hl y (HY z)
  ·exact(SL.app.mp mi.r).2.2 _ (by rw[e];exact CA.mpr rfl) y z
 ·rw[VJ];exact(IB.append_right _).trans (Qw pm)
theorem PN(mi:Mj rk (a.toList.take na) (b.toList.take nb) out.toList.reverse)(pm:out.toList.reverse.Perm (a.toList.drop na++b.toList.drop nb))(m:Nat)(hm:m<=nb)(hnb:nb<=b.size)(e:out'.toList.reverse=(b.toList.take nb).drop m++out.toList.reverse)(hle:∀i,m<=i->i<nb->∀y∈a.toList.take na,rk y<=kv rk b i):
 Mj rk (a.toList.take na) (b.toList.take m) out'.toList.reverse/\out'.toList.reverse.Perm (a.toList.drop na++b.toList.drop m):=by
 have e3:b.toList.take nb=b.toList.take m++(b.toList.take nb).drop m:=by
  have:=(De m (b.toList.take nb)).symm
  rwa [Qh,Lm hm] at this
 rw[e];constructor
 ·rw[e3] at mi;refine mi.SJ fun x hx y hy=>?_;obtain⟨j,h1,h2,rfl⟩:=Hj hnb hy;exact hle j h1 h2 x hx
 ·have e4:b.toList.drop m=(b.toList.take nb).drop m++b.toList.drop nb:=by
   have e5:b.toList=b.toList.take nb++b.toList.drop nb:=(De _ _).symm;have hl:m<=(b.toList.take nb).length:=by rw[Bg];simp;lia
   conv=>lhs;rw[e5]
   rw[P1 hl]
  rw[e4];refine(pm.append_left _).trans ?_;rw[<-Bu,<-Bu];exact Tw _ IB
theorem PX(mi:Mj rk (a.toList.take na) (b.toList.take nb) out.toList.reverse)(pm:out.toList.reverse.Perm (a.toList.drop na++b.toList.drop nb))(m:Nat)(hm:m<=na)(hna:na<=a.size)(e:out'.toList.reverse=(a.toList.take na).drop m++out.toList.reverse)(hle:∀i,m<=i->i<na->∀y∈b.toList.take nb,rk y<=kv rk a i):
 Mj rk (a.toList.take m) (b.toList.take nb) out'.toList.reverse/\out'.toList.reverse.Perm (a.toList.drop m++b.toList.drop nb):=by
 have:=PN (a:=b) (b:=a) mi.swap (pm.trans IB) m hm hna e hle;exact⟨this.1.swap,this.2.trans IB⟩
end
abbrev B4:=Option (Array Keyed)×Nat×Nat×Array Keyed×Nat
abbrev B5:=Option (Array Keyed)×Nat×Nat×Array Keyed×Nat×Nat
abbrev B6:=Option (Array Keyed)×Nat×Nat×Array Keyed×Nat×Nat×Nat
def C2(a b:Array Keyed)(mg na nb:Nat)(out:Array Keyed):SM B5:=
 forIn [0:a.size+b.size] ((none,na,nb,out,0,0):B5) fun _ z=>elem' b (z.2.2.1-1)>>=fun y=>elem' a (z.2.1-1)>>=fun x=>lt' y x>>=fun t=>
  match t with
  |some c=>
   if c=true then(elem' a (z.2.1-1)>>=fun x=>
    if(z.2.1-1==0)=true then pure (.done (some (Fw a b (z.2.2.2.1.push x) (z.2.1-1) z.2.2.1),z.2.1-1,z.2.2.1,z.2.2.2.1.push x,z.2.2.2.2.1+1,0))
    else if z.2.2.2.2.1+1>=mg then pure (.done (none,z.2.1-1,z.2.2.1,z.2.2.2.1.push x,z.2.2.2.2.1+1,0))
    else pure (.yield (none,z.2.1-1,z.2.2.1,z.2.2.2.1.push x,z.2.2.2.2.1+1,0)))
   else(elem' b (z.2.2.1-1)>>=fun y=>
    if(z.2.2.1-1==1)=true then pure (.done (some (Ji a b (z.2.2.2.1.push y) z.2.1 (z.2.2.1-1)),z.2.1,z.2.2.1-1,z.2.2.2.1.push y,0,z.2.2.2.2.2+1))
    else if z.2.2.2.2.2+1>=mg then pure (.done (none,z.2.1,z.2.2.1-1,z.2.2.2.1.push y,0,z.2.2.2.2.2+1))
    else pure (.yield (none,z.2.1,z.2.2.1-1,z.2.2.2.1.push y,0,z.2.2.2.2.2+1)))
  |none=>pure (.done (some (Fw a b z.2.2.2.1 z.2.1 z.2.2.1),z.2.1,z.2.2.1,z.2.2.2.1,z.2.2.2.2.1,z.2.2.2.2.2))
def Im(a b:Array Keyed)(mg ac bc na nb:Nat)(out:Array Keyed):SM (ForInStep B6):=
 elem' a (na-1)>>=fun x=>
  if(na-1==0)=true then pure (.done (some (Fw a b (out.push x) (na-1) nb),na-1,nb,out.push x,mg,ac,bc))
  else if(decide (ac<7)&&decide (bc<7))=true then pure (.done (none,na-1,nb,out.push x,mg,ac,bc))
  else pure (.yield (none,na-1,nb,out.push x,mg,ac,bc))
def EG(a b:Array Keyed)(mg ac bc na nb:Nat)(out:Array Keyed):SM (ForInStep B6):=
 elem' b (nb-1)>>=fun y=>
  if(nb-1==1)=true then pure (.done (some (Ji a b (out.push y) na (nb-1)),na,nb-1,out.push y,mg,ac,bc))
  else elem' a (na-1)>>=fun x=>IQ true x b 0 (nb-1) (nb-1-1)>>=fun t=>
   match t with
   |some k=>
    if nb-1-k>0 then
     (if(k==1)=true then pure (.done (some (Ji a b (out.push y++(b.extract k (nb-1)).reverse) na k),na,k,out.push y++(b.extract k (nb-1)).reverse,mg,ac,nb-1-k))
     else if(k==0)=true then pure (.done (some (Fw a b (out.push y++(b.extract k (nb-1)).reverse) na k),na,k,out.push y++(b.extract k (nb-1)).reverse,mg,ac,nb-1-k))
     else Im a b mg ac (nb-1-k) na k (out.push y++(b.extract k (nb-1)).reverse))
    else Im a b mg ac (nb-1-k) na (nb-1) (out.push y)
   |none=>pure (.done (some (Fw a b (out.push y) na (nb-1)),na,nb-1,out.push y,mg,ac,bc))
def Ez(a b:Array Keyed)(mg ac bc na nb:Nat)(out:Array Keyed):SM (ForInStep B6):=
 MR mg>>=fun _=>elem' b (nb-1)>>=fun y=>IQ false y a 0 na (na-1)>>=fun t=>
  match t with
  |some k=>
   if na-k>0 then
    (if(k==0)=true then pure (.done (some (Fw a b (out++(a.extract k na).reverse) k nb),k,nb,out++(a.extract k na).reverse,mg,na-k,bc))
    else EG a b mg (na-k) bc k nb (out++(a.extract k na).reverse))
   else EG a b mg (na-k) bc na nb out
  |none=>pure (.done (some (Fw a b out na nb),na,nb,out,mg,ac,bc))
def Jy(a b:Array Keyed)(na nb:Nat)(out:Array Keyed)(mg ac bc:Nat):SM B6:=
 forIn [0:a.size+b.size] ((none,na,nb,out,mg,ac,bc):B6) fun _ z=>if z.2.2.2.2.1>1 then Ez a b (z.2.2.2.2.1-1) z.2.2.2.2.2.1 z.2.2.2.2.2.2 z.2.1 z.2.2.1 z.2.2.2.1 else Ez a b z.2.2.2.2.1 z.2.2.2.2.2.1 z.2.2.2.2.2.2 z.2.1 z.2.2.1 z.2.2.2.1
def nq(z:B6):SM (ForInStep B4):=
 match z.1 with
 |some r=>pure (.done (some r,z.2.1,z.2.2.1,z.2.2.2.1,z.2.2.2.2.1))
 |none=>MR (z.2.2.2.2.1+1)>>=fun _=>pure (.yield (none,z.2.1,z.2.2.1,z.2.2.2.1,z.2.2.2.2.1+1))
def TL(a b:Array Keyed)(mg:Nat)(z:B5):SM (ForInStep B4):=
 match z.1 with
 |some r=>pure (.done (some r,z.2.1,z.2.2.1,z.2.2.2.1,mg))
 |none=>(liftM (rule "list.sort.gallop"):SM Unit)>>=fun _=>Jy a b z.2.1 z.2.2.1 z.2.2.2.1 (mg+1) z.2.2.2.2.1 z.2.2.2.2.2>>=nq
def Pn(a b:Array Keyed)(na nb:Nat)(out:Array Keyed)(mg:Nat):SM B4:=
 forIn [0:a.size+b.size] ((none,na,nb,out,mg):B4) fun _ z=>C2 a b z.2.2.2.2 z.2.1 z.2.2.1 z.2.2.2.1>>=TL a b z.2.2.2.2
noncomputable def ND(z:B4):SM (Array Keyed):=
 match z.1 with
 |some r=>pure r
 |none=>liftM (unsupported "internal:list.sort.merge-bound" :Sem (Array Keyed))
def high(a b:Array Keyed):SM (Array Keyed):=
 (liftM (rule "list.sort.merge-hi"):SM Unit)>>=fun _=>elem' a (a.size-1)>>=fun x=>
  if(a.size-1==0)=true then pure (Fw a b #[x] (a.size-1) b.size)
  else if(b.size==1)=true then pure (Ji a b #[x] (a.size-1) b.size)
  else get>>=fun st=>Pn a b (a.size-1) b.size #[x] (gallopOf st)>>=ND
noncomputable def RE:Array Keyed->Array Keyed->SM (Array Keyed):=sortPriv%PySem.Builtin.mergeHi
theorem fY(a b:Array Keyed):RE a b=high a b:=by
 refine BD rfl fun _=>BD rfl fun y=>DB rfl (fun _=>rfl) fun _=>DB rfl (fun _=>rfl) fun _=>BD rfl fun st=>BD (GV fun i z=>BD (GV fun i z=>?_) fun z'=>?_) fun z=>?_
 ·refine BD rfl fun y=>BD rfl fun x=>BD rfl fun t=>?_;cases t<;>rfl
 ·obtain⟨r,na,nb,o,ac,bc⟩:=z'
  match r with
  |some r=>rfl
  |none=>
   refine BD rfl fun _=>BD (GV fun i z=>?_) fun z=>?_
   ·refine DB rfl (fun _=>?_) fun _=>?_;all_goals
     refine BD rfl fun _=>BD rfl fun y=>BD rfl fun t=>?_
     cases t with
     |none=>rfl
     |some k=>
      refine DB rfl (fun _=>DB rfl (fun _=>rfl) fun _=>?_) fun _=>?_;all_goals
       refine BD rfl fun y=>DB rfl (fun _=>rfl) fun _=>BD rfl fun x=>BD rfl fun t=>?_;cases t<;>rfl
   ·obtain⟨r,z⟩:=z;cases r<;>rfl
 ·obtain⟨r,z⟩:=z;cases r<;>rfl
def Tc(rk:Keyed->Nat)(a b:Array Keyed)(N:Nat)(z:B6):Prop:=z.1=none/\Mh rk a b z.2.2.2.1 z.2.1 z.2.2.1/\z.2.1+z.2.2.1<=N
def Zc(rk:Keyed->Nat)(a b:Array Keyed)(N:Nat)(z:B6):Prop:=(∃r,z.1=some r/\Me rk a b r)\/Tc rk a b N z
def TK(rk:Keyed->Nat)(a b:Array Keyed)(N:Nat):ForInStep B6->Prop
 |.done z=>Zc rk a b N z
 |.yield z=>Tc rk a b N z
section
variable{a b:Array Keyed}
theorem kY(hc:Ct prog w A s κ rk a0)(T:FX rk a0 a b)(hk:kindOf st=κ){mg:Nat}{N:Nat}(g:Mh rk a b out na nb)(hN:na+nb<=N){Q:B5->SortSt->Prop}
 (h1:∀r z,Me rk a b r->Q (some r,z) st)(h2:∀out na nb ac bc,Mh rk a b out na nb->na+nb+1<=N->Q (none,na,nb,out,ac,bc) st):wpS (model prog w) A E s (C2 a b mg na nb out) Q st:=by
 unfold C2;refine Ee (I:=fun x c st'=>st'=st/\∃out na nb ac bc,c=(none,na,nb,out,ac,bc)/\Mh rk a b out na nb/\na+nb+x<=N) ?_ ?_ ⟨rfl,out,na,nb,0,0,rfl,g,hN⟩
 ·rintro x c st' _ hx ⟨rfl,out,na,nb,ac,bc,rfl,g,hx2⟩;obtain⟨gm,gp,g1,g2,g3,g4⟩:=g;have ha:na-1<a.size:=by lia
  have hb:nb-1<b.size:=by lia
  refine Ai (DD hb (Ai (DD ha (Ai (Mt hc hk (T.LL _ (getD_mem hb)) (T.LU _ (getD_mem ha)) ?_)))));have pa:=L5 ha out;have pb:=L5 hb out;rw[show na-1+1=na by lia] at pa;rw[show nb-1+1=nb by lia] at pb;by_cases hl:rk (b.getD (nb-1) dK)<rk (a.getD (na-1) dK)
  ·simp only[hl,KR,CG];refine Ai (DD ha ?_);obtain⟨m1,m2⟩:=PX gm gp (na-1) (by lia) g2 pa (fun i h1 h2 y hy=>by
    have e:i=na-1:=by lia
    subst e;exact BI (OZ T.ub (by lia) hb y hy) (E4 hl));by_cases e:na-1=0
   ·rw[AH (by simpa using e)];exact Ap (h1 _ _ (PJ m1 m2 e))
   ·rw[AG (by simpa using e)];have g':Mh rk a b (out.push (a.getD (na-1) dK)) (na-1) nb:=⟨m1,m2,by lia,by lia,g3,g4⟩;by_cases e2:ac+1>=mg
    ·rw[AH e2];exact Ap (h2 _ _ _ _ _ g' (by lia))
    ·rw[AG e2];exact Ap ⟨rfl,_,_,_,_,_,rfl,g',by lia⟩
  ·simp only[hl,KO,DA,Bp];refine Ai (DD hb ?_);obtain⟨m1,m2⟩:=PN gm gp (nb-1) (by lia) g4 pb (fun i h1 h2 y hy=>by
    have e:i=nb-1:=by lia
    subst e;exact BI (OZ T.ua (by lia) ha y hy) (Nd hl));by_cases e:nb-1=1
   ·rw[AH (by simpa using e)];exact Ap (h1 _ _ (Pb m1 m2 e T.nb T.first))
   ·rw[AG (by simpa using e)];have g':Mh rk a b (out.push (b.getD (nb-1) dK)) na (nb-1):=⟨m1,m2,g1,g2,by lia,by lia⟩;by_cases e2:bc+1>=mg
    ·rw[AH e2];exact Ap (h2 _ _ _ _ _ g' (by lia))
    ·rw[AG e2];exact Ap ⟨rfl,_,_,_,_,_,rfl,g',by lia⟩
 ·rintro c st' ⟨rfl,out,na,nb,ac,bc,rfl,g,hx2⟩;refine h2 _ _ _ _ _ g ?_;have:=T.na
  lia
theorem YZ(T:FX rk a0 a b){mg:Nat}{N:Nat}(g:Mh rk a b out na nb)(hN:na+nb<=N)(hle:∀y∈b.toList.take nb,rk y<=kv rk a (na-1)){Q:ForInStep B6->SortSt->Prop}
 (h:∀z,TK rk a b N z->Q z st):wpS (model prog w) A E s (Im a b mg ac bc na nb out) Q st:=by
 obtain⟨gm,gp,g1,g2,g3,g4⟩:=g;have ha:na-1<a.size:=by lia
 have pa:=L5 ha out;rw[show na-1+1=na by lia] at pa;unfold Im;refine Ai (DD ha ?_);obtain⟨m1,m2⟩:=PX gm gp (na-1) (by lia) g2 pa (fun i h1 h2 y hy=>by
  have e:i=na-1:=by lia
  subst e;exact hle y hy);by_cases e:na-1=0
 ·rw[AH (by simpa using e)];exact Ap (h _ (.inl ⟨_,rfl,PJ m1 m2 e⟩))
 ·rw[AG (by simpa using e)];have g':Mh rk a b (out.push (a.getD (na-1) dK)) (na-1) nb:=⟨m1,m2,by lia,by lia,g3,g4⟩;by_cases e3:(decide (ac<7)&&decide (bc<7))=true
  ·rw[AH e3];exact Ap (h _ (.inr ⟨rfl,g',by show na-1+nb<=N;lia⟩))
  ·rw[AG e3];exact Ap (h _ ⟨rfl,g',by show na-1+nb<=N;lia⟩)
theorem YO(hc:Ct prog w A s κ rk a0)(T:FX rk a0 a b)(hk:kindOf st=κ){mg:Nat}{N:Nat}(g:Mh rk a b out na nb)(hN:na+nb<=N)(hle:∀y∈a.toList.take na,rk y<=kv rk b (nb-1)){Q:ForInStep B6->SortSt->Prop}
 (h:∀z,TK rk a b N z->Q z st):wpS (model prog w) A E s (EG a b mg ac bc na nb out) Q st:=by
 obtain⟨gm,gp,g1,g2,g3,g4⟩:=g;have ha:na-1<a.size:=by lia
 have hb:nb-1<b.size:=by lia
 have pb:=L5 hb out;rw[show nb-1+1=nb by lia] at pb;unfold EG;refine Ai (DD hb ?_);obtain⟨m1,m2⟩:=PN gm gp (nb-1) (by lia) g4 pb (fun i h1 h2 y hy=>by
  have e:i=nb-1:=by lia
  subst e;exact hle y hy);by_cases e:nb-1=1
 ·rw[AH (by simpa using e)];exact Ap (h _ (.inl ⟨_,rfl,Pb m1 m2 e T.nb T.first⟩))
 ·rw[AG (by simpa using e)];have g':Mh rk a b (out.push (b.getD (nb-1) dK)) na (nb-1):=⟨m1,m2,g1,g2,by lia,by lia⟩;refine Ai (DD ha (Ai (Kc hc hk (T.LU _ (getD_mem ha)) T.LL (by lia) (by lia) (T.ub.part (by lia)) fun k k1 k2 k3=>?_)));simp only[Nat.zero_add] at k2 k3;dsimp only;have rest:∀y∈b.toList.take k,rk y<=kv rk a (na-1):=fun y hy=>by obtain⟨j,_,j2,rfl⟩:=Hj (xs:=b) (m:=0) (n:=k) (by lia) hy;have h1:=k2 j j2;show kv rk b j<=rk (a.getD (na-1) dK);rcases h1 with z|⟨_,z⟩<;>lia
  by_cases k0:nb-1-k>0
  ·rw[AH k0];obtain⟨n1,n2⟩:=PN m1 m2 k k1 (by lia) (Vk (xs:=b) k (nb-1) (out.push (b.getD (nb-1) dK))) (fun i h1 h2 y hy=>by
    have h3:=k3 i h1 h2;have h4:=OZ T.ua (i:=na-1) (by lia) ha y hy;have h5:rk (a.getD (na-1) dK)<=kv rk b i:=by rcases h3 with z|⟨_,z⟩<;>lia
    exact BI h4 h5);by_cases e1:k=1
   ·rw[AH (by simpa using e1)];exact Ap (h _ (.inl ⟨_,rfl,Pb n1 n2 e1 T.nb T.first⟩))
   ·rw[AG (by simpa using e1)];by_cases e2:k=0
    ·rw[AH (by simpa using e2)];exact Ap (h _ (.inl ⟨_,rfl,mH n1 n2 e2⟩))
    ·rw[AG (by simpa using e2)];exact YZ T ⟨n1,n2,g1,g2,by lia,by lia⟩ (by lia) rest h
  ·rw[AG k0];have k00:k=nb-1:=by lia
   subst k00;exact YZ T g' (by lia) rest h
theorem Yh(hc:Ct prog w A s κ rk a0)(T:FX rk a0 a b)(hk:kindOf st=κ){mg:Nat}{N:Nat}(g:Mh rk a b out na nb)(hN:na+nb<=N){Q:ForInStep B6->SortSt->Prop}
 (h:∀z st',Sm st st'->TK rk a b N z->Q z st'):wpS (model prog w) A E s (Ez a b mg ac bc na nb out) Q st:=by
 obtain⟨gm,gp,g1,g2,g3,g4⟩:=id g;have ha:na-1<a.size:=by lia
 have hb:nb-1<b.size:=by lia
 unfold Ez;refine Ai (OH fun st' sm=>Ai (DD hb (Ai (Kc hc (sm.k.trans hk) (T.LL _ (getD_mem hb)) T.LU (by lia) (by lia) (T.ua.part (by lia)) fun k k1 k2 k3=>?_))));simp only[Nat.zero_add] at k2 k3;dsimp only;have rest:∀y∈a.toList.take k,rk y<=kv rk b (nb-1):=fun y hy=>by obtain⟨j,_,j2,rfl⟩:=Hj (xs:=a) (m:=0) (n:=k) (by lia) hy;have h1:=k2 j j2;show kv rk a j<=rk (b.getD (nb-1) dK);rcases h1 with z|⟨_,z⟩<;>lia
 by_cases k0:na-k>0
 ·rw[AH k0];obtain⟨n1,n2⟩:=PX gm gp k k1 g2 (Vk (xs:=a) k na out) (fun i h1 h2 y hy=>by
   have h3:=k3 i h1 h2;have h4:=OZ T.ub (i:=nb-1) (by lia) hb y hy;have h5:rk (b.getD (nb-1) dK)<=kv rk a i:=by rcases h3 with z|⟨_,z⟩<;>lia
   exact BI h4 h5);by_cases e2:k=0
  ·rw[AH (by simpa using e2)];exact Ap (h _ _ sm (.inl ⟨_,rfl,PJ n1 n2 e2⟩))
  ·rw[AG (by simpa using e2)];exact YO hc T (sm.k.trans hk) ⟨n1,n2,by lia,by lia,g3,g4⟩ (by lia) rest fun z hz=>h z _ sm hz
 ·rw[AG k0];have k00:k=na:=by lia
  subst k00;exact YO hc T (sm.k.trans hk) g hN rest fun z hz=>h z _ sm hz
theorem kf(hc:Ct prog w A s κ rk a0)(T:FX rk a0 a b)(hk:kindOf st=κ){mg:Nat}{N:Nat}(g:Mh rk a b out na nb)(hN:na+nb<=N){Q:B6->SortSt->Prop}
 (h:∀z st',Sm st st'->Zc rk a b N z->Q z st'):wpS (model prog w) A E s (Jy a b na nb out mg ac bc) Q st:=by
 unfold Jy;refine Ee (I:=fun x c st'=>Sm st st'/\Tc rk a b N c) ?_ ?_ ⟨Sm.Ik _,rfl,g,hN⟩
 ·rintro x c st' _ hx ⟨sm,c1,c2,c3⟩;by_cases e3:c.2.2.2.2.1>1
  ·rw[AH e3];refine Yh hc T (sm.k.trans hk) c2 c3 fun z st'' s2 hz=>?_
   cases z with
   |done z=>exact h z _ (sm.trans s2) hz
   |yield z=>exact⟨sm.trans s2,hz⟩
  ·rw[AG e3];refine Yh hc T (sm.k.trans hk) c2 c3 fun z st'' s2 hz=>?_
   cases z with
   |done z=>exact h z _ (sm.trans s2) hz
   |yield z=>exact⟨sm.trans s2,hz⟩
 ·rintro c st' ⟨sm,hz⟩;exact h c st' sm (.inr hz)
theorem jD(hc:Ct prog w A s κ rk a0)(T:FX rk a0 a b)(hk:kindOf st=κ){Q:Array Keyed->SortSt->Prop}(h:∀r st',Sm st st'->Me rk a b r->Q r st'):wpS (model prog w) A E s (RE a b) Q st:=by
 rw[fY];unfold high;have nb:=T.nb;have na:=T.na;have ha:a.size-1<a.size:=by lia
 refine Ai (Kf (Gy ⟨rfl,?_⟩));refine Ai (DD ha ?_);have pa:=L5 ha #[];rw[show a.size-1+1=a.size by lia] at pa;have ta:a.toList.take a.size=a.toList:=F7 (by simp);have tb:b.toList.take b.size=b.toList:=F7 (by simp);obtain⟨m1,m2⟩:=PX (rk:=rk) (a:=a) (b:=b) (out:= #[]) (na:=a.size) (nb:=b.size) ⟨by rw[ta];show SL rk (a.toList++[]);rw[Cy];exact O9 T.ua,by rw[tb];show SL rk (b.toList++[]);rw[Cy];exact O9 T.ub⟩
  (by rw[La (by simp),La (by simp)];exact Nq _) (a.size-1) (by lia) (Ac _) pa (fun i h1 h2 y hy=>by
  have e:i=a.size-1:=by lia
  subst e;exact T.last y (HY hy));by_cases e1:a.size-1=0
 ·rw[AH (by simpa using e1)];exact Ap (h _ _ (Sm.Ik _) (PJ m1 m2 e1))
 ·rw[AG (by simpa using e1)];by_cases e2:b.size=1
  ·rw[AH (by simpa using e2)];exact Ap (h _ _ (Sm.Ik _) (Pb m1 m2 e2 T.nb T.first))
  ·rw[AG (by simpa using e2)];refine Ai (HF (Ai ?_));unfold Pn;refine Ee (I:=fun x c st'=>Sm st st'/\∃out na nb mg,c=(none,na,nb,out,mg)/\Mh rk a b out na nb/\na+nb+x+1<=a.size+b.size) ?_ ?_ ⟨Sm.Ik _,_,_,_,_,rfl,⟨m1,m2,by lia,by lia,by lia,Ac _⟩,by lia⟩
   ·rintro x c st' _ hx ⟨sm,out,na,nb,mg,rfl,g,hx2⟩;refine Ai (kY (N:=a.size+b.size-x-1) hc T (sm.k.trans hk) g (by lia) (fun r z hr=>Ap ?_) fun out na nb ac bc g2 hx3=>?_)
    ·exact Ap (h r _ sm hr)
    ·refine Ai (Kf (Gy ⟨rfl,?_⟩));refine Ai (kf (N:=a.size+b.size-x-2) hc T (sm.k.trans hk) g2 (by lia) fun z st2 s2 hz=>?_);obtain⟨r,na',nb',o,mg',ac',bc'⟩:=z;rcases hz with⟨r',rfl,hr⟩|⟨rfl,g3,hx4⟩
     ·exact Ap (Ap (h r' _ (sm.trans s2) hr))
     ·have g5:0<na':=g3.ha;have hx5:na'+nb'<=a.size+b.size-x-2:=hx4;exact Ai (OH fun st3 s3=>Ap ⟨(sm.trans s2).trans s3,o,na',nb',_,rfl,g3,by lia⟩)
   ·rintro c st' ⟨sm,out,na,nb,mg,rfl,g,hx2⟩;exfalso
    lia
end
section
variable(rk:Keyed->Nat)
theorem Xb{src d:Nat}(hs:src<xs.size)(hd:d<=src)(k:Nat):kv rk (bubble xs src d) k=if k=src-d then kv rk xs src else if src-d<k/\k<=src then kv rk xs (k-1) else kv rk xs k:=by
 have e:=getElem?_bubble hs d hd k;by_cases h1:k=src-d
 ·rw[AH h1] at e⊢;exact HM rk e
 ·rw[AG h1] at e⊢;by_cases h2:src-d<k/\k<=src
  ·rw[AH h2] at e⊢;exact HM rk e
  ·rw[AG h2] at e⊢;exact HM rk e
end
section
variable{P:Array (Nat×Nat×Nat)}
theorem eK(hc:Ct prog w A s κ rk a0){n ok:Nat}{Q:Bool->SortSt->Prop}(hn:lo+n<=a0.size)(h1:1<=ok)(hok:ok<=n)(hB:Ok κ a0 lo P st)(hs:Up rk (arrOf st) lo (lo+ok))
 (h:∀st',Ok κ a0 lo P st'->Up rk (arrOf st') lo (lo+n)->Q true st'):wpS (model prog w) A E s (binarySort' lo n ok) Q st:=by
 rw[binarySort'_eq];refine Ai (wpS_mono (Ee (I:=fun k c st'=>c=(none,())/\Ok κ a0 lo P st'/\Up rk (arrOf st') lo (lo+min k n))
  (Q:=fun c st'=>c=(none,())/\Ok κ a0 lo P st'/\Up rk (arrOf st') lo (lo+n)) ?_ ?_ ⟨rfl,hB,by rw[show min (max ok 1) n=ok by lia];exact hs⟩) ?_)
 ·rintro k c st' hak hkn ⟨rfl,hB',hs'⟩;rw[show min k n=k by lia] at hs';have hk:lo+k<a0.size:=by lia
  refine Ai (wpS_mono (Ee (I:=fun x c st''=>st''=st'/\∃l r,c=(none,l,r)/\l<=r/\r<=k/\r-l<=k-x/\
   (∀i,i<l->kv rk (arrOf st') (lo+i)<=kv rk (arrOf st') (lo+k))/\(∀i,r<=i->i<k->kv rk (arrOf st') (lo+k)<kv rk (arrOf st') (lo+i)))
   (Q:=fun c st''=>st''=st'/\∃l r,c=(none,l,r)/\l<=k/\
    (∀i,i<l->kv rk (arrOf st') (lo+i)<=kv rk (arrOf st') (lo+k))/\(∀i,l<=i->i<k->kv rk (arrOf st') (lo+k)<kv rk (arrOf st') (lo+i))) ?_ ?_ ⟨rfl,0,k,rfl,by lia,by lia,by lia,fun i hi=>by lia,fun i h1 h2=>by lia⟩) ?_)
  ·rintro x c st'' _ hxk ⟨rfl,l,r,rfl,hlr,hrk,hm,hlo,hhi⟩;dsimp only;by_cases hge:l>=r
   ·rw[AH hge];have:l=r:=by lia
    subst this;exact Ap ⟨rfl,l,l,rfl,hrk,hlo,hhi⟩
   ·rw[AG hge];refine Ai (Mc hc hB' hk (by lia) ?_);by_cases hl:kv rk (arrOf st'') (lo+k)<kv rk (arrOf st'') (lo+(l+r)/2)
    ·simp only[hl,KR,CG];refine Ap ⟨rfl,l,(l+r)/2,rfl,by lia,by lia,by lia,hlo,fun i a b=>?_⟩;exact Cu hl (hs' _ _ (by lia) (by lia) (by lia))
    ·simp only[hl,KO,DA,Bp];refine Ap ⟨rfl,(l+r)/2+1,r,rfl,by lia,by lia,by lia,fun i a=>?_,hhi⟩;exact BI (hs' (lo+i) (lo+(l+r)/2) (by lia) (by lia) (by lia)) (Nd hl)
  ·rintro c st'' ⟨rfl,l,r,rfl,hlr,hrk,hm,hlo,hhi⟩;have:l=r:=by lia
   subst this;exact⟨rfl,l,l,rfl,hrk,hlo,hhi⟩
  ·rintro c st'' ⟨rfl,l,r,rfl,hlk,hlo,hhi⟩;show wpS _ _ _ _ (moveDown' (lo+k) (lo+l)>>=fun _=>pure (ForInStep.yield (none,()))) _ _;rw[moveDown'_eq];have hks:lo+k<(arrOf st'').size:=by rw[hB'.size];exact hk
   refine Ai (JG (Ap ⟨rfl,hB'.set (bubble_perm _ _ _) (fun j hj=>?_),?_⟩))
   ·rw[getElem?_bubble hks _ (by lia),AG (by lia),AG (by lia)]
   ·rw[show min (k+1) n=k+1 by lia];intro i j a b c;show kv rk (bubble (arrOf st'') (lo+k) (lo+k-(lo+l))) i<=kv rk (bubble (arrOf st'') (lo+k) (lo+k-(lo+l))) j;rw[Xb rk hks (by lia),Xb rk hks (by lia),show lo+k-(lo+k-(lo+l))=lo+l by lia];have lo':∀i,lo<=i->i<lo+l->kv rk (arrOf st'') i<=kv rk (arrOf st'') (lo+k):=fun i x y=>by
     have:=hlo (i-lo) (by lia)
     rwa [show lo+(i-lo)=i by lia] at this
    have hi':∀i,lo+l<=i->i<lo+k->kv rk (arrOf st'') (lo+k)<kv rk (arrOf st'') i:=fun i x y=>by
     have:=hhi (i-lo) (by lia) (by lia)
     rwa [show lo+(i-lo)=i by lia] at this
    repeat' split
    all_goals first
     |(exfalso;lia)
     |exact Ac _
     |exact lo' _ (by lia) (by lia)
     |exact E4 (hi' _ (by lia) (by lia))
     |exact hs' _ _ (by lia) (by lia) (by lia)
 ·rintro c st' ⟨hc',hB',hs'⟩;refine⟨hc',hB',?_⟩
  rwa [show min (max (max ok 1) n) n=n by lia] at hs'
 ·rintro c st' ⟨rfl,hB',hs'⟩;exact Ap (h st' hB' hs')
end
noncomputable def wr(sa:Nat)(xs:Array Keyed)(l:List (Keyed×Nat)):Array Keyed:=l.foldl (fun a x=>match x with|(p,j)=>a.setIfInBounds (sa+j) p) xs
theorem Wu:∀(l:List Keyed)(n sa:Nat)(xs:Array Keyed)(p m q:List Keyed),xs.toList=p++m++q->p.length=sa+n->m.length=l.length->(wr sa xs (l.zipIdx n)).toList=p++l++q
 |[],n,sa,xs,p,m,q,e,hp,hm=>by have:m=[]:=P4.mp hm;subst this;exact e
 |x::l,n,sa,xs,p,m,q,e,hp,hm=>by
  match m,hm with
  |y::m,hm=>
   have hm':m.length=l.length:=by simpa using hm
   have:=Wu l (n+1) sa (xs.setIfInBounds (sa+n) x) (p++[x]) m q (by rw[Array.toList_setIfInBounds,e,<-hp];simp) (by simp;lia) hm';rw[List.zipIdx_cons];show(wr sa (xs.setIfInBounds (sa+n) x) (l.zipIdx (n+1))).toList=_;rw[this];simp
def RV(i sa na pw sb nb:Nat)(st:SortSt):SM Bool:=
 set (setPending st (((pendingOf st).setIfInBounds i (sa,na+nb,pw)).eraseIdxIfInBounds (i+1)))>>=fun _=>elem' (arrOf st) sb>>=fun y=>IQ false y (arrOf st) sa na 0>>=fun t=>
  match t with
  |some k=>
   if(na-k==0)=true then pure true
   else elem' (arrOf st) (sa+k+(na-k)-1)>>=fun x=>IQ true x (arrOf st) sb nb (nb-1)>>=fun t=>
    match t with
    |some m=>
     if(m==0)=true then pure true
     else if na-k<=m then(Q7 ((arrOf st).extract (sa+k) sb) ((arrOf st).extract sb (sb+m))>>=fun r=>modify (fun z=>setArr z (wr (sa+k) (arrOf z) r.toList.zipIdx))>>=fun _=>get>>=fun z=>pure (failedOf z).isNone)
      else(RE ((arrOf st).extract (sa+k) sb) ((arrOf st).extract sb (sb+m))>>=fun r=>modify (fun z=>setArr z (wr (sa+k) (arrOf z) r.toList.zipIdx))>>=fun _=>get>>=fun z=>pure (failedOf z).isNone)
    |none=>pure false
  |none=>pure false
theorem aT{Q:Bool->SortSt->Prop}{sa pw sb pb:Nat}(h1:(pendingOf st)[i]? =some (sa,na,pw))(h2:(pendingOf st)[i+1]? =some (sb,nb,pb))
 (h:wpS M A E s (RV i sa na pw sb nb st) Q st):wpS M A E s (mergeAt' i) Q st:=by
 have e:mergeAt' i=(get>>=fun st:SortSt=>(match((pendingOf st)[i]?,(pendingOf st)[i+1]?) with
  |(some (sa,na,pw),some (sb,nb,_))=>RV i sa na pw sb nb st
  |_=>liftM (unsupported "internal:list.sort.pending" :Sem Bool):SM Bool)):=by
  refine BD rfl fun st=>?_
  cases(pendingOf st)[i]?with
  |none=>rfl
  |some x=>
   cases(pendingOf st)[i+1]?with
   |none=>rfl
   |some y=>
    refine BD rfl fun _=>BD rfl fun _=>BD rfl fun t=>?_
    cases t with
    |none=>rfl
    |some k=>refine DB rfl (fun _=>rfl) fun _=>BD rfl fun _=>BD rfl fun t=>?_;cases t<;>rfl
 rw[e];refine Ai (HF ?_);rw[h1,h2];exact h
noncomputable def seg(xs:Array Keyed)(lo hi:Nat):List Keyed:=(xs.toList.take hi).drop lo
theorem Rv{hi:Nat}(hh:hi<=xs.size):Up rk xs lo hi↔SL rk (seg xs lo hi):=by
 have hl:xs.toList.length=xs.size:=by simp
 have at_:∀i (h:i<(seg xs lo hi).length),rk (seg xs lo hi)[i]=kv rk xs (lo+i):=fun i h=>by have h':=h;unfold seg at h';rw[Dq,Bg] at h';rw[MO (by lia)];congr 1;refine Ah ?_;rw[<-Ar,<-Ar];unfold seg;rw[J8,QF,AH (by lia)]
 have len:(seg xs lo hi).length=hi-lo:=by unfold seg;rw[Dq,Bg];lia
 constructor
 ·intro h;refine NL.mpr fun i j hi' hj' hij=>?_;rw[at_ i hi',at_ j hj'];exact h _ _ (by lia) (by lia) (by lia)
 ·intro h i j a b c;by_cases e:i=j
  ·subst e;exact Ac _
  ·have:=NL.mp h (i-lo) (j-lo) (by lia) (by lia) (by lia);rw[at_ _ (by lia),at_ _ (by lia)] at this
   rwa [show lo+(i-lo)=i by lia,show lo+(j-lo)=j by lia] at this
theorem OV(xs:Array Keyed){a b c:Nat}(h1:a<=b)(h2:b<=c)(h3:c<=xs.size):seg xs a c=seg xs a b++seg xs b c:=by
 have hl:xs.toList.length=xs.size:=by simp
 unfold seg;have e:xs.toList.take c=xs.toList.take b++(xs.toList.take c).drop b:=by
  have:=(De b (xs.toList.take c)).symm
  rwa [Qh,Lm h2] at this
 conv=>lhs;rw[e]
 rw[P1 (by rw[Bg];lia)]
theorem Rf(xs:Array Keyed){a b:Nat}(h:b<=xs.size):(seg xs a b).length=b-a:=by
 have hl:xs.toList.length=xs.size:=by simp
 unfold seg;rw[Dq,Bg]
 lia
theorem Kg(xs:Array Keyed)(a b:Nat):(xs.extract a b).toList=seg xs a b:=by rw[MC];unfold seg;rw[List.drop_take]
theorem X0{a b:Nat}(hb:b<=xs.size)(hi:i<b-a):kv rk (xs.extract a b) i=kv rk xs (a+i):=by refine HM rk ?_;rw[Array.getElem?_extract,AH (by lia)]
structure M8(rk:Keyed->Nat)(xs ys:Array Keyed)(lo hi:Nat):Prop where
 pm:ys.Perm xs
 up:Up rk ys lo hi
 out:∀k,k<lo\/hi<=k->ys[k]? =xs[k]?
theorem jZ{ys:Array Keyed}{p q hi:Nat}{r:List Keyed}(h1:lo<=p)(h2:p<=q)(h3:q<=hi)(h4:hi<=xs.size)(hr:r.Perm (seg xs p q))(hs:SL rk (seg xs lo p++r++seg xs q hi))(e:ys.toList=xs.toList.take p++r++xs.toList.drop q):
 M8 rk xs ys lo hi:=by
 have hl:xs.toList.length=xs.size:=by simp
 have ep:xs.toList.take p=xs.toList.take lo++seg xs lo p:=by
  have:=(De lo (xs.toList.take p)).symm
  rwa [Qh,Lm h1] at this
 have eq':xs.toList.drop q=seg xs q hi++xs.toList.drop hi:=by
  have e5:xs.toList=xs.toList.take hi++xs.toList.drop hi:=(De _ _).symm;have hl':q<=(xs.toList.take hi).length:=by rw[Bg];lia
  conv=>lhs;rw[e5]
  rw[P1 hl'];rfl
 have rl:r.length=q-p:=by rw[hr.length_eq,Rf xs (by lia)]
 have pm:ys.Perm xs:=by
  refine LV.mpr ?_;rw[e];have e6:xs.toList=xs.toList.take p++seg xs p q++xs.toList.drop q:=by
   have e7:xs.toList.drop p=seg xs p q++xs.toList.drop q:=by
    have e5:xs.toList=xs.toList.take q++xs.toList.drop q:=(De _ _).symm;have hl':p<=(xs.toList.take q).length:=by rw[Bg];lia
    conv=>lhs;rw[e5]
    rw[P1 hl'];rfl
   rw[Bu,<-e7,De]
  conv=>rhs;rw[e6]
  exact(hr.append_left _).append_right _
 have sz:ys.size=xs.size:=pm.size_eq;have el:ys.toList=xs.toList.take lo++(seg xs lo p++r++seg xs q hi)++xs.toList.drop hi:=by rw[e,ep,eq'];simp only[Bu]
 have ml:(seg xs lo p++r++seg xs q hi).length=hi-lo:=by
  rw[BC,BC,rl,Rf xs (by lia),Rf xs h4]
  lia
 have tl:(xs.toList.take lo).length=lo:=by rw[Bg];lia
 refine⟨pm,(Rv (by lia)).mpr ?_,fun k hk=>?_⟩
 ·have:seg ys lo hi=seg xs lo p++r++seg xs q hi:=by unfold seg;rw[el,Bu,List.take_append,F7 (by lia),List.drop_append,La (by lia),Qc,tl,E3,Np];rw[List.take_append,F7 (by lia),ml,E3,KH,Cy];rfl
  rw[this];exact hs
 ·rw[<-Fb,<-Fb,el];rcases hk with hk|hk
  ·rw[Bu,C9 (by lia),QF,AH hk]
  ·rw[C4 (by rw[BC];lia),BC,tl,ml,J8];congr 1
   lia
theorem bQ(hc:Ct prog w A s κ rk a0){sa pw pb:Nat}{Q:Bool->SortSt->Prop}(hk:kindOf st=κ)(hf:failedOf st=none)(hp:(arrOf st).Perm a0)
 (h1:(pendingOf st)[i]? =some (sa,na,pw))(h2:(pendingOf st)[i+1]? =some (sa+na,nb,pb))(na0:0<na)(nb0:0<nb)(hz:sa+na+nb<=(arrOf st).size)(ua:Up rk (arrOf st) sa (sa+na))(ub:Up rk (arrOf st) (sa+na) (sa+na+nb))
 (h:∀st':SortSt,kindOf st'=κ->failedOf st'=none->pendingOf st'=((pendingOf st).setIfInBounds i (sa,na+nb,pw)).eraseIdxIfInBounds (i+1)->M8 rk (arrOf st) (arrOf st') sa (sa+na+nb)->Q true st'):
 wpS (model prog w) A E s (mergeAt' i) Q st:=by
 refine aT h1 h2 ?_;unfold RV;generalize eP:((pendingOf st).setIfInBounds i (sa,na+nb,pw)).eraseIdxIfInBounds (i+1)=P';rw[eP] at h;have inx:∀x∈(arrOf st).toList,x∈a0.toList:=fun x hx=>(LV.mp hp).mem_iff.mp hx;generalize eX:arrOf st=xs at*;have hb:sa+na<xs.size:=by lia
 refine Ai (show wpS _ _ _ _ (set (setPending st P'):SM PUnit) _ _ from ?_);unfold wpS;rw[StateT.run_set];refine Af ⟨rfl,?_⟩;show wpS _ _ _ _ _ _ (setPending st P');have k1:kindOf (setPending st P')=κ:=hk;refine Ai (DD hb (Ai (Kc hc k1 (inx _ (getD_mem hb)) inx (by lia) na0 ua fun k a1 a2 a3=>?_)));dsimp only;have EB:M8 rk xs xs sa (sa+na+nb)->Q true (setPending st P'):=fun g=>h _ k1 hf rfl (by rw[show arrOf (setPending st P')=xs from eX];exact g);have cat:(kv rk xs (sa+na-1)<=kv rk xs (sa+na))->M8 rk xs xs sa (sa+na+nb):=fun hle=>⟨Array.Perm.refl _,fun x y b1 b2 b3=>by
  by_cases c1:y<sa+na
  ·exact ua x y b1 b2 c1
  ·by_cases c2:sa+na<=x
   ·exact ub x y c2 b2 b3
   ·exact BI (ua x (sa+na-1) b1 (by lia) (by lia)) (BI hle (ub (sa+na) y (Ac _) (by lia) b3)),fun _ _=>rfl⟩;by_cases e1:na-k=0
 ·rw[AH (by simpa using e1)];refine Ap (EB (cat ?_));have:=a2 (na-1) (by lia);rw[show sa+(na-1)=sa+na-1 by lia] at this;show kv rk xs (sa+na-1)<=rk (xs.getD (sa+na) dK);rcases this with z|⟨_,z⟩<;>lia
 ·rw[AG (by simpa using e1)];rw[show sa+k+(na-k)-1=sa+na-1 by lia];have hl:sa+na-1<xs.size:=by lia
  refine Ai (DD hl (Ai (Kc hc k1 (inx _ (getD_mem hl)) inx hz (by lia) ub fun m b1 b2 b3=>?_)));dsimp only;by_cases e2:m=0
  ·rw[AH (by simpa using e2)];refine Ap (EB (cat ?_));have:=b3 0 (by lia) nb0;rw[Nat.add_zero] at this;show rk (xs.getD (sa+na-1) dK)<=_;rcases this with z|⟨_,z⟩<;>lia
  ·rw[AG (by simpa using e2)];have sx:(xs.extract (sa+k) (sa+na)).size=na-k:=by rw[Array.size_extract];lia
   have sy:(xs.extract (sa+na) (sa+na+m)).size=m:=by rw[Array.size_extract];lia
   have kx:∀j,j<na-k->kv rk (xs.extract (sa+k) (sa+na)) j=kv rk xs (sa+k+j):=fun j hj=>X0 (by lia) (by lia);have ky:∀j,j<m->kv rk (xs.extract (sa+na) (sa+na+m)) j=kv rk xs (sa+na+j):=fun j hj=>X0 (by lia) (by lia);have T:FX rk a0 (xs.extract (sa+k) (sa+na)) (xs.extract (sa+na) (sa+na+m)):=by
    refine⟨fun x hx=>inx x ?_,fun x hx=>inx x ?_,fun x y _ c2 c3=>?_,fun x y _ c2 c3=>?_,by lia,by lia,fun y hy=>?_,fun y hy=>?_⟩
    ·rw[Kg] at hx;exact HY (J7 hx)
    ·rw[Kg] at hx;exact HY (J7 hx)
    ·rw[kx x (by lia),kx y (by lia)];exact ua _ _ (by lia) (by lia) (by lia)
    ·rw[ky x (by lia),ky y (by lia)];exact ub _ _ (by lia) (by lia) (by lia)
    ·rw[Kg] at hy;obtain⟨j,j1,j2,rfl⟩:=Hj (by lia) hy;rw[ky 0 (by lia),Nat.add_zero];have:=a3 (j-sa) (by lia) (by lia);rw[show sa+(j-sa)=j by lia] at this;show rk (xs.getD (sa+na) dK)<=kv rk xs j;rcases this with z|⟨_,z⟩<;>lia
    ·rw[Kg] at hy;obtain⟨j,j1,j2,rfl⟩:=Hj (by lia) hy;rw[sx,kx (na-k-1) (by lia),show sa+k+(na-k-1)=sa+na-1 by lia];have:=b2 (j-(sa+na)) (by lia);rw[show sa+na+(j-(sa+na))=j by lia] at this;show kv rk xs j<=rk (xs.getD (sa+na-1) dK);rcases this with z|⟨_,z⟩<;>lia
   have fin:∀r st',Sm (setPending st P') st'->Me rk (xs.extract (sa+k) (sa+na)) (xs.extract (sa+na) (sa+na+m)) r->M8 rk xs (wr (sa+k) (arrOf st') r.toList.zipIdx) sa (sa+na+nb):=fun r st' sm me=>by
    have ea:arrOf st'=xs:=sm.a.trans eX;have pr:=me.pm;rw[Kg,Kg,<-OV xs (by lia) (by lia) (by lia)] at pr;have hL:xs.toList.length=xs.size:=by simp
    refine jZ (r:=r.toList) (p:=sa+k) (q:=sa+na+m) (by lia) (by lia) (by lia) hz pr ?_ ?_
    ·have cross:∀x∈seg xs sa (sa+k),∀y∈seg xs (sa+na) (sa+na+nb),rk x<=rk y:=fun x hx y hy=>by
      obtain⟨i1,c1,c2,rfl⟩:=Hj (by lia) hx;obtain⟨j1,d1,d2,rfl⟩:=Hj hz hy;have f1:=a2 (i1-sa) (by lia);rw[show sa+(i1-sa)=i1 by lia] at f1;have f2:=ub (sa+na) j1 (Ac _) d1 d2;have f3:kv rk xs i1<=kv rk xs (sa+na):=by show kv rk xs i1<=rk (xs.getD (sa+na) dK);rcases f1 with z|⟨_,z⟩<;>lia
      exact BI f3 f2
     have cross2:∀x∈seg xs sa (sa+na),∀y∈seg xs (sa+na+m) (sa+na+nb),rk x<=rk y:=fun x hx y hy=>by
      obtain⟨i1,c1,c2,rfl⟩:=Hj (by lia) hx;obtain⟨j1,d1,d2,rfl⟩:=Hj hz hy;have f1:=b3 (j1-(sa+na)) (by lia) (by lia);rw[show sa+na+(j1-(sa+na))=j1 by lia] at f1;have f2:=ua i1 (sa+na-1) c1 (by lia) (by lia);have f3:kv rk xs (sa+na-1)<=kv rk xs j1:=by show rk (xs.getD (sa+na-1) dK)<=kv rk xs j1;rcases f1 with z|⟨_,z⟩<;>lia
      exact BI f2 f3
     have sA:=(Rv (rk:=rk) (lo:=sa) (hi:=sa+na) (by lia)).mp ua;have sB:=(Rv (rk:=rk) (lo:=sa+na) (hi:=sa+na+nb) hz).mp ub;have spA:seg xs sa (sa+na)=seg xs sa (sa+k)++seg xs (sa+k) (sa+na):=OV xs (by lia) (by lia) (by lia);have spB:seg xs (sa+na) (sa+na+nb)=seg xs (sa+na) (sa+na+m)++seg xs (sa+na+m) (sa+na+nb):=OV xs (by lia) (by lia) hz;have spM:seg xs (sa+k) (sa+na+m)=seg xs (sa+k) (sa+na)++seg xs (sa+na) (sa+na+m):=OV xs (by lia) (by lia) (by lia);rw[spA] at sA;rw[spB] at sB;obtain⟨u1,u2,u3⟩:=SL.app.mp sA;obtain⟨v1,v2,v3⟩:=SL.app.mp sB;refine SL.app.mpr ⟨SL.app.mpr ⟨u1,me.sl,fun x hx y hy=>?_⟩,v2,fun x hx y hy=>?_⟩
     ·have hy':=pr.mem_iff.mp hy;rw[spM] at hy';rcases CB.mp hy' with z|z
      ·exact u3 x hx y z
      ·exact cross x hx y (by rw[spB];exact Ha _ z)
     ·rcases CB.mp hx with z|z
      ·exact cross x z y (by rw[spB];exact Df _ hy)
      ·have hx':=pr.mem_iff.mp z;rw[spM] at hx';rcases CB.mp hx' with z|z
       ·exact cross2 x (by rw[spA];exact Df _ z) y hy
       ·exact v3 x z y hy
    ·rw[ea];refine Wu r.toList 0 (sa+k) xs (xs.toList.take (sa+k)) (seg xs (sa+k) (sa+na+m)) (xs.toList.drop (sa+na+m)) ?_ ?_ pr.length_eq.symm
     ·have e7:xs.toList.take (sa+na+m)=xs.toList.take (sa+k)++seg xs (sa+k) (sa+na+m):=by
       have:=(De (sa+k) (xs.toList.take (sa+na+m))).symm
       rwa [Qh,Lm (by lia)] at this
      rw[<-e7,De]
     ·rw[Bg];lia
   by_cases e3:na-k<=m
   ·rw[AH e3];refine Ai (k6 hc T k1 fun r st' sm me=>Ai (JG (Ai (HF (Ap ?_)))));have ff:failedOf st'=none:=sm.f.trans hf;show Q (failedOf st').isNone _;rw[ff];exact h _ (sm.k.trans k1) ff sm.p (fin r st' sm me)
   ·rw[AG e3];refine Ai (jD hc T k1 fun r st' sm me=>Ai (JG (Ai (HF (Ap ?_)))));have ff:failedOf st'=none:=sm.f.trans hf;show Q (failedOf st').isNone _;rw[ff];exact h _ (sm.k.trans k1) ff sm.p (fin r st' sm me)
section
variable(rk:Keyed->Nat)
def Chain(xs:Array Keyed):Nat->List (Nat×Nat×Nat)->Nat->Prop
 |b,[],e=>b=e
 |b,(s,n,_)::r,e=>s=b/\0<n/\Up rk xs s (s+n)/\Chain xs (s+n) r e
end
theorem Chain.le{xs:Array Keyed}:∀{b e:Nat}{p:List (Nat×Nat×Nat)},Chain rk xs b p e->b+p.length<=e
 |b,e,[],h=>by have h':b=e:=h;simp;lia
 |b,e,(s,n,_)::r,⟨h1,h2,_,h3⟩=>by
  have:=Chain.le h3;simp only[CV]
  lia
theorem Chain.app{xs:Array Keyed}{e:Nat}{q:List (Nat×Nat×Nat)}:∀{b:Nat}{p:List (Nat×Nat×Nat)},Chain rk xs b (p++q) e↔∃m,Chain rk xs b p m/\Chain rk xs m q e
 |b,[]=>⟨fun h=>⟨b,rfl,h⟩,fun⟨m,h1,h2⟩=>by have h1':b=m:=h1;subst h1';exact h2⟩
 |b,(s,n,_)::r=>⟨fun⟨h1,h2,h3,h4⟩=>by obtain⟨m,a,c⟩:=Chain.app.mp h4;exact⟨m,⟨h1,h2,h3,a⟩,c⟩,fun⟨m,⟨h1,h2,h3,a⟩,c⟩=>⟨h1,h2,h3,Chain.app.mpr ⟨m,a,c⟩⟩⟩
theorem Chain.same{xs ys:Array Keyed}:∀{b e:Nat}{p:List (Nat×Nat×Nat)},(∀k,b<=k->k<e->ys[k]? =xs[k]?)->Chain rk xs b p e->Chain rk ys b p e
 |b,e,[],_,h=>h
 |b,e,(s,n,_)::r,hk,⟨h1,h2,h3,h4⟩=>by have hl:=Chain.le h4;refine⟨h1,h2,fun i j a c d=>?_,Chain.same (fun k a c=>hk k (by lia) c) h4⟩;rw[HM rk (hk i (by lia) (by lia)),HM rk (hk j (by lia) (by lia))];exact h3 i j a c d
theorem Chain.pw{xs:Array Keyed}{f:Nat×Nat×Nat->Nat×Nat×Nat}(hf:∀x,(f x).1=x.1/\(f x).2.1=x.2.1):∀{b e:Nat}{p:List (Nat×Nat×Nat)}{i:Nat},Chain rk xs b p e->Chain rk xs b (p.modify i f) e
 |b,e,[],i,h=>by cases i<;>exact h
 |b,e,x::r,0,h=>by obtain⟨s,n,q⟩:=x;obtain⟨e1,e2⟩:=hf (s,n,q);show Chain rk xs b (f (s,n,q)::r) e;generalize f (s,n,q)=y at e1 e2;obtain⟨s',n',q'⟩:=y;dsimp only at e1 e2;subst e1;subst e2;exact h
 |b,e,(s,n,q)::r,i+1,⟨h1,h2,h3,h4⟩=>⟨h1,h2,h3,Chain.pw hf h4⟩
structure RS(κ:SortKind)(rk:Keyed->Nat)(a0:Array Keyed)(lo:Nat)(st:SortSt):Prop where
 kind:kindOf st=κ
 failed:failedOf st=none
 perm:(arrOf st).Perm a0
 chain:Chain rk (arrOf st) 0 (pendingOf st).toList lo
theorem YW(hc:Ct prog w A s κ rk a0){Q:Bool->SortSt->Prop}(R:RS κ rk a0 lo st)(hlo:lo<=a0.size)(hi:i+1<(pendingOf st).size)
 (h:∀st',RS κ rk a0 lo st'->(pendingOf st').size+1=(pendingOf st).size->(∀k,lo<=k->(arrOf st')[k]? =(arrOf st)[k]?)->Q true st'):wpS (model prog w) A E s (mergeAt' i) Q st:=by
 have hL:(pendingOf st).toList.length=(pendingOf st).size:=by simp
 have hsz:(arrOf st).size=a0.size:=R.perm.size_eq;have e1:(pendingOf st).toList=(pendingOf st).toList.take i++((pendingOf st).toList[i]'(by lia)::(pendingOf st).toList[i+1]'(by lia)::(pendingOf st).toList.drop (i+2)):=by rw[<-NN,<-NN,De]
 generalize ex:(pendingOf st).toList[i]'(by lia)=x at e1;generalize ey:(pendingOf st).toList[i+1]'(by lia)=y at e1;generalize ep:(pendingOf st).toList.take i=p at e1;generalize eq':(pendingOf st).toList.drop (i+2)=q at e1;obtain⟨sa,na,pw⟩:=x;obtain⟨sb,nb,pb⟩:=y;have ch:=R.chain;rw[e1] at ch;obtain⟨m,c1,c2,c3,c4,c5,c6,c7,c8⟩:=Chain.app.mp ch;subst c2;subst c5;have l1:=c1.le;have l2:=c8.le;have g1:(pendingOf st)[i]? =some (sa,na,pw):=by rw[<-Fb,Ar (by lia),ex]
 have g2:(pendingOf st)[i+1]? =some (sa+na,nb,pb):=by rw[<-Fb,Ar (by lia),ey]
 refine bQ hc R.kind R.failed R.perm g1 g2 c3 c6 (by lia) c4 c7 fun st' k1 k2 k3 k4=>?_;have pl:p.length=i:=by rw[<-ep,Bg];lia
 have e2:(pendingOf st').toList=p++((sa,na+nb,pw)::q):=by
  rw[k3,Array.toList_eraseIdxIfInBounds,Array.toList_setIfInBounds,e1,<-pl];simp[List.eraseIdx_append];intro z
  lia
 refine h st' ⟨k1,k2,k4.pm.trans R.perm,?_⟩ ?_ fun k hk=>k4.out k (.inr (by lia))
 ·rw[e2];refine Chain.app.mpr ⟨sa,c1.same fun k _ b=>k4.out k (.inl b),rfl,by lia,?_,?_⟩
  ·rw[show sa+(na+nb)=sa+na+nb by lia];exact k4.up
  ·rw[show sa+(na+nb)=sa+na+nb by lia];exact c8.same fun k a _=>k4.out k (.inr a)
 ·have h1:=BZ List.length e1;have h2:=BZ List.length e2;simp only[BC,CV,EM] at h1 h2
  lia
theorem jN(hc:Ct prog w A s κ rk a0){Q:Unit->SortSt->Prop}(hk:kindOf st=κ)(hf:failedOf st=none)(ha:arrOf st=a0)(hp:pendingOf st= #[])(h2:2<=a0.size)
 (h:∀st':SortSt,(arrOf st').Perm a0->failedOf st'=none->Up rk (arrOf st') 0 a0.size->Q () st'):wpS (model prog w) A E s sortRuns' Q st:=by
 rw[sortRuns'_eq];refine Ai (HF ?_);dsimp only;rw[ha];generalize minRun' a0.size a0.size 0=mr;refine Ai (wpS_mono (Ee
  (I:=fun x c st'=>∃lo,c=(none,lo)/\x<=lo/\lo<=a0.size/\RS κ rk a0 lo st')
  (Q:=fun c st'=>c=(none,a0.size)/\RS κ rk a0 a0.size st') ?step ?fin ⟨0,rfl,Ac _,CF _,hk,hf,by rw[ha],by rw[hp];rfl⟩) ?post);case fin=>
  rintro c st' ⟨lo,rfl,x1,x2,R⟩;have:lo=a0.size:=by lia
  subst this;exact⟨rfl,R⟩
 case step=>
  rintro x c st' _ hx ⟨lo,rfl,x1,x2,R⟩;dsimp only;by_cases hl:lo>=a0.size
  ·rw[AH hl];have:lo=a0.size:=by lia
   subst this;exact Ap ⟨rfl,R⟩
  ·rw[AG hl];have hsz:(arrOf st').size=a0.size:=R.perm.size_eq;have hc':Ct prog w A s κ rk (arrOf st'):=fun x y hx hy C hC=>hc x y ((LV.mp R.perm).mem_iff.mp hx) ((LV.mp R.perm).mem_iff.mp hy) C hC;have B0:Ok κ (arrOf st') lo (pendingOf st') st':=⟨Array.Perm.refl _,fun _ _=>rfl,R.kind,R.failed,rfl⟩;have rest:∀n st2,Ok κ (arrOf st') lo (pendingOf st') st2->1<=n->lo+n<=a0.size->Up rk (arrOf st2) lo (lo+n)->RS κ rk a0 lo st2:=fun n st2 B n1 n2 u=>
    ⟨B.kind,B.failed,B.perm.trans R.perm,by rw[B.pend];exact R.chain.same fun k _ b=>B.fix k b⟩;have tail:∀n (st2:SortSt),RS κ rk a0 lo st2->1<=n->lo+n<=a0.size->Up rk (arrOf st2) lo (lo+n)->RS κ rk a0 (lo+n) (setPending st2 ((pendingOf st2).push (lo,n,0))):=fun n st2 R2 n1 n2 u=>
    ⟨R2.kind,R2.failed,R2.perm,by show Chain rk (arrOf st2) 0 ((pendingOf st2).push (lo,n,0)).toList (lo+n);rw[Lj];exact Chain.app.mpr ⟨lo,R2.chain,rfl,by lia,u,rfl⟩⟩;refine Ai (fq (P:=pendingOf st') hc' (by lia) (by lia) B0 fun m st2 B2 m1 m2 u2=>?_);dsimp only;rcases Decidable.em (m<mr) with hm|hm;rw[AH hm];refine Ai (Kf (Gy ⟨rfl,?_⟩));refine Ai (eK (P:=pendingOf st') hc' (by lia) m1 (by lia) B2 u2 fun st3 B3 u3=>?_);simp only[Qn,DA,Bp];have n2:lo+min (a0.size-lo) mr<=a0.size:=by lia
   have n1:1<=min (a0.size-lo) mr:=by lia
   generalize min (a0.size-lo) mr=n at n1 n2 u3⊢
   rotate_left
   rw[AG hm];have n2:lo+m<=a0.size:=by lia
   have n1:=m1;have B3:=B2;have u3:=u2;generalize st2=st3 at B3 u3⊢;generalize m=n at n1 n2 u3⊢;all_goals
    refine Ai (HF ?_);have R3:=rest n st3 B3 n1 n2 u3
    cases eb:(pendingOf st3).back? with
    |none=>exact Ai (JG (Ap ⟨_,rfl,by lia,n2,tail n st3 R3 n1 n2 u3⟩))
    |some t=>
     obtain⟨s1,m1',pw1⟩:=t;dsimp only;generalize power' _ _ _ _=pw;refine Ai (wpS_mono (Ee (I:=fun _ c st4=>c=(none,())/\RS κ rk a0 lo st4/\Up rk (arrOf st4) lo (lo+n)) (Q:=fun c st4=>c=(none,())/\RS κ rk a0 lo st4/\Up rk (arrOf st4) lo (lo+n)) ?_ (fun _ _ hh=>hh) ⟨rfl,R3,u3⟩) ?_)
     ·rintro y c st4 _ _ ⟨rfl,R4,u4⟩;refine Ai (HF ?_);by_cases e:(pendingOf st4).size>1
      ·rw[AH e];have hidx:(pendingOf st4)[(pendingOf st4).size-2]? =some ((pendingOf st4)[(pendingOf st4).size-2]'(by lia)):=Fe ..;rw[hidx];generalize(pendingOf st4)[(pendingOf st4).size-2]'(by lia)=o;obtain⟨o1,o2,o3⟩:=o;dsimp only;by_cases eo:o3<=pw
       ·rw[AH eo];exact Ap ⟨rfl,R4,u4⟩
       ·rw[AG eo];refine Ai (YW hc R4 x2 (by lia) fun st5 R5 s5 k5=>?_);exact Ap ⟨rfl,R5,fun i j a b c=>by rw[HM rk (k5 i a),HM rk (k5 j (by lia))];exact u4 i j a b c⟩
      ·rw[AG e];exact Ap ⟨rfl,R4,u4⟩
     ·rintro c st4 ⟨rfl,R4,u4⟩;refine Ai (JG (Ai (JG (Ap ⟨_,rfl,by lia,n2,tail n _ ⟨R4.kind,R4.failed,R4.perm,?_⟩ n1 n2 u4⟩))));show Chain rk (arrOf st4) 0 ((pendingOf st4).modify _ _).toList lo;rw[Array.toList_modify];exact Chain.pw (f:=fun x=>(x.1,x.2.1,pw)) (fun _=>⟨rfl,rfl⟩) R4.chain
 case post=>
  rintro c st' ⟨rfl,R⟩;dsimp only;have fin:∀st2:SortSt,RS κ rk a0 a0.size st2->(pendingOf st2).size<=1->Q () st2:=fun st2 R2 hs=>by
   refine h st2 R2.perm R2.failed ?_;have ch:=R2.chain;have hL:(pendingOf st2).toList.length=(pendingOf st2).size:=by simp
   generalize(pendingOf st2).toList=p at ch hL
   match p,ch with
   |[],ch=>have z:0=a0.size:=ch;lia
   |[(a,n,_)],ch=>obtain⟨z1,z2,z3,z4⟩:=ch;have z5:a+n=a0.size:=z4;subst z1;rw[<-z5];exact z3
   |_::_::_,ch=>simp at hL;lia
  refine Ai (wpS_mono (Ee (I:=fun x c st2=>c=(none,())/\RS κ rk a0 a0.size st2/\(pendingOf st2).size<=max 1 (a0.size-x)) (Q:=fun c st2=>c=(none,())/\RS κ rk a0 a0.size st2/\(pendingOf st2).size<=1) ?_ ?_ ⟨rfl,R,?_⟩) ?_)
  ·rintro x c st2 _ hx ⟨rfl,R2,hs⟩;refine Ai (HF ?_);by_cases e:(pendingOf st2).size<=1
   ·rw[AH e];exact Ap ⟨rfl,R2,e⟩
   ·rw[AG e];have go:∀i,i+1<(pendingOf st2).size->wpS (model prog w) A E s (mergeAt' i) (fun b st3=>b=true/\RS κ rk a0 a0.size st3/\(pendingOf st3).size<=max 1 (a0.size-(x+1))) st2:=fun i hi=>YW hc R2 (Ac _) hi fun st3 R3 s3 _=>⟨rfl,R3,by lia⟩;refine Ai (wpS_mono (go _ ?_) fun b st3 hb=>?_)
    ·repeat' split
     all_goals lia
    ·obtain⟨rfl,R3,s3⟩:=hb;exact Ap ⟨rfl,R3,s3⟩
  ·rintro c st2 ⟨rfl,R2,hs⟩;exact⟨rfl,R2,by lia⟩
  ·have:=R.chain.le;simp only[EM] at this
   lia
  ·rintro c st2 ⟨rfl,R2,hs⟩;exact Ap (fin st2 R2 hs)
end
section
open PySem.Calls PySem.W
noncomputable def DF(w:World):Bool:=w.params.followText "set-order"
noncomputable def tx:Value->Str
 |.str z _=>z
 |_=>""
def D7(prog:Program)(w:World)(h:Heap)(a:Addr)(zs:List Str):Prop:=
 ∃o es ep t,h.get? a=some o/\o.ExactSet/\o.data=.set es ep t/\ElemsOf (strKind prog w) es.toList/\(es.toList.map fun e=>tx e.2).Perm zs/\zs.Nodup/\zs.length<scanBound/\t.fits es.size=true/\t.led= !DF w/\(es.size=0\/t.plain=false)
theorem SO{v:Value}(h:(strKind prog w).is z v=true):∃t,v=.str z t:=Value.isStrOf_shape h
theorem RW(prog:Program)(w:World)(z:Str)(t:Tok):(strKind prog w).is z (.str z t)=true:=strKind_is _ _ _ _
theorem ar(t:SetTable)(es:Array (Int×Value))(h:Int)(x:Value):(layNew t es h x).2.1.led=t.led:=by
 unfold layNew;split
 ·dsimp only;unfold SetTable.orStandIn;split<;>rfl
 ·rfl
end
variable{t:SetTable}
section
open PySem.Calls PySem.W
theorem eV{m f v:Nat}{l p:Bool}{hs:Array Int}{o:Array Nat}(h:SetTable.laid m f v l p hs=some (t,o)):t.led=l/\t.plain=p:=by
 unfold SetTable.laid at h
 cases e:SetTable.layClean m hs with
 |none=>rw[e] at h;cases h
 |some ow=>rw[e] at h;cases Ah h;exact⟨rfl,rfl⟩
theorem ck(t:SetTable)(es:Array (Int×Value))(n:Nat):(relayAll t es n).2.1.led=t.led/\(t.plain=false->(relayAll t es n).2.1.plain=false):=by
 unfold relayAll;split
 ·rename_i t' order e;have:=eV e;dsimp only;split
  ·exact⟨this.1,fun hp=>by rw[this.2,hp]⟩
  ·exact⟨rfl,fun _=>rfl⟩
 ·exact⟨rfl,fun _=>rfl⟩
theorem Xz{es:List (Int×Value)}(hel:ElemsOf (strKind prog w) es)(z:Str):(∃e∈es,(strKind prog w).is z e.2=true)↔z∈es.map fun e=>tx e.2:=by
 constructor
 ·rintro⟨e,he,h⟩;obtain⟨t,ht⟩:=SO h;exact BY.mpr ⟨e,he,by rw[ht];rfl⟩
 ·intro h;obtain⟨e,he,rfl⟩:=BY.mp h;obtain⟨⟨k,hk,_⟩,_⟩:=hel e he;obtain⟨t,ht⟩:=SO hk;refine⟨e,he,?_⟩;rw[ht];exact RW prog w k t
end
variable{es:Array (Int×Value)}
section
open PySem.Calls PySem.W
theorem U5(ho:h.get? a=some o)(hd:o.data=.set es ep t)(es':Array (Int×Value))(t':SetTable):
 (h.update a (Obj.putSet es' t')).get? a=some {o with data:=.set es' (ep+1) t'}:=by
 have:=IC (Obj.putSet es' t') ho (by rw[putSet_of es' t' hd];rfl);rw[putSet_of es' t' hd] at this;exact this
theorem Vq{g:Bool->Sem Unit}(hg:∀(b:Bool)(s₁:Shared)(Q':Unit->Shared->Prop),Q' () s₁->wpAny (model prog w) A (g b) Q' E s₁)
 (ho:s.heap.get? a=some o)(hex:o.ExactSet)(hd:o.data=.set es ep t)
 {es1:Array (Int×Value)}{t2:SetTable}(hel:ElemsOf (strKind prog w) es1.toList)(hm:(es1.toList.map fun e=>tx e.2).Perm zs)(hnd:zs.Nodup)(hb:zs.length<scanBound)(hf:t2.fits es1.size=true)(hl:t2.led= !DF w)(hp:t2.plain=false){dm:Bool}{R:Option Bool->Shared->Prop}
 (h:∀h',Heap.SameBut a s.heap h'->D7 prog w h' a zs->R (some true) {s with heap:=h'}):
 wpAny (model prog w) A (do
  storeSet a es1 t2
  if(!dm&&t2.tooFull)=true then do
     g (relayAll t2 es1 (SetTable.grown es1.size)).2.2
     storeSet a (relayAll t2 es1 (SetTable.grown es1.size)).1 (relayAll t2 es1 (SetTable.grown es1.size)).2.1
     pure (some true)
   else pure (some true)) R E s:=by
 have hsz:es1.size=zs.length:=by rw[<-hm.length_eq,AL,EM]
 refine AJ (wpAny_storeSet_of ho hd ?_ (fits_of_scanBound (by lia)));have ho1:=U5 ho hd es1 t2;have hsb1:=UC s.heap a (Obj.putSet es1 t2);split
 ·have rp:=relayAll_perm t2 es1 (SetTable.grown es1.size);have rf:=relayAll_fits t2 es1 (SetTable.grown es1.size);have rl:=ck t2 es1 (SetTable.grown es1.size);generalize relayAll t2 es1 (SetTable.grown es1.size)=Rl at rp rf rl⊢;obtain⟨es2,t3,gv⟩:=Rl;dsimp only at rp rf rl⊢;have hz2:es2.size=es1.size:=by rw[<-EM,rp.length_eq,EM]
  refine AJ (hg _ _ _ (AJ (wpAny_storeSet_of ho1 rfl ?_ (fits_of_scanBound (by lia)))));have ho2:=U5 ho1 rfl es2 t3;refine Af (h _ (hsb1.trans (UC _ a _)) ⟨_,es2,_,t3,ho2,hex,rfl,hel.perm rp,(rp.map _).trans hm,hnd,hb,rf,rl.1.trans hl,.inr (rl.2 hp)⟩)
 ·exact Af (h _ hsb1 ⟨_,es1,_,t2,ho1,hex,rfl,hel,hm,hnd,hb,hf,hl,.inr hp⟩)
noncomputable def EW(zs:List Str)(z:Str):List Str:=if z∈zs then zs else zs++[z]
theorem kU{tk:Tok}{Q:Bool->Shared->Prop}(hS:D7 prog w s.heap a zs)(hroom:zs.length+1<scanBound)
 (h:∀b h',Heap.SameBut a s.heap h'->D7 prog w h' a (EW zs z)->Q b {s with heap:=h'}):wpAny (model prog w) A (setAddHashed a (.str z tk) ((strKind prog w).hash z)) Q E s:=by
 obtain⟨o,es,ep,t,ho,hex,hd,hel,hm,hnd,hb,hf,hl,hp⟩:=hS;have hsz:es.size=zs.length:=by rw[<-hm.length_eq,AL,EM]
 have hkey:=RW prog w z tk;unfold setAddHashed setAddHashedIn;refine Fd (AJ (Li ho hd hf ?_));dsimp only;rw[byScan_of (knd:=strKind prog w) rfl (by lia) hel];simp only[↓reduceIte];unfold setAddByScan;refine AJ (AJ (Gy (AJ (wpAny_setScan_of hkey ho hd hf hel ?_))))
 cases hr:List.findIdx? (fun e=>(strKind prog w).is z e.2) es.toList with
 |some j=>
  dsimp only;obtain⟨hj,hpj,_⟩:=List.findIdx?_eq_some_iff_getElem.mp hr;have hz:z∈zs:=hm.mem_iff.mp ((Xz hel z).mp ⟨_,E1 hj,hpj⟩);have e:s={s with heap:=s.heap}:=by cases s;rfl
  refine Af (Af ?_);rw[e];refine h _ s.heap (Heap.SameBut.refl a s.heap) ?_;unfold EW;rw[AH hz];exact⟨o,es,ep,t,ho,hex,hd,hel,hm,hnd,hb,hf,hl,hp⟩
 |none=>
  dsimp only;have hz:z∉zs:=fun hz=>by obtain⟨e,he,hpe⟩:=(Xz hel z).mpr (hm.mem_iff.mpr hz);have:=List.findIdx?_eq_none_iff.mp hr e he;rw[hpe] at this;cases this
  have hgw:∀(b:Bool){s₁:Shared}{Q':Unit->Shared->Prop},Q' () s₁->wpAny (model prog w) A (match b with|true=>rule "set.scan.the-table-gave-way" |false=>pure ()) Q' E s₁:=
   fun b s₁ Q' hq=>by cases b<;>first|exact Af hq|exact Gy hq
  have lp:=layNew_perm t es ((strKind prog w).hash z) (.str z tk);have lf:=layNew_fits t es ((strKind prog w).hash z) (.str z tk);have ll:=ar t es ((strKind prog w).hash z) (.str z tk);generalize layNew t es ((strKind prog w).hash z) (.str z tk)=L at lp lf ll⊢;obtain⟨es1,t1,dm,gv⟩:=L;dsimp only at lp lf ll⊢;rw[Lj] at lp;have hel1:ElemsOf (strKind prog w) es1.toList:=(hel.push hkey rfl).perm lp;have hm1:(es1.toList.map fun e=>tx e.2).Perm (EW zs z):=by unfold EW;rw[AG hz];refine(lp.map _).trans ?_;rw[BX];exact hm.append_right _
  have hnd1:(EW zs z).Nodup:=by unfold EW;rw[AG hz];refine QO.mpr ⟨hnd,by simp,fun x hx y hy=>?_⟩;rw[CA] at hy;intro e;rw[<-hy,<-e] at hz;exact hz hx
  have hb1:(EW zs z).length<scanBound:=by unfold EW;rw[AG hz,BC];exact hroom
  refine AJ (hgw _ ?_);split
  ·refine AJ ?_;rw[hashByValue_scannable 8 rfl];refine Af ?_;refine Vq (zs:=EW zs z) ?_ ho hex hd hel1 hm1 hnd1 hb1 (SetTable.fits_plain_off lf) (ll.trans hl) rfl ?_
   ·intro b s₁ Q' hq;cases b<;>first|exact Af hq|exact Gy hq
   ·intro h' hsb hS';dsimp only;exact Af (h _ h' hsb hS')
  ·rename_i np;refine AJ (Af ?_);simp only[↓reduceIte];refine Vq (zs:=EW zs z) ?_ ho hex hd hel1 hm1 hnd1 hb1 lf (ll.trans hl) (by simpa using np) ?_
   ·intro b s₁ Q' hq;cases b<;>first|exact Af hq|exact Gy hq
   ·intro h' hsb hS';dsimp only;exact Af (h _ h' hsb hS')
def Et:List Str->List Str->List Str
 |σ,[]=>σ
 |σ,z::r=>Et (EW σ z) r
theorem Vp(σ:List Str)(z:Str):(EW σ z).length<=σ.length+1:=by
 unfold EW;split
 ·lia
 ·simp
theorem D7.at(x:D7 prog w h a zs)(e:∀o,h.get? a=some o->h'.get? a=some o):D7 prog w h' a zs:=by obtain⟨o,es,ep,t,ho,r⟩:=x;exact⟨o,es,ep,t,e _ ho,r⟩
end
variable{I:Addr}
section
open PySem.Calls PySem.W
theorem dG{wr:List Addr}{G:Array GenState->Array GenState->Prop}{n:Nat}{P:Nat->Value->Prop}{St:Nat->Shared->Prop}
 (W:WalksS prog w A.in1 I fp wr G n P St)(S:Addr)(hSf:S∉fp)(ys:List Str)(hy:ys.length=n)(hval:∀i v z,P i v->ys[i]? =some z->∃t,v=.str z t):
 ∀(k i:Nat)(s:Shared)(σ:List Str),n-i=k->i<=n->St i s->σ.length+(n-i)+1<scanBound->D7 prog w s.heap S σ->
  (∀s',Moved (S::wr) G s s'->D7 prog w s'.heap S (Et σ (ys.drop i))->R (.ok (.ret .none)) s')->
  codeAny (model prog w) A (.builtin "set.update.loop" ⟨[.ref S,.ref I],[]⟩) R s:=by
 have hSw:S∉wr:=fun h=>hSf (W.sub _ h);have hsub:∀b∈wr,b∈S::wr:=fun b hb=>DU _ hb;intro k
 induction k with
 |zero=>
  intro i s σ hk hi hst hb hS hR;have hin:i=n:=by lia
  subst hin;refine He F.entry_set_update_loop ?_;rw[Lb Tu _];show wpAny _ A.in1 (pyNext (.ref I)>>=_) _ _ s;refine AJ (W.done s _ _ hst fun s' hm=>?_);show wpAny _ A.in1 (ret Value.none) _ _ s';rw[La (by lia)] at hR;exact Af (hR s' (hm.mono hsub) (hS.at fun o e=>hm.heap S o hSw e))
 |succ k ih=>
  intro i s σ hk hi hst hb hS hR;have hlt:i<n:=by lia
  refine He F.entry_set_update_loop ?_;rw[Lb Tu _];show wpAny _ A.in1 (pyNext (.ref I)>>=_) _ _ s;refine AJ (W.item i s _ _ hlt hst fun v s' hP hst' hm=>?_);obtain⟨t,rfl⟩:=hval i v (ys[i]'(by lia)) hP (Ar _);have hd:ys.drop i=ys[i]'(by lia)::ys.drop (i+1):=NN (by lia);rw[hd] at hR;generalize ys[i]'(by lia)=z at hR⊢;have hS':D7 prog w s'.heap S σ:=hS.at fun o e=>hm.heap S o hSw e;show wpAny _ A.in1 (holding [Value.str z t] (setAdd S (.str z t))>>=_) _ _ s';refine AJ (Fd ?_);unfold setAdd;refine Fd (AJ ((strKind prog w).pyHash (k:=z) (RW prog w z t) ?_));refine kU (s:={s' with toks:=s'.toks+1}) hS' (by lia) fun b h' hsb hS2=>?_;refine Af ⟨Nt Tu _,ih (i+1) _ (EW σ z) (by lia) hlt (W.frame _ s' _ _ hst' (EO _) fun b hb o e=>?_) (by have:=Vp σ z;lia) hS2 fun s'' hm'' hS''=>?_⟩
  ·rw[hsb.2 b (fun h:b=S=>hSf (by rw[<-h];exact hb))];exact e
  ·refine hR s'' (Moved.trans W.gtrans ((hm.mono hsub).then_heap (EO _) fun b o hb e=>?_) hm'') hS'';rw[hsb.2 b (fun h:b=S=>hb (by rw[h];exact Ed))];exact e
theorem sub_tuple_set:isSubtype (.type "tuple") (.type "set")=pure false:=by rw[isSubtype_type];kernel_rfl
theorem sub_tuple_frozenset:isSubtype (.type "tuple") (.type "frozenset")=pure false:=by rw[isSubtype_type];kernel_rfl
theorem bM(a:Value){Q₁:Value->Shared->Prop}
 (h:Q₁ (.ref s.heap.objs.size) {s with heap:=s.heap.push {cls:=.type "set",dict:=none,data:=.set #[] 0 (.fresh 0 0 (!DF w))}}):
 codeAny (model prog w) A (.call (.builtin "set.__new__") ⟨[.type "set",a],[]⟩) (wants Q₁ E) s:=by
 refine codeAny_of_tree ?_;show wpAny _ A.in1 (do checkBuiltinCall "set.__new__" ⟨[.type "set",a],[]⟩;again (.builtin "set.__new__" ⟨[.type "set",a],[]⟩)) _ _ s;refine AJ (wpAny_of_eq (PySem.F.newCall_set_1 a) (Af ⟨Nt PySem.F.plain_set_new _,He PySem.F.entry_set_new ?_⟩));rw[Lb PySem.F.plain_set_new _];unfold Builtin.«set.__new__» Builtin.Frozenset.newClass;have hsub:=sub_set_self;obtain⟨hp,g,d,tk,os⟩:=s;dsimp only
 wp_walk
 refine wpAny_askSetting (Af ?_);dsimp only;simp only[newObj];refine AJ (wpAny_alloc (Af ?_));exact Af h
set_option maxRecDepth 100000 in
set_option maxHeartbeats 3200000 in
theorem Z1{l:Addr}{items:Array Value}{ys:List Str}(hh:A.handled=none)(hl:s.heap.IsTuple l items)(hy:ys.length=items.size)(hi:∀(i:Nat)(v:Value) z,items[i]? =some v->ys[i]? =some z->∃t,v=.str z t)(hb:items.size+1<scanBound)
 (h:∀(h':Heap)(tk:Nat),D7 prog w h' s.heap.objs.size (Et [] ys)->(∀b o,s.heap.get? b=some o->h'.get? b=some o)->Q (.ref s.heap.objs.size) {s with heap:=h',toks:=tk}):
 wpAny (model prog w) A (call (.type "set") [.ref l]) Q E s:=by
 obtain⟨c,tl,hmro⟩:=I8.mro;have hmade:=I8.made;have hsub:=I8.sub;refine Lu (codeAny_of_tree ?_);show wpAny _ _ (callAny (.type "set") _) _ _ _;refine Af ⟨NY _ (by ac_rfl),He PySem.F.entry_type_call ?_⟩;rw[Around.under_plain (weight_type_call_type "set" [.ref l] []) rfl];have h1:=I8.notType;have h2:=I8.canCreate;have hct:=PySem.F.typeCall_set_1 (.ref l);repeat (any_goals (first|assumption|wp_step))
 generalize eO:({cls:=.type "set",dict:=none,data:=.set #[] 0 (.fresh 0 0 (!DF w))}:Obj)=o0;refine KP (bM (.ref l) (E:=E) (Q₁:=fun obj s₁=>obj=.ref s.heap.objs.size/\s₁={s with heap:=s.heap.push o0}) ⟨rfl,by rw[eO]⟩) fun r s₁ hr=>?_
 cases r with
 |error e=>exact hr
 |ok fl=>
  cases fl with
  |ret obj=>
   obtain⟨rfl,rfl⟩:=hr;have hcls:o0.cls=.type "set" :=by rw[<-eO]
   have hS:(s.heap.push o0).get? s.heap.objs.size=some o0:=Bx _ (by rw[<-eO];rfl);have hT:Shared.TypeIs {s with heap:=s.heap.push o0} (.ref s.heap.objs.size) "set" :=⟨_,hS,hcls⟩;have hli:=I8.init.lookup;have hbi:=I8.init.bind (.ref s.heap.objs.size);repeat (any_goals (first|assumption|wp_step))
   refine KP (T4 (R:=wants (fun r s₂=>r=.none/\∃h' tk,s₂={s with heap:=h',toks:=tk}/\D7 prog w h' s.heap.objs.size (Et [] ys)/\(∀b o,s.heap.get? b=some o->h'.get? b=some o)) E) I8.init.plain PySem.F.entry_set_init (check_set_init_1 hT ?_)) fun r₂ s₂ hr₂=>?_
   ·subst eO;obtain⟨ol,hol,hcl,nl,hdl⟩:=hl;obtain⟨ocls,odict,odata,oslots⟩:=ol;simp only at hcl hdl;subst hcl;subst hdl;have hol':=A7 {cls:=.type "set",dict:=none,data:=.set #[] 0 (.fresh 0 0 (!DF w))} hol;have hsls:=sub_tuple_set;have hslf:=sub_tuple_frozenset;have hne:(Value.type "tuple" ==Value.type "dict")=false:=by decide
    have hl1:(s.heap.push {cls:=.type "set",dict:=none,data:=.set #[] 0 (.fresh 0 0 (!DF w))}).IsTuple l items:=⟨_,hol',rfl,nl,rfl⟩;unfold Builtin.«set.__init__» noKeywords Builtin.Frozenset.updateFrom;generalize hPI:pyIter=PI
    wp_walk
    subst hPI;refine wpAny_pyIter_tuple hl1 ?_;refine AJ (wpAny_runValue ?_);have hlS:l<s.heap.objs.size:=Aw hol;have hh3:A.in1.in1.in1.handled=none:=by simp[hh]
    have hneI:l≠(s.heap.push {cls:=.type "set",dict:=none,data:=.set #[] 0 (.fresh 0 0 (!DF w))}).objs.size:=by rw[GF];exact BH (Na hlS)
    have hSf:s.heap.objs.size∉[(s.heap.push {cls:=.type "set",dict:=none,data:=.set #[] 0 (.fresh 0 0 (!DF w))}).objs.size,l]:=by rw[GF];simp only[Bk,CA,JB,JM,not_or];exact⟨BH (Ll _),EN hlS⟩
    refine dG ((Walks.tuple hh3 _ l hneI items).toS) s.heap.objs.size hSf ys hy hi (items.size-0) 0 _ [] (by lia) (CF _) ⟨⟨_,Bx _ rfl,rfl,rfl⟩,(hl1.push _)⟩ (by simpa using hb) ?hS0 ?hR;case hS0=>exact⟨_,#[],0,_,A7 _ hS,⟨rfl,rfl,rfl⟩,rfl,fun e he=>by simp at he,Nq _,Nm,by unfold scanBound;simp,rfl,rfl,.inl rfl⟩
    case hR=>
     intro s' hm hS';obtain⟨h',g',d',tk',os'⟩:=s';have eg:g'=s.gens:=hm.gens;have ed:d'=s.drawn:=hm.drawn;have eo:os'=s.os:=hm.os;subst eg;subst ed;subst eo;refine Af ?_;refine Af ⟨rfl,h',tk',rfl,hS',fun b o e=>?_⟩;have hb:=Aw e;have hb1:b≠s.heap.objs.size:=BH hb;have hb2:b≠(s.heap.push {cls:=.type "set",dict:=none,data:=.set #[] 0 (.fresh 0 0 (!DF w))}).objs.size:=by rw[GF];exact BH (Na hb)
     exact hm.heap b o (by simp only[Bk,CA,JB,JM,not_or];exact⟨hb1,hb2⟩) (A7 _ (A7 _ e))
   ·cases r₂ with
    |error e=>exact hr₂
    |ok fl₂=>
     cases fl₂ with
     |ret r=>
      obtain⟨rfl,h',tk,rfl,hS',hk'⟩:=hr₂;repeat (any_goals (first|assumption|wp_step))
      exact h _ _ hS' hk'
     |_=>exact hr₂.elim
  |_=>exact hr.elim
theorem Nw:Slot "set_iterator" "__next__" "set_iterator.__next__" :=
 .of (owner:="set_iterator") (n:="__next__") (by rw[typeLookup_type,builtinLookup_eq_fast];kernel_rfl) (by ac_rfl) (by ac_rfl)
  (by ac_rfl) (by first|exact .inl (by ac_rfl)|exact .inr (by ac_rfl)) (by rw[isSubtype_type];kernel_rfl)
theorem Zy:entryFor table "set_iterator.__next__" =some Builtin.«set_iterator.__next__»:=entryFor_of_tree (by kernel_rfl)
theorem du:Manifest.owners.lookup (String.ofList ['r','o','t','a','r','e','t','i','_','t','e','s'].reverse)=some Manifest.sig_set_iterator:=by kernel_rfl
theorem Z0(a:Value):argsOk "set_iterator.__next__" ⟨[a],[]⟩:=by
 unfold argsOk;rw[signature?_of (id:="set_iterator.__next__") (n:=['_','_','t','x','e','n','_','_']) (o:=['r','o','t','a','r','e','t','i','_','t','e','s']) (by kernel_rfl) du]
 kernel_rfl
theorem Zw:entryFor table "set.__iter__" =some Builtin.«frozenset.__iter__»:=entryFor_alias (id':="frozenset.__iter__") (by kernel_rfl) rfl (by ac_rfl) (by kernel_rfl)
section
theorem ON{Q:Bool->Shared->Prop}(h:Q (DF w) s):wpAny (model prog w) A setsByText Q E s:=AJ (wpAny_askSetting (Af h))
theorem au{src:Source}{n:Nat}{Q:Nat->Shared->Prop}(hn:n≠0)(h:∀i d,i<n->Q i {s with drawn:=d}):wpAny (model prog w) A (choose src n) Q E s:=fun Γ p _=>by show Sem.wp _ Γ (.choose src n .pure) _ _ p s;rw[Sem.wp_choose];refine⟨hn,?_⟩;rw[Sem.wp_pure];exact h _ _ (Nat.mod_lt _ (Nat.pos_of_ne_zero hn))
theorem Qx{α:Type}:∀(xs:List α)(i:Nat)(h:i<xs.length),(xs[i]::xs.eraseIdx i).Perm xs
 |x::xs,0,_=>Nq _
 |x::xs,i+1,h=>by have ih:=Qx xs i (by simpa using h);show(xs[i]'(by simpa using h)::x::xs.eraseIdx i).Perm (x::xs);exact(List.Perm.swap _ _ _).trans (ih.cons x)
theorem Uy:∀(n:Nat)(xs:List Nat)(s:Shared)(Q:List Nat->Shared->Prop),n=xs.length->(∀ys d,ys.Perm xs->Q ys {s with drawn:=d})->wpAny (model prog w) A (drawOrder n xs) Q E s
 |0,xs,s,Q,hn,h=>by have:xs=[]:=P4.mp hn.symm;subst this;exact Af (h [] s.drawn (Nq _))
 |n+1,[],s,Q,hn,h=>by cases hn
 |n+1,x::xs,s,Q,hn,h=>by unfold drawOrder;refine AJ (au (by simp) fun i d hi=>?_);have e:(x::xs)[i]? =some ((x::xs)[i]'hi):=Ar hi;rw[e];refine AJ (Uy n _ _ _ (by rw[List.length_eraseIdx_of_lt hi];simp at hn⊢;exact hn) fun ys d hp=>Af (h _ d ?_));exact(hp.cons _).trans (Qx _ i hi)
def C1(h:Heap)(I:Addr)(first:Value)(i n ep:Nat)(a:Addr):Prop:=h.get? I=some {cls:=.type "set_iterator",dict:=none,data:=.fields #[first,.int i 0,.ref a,.int n 0,.int ep 0],slots:= #[]}
def Ey(h:Heap)(a:Addr)(o:Obj)(es:Array (Int×Value))(ep:Nat)(t:SetTable):Prop:=h.get? a=some o/\o.ExactSet/\o.data=.set es ep t/\t.fits es.size=true
theorem C1.typeIs{first:Value}{n:Nat}(it:C1 s.heap I first i n ep a):s.TypeIs (.ref I) "set_iterator" :=⟨_,it,rfl⟩
set_option hygiene false in
local macro_rules| `(tactic|trivial)=> `(tactic|(
 unfold pyNext;refine AJ (wpAny_attempt (wpAny_callSpecial?_slot (name:=Str.ofString "__next__") it.typeIs Nw (Nb Nw it.typeIs Zy ?_ (Z0 _))));obtain⟨ho,hex,hd,hf⟩:=sa;unfold Builtin.«set_iterator.__next__» slotArgs;simp only[List.isEmpty_nil,Qn,DA,↓reduceIte,bind_assoc,KG,I9];refine AJ (Af ?_);refine AJ (wpAny_fieldsOf it rfl ?_);dsimp only;refine AJ (wpAny_setEntries_of ho hd hf ?_);simp only[I9,DA,↓reduceIte]))
theorem VC{slot given:Nat}{Q:Option (Value×Nat)->Shared->Prop}(hb:DF w=true)(sa:Ey s.heap a o es ep t)
 (h:Q (((pickOrder (w.params.setOrder a ep) es)[given]?).map fun e=>(e.2,slot)) s):wpAny (model prog w) A (setNext a slot given ep) Q E s:=by
 obtain⟨ho,hex,hd,hf⟩:=sa;unfold setNext;refine AJ (Li ho hd hf ?_);dsimp only;refine AJ (ON ?_);rw[hb];simp only[CG,I9,DA,Bp];refine AJ ?_;unfold setWalk;refine AJ (Li ho hd hf ?_);dsimp only;refine AJ (ON ?_);rw[hb];simp only[CG];exact AJ (wpAny_askSetting (Af (Af h)))
theorem WA{slot given:Nat}{Q:Option (Value×Nat)->Shared->Prop}(hb:DF w=false)(sa:Ey s.heap a o es ep t)(hn:es.size<=1)(hl:t.led=true)
 (h:Q (match es[SetTable.below t.place slot]?,t.place[SetTable.below t.place slot]?with|some (_,x),some j=>some (x,j+1)|_,_=>none) s):wpAny (model prog w) A (setNext a slot given ep) Q E s:=by
 obtain⟨ho,hex,hd,hf⟩:=sa;unfold setNext;refine AJ (Li ho hd hf ?_);dsimp only;refine AJ (ON ?_);rw[hb];simp only[DA,Bp];show wpAny _ _ (if(!t.plain&&decide (es.size>1))=true then _ else _) _ _ _;rw[AG (by simp;lia)];refine AJ (show wpAny _ _ (if(!t.led&& !es.isEmpty)=true then _ else pure ()) _ _ _ from ?_);rw[hl];simp only[Qn,Ln,DA,Bp];refine Af (Af ?_);exact h
theorem Ra{first:Value}{n:Nat}{Q:Option Value->Shared->Prop}(hh:A.handled=none)(it:C1 s.heap I first i n ep a)(hQ:∀h',Heap.ExtBut I s.heap h'->Q none {s with heap:=h'}):
 wpAny (model prog w) A.in1 (do
  setField (.ref I) 2 Value.none
  let __do_lift<-newExc (Value.type "StopIteration") []
  raiseNew __do_lift)
 (fun fin s'=>∃v,fin=Fin.done (Flow.ret v)/\wpAny (model prog w) A (pure (some v)) Q E s')
 (fun e s'=>wpAny (model prog w) A (do
  let __do_lift<-isInstance e (Value.type "StopIteration")
  if __do_lift=true then pure none else throw e) Q E s') s:=by
 refine AJ (Nl it rfl (by simp) ?_);refine AJ ?_;simp only[newExc,newTuple];refine AJ (Hc ?_ (by size_fits));refine AJ (m:=firstArgMember _ _) (wpAny_of_eq (a:=Value.none) (by first|rfl|(simp only[firstArgMember];rfl)) ?_);refine Hc ?_ (by size_fits);simp only[raiseNew];refine AJ (wpAny_handled ?_);first|rw[show A.in1.handled=none from hh]|rw[hh]
 refine AJ (Af (wpAny_throw ?_));refine AJ (wpAny_isInstance (T:="StopIteration") (b:=true) ⟨_,Bx _ rfl,rfl⟩ isSubtype_stop ?_);exact Af (hQ _ (((UC ..).extBut.push _).push _))
theorem fj{Q:Option Value->Shared->Prop}{x:Int×Value}(hb:DF w=true)(it:C1 s.heap I (.int 0 0) i es.size ep a)(sa:Ey s.heap a o es ep t)
 (hx:(pickOrder (w.params.setOrder a ep) es)[i]? =some x)(h:∀h',C1 h' I (.int 0 0) (i+1) es.size ep a->Heap.SameBut I s.heap h'->Q (some x.2) {s with heap:=h'}):wpAny (model prog w) A (pyNext (.ref I)) Q E s:=by
 have sa0:=sa;trivial;refine AJ (VC hb sa0 ?_);rw[show(i:Int).toNat=i from Gu i,show(ep:Int).toNat=ep from Gu ep,hx];dsimp only[Option.map];refine AJ (Le it (by simp) fun h1 i1 b1=>AJ (Le i1 (by simp) fun h2 i2 b2=>Af ⟨_,rfl,Af (h h2 ?_ (b1.trans b2))⟩));simpa[C1,rawInt] using i2
theorem dU{Q:Option Value->Shared->Prop}(hh:A.handled=none)(hb:DF w=true)(it:C1 s.heap I (.int 0 0) i es.size ep a)(sa:Ey s.heap a o es ep t)
 (hx:(pickOrder (w.params.setOrder a ep) es)[i]? =none)(h:∀h',Heap.ExtBut I s.heap h'->Q none {s with heap:=h'}):wpAny (model prog w) A (pyNext (.ref I)) Q E s:=by
 have sa0:=sa;trivial;refine AJ (VC hb sa0 ?_);rw[show(i:Int).toNat=i from Gu i,show(ep:Int).toNat=ep from Gu ep,hx];exact Ra hh it h
theorem i6{sl:Nat}{Q:Option Value->Shared->Prop}{x:Int×Value}(hb:DF w=false)(it:C1 s.heap I (.int sl 0) i es.size ep a)(sa:Ey s.heap a o es ep t)(hn:es.size<=1)(hl:t.led=true)
 (hx:es[SetTable.below t.place sl]? =some x)(hj:t.place[SetTable.below t.place sl]? =some j)(h:∀h',C1 h' I (.int (j+1:Nat) 0) (i+1) es.size ep a->Heap.SameBut I s.heap h'->Q (some x.2) {s with heap:=h'}):wpAny (model prog w) A (pyNext (.ref I)) Q E s:=by
 have sa0:=sa;trivial;refine AJ (WA hb sa0 hn hl ?_);rw[show(sl:Int).toNat=sl from Gu sl,hx,hj];dsimp only;refine AJ (Le it (by simp) fun h1 i1 b1=>AJ (Le i1 (by simp) fun h2 i2 b2=>Af ⟨_,rfl,Af (h h2 ?_ (b1.trans b2))⟩));simpa[C1,rawInt] using i2
theorem gq{sl:Nat}{Q:Option Value->Shared->Prop}(hh:A.handled=none)(hb:DF w=false)(it:C1 s.heap I (.int sl 0) i es.size ep a)(sa:Ey s.heap a o es ep t)(hn:es.size<=1)(hl:t.led=true)
 (hx:es[SetTable.below t.place sl]? =none)(h:∀h',Heap.ExtBut I s.heap h'->Q none {s with heap:=h'}):wpAny (model prog w) A (pyNext (.ref I)) Q E s:=by
 have sa0:=sa;trivial;refine AJ (WA hb sa0 hn hl ?_);rw[show(sl:Int).toNat=sl from Gu sl,hx];exact Ra hh it h
theorem hU{T:Addr}{ps:List Nat}{Q:Option Value->Shared->Prop}{x:Int×Value}{p:Nat}(it:C1 s.heap I (.ref T) i es.size ep a)(sa:Ey s.heap a o es ep t)(hT:s.heap.IsTuple T (ps.map fun p:Nat=>rawInt p).toArray)
 (hp:ps[i]? =some p)(hx:es[p]? =some x)(h:∀h',C1 h' I (.ref T) (i+1) es.size ep a->Heap.SameBut I s.heap h'->Q (some x.2) {s with heap:=h'}):wpAny (model prog w) A (pyNext (.ref I)) Q E s:=by
 have sa0:=sa;trivial;obtain⟨oT,hoT,_,nT,hdT⟩:=hT;refine AJ (wpAny_seqItems hoT hdT ?_);have e:((ps.map fun p:Nat=>rawInt p).toArray)[(i:Int).toNat]? =some (.int p 0):=by rw[Gu,T3,Az,hp];rfl
 dsimp only;rw[e];dsimp only;refine AJ ?_;unfold setNextDrawn;refine AJ (Li ho hd hf ?_);dsimp only;simp only[Gu,I9,DA,Bp];rw[hx];refine Af ?_;refine AJ (Le it (by simp) fun h1 i1 b1=>Af ⟨_,rfl,Af (h h1 ?_ b1)⟩);simpa[C1,rawInt] using i1
theorem dQ{T:Addr}{ps:List Nat}{Q:Option Value->Shared->Prop}(hh:A.handled=none)(it:C1 s.heap I (.ref T) i es.size ep a)(sa:Ey s.heap a o es ep t)(hT:s.heap.IsTuple T (ps.map fun p:Nat=>rawInt p).toArray)
 (hp:ps[i]? =none)(h:∀h',Heap.ExtBut I s.heap h'->Q none {s with heap:=h'}):wpAny (model prog w) A (pyNext (.ref I)) Q E s:=by
 have sa0:=sa;trivial;obtain⟨oT,hoT,_,nT,hdT⟩:=hT;refine AJ (wpAny_seqItems hoT hdT ?_);have e:((ps.map fun p:Nat=>rawInt p).toArray)[(i:Int).toNat]? =none:=by rw[Gu,T3,Az,hp];rfl
 dsimp only;rw[e];dsimp only;refine AJ (Le it (by simp) fun h1 i1 b1=>?_);have i1':C1 h1 I (.int 0 0) i es.size ep a:=by simpa[C1,rawInt] using i1
 exact Ra (s:={s with heap:=h1}) hh i1' fun h' e'=>h h' (b1.extBut.trans e')
end
theorem VM{α:Type}(next:Nat->Nat):∀(f k:Nat)(l:List α)(out:Array α),f=l.length->(pickOrder.go next f k l out).toList.Perm (out.toList++l)
 |0,k,l,out,h=>by have:l=[]:=P4.mp h.symm;subst this;unfold pickOrder.go;simp
 |f+1,k,l,out,h=>by
  have hi:next k%l.length<l.length:=Nat.mod_lt _ (by lia)
  unfold pickOrder.go;rw[Ar hi];dsimp only;refine(VM next f (k+1) _ _ (by rw[List.length_eraseIdx_of_lt hi];lia)).trans ?_;rw[Lj,Bu];exact P7 _ (Qx l _ hi)
theorem RJ(next:Nat->Nat)(xs:Array α):(pickOrder next xs).toList.Perm xs.toList:=by
 have:=VM next xs.size 0 xs.toList #[] (by simp)
 simpa[pickOrder] using this
theorem Rx(j:Nat):SetTable.below #[j] 0=0/\SetTable.below #[j] (j+1)=1:=by
 constructor
 ·simp[SetTable.below,SetTable.below.go]
 ·simp[SetTable.below,SetTable.below.go]
theorem C1.keep{f:Value}{n:Nat}(x:C1 h I f i n ep a)(e:∀o,h.get? I=some o->h'.get? I=some o):C1 h' I f i n ep a:=e _ x
theorem Ey.keep(x:Ey h a o es ep t)(e:∀o,h.get? a=some o->h'.get? a=some o):Ey h' a o es ep t:=⟨e _ x.1,x.2⟩
structure Mn(prog:Program)(w:World)(A:Around)(I:Addr)(fp:List Addr)(vs:List Value)(St:Nat->Heap->Prop):Prop where
 Ph:I∈fp
 frame:∀i h h',St i h->(∀b∈fp,∀o,h.get? b=some o->h'.get? b=some o)->St i h'
 item:∀i (s:Shared)(Q:Option Value->Shared->Prop)(E:Value->Shared->Prop) v,vs[i]? =some v->St i s.heap->(∀h',St (i+1) h'->(∀b o,b≠I->s.heap.get? b=some o->h'.get? b=some o)->Q (some v) {s with heap:=h'})->wpAny (model prog w) A (pyNext (.ref I)) Q E s
 done:∀(s:Shared)(Q:Option Value->Shared->Prop)(E:Value->Shared->Prop),St vs.length s.heap->(∀h',(∀b o,b≠I->s.heap.get? b=some o->h'.get? b=some o)->Q none {s with heap:=h'})->wpAny (model prog w) A (pyNext (.ref I)) Q E s
theorem cJ(hh:A.handled=none)(hb:DF w=true)(I a:Addr)(hne:a≠I)(o:Obj)(es:Array (Int×Value))(ep:Nat)(t:SetTable):
 Mn prog w A I [I,a] ((pickOrder (w.params.setOrder a ep) es).toList.map (·.2)) (fun i h=>C1 h I (.int 0 0) i es.size ep a/\Ey h a o es ep t) where
 Ph:=by simp
 frame:=fun i h h' st hk=>⟨st.1.keep fun o e=>hk I (by simp) o e,st.2.keep fun o e=>hk a (by simp) o e⟩
 item:=fun i s Q E v hv st hQ=>by
  rw[Az,Fb] at hv
  cases e:(pickOrder (w.params.setOrder a ep) es)[i]?with
  |none=>rw[e] at hv;cases hv
  |some x=>rw[e] at hv;cases Ah hv;exact fj hb st.1 st.2 e fun h' i' b'=>hQ h' ⟨i',st.2.keep fun o e=>b'.extBut a o hne e⟩ fun b o hn e=>b'.extBut b o hn e
 done:=fun s Q E st hQ=>by
  have hl:((pickOrder (w.params.setOrder a ep) es).toList.map (·.2)).length=es.size:=by rw[AL,(RJ _ es).length_eq,EM]
  rw[hl] at st;refine dU hh hb st.1 st.2 ?_ fun h' e'=>hQ h' fun b o hn e=>e' b o hn e;rw[<-Fb];exact EL (by rw[(RJ _ es).length_eq,EM];exact Ac _)
theorem dZ(hh:A.handled=none)(hb:DF w=false)(I a:Addr)(hne:a≠I)(o:Obj)(es:Array (Int×Value))(ep:Nat)(t:SetTable)(hn:es.size<=1)(hl:t.led=true)(hf:t.fits es.size=true):
 Mn prog w A I [I,a] (es.toList.map (·.2)) (fun i h=>C1 h I (.int (if i=0 then 0 else t.place.getD 0 0+1:Nat) 0) i es.size ep a/\Ey h a o es ep t) where
 Ph:=by simp
 frame:=fun i h h' st hk=>⟨st.1.keep fun o e=>hk I (by simp) o e,st.2.keep fun o e=>hk a (by simp) o e⟩
 item:=fun i s Q E v hv st hQ=>by
  have hps:t.place.size=es.size:=by simp only[SetTable.fits,E2,Fg] at hf;exact hf.1
  have hi:i=0/\es.size=1:=by
   have:=(BW.mp hv).1;simp at this
   lia
  obtain⟨rfl,h1⟩:=hi;obtain⟨j,hj⟩:∃j,t.place= #[j]:=by obtain⟨j,hj⟩:=List.length_eq_one_iff.mp (show t.place.toList.length=1 by simp;lia);exact⟨j,JC.mp (by rw[hj])⟩
  have hx:es[0]? =some (es[0]'(by lia)):=Fe .. ;have hv':v=(es[0]'(by lia)).2:=by rw[Az,Fb,hx] at hv;exact(Ah hv).symm
  subst hv';have st1:=st.1;rw[AH rfl] at st1;refine i6 (sl:=0) (j:=j) hb st1 st.2 hn hl (by rw[hj,(Rx j).1];exact hx) (by rw[hj,(Rx j).1];rfl) fun h' i' b'=>hQ h' ⟨?_,st.2.keep fun o e=>b'.extBut a o hne e⟩ fun b o hn e=>b'.extBut b o hn e;rw[AG (by lia),hj];exact i'
 done:=fun s Q E st hQ=>by
  have hps:t.place.size=es.size:=by simp only[SetTable.fits,E2,Fg] at hf;exact hf.1
  rw[AL,EM] at st;refine gq hh hb st.1 st.2 hn hl ?_ fun h' e'=>hQ h' fun b o hn e=>e' b o hn e;by_cases h0:es.size=0
  ·exact getElem?_neg es _ (by lia)
  ·obtain⟨j,hj⟩:∃j,t.place= #[j]:=by obtain⟨j,hj⟩:=List.length_eq_one_iff.mp (show t.place.toList.length=1 by simp;lia);exact⟨j,JC.mp (by rw[hj])⟩
   rw[AG h0,hj];show es[SetTable.below #[j] (j+1)]? =none;rw[(Rx j).2];exact getElem?_neg es _ (by lia)
theorem cL(hh:A.handled=none)(I a T:Addr)(hne:a≠I)(hnT:T≠I)(o:Obj)(es:Array (Int×Value))(ep:Nat)(t:SetTable)(ps:List Nat)(hp:ps.Perm (List.range es.size)):
 Mn prog w A I [I,a,T] (ps.map fun p=>(es.getD p (0,Value.none)).2) (fun i h=>C1 h I (.ref T) i es.size ep a/\Ey h a o es ep t/\h.IsTuple T (ps.map fun p:Nat=>rawInt p).toArray) where
 Ph:=by simp
 frame:=fun i h h' st hk=>⟨st.1.keep fun o e=>hk I (by simp) o e,st.2.1.keep fun o e=>hk a (by simp) o e,by obtain⟨oT,x,r⟩:=st.2.2;exact⟨oT,hk T (by simp) _ x,r⟩⟩
 item:=fun i s Q E v hv st hQ=>by
  rw[Az] at hv
  cases e:ps[i]?with
  |none=>rw[e] at hv;cases hv
  |some p=>
   rw[e] at hv;cases Ah hv;have hlt:p<es.size:=KI.mp (hp.mem_iff.mp (CL e));have ex:es[p]? =some (es.getD p (0,Value.none)):=by rw[F5,Fe es p hlt];rfl
   refine hU st.1 st.2.1 st.2.2 e ex fun h' i' b'=>hQ h' ⟨i',st.2.1.keep fun o e=>b'.extBut a o hne e,?_⟩ fun b o hn e=>b'.extBut b o hn e;exact st.2.2.extBut b'.extBut hnT
 done:=fun s Q E st hQ=>by rw[AL] at st;exact dQ hh st.1 st.2.1 st.2.2 (EL (Ac _)) fun h' e'=>hQ h' fun b o hn e=>e' b o hn e
theorem i9(hh:A.handled=none)(hS:D7 prog w s.heap a zs)
 (h:∀(I:Addr)(fp:List Addr)(vs:List Value)(St:Nat->Heap->Prop) h' d,(∀(B:Around),B.handled=none->Mn prog w B I fp vs St)->St 0 h'->(∀b o,s.heap.get? b=some o->h'.get? b=some o)->(∀b∈fp,b=a\/s.heap.objs.size<=b)->(∀v∈vs,∃z t,v=.str z t)->(vs.map tx).Perm zs->vs.length<=4096->
  s.heap.objs.size<=I->Q (.ref I) {s with heap:=h',drawn:=d}):wpAny (model prog w) A (pyIter (.ref a)) Q E s:=by
 obtain⟨o,es,ep,t,ho,hex,hd,hel,hm,hnd,hb,hf,hl,hp⟩:=hS;have hT:s.TypeIs (.ref a) "set" :=⟨o,ho,hex.1⟩;have hlt:=Aw ho;have hsz:es.size=zs.length:=by rw[<-hm.length_eq,AL,EM]
 have DG:∀e∈es.toList,∃z t,e.2=.str z t:=fun e he=>by obtain⟨⟨k,hk,_⟩,_⟩:=hel e he;obtain⟨t,ht⟩:=SO hk;exact⟨k,t,ht⟩
 refine wpAny_pyIter_slot hT PySem.F.slot_set_iter (Nb PySem.F.slot_set_iter hT Zw ?_ (PySem.F.args_set_iter_1 _));unfold Builtin.«frozenset.__iter__» Builtin.Frozenset.slot0 slotArgs;simp only[List.isEmpty_nil,Qn,DA,↓reduceIte,bind_assoc,KG,I9];unfold Builtin.Frozenset.addrOf Builtin.Frozenset.sizeOf;refine AJ (Af ?_);try dsimp only
 refine AJ (Af ?_);refine AJ (AJ (wpAny_setEntries_of ho hd hf (Af ?_)));unfold setDrawn;refine AJ (AJ (Li ho hd hf ?_));dsimp only;refine AJ (ON (Af ?_));show wpAny _ _ (if(!DF w&&(!t.plain&&decide (es.size>1)))=true then _ else _) _ _ _;have h4:es.size<=4096:=by have:scanBound=4096:=rfl;lia
 by_cases c:(!DF w&&(!t.plain&&decide (es.size>1)))=true
 ·rw[AH c];refine AJ (Uy _ _ _ _ (by simp) fun ps d pp=>?_);have lp:ps.length=es.size:=by rw[pp.length_eq,QP]
  refine AJ (wpAny_newTuple ?_ (by rw[AL,BA];lia));have ho1:=A7 {cls:=.type "tuple",data:=.seq (List.map (fun i:Nat=>rawInt i) ps).toArray} ho;refine AJ (wpAny_setEpoch_of (s:={s with heap:=s.heap.push _,drawn:=d}) ho1 hd hf ?_);have z1:(s.heap.push {cls:=.type "tuple",data:=.seq (List.map (fun i:Nat=>rawInt i) ps).toArray}).objs.size=s.heap.objs.size+1:=by rw[GF]
  refine AJ (Hc (Af ⟨_,rfl,"set_iterator",_,⟨_,Bx _ rfl,rfl⟩,Nw.lookup,?_⟩));have ev:(es.toList.map (·.2))=(List.range es.size).map fun p=>(es.getD p (0,Value.none)).2:=by
   apply JA;intro k;rw[Az,Az,Fb];by_cases hk:k<es.size
   ·rw[UB hk,Fe es k hk];simp[F5,hk]
   ·rw[getElem?_neg es k hk,EL (by simp;lia)];rfl
  have pv:(ps.map fun p=>(es.getD p (0,Value.none)).2).Perm (es.toList.map (·.2)):=by rw[ev];exact pp.map _
  refine h _ [_,a,s.heap.objs.size] (ps.map fun p=>(es.getD p (0,Value.none)).2) _ _ d (fun B hB=>cL hB _ a s.heap.objs.size (by rw[z1];exact BH (Na hlt)) (by rw[z1];exact BH (Ll _)) o es ep t ps pp)
   ⟨Bx _ rfl,⟨A7 _ ho1,hex,hd,hf⟩,⟨_,A7 _ (Bx _ rfl),rfl,0,rfl⟩⟩
   (fun b o e=>A7 _ (A7 _ e)) (fun b hb=>?_) (fun v hv=>?_) ?_ (by rw[AL];lia) (by rw[z1];exact EO _)
  ·rcases Bk.mp hb with e|hb
   ·exact .inr (by rw[e,z1];exact EO _)
   ·rcases Bk.mp hb with e|hb
    ·exact .inl e
    ·exact .inr (by rw[CA.mp hb];exact Ac _)
  ·obtain⟨e,he,rfl⟩:=BY.mp (pv.mem_iff.mp hv);exact DG e he
  ·refine(pv.map tx).trans ?_;rw[Bh];exact hm
 ·rw[AG c];refine AJ (Af (AJ (wpAny_setEpoch_of ho hd hf ?_)));refine AJ (Hc (Af ⟨_,rfl,"set_iterator",_,⟨_,Bx _ rfl,rfl⟩,Nw.lookup,?_⟩));have ne:a≠s.heap.objs.size:=BH hlt;have fpo:∀b∈[s.heap.objs.size,a],b=a\/s.heap.objs.size<=b:=fun b hb=>by
   rcases Bk.mp hb with e|hb
   ·exact .inr (by rw[e];exact Ac _)
   ·exact .inl (CA.mp hb)
  have es0:s={s with heap:=s.heap}:=by cases s;rfl
  cases eb:DF w with
  |true=>
   have pv:((pickOrder (w.params.setOrder a ep) es).toList.map (·.2)).Perm (es.toList.map (·.2)):=(RJ _ es).map _;refine h _ [s.heap.objs.size,a] _ _ _ s.drawn (fun B hB=>cJ hB eb _ a ne o es ep t) ⟨Bx _ rfl,A7 _ ho,hex,hd,hf⟩ (fun b o e=>A7 _ e) fpo (fun v hv=>?_) ?_ (by rw[pv.length_eq,AL];simp;exact h4) (Ac _)
   ·obtain⟨e,he,rfl⟩:=BY.mp (pv.mem_iff.mp hv);exact DG e he
   ·refine(pv.map tx).trans ?_;rw[Bh];exact hm
  |false=>
   have Cc:es.size<=1:=by
    rw[eb] at c;rcases hp with z|z
    ·lia
    ·rw[z] at c;simp at c
     lia
   rw[eb] at hl;refine h _ [s.heap.objs.size,a] _ _ _ s.drawn (fun B hB=>dZ hB eb _ a ne o es ep t Cc hl hf) ⟨Bx _ rfl,A7 _ ho,hex,hd,hf⟩ (fun b o e=>A7 _ e) fpo (fun v hv=>?_) ?_ (by rw[AL];simp;exact h4) (Ac _)
   ·obtain⟨e,he,rfl⟩:=BY.mp hv;exact DG e he
   ·rw[Bh];exact hm
theorem ee{vs:List Value}{St:Nat->Heap->Prop}(W:Mn prog w A.in1 I fp vs St)(hn:vs.length<=sizeLine)(S:Addr)(hSf:S∉fp)(res:Value):
 ∀(k i:Nat)(s:Shared)(acc:Array Value)(c:Nat),vs.length-i=k->i<=vs.length->St i s.heap->s.heap.get? S=some {cls:=.type "list",dict:=none,data:=.seq acc c,slots:= #[]}->acc.toList=vs.take i->
 (∀h' c',(∀b o,b≠S->b≠I->s.heap.get? b=some o->h'.get? b=some o)->h'.get? S=some {cls:=.type "list",dict:=none,data:=.seq vs.toArray c',slots:= #[]}->R (.ok (.ret res)) {s with heap:=h'})->
 codeAny (model prog w) A (.builtin "list.extend.loop" ⟨[.ref S,.ref I,res],[]⟩) R s:=by
 have hSI:S≠I:=fun e=>hSf (e▸W.Ph);intro k
 induction k with
 |zero=>
  intro i s acc c hk hi hst hS hacc hR;have hin:i=vs.length:=by lia
  subst hin;refine He PySem.F.entry_extend_loop ?_;rw[Lb NK _];show wpAny _ A.in1 (pyNext (.ref I)>>=_) _ _ s;refine AJ (W.done s _ _ hst fun h' hm=>?_);have ea:acc=vs.toArray:=JC.mp (by rw[hacc,Cv]);exact Af (hR h' c (fun b o _ hb e=>hm b o hb e) (by rw[<-ea];exact hm S _ hSI hS))
 |succ k ih=>
  intro i s acc c hk hi hst hS hacc hR;have hlt:i<vs.length:=by lia
  have hsz:acc.size=i:=by rw[<-EM,hacc,Bg];lia
  refine He PySem.F.entry_extend_loop ?_;rw[Lb NK _];show wpAny _ A.in1 (pyNext (.ref I)>>=_) _ _ s;refine AJ (W.item i s _ _ _ (Ar hlt) hst fun h' hst' hm=>?_);have hS':=hm S _ hSI hS;show wpAny _ A.in1 (updateSeq S (·.push (vs[i]'hlt))>>=_) _ _ _;refine AJ ?_;refine wpAny_updateSeq (s:={s with heap:=h'}) hS' rfl (Af ⟨Nt NK _,ih (i+1) _ (acc.push (vs[i]'hlt)) _ (by lia) hlt (W.frame _ h' _ hst' fun b hb o e=>?_) (IC _ hS' rfl) ?_ fun h2 c' hm'' hS''=>?_⟩)
   (by rw[hsz];lia) (by show(acc.push (vs[i]'hlt)).size<=sizeLine+1;rw[Array.size_push,hsz];lia)
  ·exact(Dc _ _ (fun h:S=b=>hSf (by rw[h];exact hb))).trans e
  ·rw[Lj,hacc,List.take_succ,Ar hlt];rfl
  ·exact hR h2 c' (fun b o hb1 hb2 e=>hm'' b o hb1 hb2 ((Dc _ _ (C5 hb1)).trans (hm b o hb2 e))) hS''
theorem di{r:Addr}{Q:Bool->Shared->Prop}(hT:s.TypeIs (.ref r) "set")(h:Q false s):wpAny (model prog w) A (Builtin.List.listLengthHint (.ref r)) Q E s:=by
 unfold Builtin.List.listLengthHint;refine AJ (wpAny_specialOf hT PySem.F.slot_set_len.lookup ?_);generalize hid:("set.__len__" :String)=id0
 wp_delta
 rw[show splitId id0=some ("set","__len__") from by subst hid;decide+kernel];subst hid;refine AJ (wpAny_isInstance (T:="set") (b:=true) hT sub_set_self ?_);refine wpAny_ite_split (fun hab=>absurd hab (by decide)) (fun _=>?_);refine wpAny_ite_split (fun _=>?_) (fun hab=>absurd (by ac_rfl) hab);refine AJ (wpAny_typeOf hT ?_);exact Af h
theorem cv{Q:List Value->Shared->Prop}(hh:A.handled=none)(hS:D7 prog w s.heap a zs)
 (h:∀vs h' d,(∀v∈vs,∃z t,v=.str z t)->(vs.map tx).Perm zs->(∀b o,s.heap.get? b=some o->h'.get? b=some o)->s.heap.objs.size<h'.objs.size->Q vs {s with heap:=h',drawn:=d}):wpAny (model prog w) A (collect (.ref a)) Q E s:=by
 have hT:∀(x:Shared),(∀b o,s.heap.get? b=some o->x.heap.get? b=some o)->x.TypeIs (.ref a) "set" :=fun x e=>by obtain⟨o,es,ep,t,ho,hex,_⟩:=hS;exact⟨o,e _ _ ho,hex.1⟩
 have hlt:a<s.heap.objs.size:=by obtain⟨o,es,ep,t,ho,_⟩:=hS;exact Aw ho
 unfold collect;refine AJ (wpAny_runValue (He entry_proto_collect' ?_));show wpAny _ _ (do again (.builtin "list.__iadd__" ⟨[<-newList [],.ref a],[]⟩)) _ _ s;refine AJ (Qm (Af ⟨NY _ (by ac_rfl),He entry_list_iadd' ?_⟩));show wpAny _ _ (Builtin.List.listExtendWith (.ref s.heap.objs.size) (.ref a) (.ref s.heap.objs.size)) _ _ {s with heap:=s.heap.push (seqObj "list" #[] 0)};generalize e0:s.heap.push (seqObj "list" #[] 0)=h0;have hS0:h0.get? s.heap.objs.size=some (seqObj "list" #[] 0):=by rw[<-e0];exact Bx _ rfl
 have k0:∀b o,s.heap.get? b=some o->h0.get? b=some o:=fun b o e=>by rw[<-e0];exact A7 _ e
 have z0:s.heap.objs.size<h0.objs.size:=Aw hS0;unfold Builtin.List.listExtendWith;refine AJ (wpAny_typeOf (T:="set") (hT {s with heap:=h0} k0) ?_);have h1:Builtin.List.listSameRef (.ref s.heap.objs.size) (.ref a)=false:=by simp[Builtin.List.listSameRef,EN hlt]
 have t1:(Value.type "set" ==Value.type "list")=false:=by decide
 have t2:(Value.type "set" ==Value.type "tuple")=false:=by decide
 simp only[h1,t1,t2,Bool.or_false,DA,Bp];refine AJ (i9 (s:={s with heap:=h0}) (zs:=zs) hh (hS.at fun o e=>k0 a o e) fun I fp vs St h' d W st keep hfp DG pm h4 hI=>?_);have hSf:s.heap.objs.size∉fp:=fun hm=>by
  rcases hfp _ hm with e|e
  ·exact absurd e (EN hlt)
  ·exact absurd z0 (N5.mpr e)
 have hS1:=keep _ _ hS0;have done:∀h2 c',(∀b o,b≠s.heap.objs.size->b≠I->h'.get? b=some o->h2.get? b=some o)->h2.get? s.heap.objs.size=some {cls:=.type "list",dict:=none,data:=.seq vs.toArray c',slots:= #[]}->
  wpAny (model prog w) A (do
   let o<-load s.heap.objs.size
   match o.data with
   |.seq xs _=>pure xs.toList
   |_=>unsupported "internal:collect") Q E {s with heap:=h2,drawn:=d}:=fun h2 c' k2 hS2=>by
  refine AJ (wpAny_load hS2 (Af ?_));refine h _ h2 d (by simpa using DG) (by simpa using pm) (fun b o e=>?_) (Aw hS2);have hb:=Aw e;exact k2 b o (BH hb) (fun z=>absurd (z▸hb) (N5.mpr (E4 (Cu z0 hI)))) (keep b o (k0 b o e))
 have n4:vs.length<=sizeLine:=by rw[BA];lia
 refine AJ (Fd (di (hT {s with heap:=h',drawn:=d} fun b o e=>keep b o (k0 b o e)) ?_));have key:∀(h1:Heap)(c1:Nat),St 0 h1->(∀b o,b≠s.heap.objs.size->h'.get? b=some o->h1.get? b=some o)->h1.get? s.heap.objs.size=some {cls:=.type "list",data:=.seq #[] c1}->
  codeAny (model prog w) A (.builtin "list.extend.loop" ⟨[.ref s.heap.objs.size,.ref I,.ref s.heap.objs.size],[]⟩) (wants (fun v s'=>wpAny (model prog w) A (match v with
   |.ref a=>do
    let o<-load a
    match o.data with
    |.seq xs _=>pure xs.toList
    |_=>unsupported "internal:collect"
   |_=>unsupported "internal:collect") Q E s') E) {s with heap:=h1,drawn:=d}:=fun h1 c1 st1 k1 hS1=>
  ee (W A.in1 hh) n4 _ hSf _ vs.length 0 _ #[] c1 (by lia) (CF _) st1 hS1 (by simp) fun h2 c' k2 hS2=>done h2 c' (fun b o b1 b2 e=>k2 b o b1 b2 (k1 b o b1 e)) hS2;refine wpAny_ite_split (fun _=>?_) (fun _=>Af ⟨Nt NK _,key _ 0 st (fun b o _ e=>e) hS1⟩);refine AJ (Gy ?_);refine AJ ?_;show wpAny _ _ (updateSeq s.heap.objs.size (·.push .none)>>=fun _=>updateSeq s.heap.objs.size (·.pop)) _ _ _;refine AJ (wpAny_updateSeq (s:={s with heap:=h',drawn:=d}) hS1 rfl ?_);have hS2:=IC (Obj.mapSeq (·.push Value.none)) hS1 rfl;refine wpAny_updateSeq (hz:=by seq_fits) hS2 rfl ?_;have hS3:=IC (Obj.mapSeq (·.pop)) hS2 rfl;refine Af ⟨Nt NK _,key _ _ ?_ (fun b o hb e=>?_) hS3⟩
 ·refine(W A hh).frame 0 _ _ st fun b hb o e=>?_;have hbS:b≠s.heap.objs.size:=fun h=>hSf (h▸hb);exact(Dc _ _ (C5 hbS)).trans ((Dc _ _ (C5 hbS)).trans e)
 ·exact(Dc _ _ (C5 hb)).trans ((Dc _ _ (C5 hb)).trans e)
end
section
open PySem.W
theorem fU{f:α->β}{a b:List β}(h:a.Perm b):∀l:List α,b=l.map f->∃l':List α,l'.Perm l/\a=l'.map f:=by
 induction h with
 |nil=>intro l e;exact⟨[],by rw[List.map_eq_nil_iff.mp e.symm],rfl⟩
 |cons x _ ih=>
  intro l e
  match l,e with
  |y::l,e=>obtain⟨e1,e2⟩:=Hf e;obtain⟨l',p,q⟩:=ih l e2;exact⟨y::l',p.cons y,by rw[Au,<-q,<-e1]⟩
 |swap x y t=>
  intro l e
  match l,e with
  |u::v::l,e=>obtain⟨e1,e2⟩:=Hf e;obtain⟨e3,e4⟩:=Hf e2;exact⟨v::u::l,List.Perm.swap ..,by rw[Au,Au,<-e1,<-e3,<-e4]⟩
 |trans _ _ ih1 ih2=>intro l e;obtain⟨l1,p1,q1⟩:=ih2 l e;obtain⟨l2,p2,q2⟩:=ih1 l1 q1;exact⟨l2,p2.trans p1,q2⟩
theorem dh(vs:List Value):vs=(List.range vs.length).map fun i=>vs.getD i Value.none:=by
 apply JA;intro k;rw[Az];by_cases hk:k<vs.length
 ·rw[UB hk,Ar hk];simp[hk]
 ·rw[EL (by lia),EL (by simp;lia)];rfl
open Classical in
noncomputable def M5(vs:List Value)(r:Nat->Nat)(x:Keyed):Nat:=if h:∃i,i<vs.length/\vs.getD i Value.none=x.1 then r (Classical.choose h) else 0
theorem Rb{vs:List Value}{r:Nat->Nat}(hr:∀i j,i<vs.length->j<vs.length->vs.getD i Value.none=vs.getD j Value.none->r i=r j){x:Keyed}(hi:i<vs.length)(e:vs.getD i Value.none=x.1):M5 vs r x=r i:=by have h:∃i,i<vs.length/\vs.getD i Value.none=x.1:=⟨i,hi,e⟩;unfold M5;rw[dif_pos h];have:=Classical.choose_spec h;exact hr _ _ this.1 hi (this.2.trans e.symm)
theorem Q9{vs:List Value}{x:Keyed}(h:x∈(vs.toArray.zip vs.toArray).toList):∃i,i<vs.length/\vs.getD i Value.none=x.1/\x.1=x.2:=by
 have h':x∈vs.zip vs:=by simpa using h
 obtain⟨i,hi,e⟩:=HZ.mp h';have hl:i<vs.length:=by simpa using hi
 rw[List.getElem_zip] at e;refine⟨i,hl,?_,by rw[<-e]⟩;rw[Cj,Ar hl,<-e];rfl
theorem eA{vs:List Value}{n:Nat}{P:PySem.Fin->Shared->Prop}(r:Nat->Nat)(ho:s.heap.get? a=some (seqObj "list" vs.toArray n))(hle:vs.length<=sizeLine)
 (hr:∀i j,i<vs.length->j<vs.length->vs.getD i Value.none=vs.getD j Value.none->r i=r j)
 (hk:2<=vs.length->M0 prog w A vs r {s with heap:=Kk s.heap a vs})
 (h:∀p:List Nat,p.Perm (List.range vs.length)->(∀i j,i<=j->j<vs.length->r (p.getD i 0)<=r (p.getD j 0))->P (.done (.ret .none)) {s with heap:=sortedHeap s.heap a vs (FC vs p).toArray}):
 wpAny (model prog w) A (Builtin.«list.sort» ⟨[.ref a],[]⟩) P E s:=by
 have lta:a<s.heap.objs.size:=Aw ho;rw[list_sort_plain];refine AJ (listItems_at ho rfl (AJ (listUpdate_at ho rfl ?_ (by rw[CU];lia) (CF _))));obtain⟨e1,h1⟩:∃e1,(s.heap.update a (Obj.mapSeq fun _=>(#[]:Array Value))).get? a=some (seqObj "list" #[] e1):=⟨_,get?_update_seq ho fun _=> #[]⟩;refine AJ (seqEpoch_at h1 rfl (AJ (wpAny_newTuple (AJ (Qm (Fd ?_) (CF _))) (by show vs.length<=_;lia))));have h6:(Kk s.heap a vs).get? a=some (seqObj "list" #[] e1):=by unfold Kk;rw[Heap.get?_push_ne _ _ _ (by rw[size_push',QY];exact BH (Na lta)),Heap.get?_push_ne _ _ _ (by rw[QY];exact BH lta)];exact h1
 show wpAny (model prog w) A _ P E {s with heap:=Kk s.heap a vs};dsimp only;by_cases h2:vs.toArray.size<2
 ·rw[AH h2,AH h2];refine AJ (Af ?_);rw[StateT.run_pure];refine AJ (Af ?_);dsimp only;have hn:vs.length<2:=by simpa using h2
  have e0:Array.map (·.2) (arrOf (SortSt.mk' general' (vs.toArray.zip vs.toArray) #[] 7 none))=(FC vs (List.range vs.length)).toArray:=by show Array.map (·.2) (vs.toArray.zip vs.toArray)=_;exact j5 (C:=fun vs:List Value=>Array.map (·.2) (vs.toArray.zip vs.toArray)=(FC vs (List.range vs.length)).toArray) (by simp[FC]) (fun _=>by apply JC.mp;simp[FC]) hn
  rw[e0];refine AJ (seqEpoch_at h6 rfl (AJ (listUpdate_at h6 rfl ?_ (CF _) (by unfold FC;simp;lia))));simp only[I9,DA,Bp];exact Af (h (List.range vs.length) (.refl _) fun i j hij hj=>by
   have e:i=j:=by lia
   rw[e];exact Ac _)
 ·have h2':2<=vs.length:=by
   have:¬vs.length<2:=by simpa using h2
   lia
  rw[AG h2,AG h2];refine AJ (Cz (hk h2') (fun κ s' hκ=>?_) fun _ _ x=>x.elim);obtain⟨es,ask⟩:=hκ;subst es;have hzz:(vs.toArray.zip vs.toArray).size=vs.length:=by simp
  have hc:Ct prog w A {s with heap:=Kk s.heap a vs} κ (M5 vs r) (vs.toArray.zip vs.toArray):=fun x y hx hy C hC=>by
   obtain⟨i,hi,ei,_⟩:=Q9 hx;obtain⟨j,hj,ej,_⟩:=Q9 hy;have:=ask i j C hi hj (by unfold Po;rw[<-Rb hr hi ei,<-Rb hr hj ej];exact hC);unfold kas_ask at this;rw[ei,ej] at this;exact this
  refine AJ (Cz (jN (st:=SortSt.mk' κ (vs.toArray.zip vs.toArray) #[] 7 none) (Q:=fun _ st'=>(arrOf st').Perm (vs.toArray.zip vs.toArray)/\failedOf st'=none/\Up (M5 vs r) (arrOf st') 0 (vs.toArray.zip vs.toArray).size) hc rfl rfl rfl rfl (by lia) fun st' a1 a2 a3=>⟨a1,a2,a3⟩) ?_ fun _ _ e=>e);rintro⟨⟨⟩,st'⟩ s' ⟨rfl,pm,hf,up⟩;dsimp only at pm hf up⊢;have pl:=LV.mp pm;have inx:∀x∈(arrOf st').toList,∃i,i<vs.length/\vs.getD i Value.none=x.1/\x.1=x.2:=fun x hx=>Q9 (pl.mem_iff.mp hx);have po:((arrOf st').toList.map (·.2)).Perm vs:=by
   refine(pl.map _).trans ?_;have e:((vs.toArray.zip vs.toArray).toList.map (·.2))=vs:=by
    have e1:(vs.toArray.zip vs.toArray).toList=vs.zip vs:=by simp
    rw[e1];exact List.map_snd_zip (Ac _)
   rw[e]
  obtain⟨p,pp,ep⟩:=fU po (List.range vs.length) (dh vs);have eo:(arrOf st').map (·.2)=(FC vs p).toArray:=by apply JC.mp;rw[Array.toList_map,ep];rfl
  have plen:p.length=vs.length:=by rw[pp.length_eq,QP]
  rw[eo];refine AJ (seqEpoch_at h6 rfl (AJ (listUpdate_at h6 rfl ?_ (CF _) (by unfold FC;simp;lia))));rw[hf];simp only[I9,DA,Bp];refine Af (h p pp fun i j hij hj=>?_);have sz:(arrOf st').size=vs.length:=by rw[pm.size_eq,hzz]
  have at_:∀k,k<vs.length->kv (M5 vs r) (arrOf st') k=r (p.getD k 0):=fun k hk'=>by
   have hk1:k<(arrOf st').size:=by lia
   have hm:=getD_mem (arr:=arrOf st') hk1;obtain⟨i0,hi0,ei0,e12⟩:=inx _ hm;have hpk:p.getD k 0<vs.length:=by rw[Cj,Ar (by lia)];exact KI.mp (pp.mem_iff.mp (E1 _))
   refine Rb hr hpk ?_;have:((arrOf st').toList.map (·.2))[k]? =some ((arrOf st').getD k dK).2:=by rw[Az,Fb,Fe _ k hk1,F5,Fe _ k hk1];rfl
   rw[ep,Az] at this;rw[Ar (by lia)] at this;have t2:=Ah this;rw[e12,<-t2,Cj (l:=p),Ar (by lia)];rfl
  have:=up i j (CF _) hij (by lia);rw[at_ i (by lia),at_ j hj] at this;exact this
theorem UW{x:Value}
 (hcol:wpAny (model prog w) A.in1 (collect x) (fun vs s1=>vs.length<=1000000/\∃r:Nat->Nat,(∀i j,i<vs.length->j<vs.length->vs.getD i Value.none=vs.getD j Value.none->r i=r j)/\
  (2<=vs.length->∀h':Heap,(∀b o,s1.heap.get? b=some o->h'.get? b=some o)->M0 prog w A.in1.in1 vs r {s1 with heap:=h'})/\
  ∀(p:List Nat) h2 e,p.Perm (List.range vs.length)->(∀i j,i<=j->j<vs.length->r (p.getD i 0)<=r (p.getD j 0))->(∀b o,s1.heap.get? b=some o->h2.get? b=some o)->h2.get? s1.heap.objs.size=some (seqObj "list" (FC vs p).toArray e)->Q (.ref s1.heap.objs.size) {s1 with heap:=h2}) E s):
 wpAny (model prog w) A (call (.builtin "sorted") [x]) Q E s:=by
 refine Calls.call_function_entry kind_sorted plain_sorted entry_sorted (args_sorted1 _) ?_;unfold Builtin.«sorted»;refine AJ (m:=checkCount "sorted" 1 1 _) (Af (AJ (Cz hcol (fun vs s1 hs=>?_) fun _ _ z=>z)));obtain⟨hl,r,hr,hk,h⟩:=hs;have hle:vs.length<=sizeLine:=by rw[BA];lia
 refine AJ (Qm ?_ hle);have ho:(s1.heap.push (seqObj "list" vs.toArray 0)).get? s1.heap.objs.size=some (seqObj "list" vs.toArray 0):=Bx _ rfl;have z:(s1.heap.push (seqObj "list" vs.toArray 0)).objs.size=s1.heap.objs.size+1:=size_push' ..;show wpAny _ _ _ _ _ {s1 with heap:=s1.heap.push (seqObj "list" vs.toArray 0)};refine AJ (Fd (Nb slot_list_sort ⟨_,ho,rfl⟩ entry_list_sort (eA r ho hle hr (fun h2=>?_) fun p a1 a2=>⟨_,rfl,?_⟩) (args_list_sort _)))
 ·refine hk h2 _ fun b o q=>?_;have lt:=Aw q;unfold Kk;refine A7 _ (A7 _ ?_);rw[Ld _ _ _ _ (BH lt)];exact A7 _ q
 ·unfold sortedHeap;obtain⟨e1,h1⟩:∃e1,((s1.heap.push (seqObj "list" vs.toArray 0)).update s1.heap.objs.size (Obj.mapSeq fun _=>(#[]:Array Value))).get? s1.heap.objs.size=some (seqObj "list" #[] e1):=⟨_,get?_update_seq ho fun _=> #[]⟩;have h2:=A7 (seqObj "list" #[] 0) (A7 (seqObj "tuple" vs.toArray 0) h1);refine Af ⟨_,rfl,h p _ _ a1 a2 (fun b o q=>?_) (get?_update_seq h2 fun _=>_)⟩;have lt:=Aw q;rw[Ld _ _ _ _ (BH lt)];refine A7 _ (A7 _ ?_);rw[Ld _ _ _ _ (BH lt)];exact A7 _ q
theorem cH{r:Addr}{n:Nat}{P:Nat->Value->Prop}{OK:Heap->Prop}{Q:List Value->Shared->Prop}(K:KdlSrc prog w T r d n P OK)(hh:A.handled=none)(hok:OK s.heap)(hn:n<=sizeLine)
 (h:∀vs h' tk,vs.length=n->(∀(j:Nat) v,vs[j]? =some v->P j v)->(∀b o,s.heap.get? b=some o->h'.get? b=some o)->s.heap.objs.size<h'.objs.size->Q vs {s with heap:=h',toks:=tk}):wpAny (model prog w) A (collect (.ref r)) Q E s:=by
 have hlt:=K.there _ hok;unfold collect;refine AJ (wpAny_runValue (He entry_proto_collect' ?_));show wpAny _ _ (do again (.builtin "list.__iadd__" ⟨[<-newList [],.ref r],[]⟩)) _ _ s;refine AJ (Qm (Af ⟨NY _ (by ac_rfl),He entry_list_iadd' ?_⟩));rw[Lb (show plainId "list.__iadd__" =true from by ac_rfl) _];refine kdl_extend (A:=A) (R:=wants (fun v s'=>wpAny (model prog w) A (match v with
  |.ref a=>do
   let o<-load a
   match o.data with
   |.seq xs _=>pure xs.toList
   |_=>unsupported "internal:collect"
  |_=>unsupported "internal:collect") Q E s') E) (s:={s with heap:=s.heap.push (seqObj "list" #[] 0)}) K hh (K.keep _ _ hok fun b _ o e=>A7 _ e) s.heap.objs.size (EN hlt.1) (EN hlt.2) (.ref s.heap.objs.size) 0 (Bx _ rfl) (fun h' tk acc' c' keep hS hacc=>?_) hn;refine AJ (wpAny_load hS (Af (h _ h' tk (by rw[EM];exact hacc.1) (fun j v e=>hacc.2 j v (by rw[<-Fb];exact e)) (fun b o e=>keep b o (BH (Aw e)) (A7 _ e)) (Aw hS))))
theorem bX(I:Inv X pins σ H s)(d:Drawn):Inv X pins σ H {s with drawn:=d}:=
 ⟨I.ok,I.os,I.bare,I.base,I.loc,I.cell,I.free,I.C8,I.pin,I.hok,I.len⟩
theorem YR(zs:List α)(d:α):(List.range zs.length).map (fun i=>zs.getD i d)=zs:=by
 apply JA;intro k;rw[Az];by_cases hk:k<zs.length
 ·rw[UB hk,Ar hk];simp[hk]
 ·rw[EL (by simp;lia),EL (by lia)];rfl
theorem sorted_strs{Q:VK}{x:Value}{zs0:List Str}(I:Inv X pins σ H s)(hz:zs0.length<=1000000)
 (hcol:∀Q':List Value->Shared->Prop,(∀(vs:List Value)(zs:List Str) h' tk d,Vals (zs.map V.str) vs->zs.Perm zs0->(∀b o,s.heap.get? b=some o->h'.get? b=some o)->s.heap.objs.size<=h'.objs.size->Q' vs {s with heap:=h',toks:=tk,drawn:=d})->wpAny (model X.prog X.w) X.A.in1 (collect x) Q' X.xe s)
 (q:∀(D:Addr)(ys:List Str),H D=none->ys.Perm zs0->ys.Pairwise (fun a b=>LO b a=false)->Q (.ref D) (upd H D (.lst (ys.map V.str)))):
 wpAny (model X.prog X.w) X.A (call (.builtin "sorted") [x]) (EP X pins σ Q) X.xe s:=by
 refine UW (hcol _ fun vs zs h' tk d rv pz kp sz=>?_);have hl:zs.length=vs.length:=by rw[<-rv.length,AL]
 have hlz:zs.length=zs0.length:=pz.length_eq;refine⟨by lia,LG zs,fun i j hi hj e=>?_,fun h2 h2' kp2=>d8 rv h2,fun p h2 e pp hp2 kp2 hD=>?_⟩
 ·obtain⟨t1,e1⟩:=Kv rv (k:=i) (by lia);obtain⟨t2,e2⟩:=Kv rv (k:=j) (by lia);rw[e1,e2] at e;unfold LG;rw[(Value.str.inj e).1]
 ·rw[<-hl] at pp hp2;have pin:∀i∈p,i<zs.length:=fun i hi=>KI.mp (pp.mem_iff.mp hi);have plen:p.length=zs.length:=by rw[pp.length_eq,QP]
  have hvals:Vals ((p.map fun i=>zs.getD i "").map V.str) (FC vs p):=by
   unfold FC;refine MN (by simp) fun i x u h1 h2=>?_;rw[Bh,Az] at h1;rw[Az] at h2
   cases e:p[i]?with
   |none=>rw[e] at h1;cases h1
   |some k=>
   rw[e] at h1 h2;cases Ah h1;cases Ah h2;obtain⟨t,et⟩:=Kv rv (pin k (CL e));exact⟨t,et⟩
  have I1:=I.laid (t':=tk) (h':=h2) (a:=h'.objs.size) (o:=.lst ((p.map fun i=>zs.getD i "").map V.str)) (fun b ob z=>kp2 b ob (kp b ob z)) sz
   ⟨by rw[AL,AL,plen,BA];lia,_,e,hvals,hD⟩;refine⟨.ref h'.objs.size,_,bX I1 d,rfl,q _ _ (I.hok.fresh sz) ?_ ?_⟩
  ·have:=pp.map fun i=>zs.getD i "";rw[YR] at this;exact this.trans pz
  ·rw[List.pairwise_map,NL];intro i j hi hj hij;have h1:=hp2 i j (by lia) (by lia);rw[Cj,Ar hi,Cj,Ar hj] at h1;have e3:=OT Hn zs (a:=zs.getD p[j] "") (b:=zs.getD p[i] "") (VZ (pin _ (E1 hj)));have e5:LO (zs.getD p[j] "") (zs.getD p[i] "")=decide (LG zs p[j]<LG zs p[i]):=e3;rw[e5];exact BK (by simpa using h1)
theorem UY:C6 X (.builtin "sorted") (il X.K):=by
 intro pins s σ H xs us Q I r h;obtain⟨l,zs,rfl,hq,h64,q⟩:=h;obtain⟨u,rfl,rx⟩:=vals1 r;cases rx;obtain⟨AM,rv,pl,hz⟩:=I.list hq;have hl:zs.length=AM.length:=by rw[<-rv.length,AL]
 refine sorted_strs I (zs0:=zs) (by lia) (fun Q' hQ=>collect_list (A:=X.A.in1) pl.isList (hQ AM zs _ s.toks s.drawn rv (.refl _) (fun b ob z=>?_) ?_) (by rw[BA];lia)) q
 ·show((s.heap.push (seqObj "list" #[] 0)).update s.heap.objs.size _).get? b=some ob;rw[Ld _ _ _ _ (BH (Aw z))];exact A7 _ z
 ·rw[QY,size_push'];exact EO _
def jA:List V->Hp->VK->Prop:=fun xs H Q=>∃(d:Addr)(AA:List (Key×V))(zs:List Str),xs=[.ref d]/\H d=some (.dK AA)/\AA.map (·.1)=zs.map Sum.inr/\zs.length<=1000000/\
 ∀(D:Addr)(ys:List Str),H D=none->ys.Perm zs->ys.Pairwise (fun a b=>LO b a=false)->Q (.ref D) (upd H D (.lst (ys.map V.str)))
theorem bG(hc:X.calm=true):C6 X (.builtin "sorted") jA:=by
 intro pins s σ H xs us Q I r h;obtain⟨d,AA,zs,rfl,hd,hk,hz,q⟩:=h;obtain⟨u,rfl,rx⟩:=vals1 r;cases rx;obtain⟨z,hm,ws,rel,dd⟩:=Ic I.hok hd;obtain⟨ep,da⟩:=dd.dictAt;have hh:X.A.handled=none:=I.ok.hd hc;have hlen:=rel.length;have hlk:AA.length=zs.length:=by have:=BZ List.length hk;simpa using this
 refine sorted_strs I hz (fun Q' hQ=>cH (A:=X.A.in1) (kdl_dict hm) hh da (by lia) fun vs h' tk hl hi kp sz=>hQ vs zs h' tk s.drawn (MN (by rw[AL];lia) fun i x u h1 h2=>?_) (.refl _) kp ?_) q
 ·obtain⟨k,y,ek,is⟩:=hi i u h2;have hk2:(AA.map (·.1))[i]? =some k:=by rw[rel.keys,Az,ek];rfl
  rw[hk,Az] at hk2;rw[Az] at h1
  cases e:zs[i]?with
  |none=>rw[e] at h1;cases h1
  |some zz=>
   rw[e] at h1 hk2;cases Ah h1;cases Ah hk2;have is':Ib (Sum.inr zz) u=true:=is;rcases Ff is' with⟨i,t,e1,_⟩|⟨z,t,e1,rfl⟩
   ·cases e1
   ·cases e1;exact⟨t,rfl⟩
 ·exact E4 sz
noncomputable def K8(P:Program)(w:World)(D:Addr)(zs:List Str):HO:=.ext fun h=>D7 P w h D zs
def kN(P:Program)(w:World)(K:PySem.W.Frag):List V->Hp->VK->Prop:=fun xs H Q=>∃(a:Addr)(ys:List Str),xs=[.ref a]/\AY K H a (ys.map V.str)/\ys.length<=1000/\∀D,H D=none->Q (.ref D) (upd H D (K8 P w D (Et [] ys)))
theorem bh(hP:X.prog=P)(hw:X.w=w)(hK:X.K=K)(hc:X.calm=true):C6 X (.type "set") (kN P w K):=by
 subst hP;subst hw;subst hK;intro pins s σ H xs us Q I r h;obtain⟨a,ys,rfl,ha,hz,q⟩:=h;obtain⟨u,rfl,rx⟩:=vals1 r;cases rx;obtain⟨AM,rv,pl,_⟩:=I.tuple ha;have hh:X.A.handled=none:=I.ok.hd hc;have hl:ys.length=AM.length:=by rw[<-rv.length,AL]
 refine Z1 (items:=AM.toArray) (ys:=ys) hh pl (by simpa using hl) (fun i v z h1 h2=>?_) (by unfold scanBound;simp;lia) fun h' tk hS kp=>?_
 ·have e:(ys.map V.str)[i]? =some (V.str z):=by rw[Az,h2];rfl
  obtain⟨u,hu,t,ht⟩:=rv.get e;rw[T3,hu] at h1;cases Ah h1;exact⟨t,ht⟩
 ·have hS0:=hS;obtain⟨o,es,ep,t,ho,_⟩:=hS;have I1:=I.laid (t':=tk) (h':=h') (a:=s.heap.objs.size) (o:=.ext fun h=>D7 X.prog X.w h s.heap.objs.size (Et [] ys)) kp (Ac _)
   ⟨hS0,⟨o,ho⟩,fun h1 h2 x e=>x.at e⟩;exact⟨.ref s.heap.objs.size,_,I1,rfl,q _ (I.hok.fresh (Ac _))⟩
def ig(P:Program)(w:World):List V->Hp->VK->Prop:=fun xs H Q=>∃(a:Addr)(zs:List Str),xs=[.ref a]/\H a=some (K8 P w a zs)/\
 ∀(D:Addr)(ys:List Str),H D=none->ys.Perm zs->ys.Pairwise (fun a b=>LO b a=false)->Q (.ref D) (upd H D (.lst (ys.map V.str)))
theorem aa(hP:X.prog=P)(hw:X.w=w)(hc:X.calm=true):C6 X (.builtin "sorted") (ig P w):=by
 subst hP;subst hw;intro pins s σ H xs us Q I r h;obtain⟨a,zs,rfl,ha,q⟩:=h;obtain⟨u,rfl,rx⟩:=vals1 r;cases rx;have hh:X.A.handled=none:=I.ok.hd hc;have hS:D7 X.prog X.w s.heap a zs:=(I.hok a _ ha).1;have hz:zs.length<=1000000:=by
  obtain⟨o,es,ep,t,_,_,_,_,_,_,hb,_⟩:=hS;have:scanBound=4096:=rfl
  lia
 refine sorted_strs I hz (fun Q' hQ=>cv (A:=X.A.in1) hh hS fun vs h' d tv pm kp sz=>hQ vs (vs.map L2.tx) h' s.toks d (MN (by simp) fun i x u h1 h2=>?_) pm kp (E4 sz)) q;rw[Bh,Az,h2] at h1;cases Ah h1;obtain⟨z,t,rfl⟩:=tv u (CL h2);exact⟨t,rfl⟩
def ir(K:PySem.W.Frag):List V->Hp->VK->Prop:=fun xs H Q=>∃(l:Addr)(ps:List (Addr×List Key))(sh:List Bool),xs=[.ref l]/\AN K H l (ps.map fun p=>V.ref p.1)/\sh≠[]/\(∀p∈ps,H p.1=some (.tup (p.2.map kV))/\p.2.map kd=sh)/\ps.length<=1000000/\
 ∀(D:Addr)(qs:List (Addr×List Key)),H D=none->qs.Perm ps->qs.Pairwise (fun a b=>DM b.2 a.2=false)->Q (.ref D) (upd H D (.lst (qs.map fun p=>V.ref p.1)))
theorem Ub:C6 X (.builtin "sorted") (ir X.K):=by
 intro pins s σ H xs us Q I r h;obtain⟨l,ps,sh,rfl,hq,hne,hp,hz,q⟩:=h;obtain⟨u,rfl,rx⟩:=vals1 r;cases rx;obtain⟨AM,rv,pl,_⟩:=I.list hq;have ei:=U2 rv;subst ei;have hl:(ps.map fun p=>Value.ref p.1).length=ps.length:=AL ..;have gi:∀k,k<ps.length->(ps.map fun p=>Value.ref p.1).getD k Value.none=Value.ref (ps.getD k (0,[])).1:=fun k hk=>by rw[Cj,Az,Ar hk,Cj,Ar hk];rfl
 have mi:∀k,k<ps.length->ps.getD k (0,[])∈ps:=fun k hk=>by rw[Cj,Ar hk];exact E1 hk
 refine UW (collect_list (A:=X.A.in1) pl.isList ⟨by lia,Jr ps,fun i j hi hj e=>?_,fun h2 h' kp=>?_,fun p h2 e pp hp2 kp2 hD=>?_⟩ (by rw[BA];lia))
 ·rw[hl] at hi hj;rw[gi i hi,gi j hj] at e;have e1:=(hp _ (mi i hi)).1;rw[Value.ref.inj e,(hp _ (mi j hj)).1] at e1;have e2:=Wa (HO.tup.inj (Ah e1));unfold Jr Ep;rw[e2]
 ·refine dM (sh:=sh) (fun x hx=>?_) (fun x hx=>(hp x hx).2) hne (by lia);obtain⟨_,us,ru,o,h1,h2,n,h3⟩:=(show BL X.prog X.w H s.heap x.1 (.tup (x.2.map kV)) from I.hok x.1 _ (hp x hx).1);refine⟨us,ru,o,kp _ _ ?_,h2,n,h3⟩;show((s.heap.push (seqObj "list" #[] 0)).update s.heap.objs.size _).get? x.1=some o;rw[Ld _ _ _ _ (BH (Aw h1))];exact A7 _ h1
 ·rw[hl] at pp hp2;have pin:∀i∈p,i<ps.length:=fun i hi=>KI.mp (pp.mem_iff.mp hi);have plen:p.length=ps.length:=by rw[pp.length_eq,QP]
  have eo:FC (ps.map fun p=>Value.ref p.1) p=(p.map fun i=>ps.getD i (0,[])).map fun p=>Value.ref p.1:=by unfold FC;rw[Bh];exact Fc fun i hi=>gi i (pin i hi)
  rw[eo] at hD;have z:((s.heap.push (seqObj "list" #[] 0)).update s.heap.objs.size (Obj.mapSeq (·++(ps.map fun p=>Value.ref p.1).toArray))).objs.size=s.heap.objs.size+1:=by rw[QY,size_push']
  have I1:=I.laid (t':=s.toks) (h':=h2) (a:=s.heap.objs.size+1) (o:=.lst ((p.map fun i=>ps.getD i (0,[])).map fun p=>V.ref p.1)) (fun b ob q=>kp2 b ob (by show((s.heap.push (seqObj "list" #[] 0)).update s.heap.objs.size _).get? b=some ob;rw[Ld _ _ _ _ (BH (Aw q))];exact A7 _ q)) (EO _)
   ⟨by rw[AL,AL,plen,BA];lia,_,e,UZ _,by rw[<-z];exact hD⟩;show EP X pins σ Q _ _;dsimp only;rw[z];refine⟨.ref (s.heap.objs.size+1),_,I1,rfl,q _ _ (I.hok.fresh (EO _)) ?_ ?_⟩
  ·have:=pp.map fun i=>ps.getD i (0,[]);rw[YR] at this;exact this
  ·rw[List.pairwise_map,NL];intro i j hi hj hij;have h1:=hp2 i j (by lia) (by lia);rw[Cj,Ar hi,Cj,Ar hj] at h1;have e3:=OT lexOrd (ps.map (·.2)) (a:=Ep ps p[j]) (b:=Ep ps p[i]) (VH (pin _ (E1 hj)));have e5:DM (Ep ps p[j]) (Ep ps p[i])=decide (Jr ps p[j]<Jr ps p[i]):=e3;show DM (Ep ps p[j]) (Ep ps p[i])=false;rw[e5];exact BK (by simpa using h1)
end
abbrev M9:Stmt:=Uu
abbrev Th:Stmt:=US
abbrev TX:Stmt:=Ul
noncomputable def Eb(c:Nat):Bool:=(!decide (([c]:List Nat)<("a" :Str).cps.toList))&&(!decide (("z" :Str).cps.toList<[c]))
def isNm(w:Str):Bool:=(!decide (w=""))&&w.cps.toList.all Eb
noncomputable def LQ(w:Str):Str:=Txt.slice w (some 1) (some (-1))
def HS(w:Str):Bool:=Txt.startswith w "[" &&(Txt.endswith w "]" &&isNm (LQ w))
def DZ(w:Str):Str×Str:=if HS w=true then("to",LQ w) else("word",w)
noncomputable def CP(t:Str):List Str:=(Txt.split t " ").filter fun p=> !decide (p="")
def TN(w:Str):Dt:=.tup [.str (DZ w).1,.str (DZ w).2]
def PM:Sp:=fun vs H Q _=>∃w:Str,vs=[.str w]/\w.length<=100000/\∀H',AS H H'->Q (.bl (isNm w)) H'
def ZJ:Sp:=fun vs H Q _=>∃w:Str,vs=[.str w]/\w.length<=100000/\∀p H',AS H H'->H p=none->H' p=some (.tup [.str (DZ w).1,.str (DZ w).2])->Q (.ref p) H'
def Y4:Sp:=fun vs H Q _=>∃t:Str,vs=[.str t]/\t.length<=10000/\∀D H',AS H H'->Rep H' (.lst ((CP t).map TN)) (.ref D)->Q (.ref D) H'
theorem mm:A0 ["word"] ["word"] (Ao M9):=by ac_rfl
theorem SI(F:Ab K "is_name" "is_name" M9 f fd)(hall:mg "all" =none):AU P w K mg base Aa 1 f fd ["word"] PM:=by
 refine F.ok mm (fun vs H Q E h=>?_) (fun cdv A outer s H vs Q E hr h=>?_)
 ·obtain⟨x,rfl,_⟩:=h;rfl
 ·obtain⟨x,rfl,hx,k⟩:=h;refine⟨_,AV (An (MW (Hl Gd (pv 0) AX (As _))
   (MU (Bc (eJ rfl) rfl hall boot_all (AE (ES (ts:=["sign"]) (cap:=[]) (ix:=[]) (cl:=[]) (Kd rfl rfl (by ac_rfl) (by ac_rfl)) (Xj (pv 0))
    (fun _ _ _ _ _=>Bl (i:=0) NC rfl (Ad rfl) (Co rfl)) (fun _ _ _ _ _=>Fq) (fun _ _ _ _ _=>dD VP VP AX (pv 0) AX)) AI))))),?_⟩;refine⟨_,rfl,rfl,_,rfl,?_⟩;by_cases e:x=""
  ·refine D5 (by rw[e]) ?_;have:isNm x=false:=by unfold isNm;rw[Bj e];rfl
   have q:=k H (AS.refl H);rw[this] at q;exact q
  ·refine Ga (fun z=>e (V.str.inj z)) ?_;have en:isNm x=x.cps.toList.all Eb:=by unfold isNm;rw[BK e];rfl
   have el:x.cps.toList.length<=100000:=by simpa[Str.length] using hx
   refine⟨_,rfl,x,rfl,fun D hD=>Vo (fun i H'=>i<=x.cps.toList.length/\H'=upd H D (.lst ((x.cps.toList.take i).map fun c=>.bl (Eb c)))) ⟨CF _,rfl⟩ ?_ ?_⟩
   ·rintro i c H' hc ⟨hi,rfl⟩;have hlt:i<x.cps.toList.length:=(BW.mp hc).1;refine⟨FG,_,rfl,_,_,rfl,rfl,_,rfl,?_⟩;have fin:∀b:Bool,b=Eb c->∃ys,(upd H D (.lst ((x.cps.toList.take i).map fun c=>.bl (Eb c)))) D=some (.lst ys)/\ys.length<sizeLine/\
     i+1<=x.cps.toList.length/\upd (upd H D (.lst ((x.cps.toList.take i).map fun c=>.bl (Eb c)))) D (.lst (ys++[V.bl b]))=upd H D (.lst ((x.cps.toList.take (i+1)).map fun c=>.bl (Eb c))):=by
     rintro b rfl;refine⟨_,AR,?_,hlt,?_⟩
     ·rw[AL,Bg,BA]
      lia
     ·rw[JN,Dm,hc,BX];rfl
    by_cases h1:([c]:List Nat)<("a" :Str).cps.toList
    ·refine D5 h1 ?_;exact fin false (by unfold Eb;rw[Bj h1];rfl)
    ·refine Ga h1 ?_;refine⟨_,_,rfl,rfl,?_⟩;exact fin _ (by unfold Eb;rw[BK h1];rfl)
   ·rintro H' ⟨_,rfl⟩;refine⟨D,x.cps.toList.map Eb,rfl,AN.of ?_,?_⟩
    ·rw[AR,Cv,Bh];rfl
    ·have q:=k _ (Ak (o:=.lst ((x.cps.toList.take x.cps.toList.length).map fun c=>.bl (Eb c))) hD);rw[en] at q;have ea:(x.cps.toList.map Eb).all id=x.cps.toList.all Eb:=by rw[List.all_map];rfl
     rw[ea];exact q
theorem ZI:A0 ["word","inner"] ["word"] (Ao Th):=by ac_rfl
theorem km{fdI:FuncData}(F:Ab K "read_word" "read_word" Th f fd)(FI:Ab K "is_name" "is_name" M9 fI fdI)(bI:Binds K fdI ["word"] [])(mI:mg "is_name" =some (.ref fI))(hall:mg "all" =none):
 AU P w K mg base Aa 2 f fd ["word"] ZJ:=by
 have GI:AU P w K mg base Aa 1 fI fdI ["word"] PM:=SI FI hall;refine F.ok ZI (fun vs H Q E h=>?_) (fun cdv A outer s H vs Q E hr h=>?_)
 ·obtain⟨x,rfl,_⟩:=h;rfl
 ·obtain⟨x,rfl,hx,k⟩:=h;have hsz:x.length<=sizeLine:=by rw[BA];lia
  have hin:(LQ x).length<=100000:=BI (Ny x _ _) hx;refine⟨_,AW (Ax (i:=1) ZI.nd rfl (Ad rfl) (Fl Kq (pv 0) (DV AK) (DV (D6 Dy AK))))
   (AW (A1 (PW.pt (Eo (Em (Ht LX PySem.F.slot_str_startswith PySem.F.type_str_startswith bo (pv 0) (AE AX AI)))
    (Eo (Em (Ht LX PySem.F.slot_str_endswith PySem.F.type_str_endswith gC (pv 0) (AE AX AI)))
    (GL (Em (BJ GI hr rfl mI FI.kp bI .nil BB (AE (pv 1) AI)))))))
    (AV (An (Cd (AE AX (AE (pv 1) AI))))) BF)
   (AV (An (Cd (AE AX (AE (pv 0) AI)))))),?_⟩;refine⟨_,rfl,_,rfl,_,rfl,_,rfl,x,rfl,hsz,?_⟩;have plain:HS x=false->∀H1,AS H H1->∀p,H1 p=none->Q (.ref p) (upd H1 p (.tup [.str "word",.str x])):=fun e H1 s1 p hp=>by
   have er:DZ x=(("word" :Str),x):=by unfold DZ;rw[e];rfl
   refine k p _ (s1.upd (s1.free hp)) (s1.free hp) ?_;rw[AR,er]
  refine⟨_,rfl,rfl,_,_,rfl,rfl,_,rfl,?_⟩
  cases e1:Txt.startswith x "[" with
  |false=>refine BM (BM ⟨_,rfl,by show 2<=sizeLine;decide,plain (by unfold HS;rw[e1];rfl) H (AS.refl H)⟩)
  |true=>
   refine Bf ⟨_,rfl,rfl,_,_,rfl,rfl,_,rfl,?_⟩
   cases e2:Txt.endswith x "]" with
   |false=>refine BM (BM ⟨_,rfl,by show 2<=sizeLine;decide,plain (by unfold HS;rw[e1,e2];rfl) H (AS.refl H)⟩)
   |true=>
    refine Bf ⟨_,rfl,LQ x,rfl,hin,fun H1 s1=>⟨_,rfl,?_⟩⟩
    cases e3:isNm (LQ x) with
    |false=>refine BM ⟨_,rfl,by show 2<=sizeLine;decide,plain (by unfold HS;rw[e1,e2,e3];rfl) H1 s1⟩
    |true=>
     refine Bf ⟨_,rfl,by show 2<=sizeLine;decide,fun p hp=>?_⟩;have er:DZ x=(("to" :Str),LQ x):=by unfold DZ HS;rw[e1,e2,e3];rfl
     refine k p _ (s1.upd (s1.free hp)) (s1.free hp) ?_;rw[AR,er];rfl
theorem UK(t p:Str)(h:p∈Txt.split t " "):p.length<=t.length:=by
 have hw:=Lp t " " (by decide);have h2:p.length<=((Txt.split t " ").map (·.length)).sum:=by
  generalize Txt.split t " " =L at h
  induction L with
  |nil=>cases h
  |cons a r ih=>
   rw[Au,CM];rcases Bk.mp h with e|e
   ·subst e;lia
   ·have:=ih e;lia
 have h3:1<=(Txt.split t " ").length:=Tv h
 lia
theorem nB:A0 ["text"] ["text"] (Ao TX):=by ac_rfl
variable{fR:Addr}{fdR:FuncData}
theorem kI(F:Ab K "split_up" "split_up" TX f fd)(FR:Ab K "read_word" "read_word" Th fR fdR)(GR:AU P w K mg base Aa 2 fR fdR ["word"] ZJ)(bR:Binds K fdR ["word"] [])(mR:mg "read_word" =some (.ref fR)):
 AU P w K mg base Aa 3 f fd ["text"] Y4:=by
 refine F.ok nB (fun vs H Q E h=>?_) (fun cdv A outer s H vs Q E hr h=>?_)
 ·obtain⟨x,rfl,_⟩:=h;rfl
 ·obtain⟨x,rfl,hx,k⟩:=h;refine⟨_,AV (An (ES (ts:=["piece"]) (cap:=[]) (ix:=[]) (cl:=[]) (Kd rfl rfl (by ac_rfl) (by ac_rfl))
   (Fo (Ht LX PySem.F.slot_str_split PySem.F.type_str_split Vf (pv 0) (AE AX AI)))
   (fun _ _ _ _ _=>Bl (i:=0) NC rfl (Ad rfl) (Co rfl)) (fun _ _ _ _ _=>Oh (Av Gd (pv 0) AX (As _)))
   (fun _ _ _ _ _=>BJ GR hr rfl mR FR.kp bR .nil BB (AE (pv 0) AI)))),?_⟩;have hlen:(Txt.split x " ").length<=10001:=by
   have:=Lp x " " (by decide)
   lia
  refine⟨_,rfl,rfl,x,_,rfl,rfl,by ac_rfl,by rw[BA];lia,fun D0 hD0=>?_⟩;refine⟨D0,rfl,⟨_,AN.of AR⟩,fun D hD=>?_⟩;have hne:D0≠D:=A2 AR hD;have hDn:H D=none:=(Ak hD0).free hD;refine GH (xs:=(Txt.split x " ").map V.str) (fun i H'=>AS H H'/\H' D0=some (.lst ((Txt.split x " ").map V.str))/\∃ys,H' D=some (.lst ys)/\ys.length<=i/\
   Am (Ex H' D) ((((Txt.split x " ").take i).filter fun p:Str=> !decide (p="")).map TN) ys) ?_ ?_ ?_ ?_
  ·refine⟨((AS.refl H).upd hD0).upd hDn,?_,[],AR,Ac _,Am.nil⟩;rw[AO hne,AR]
  ·rintro i H' _ ⟨_,h0,_⟩;exact AN.of h0
  ·rintro i v H' hv ⟨sm,h0,ys,hy,hyl,rp⟩;rw[Az] at hv
   cases ep:(Txt.split x " ")[i]?with
   |none=>rw[ep] at hv;cases hv
   |some pc=>
    rw[ep] at hv;obtain rfl:V.str pc=v:=Ah hv;have hi:i<(Txt.split x " ").length:=(BW.mp ep).1;have hpl:pc.length<=100000:=by
     have:=UK x pc (CL ep)
     lia
    refine⟨FG,⟨_,rfl,rfl,_,rfl,?_⟩⟩;by_cases e:pc=""
    ·refine D5 (by rw[e]) ⟨sm,h0,ys,hy,by lia,?_⟩;rw[Dm,ep,NX];have:(Option.toList (some pc)).filter (fun p:Str=> !decide (p=""))=[]:=by rw[e];rfl
     rw[this,Cy];exact rp
    ·refine Ga (fun z=>e (V.str.inj z)) ⟨_,rfl,pc,rfl,hpl,fun p H2 s2 hp hp2=>?_⟩;have hpD:p≠D:=(A2 hy hp).symm;have hyy:H2 D=some (.lst ys):=s2 _ _ hy;refine⟨ys,hyy,by rw[BA];lia,(sm.trans s2).upd hDn,by rw[AO hne];exact s2 _ _ h0,ys++[.ref p],AR,by rw[BC,EK];lia,?_⟩;rw[Dm,ep,NX];have:(Option.toList (some pc)).filter (fun p:Str=> !decide (p=""))=[pc]:=by show List.filter (fun p:Str=> !decide (p="")) [pc]=[pc];rw[F6 (by simpa using e)];rfl
     rw[this,BX,Ex.upd];refine(rp.same (Ex.mono s2)).snoc ?_;refine Rep.LR (Ex.at hp2 hpD) ?_;exact(Am.snoc (Am.snoc Am.nil (Rep.str _)) (Rep.str _))
  ·rintro H' ⟨sm,_,ys,hy,_,rp⟩;rw[AL,Cv] at rp;exact k D H' sm (Rep.LH hy (rp.same Ex.sub))
structure Hx(K:PySem.W.Frag)(mg:Str->Option Value)(cR fR:Addr):Prop where
 mR:mg "Refusal" =some (.ref cR)
 rd:readsIn K cR (.type "type")=true
 fi:findCls K (.ref cR) (.type "type") "__init__" =some (.val (.ref fR))
 sp:specialIn K (.ref cR) "__getattribute__" =some (some (.builtin "type.__getattribute__"))
 kp:keepIn K (.ref fR)=true
 cat:S4 K cR
def Hr(K:PySem.W.Frag):Sp:=fun vs H Q _=>∃e C ws msg,vs=[.ref e,.str msg]/\H e=some (xO e C none ws)/\DK K C "answer" /\∀D,H D=none->D≠e->Q .A3 (upd (upd H D (.xd [("answer",.str msg)])) e (xO e C (some D) ws))
theorem kQ:A0 ["self","answer"] ["self","answer"] (Ao JD):=by ac_rfl
theorem jM(F:Ab K "__init__" "Refusal.__init__" JD f fd):AU P w K mg base Aa 1 f fd ["self","answer"] (Hr K):=by
 refine F.ok kQ (fun vs H Q E h=>?_) (fun cdv A outer s H vs Q E hr h=>?_)
 ·obtain⟨e,C,ws,msg,rfl,_⟩:=h;rfl
 ·obtain⟨e,C,ws,msg,rfl,he,xa,q⟩:=h;refine⟨_,(AV (gS (pv 0) (pv 1) rfl)),?_⟩;exact⟨_,rfl,_,rfl,e,C,ws,rfl,he,xa,fun d hd ne=>q d hd ne⟩
variable{cR:Addr}
theorem Ko{st:Stmt}{p1 p2 p3 p4 p5 p6:Pos}(F:Ab K "__init__" qual st f fd)(S:A0 ["self"] ["self"] (Ao st))
 (hb:Ft st=[.Expr (.Call (.Attribute (.Name "Refusal" p1) "__init__" p2) [.Name "self" p3,.Constant (.str msg) k p4] [] p5) p6])(hg:(Ao st).names.lookup ("Refusal" :Str)=some .globalImplicit)(hs:(Ao st).names.lookup ("self" :Str)=some .local)
 (T:Hx K mg cR fR)(G:AU P w K mg base Aa 1 fR fdR ["self","answer"] (Hr K))(bR:Binds K fdR ["self","answer"] [])(xa:DK K C "answer")
 (ht:∀env:Env,∃pl:Sem Bool,eval (.Call (.Attribute (.Name "Refusal" p1) "__init__" p2) [.Name "self" p3,.Constant (.str msg) k p4] [] p5) env=(do
  let ov<-eval (.Name "Refusal" p1) env
  standAt p2.atName
  let(f,first)<-holding [ov] (getMethod ov "__init__" pl)
  callWith p5 f first (backTo p5 (starEach [.Name "self" p3,.Constant (.str msg) k p4] env)) (backToKw p5 (keywordEach [] env)))):AU P w K mg base Aa 2 f fd ["self"] (FA C "answer" msg):=by
 refine F.ok S (fun vs H Q E h=>?_) (fun cdv A outer s H vs Q E hr h=>?_)
 ·obtain⟨e,ws,rfl,_⟩:=h;rfl
 ·obtain⟨e,ws,rfl,he,q⟩:=h;rw[hb];obtain⟨pl,hpl⟩:=ht (Ij Aa P w K mg base ["self"] qual (Ao st) f cdv A outer s H E).env;refine⟨_,(AV (Bn (dC (pl:=pl) hg T.mR T.rd T.fi T.sp T.kp G hr bR .nil BB (AE (pv 0 (hv:=Ad hs)) (AE AX AI)) (ht:=hpl)))),?_⟩;exact⟨_,rfl,e,C,ws,msg,rfl,he,xa,fun D hD ne=>q D hD ne⟩
structure Rz(P:Program)(w:World)(K:PySem.W.Frag)(mg:Str->Option Value)(base:Heap)(cR:Addr)(x msg:Str):Prop where
 ex:∃C fI fd bm,mg x=some (.ref C)/\TU K C fI bm/\AU P w K mg base Aa 2 fI fd ["self"] (FA C "answer" msg)/\Binds K fd ["self"] []/\So K C cR/\DK K C "answer"
def Xw(K:PySem.W.Frag)(cR:Addr)(E:XK)(H:Hp)(msg:Str):Prop:=∀C D H',So K C cR->DK K C "answer" ->AS H H'->H' D=some (.xd [("answer",.str msg)])->E (.ref C) (some D) H'
theorem Xw.mono{E:XK}(h:Xw K cR E H msg)(s:AS H H1):Xw K cR E H1 msg:=fun C D H' a b c d=>h C D H' a b (s.trans c) d
theorem Jh{E:XK}{np:Pos}(R:Rz P w K mg base cR x msg)
 (hr:Br (k+3) (Fy P w K mg base N qual scope f cd A outer s H E).A)(hg:Gl (Fy P w K mg base N qual scope f cd A outer s H E) x)(hdb:(x==("__debug__" :Str))=false:=by decide):
 PS (Fy P w K mg base N qual scope f cd A outer s H E) (.Raise (some (.Call (.Name x np) [] [] cpos)) none pos) (fun _ _ H=>Xw K cR E H msg):=by
 obtain⟨C,fI,fd,bm,hm,M,F,hb,xs,xa⟩:=R.ex;have hr3:Br (2+1) (Fy P w K mg base N qual scope f cd A outer s H E).A:=hr.mono (by lia);intro pins s1 σ H1 D I h;refine fJ M F hr3 hg hm hb hdb pins s1 σ H1 D I fun e D' ws he hD ne=>h C D' _ xs xa ?_ ?_
 ·exact AS.trans (Ak hD) (Ak (by rw[AO (C5 ne)];exact he))
 ·rw[AO ne,AR]
theorem eh:A0 ["self"] ["self"] (Ao Ql):=by ac_rfl
theorem cW(F:Ab K "__init__" "NoPage.__init__" Ql f fd)(T:Hx K mg cR fR)(G:AU P w K mg base Aa 1 fR fdR ["self","answer"] (Hr K))(bR:Binds K fdR ["self","answer"] [])(xa:DK K C "answer"):
 AU P w K mg base Aa 2 f fd ["self"] (FA C "answer" "no page"):=Ko F eh rfl rfl rfl T G bR xa (fun _=>⟨_,rfl⟩)
theorem de:A0 ["self"] ["self"] (Ao Qk):=by ac_rfl
theorem bj(F:Ab K "__init__" "NoName.__init__" Qk f fd)(T:Hx K mg cR fR)(G:AU P w K mg base Aa 1 fR fdR ["self","answer"] (Hr K))(bR:Binds K fdR ["self","answer"] [])(xa:DK K C "answer"):
 AU P w K mg base Aa 2 f fd ["self"] (FA C "answer" "no name"):=Ko F de rfl rfl rfl T G bR xa (fun _=>⟨_,rfl⟩)
theorem bC:A0 ["self"] ["self"] (Ao Qa):=by ac_rfl
theorem aG(F:Ab K "__init__" "SamePage.__init__" Qa f fd)(T:Hx K mg cR fR)(G:AU P w K mg base Aa 1 fR fdR ["self","answer"] (Hr K))(bR:Binds K fdR ["self","answer"] [])(xa:DK K C "answer"):
 AU P w K mg base Aa 2 f fd ["self"] (FA C "answer" "same page"):=Ko F bC rfl rfl rfl T G bR xa (fun _=>⟨_,rfl⟩)
theorem iM:A0 ["self"] ["self"] (Ao Qq):=by ac_rfl
theorem dW(F:Ab K "__init__" "Taken.__init__" Qq f fd)(T:Hx K mg cR fR)(G:AU P w K mg base Aa 1 fR fdR ["self","answer"] (Hr K))(bR:Binds K fdR ["self","answer"] [])(xa:DK K C "answer"):
 AU P w K mg base Aa 2 f fd ["self"] (FA C "answer" "taken"):=Ko F iM rfl rfl rfl T G bR xa (fun _=>⟨_,rfl⟩)
theorem cU:A0 ["self"] ["self"] (Ao Qf):=by ac_rfl
theorem aK(F:Ab K "__init__" "NoPlace.__init__" Qf f fd)(T:Hx K mg cR fR)(G:AU P w K mg base Aa 1 fR fdR ["self","answer"] (Hr K))(bR:Binds K fdR ["self","answer"] [])(xa:DK K C "answer"):
 AU P w K mg base Aa 2 f fd ["self"] (FA C "answer" "no place"):=Ko F cU rfl rfl rfl T G bR xa (fun _=>⟨_,rfl⟩)
theorem cV:A0 ["self"] ["self"] (Ao Qg):=by ac_rfl
theorem aZ(F:Ab K "__init__" "NoWords.__init__" Qg f fd)(T:Hx K mg cR fR)(G:AU P w K mg base Aa 1 fR fdR ["self","answer"] (Hr K))(bR:Binds K fdR ["self","answer"] [])(xa:DK K C "answer"):
 AU P w K mg base Aa 2 f fd ["self"] (FA C "answer" "no words"):=Ko F cV rfl rfl rfl T G bR xa (fun _=>⟨_,rfl⟩)
def DO(ws:List PR):Dt:=.lst (ws.map DL)
noncomputable def LK(ws:List PR):List Str:=(ws.filter fun p=>decide (p.1=("to" :Str))).map (·.2)
noncomputable def Cs(ws:List PR)(a b:Str):List PR:=ws.map fun p=>if p=(("to" :Str),a) then(("to" :Str),b) else p
def Y5:Sp:=fun vs H Q _=>∃v ws a b,vs=[v,.str a,.str b]/\Rep H (DO ws) v/\ws.length<=100000/\∀u H',AS H H'->Rep H' (DO (Cs ws a b)) u->Q u H'
theorem nF:A0 ["words","name","fresh"] ["words","name","fresh"] (Ao Ls):=by ac_rfl
theorem j9(F:Ab K "point_on" "point_on" Ls f fd):AU P w K mg base Aa 1 f fd ["words","name","fresh"] Y5:=by
 refine F.ok nF (fun vs H Q E h=>?_) (fun cdv A outer s H vs Q E hr h=>?_)
 ·obtain⟨v,ws,a,b,rfl,_⟩:=h;rfl
 ·obtain⟨v,ws,a,b,rfl,rp,hz,q⟩:=h;have hu1:=Ce hr;have hu:(A.deeper (envOfC "point_on" (Ao Ls) s.heap.objs.size f cdv)).units<cLine:=by lia
  refine⟨_,(AV (An (ES (ts:=["word"]) (cap:=["name","fresh"]) (ix:=[1,2]) (fN rfl rfl (by ac_rfl) (by ac_rfl) rfl (by ac_rfl) rfl rfl rfl rfl rfl rfl rfl rfl) (Fo (pv 0))
   (fun _ _ _ _ _=>Bl (i:=0) (nj (by ac_rfl) (by ac_rfl) (by ac_rfl)) rfl (Ad rfl) (Co rfl)) (fun _ _ _ _ _=>Fq)
   (fun _ _ _ _ _=>dr (Av (Vm hu) (pv 0) (Cd (AE AX (AE (pv 1) AI))) (As _)) (Cd (AE AX (AE (pv 2) AI))) (pv 0))))),?_⟩;obtain⟨l,xs,rfl,hl,rr⟩:=Eg rp;refine⟨_,rfl,l,rfl,⟨_,AN.of hl⟩,fun D hD=>GH (xs:=xs) (fun i H'=>CI H D ((Cs (ws.take i) a b).map DL) H') ?_ (fun i H' _ c=>AN.of (c.same _ _ hl)) (fun i x H' ex c=>?_) fun H' c=>?_⟩
  ·exact CI.start hD
  ·obtain⟨p,ep,rx⟩:=IT rr ex;obtain⟨ad,rfl,ha⟩:=MS rx;have ha':=c.same _ _ ha;refine⟨FG,_,rfl,_,rfl,(by show 2<=sizeLine;decide),fun t ht=>?_⟩;have c2:=c.ext (Ak (o:=.tup [.str "to",.str a]) ht);refine⟨ad,t,p,(("to" :Str),a),rfl,rfl,by rw[AO (A2 ha' ht)];exact ha',AR,_,rfl,?_⟩;have hlen:((Cs (ws.take i) a b).map DL).length<=200000:=by
    have h2:=Hb i ws;unfold Cs;rw[AL,AL]
    lia
   have es:Cs (ws.take (i+1)) a b=Cs (ws.take i) a b++[if p=(("to" :Str),a) then(("to" :Str),b) else p]:=JE ep;rw[es,BX];by_cases z:p=(("to" :Str),a)
   ·rw[Bj z,AH z];refine Bf ⟨_,rfl,(by show 2<=sizeLine;decide),fun t2 ht2=>?_⟩;have c3:=c2.ext (Ak (o:=.tup [.str "to",.str b]) ht2);obtain⟨ys,hys,_⟩:=c2.lst;refine c3.push (R9 (Ex.at AR ?_)) hlen;intro zz;rw[zz,hys] at ht2;cases ht2
   ·rw[BK z,AG z];refine BM ⟨_,rfl,?_⟩;refine c2.push (R9 (Ex.at ?_ ?_)) hlen
    ·rw[AO (A2 ha' ht)];exact ha'
    ·intro zz;rw[zz,hD] at ha;cases ha
  ·have e:xs.length=ws.length:=by have:=rr.1;rw[AL] at this;lia
   rw[e,Cv] at c;exact q _ _ c.same c.done
structure Gh(mg:Str->Option Value):Prop where
 sum:mg "sum" =none
 so:mg "sorted" =none
 set:mg "set" =none
 len:mg "len" =none
 en:mg "enumerate" =none
 lst:mg "list" =none
 all:mg "all" =none
 mn:mg "min" =none
abbrev Pg:=Str×List PR
def Aq(AA:List (Str×V)):List (Key×V):=Gi Sum.inr id AA
structure DH(H:Hp)(AA:List (Str×V))(AD:List Pg):Prop where
 len:AA.length=AD.length
 row:∀(i:Nat) kv p,AA[i]? =some kv->AD[i]? =some p->kv.1=p.1/\Rep H (DO p.2) kv.2
theorem DH.same{H H':Hp}{AA:List (Str×V)}{AD:List Pg}(g:DH H AA AD)(s:AS H H'):DH H' AA AD:=⟨g.len,fun i kv p a b=>⟨(g.row i kv p a b).1,(g.row i kv p a b).2.same s⟩⟩
variable{AD:List Pg}{kk:List (Key×V)}
theorem DH.ex{AA:List (Str×V)}(g:DH H AA AD)(hd:H d=some (.dK kk)):DH (Ex H d) AA AD:=⟨g.len,fun i kv p a b=>⟨(g.row i kv p a b).1,Lq hd (g.row i kv p a b).2⟩⟩
structure LF(AD:List Pg):Prop where
 Cc:AD.length<=1000
 short:∀p∈AD,p.2.length<=100000
theorem Ku{o:HO}:AS (Ex H d) (upd H d o):=fun b u e=>by
 unfold Ex at e;by_cases z:b=d
 ·rw[AH z] at e;cases e
 ·rw[AG z] at e;rw[AO z];exact e
theorem VS{o:HO}(hd:H d=some (.dK kk))(s:AS (upd H d o) H2):AS H (upd H2 d (.dK kk)):=fun b u e=>by
 by_cases z:b=d
 ·subst z;rw[hd] at e;cases e;exact AR
 ·rw[AO z];exact s b u (by rw[AO z];exact e)
theorem Ow{AA:List (Str×V)}{k:Key}{x:V}(h:(Aq AA)[i]? =some (k,x)):∃n,AA[i]? =some (n,x)/\k=Sum.inr n:=by
 have h':(AA.map fun p=>((Sum.inr p.1:Key),p.2))[i]? =some (k,x):=h;rw[Az] at h'
 cases e:AA[i]?with
 |none=>rw[e] at h';cases h'
 |some kv=>rw[e] at h';have:=Ah h';cases this;exact⟨kv.1,rfl,rfl⟩
noncomputable def PH(ws:List PR)(a:Str):Int:=((ws.countP fun q=>decide (q=(("to" :Str),a)):Nat):Int)
def cnt(AD:List Pg)(a:Str):Int:=(AD.map fun p=>PH p.2 a).sum
def YL:Sp:=fun vs H Q _=>∃d a AA AD,vs=[.ref d,.str a]/\H d=some (.dK (Aq AA))/\DH H AA AD/\LF AD/\∀H',AS H H'->Q (.int (cnt AD a)) H'
noncomputable def Gk(AD:List Pg)(a:Str):List Str:=(AD.filter fun p=>p.2.any fun q=>decide (q=(("to" :Str),a))).map (·.1)
theorem jr:A0 ["pages","name"] ["pages","name"] (Ao QW):=by ac_rfl
theorem Qz(r:Am H (ns.map Dt.int) ys):ys=ns.map V.int:=by
 apply JA;intro i;rw[Az]
 cases e:ys[i]?with
 |none=>have h1:=NM.mp e;have h2:=r.1;rw[AL] at h2;rw[EL (by lia)];rfl
 |some y=>obtain⟨n,hn,rn⟩:=IT r e;rw[hn];cases rn;rfl
theorem i5(F:Ab K "count_pointers" "count_pointers" QW f fd)(O:Gh mg):AU P w K mg base Aa 1 f fd ["pages","name"] YL:=by
 refine F.ok jr (fun vs H Q E h=>?_) (fun cdv A outer s H vs Q E hr h=>?_)
 ·obtain⟨d,a,AA,AD,rfl,_⟩:=h;rfl
 ·obtain⟨d,a,AA,AD,rfl,hd,g,sm,q⟩:=h;have hu1:=Ce hr;refine⟨_,(AV (An (Bc (U7 rfl) rfl O.sum PyProof.Rows.boot_sum (AE (WS (ES (ts:=["words"]) (cap:=["name"]) (ix:=[1]) (Hi rfl rfl (by ac_rfl) (by ac_rfl) rfl rfl rfl rfl rfl)
   (iK (Mb LW Tp PySem.F.type_dict_values U9 (pv 0))) (fun _ _ _ _ _=>Bl (i:=0) (Gj (by ac_rfl)) rfl (Ad rfl) (Co rfl)) (fun _ _ _ _ _=>Fq)
   (fun _ _ _ _ _=>iP K rfl EJ PySem.F.slot_list_count PySem.F.type_list_count (aA hu1) (pv 0) (AE (Cd (AE AX (AE (pv 1) AI))) AI)))) AI)))),?_⟩;refine⟨d,Aq AA,hd,_,rfl,.inr (.inr (.inl ⟨rfl,.inl ⟨_,hd⟩⟩)),d,_,rfl,rfl,hd,fun p hp=>⟨p,d,Aq AA,rfl,AR,by rw[AO (A2 hd hp)];exact hd,fun o D hD=>?_⟩⟩;have s1:AS H (upd H p (Gb p d)):=Ak hp;have hd1:(upd H p (Gb p d)) d=some (.dK (Aq AA)):=s1 _ _ hd;have g1:=(g.same s1).ex hd1;generalize upd H p (Gb p d)=H1 at s1 hd1 g1 hD;have g2:=g1.same (Ku (o:=.BO o (.dK (Aq AA))));have hz2:(upd H1 d (.BO o (.dK (Aq AA)))) d=some (.BO o (.dK (Aq AA))):=AR;refine bZ (fun i H'=>CI (upd H1 d (.BO o (.dK (Aq AA)))) D (((AD.take i).map fun p=>PH p.2 a).map Dt.int) H') (CI.start hD) (fun i H' c=>c.same _ _ hz2) (fun i k x H' ex c=>?_) fun H' c=>?_
  ·obtain⟨n,ekv,rfl⟩:=Ow ex;have hi:i<AD.length:=by rw[<-g.len];exact(BW.mp ekv).1
   have ep:AD[i]? =some AD[i]:=Ar hi;obtain⟨_,rw_⟩:=g2.row i _ _ ekv ep;obtain⟨l,xs,rfl,hl,rr⟩:=Eg (rw_.same c.same);refine⟨FG,_,rfl,.inl ⟨rfl,_,AN.of hl⟩,_,rfl,(by show 2<=sizeLine;decide),fun t ht=>?_⟩;have st:=Ak (o:=.tup [.str "to",.str a]) ht;have c2:=c.ext st;refine⟨t,l,(("to" :Str),a),AD[i].2,xs,rfl,rfl,AR,st _ _ hl,rr.same st,?_⟩;rw[JE (f:=fun p:Pg=>PH p.2 a) ep,BX];refine c2.push (.int _) ?_;have h1:=Hb i AD;have h2:=sm.Cc;rw[AL,AL]
   lia
  ·have e:(Aq AA).length=AD.length:=by show(AA.map _).length=_;rw[AL];exact g.len
   rw[e,Cv] at c;obtain⟨ys,hy,ry⟩:=c.lst;have nd:D≠d:=fun z=>by rw[z,AR] at hD;cases hD
   refine⟨o,c.same _ _ hz2,D,(AD.map fun p:Pg=>PH p.2 a),rfl,AN.of ?_,q _ (s1.trans (VS hd1 c.same))⟩;rw[AO nd,hy,Qz ry]
theorem jE:((["page","words"]:List Str)++(["name"]:List Str)).Nodup:=by ac_rfl
def X8:Sp:=fun vs H Q _=>∃d a AA AD,vs=[.ref d,.str a]/\H d=some (.dK (Aq AA))/\DH H AA AD/\LF AD/\AD.length<64/\∀u H',AS H H'->Rep H' (.lst ((K5 (Gk AD a)).map Dt.str)) u->Q u H'
theorem L0{ns:List Str}(r:Am H (ns.map Dt.str) ys):ys=ns.map V.str:=by
 apply JA;intro i;rw[Az]
 cases e:ys[i]?with
 |none=>have h1:=NM.mp e;have h2:=r.1;rw[AL] at h2;rw[EL (by lia)];rfl
 |some y=>obtain⟨n,hn,rn⟩:=IT r e;rw[hn];cases rn;rfl
theorem ka:A0 ["pages","name"] ["pages","name"] (Ao QR):=by ac_rfl
theorem iu(F:Ab K "pages_pointing" "pages_pointing" QR f fd)(O:Gh mg):AU P w K mg base Aa 1 f fd ["pages","name"] X8:=by
 refine F.ok ka (fun vs H Q E h=>?_) (fun cdv A outer s H vs Q E hr h=>?_)
 ·obtain⟨d,a,AA,AD,rfl,_⟩:=h;rfl
 ·obtain⟨d,a,AA,AD,rfl,hd,g,sm,h64,q⟩:=h;have hu1:=Ce hr;refine⟨_,(AV (An (Bc UY rfl O.so Lr (AE (WS (ES (ts:=["page","words"]) (cap:=["name"]) (ix:=[1]) (Hi rfl rfl (by ac_rfl) (by ac_rfl) rfl rfl rfl rfl rfl)
   (V2 (Mb LW Tr PySem.F.type_dict_items Vn (pv 0))) (fun _ _ _ _ _=>WT (K:=K) (i:=0) (j:=1) rfl rfl jE rfl (Ad rfl) (Co rfl) rfl (Ad rfl) (Co rfl))
   (fun _ _ _ _ _=>Oh (Av (dF hu1) (Cd (AE AX (AE (pv 2) AI))) (pv 1) rfl)) (fun _ _ _ _ _=>pv 0))) AI)))),?_⟩;refine⟨d,Aq AA,hd,_,rfl,.inr (.inr (.inl ⟨rfl,.inl ⟨_,hd⟩⟩)),d,_,rfl,rfl,hd,fun p hp=>⟨p,d,Aq AA,rfl,AR,by rw[AO (A2 hd hp)];exact hd,fun o D hD=>?_⟩⟩;have s1:AS H (upd H p (HK p d)):=Ak hp;have hd1:(upd H p (HK p d)) d=some (.dK (Aq AA)):=s1 _ _ hd;have g1:=(g.same s1).ex hd1;generalize upd H p (HK p d)=H1 at s1 hd1 g1 hD;have g2:=g1.same (Ku (o:=.BO o (.dK (Aq AA))));have hz2:(upd H1 d (.BO o (.dK (Aq AA)))) d=some (.BO o (.dK (Aq AA))):=AR;refine aX (fun i H'=>CI (upd H1 d (.BO o (.dK (Aq AA)))) D ((Gk (AD.take i) a).map Dt.str) H') (CI.start hD) (fun i H' c=>c.same _ _ hz2) (fun i k x pr H' ex hpr c=>?_) fun H' c=>?_
  ·obtain⟨n,ekv,rfl⟩:=Ow ex;have hi:i<AD.length:=by rw[<-g.len];exact(BW.mp ekv).1
   have ep:AD[i]? =some AD[i]:=Ar hi;obtain⟨en,rw_⟩:=g2.row i _ _ ekv ep;have en:n=AD[i].1:=en;obtain⟨l,xs,rfl,hl,rr⟩:=Eg (rw_.same c.same);have s2:=Ak (o:=.tup [kV (Sum.inr n),.ref l]) hpr;have c2:=c.ext s2;have hl2:=s2 _ _ hl;have rr2:=rr.same s2;refine⟨pr,_,rfl,AY.of AR,rfl,_,_,rfl,_,_,rfl,rfl,Yq,_,rfl,(by show 2<=sizeLine;decide),fun t ht=>?_⟩;have st:=Ak (o:=.tup [.str "to",.str a]) ht;have c3:=c2.ext st;refine⟨_,rfl,t,l,(("to" :Str),a),AD[i].2,xs,rfl,rfl,AR,st _ _ hl2,rr2.same st,_,rfl,?_⟩;have es:Gk (AD.take (i+1)) a=Gk (AD.take i) a++(if(AD[i].2.any fun q=>decide (q=(("to" :Str),a)))=true then[AD[i].1] else[]):=by unfold Gk;rw[take_succ_filter ep,BX];congr 1;split<;>rfl
   rw[es,BX];by_cases z:(AD[i].2.any fun q=>decide (q=(("to" :Str),a)))=true
   ·rw[z,AH rfl];refine Bf ⟨_,rfl,?_⟩;have e2:kV (Sum.inr n)=V.str AD[i].1:=by rw[<-en];rfl
    refine c3.push (d:=.str AD[i].1) (y:=kV (Sum.inr n)) (by rw[e2];exact .str _) ?_;have h1:=Hb i AD;have h2:=sm.Cc;have h3:=F8 (fun p:Pg=>p.2.any fun q=>decide (q=(("to" :Str),a))) (AD.take i);unfold Gk;rw[AL,AL]
    lia
   ·have z':(AD[i].2.any fun q=>decide (q=(("to" :Str),a)))=false:=(Bool.not_eq_true _).mp z;rw[z',AG CS,KQ,Cy];exact BM c3
  ·have e:(Aq AA).length=AD.length:=by show(AA.map _).length=_;rw[AL];exact g.len
   rw[e,Cv] at c;obtain⟨ys,hy,ry⟩:=c.lst;have nd:D≠d:=fun z=>by rw[z,AR] at hD;cases hD
   have s3:=s1.trans (VS hd1 c.same);refine⟨o,c.same _ _ hz2,D,Gk AD a,rfl,AN.of (by rw[AO nd,hy,L0 ry]),?_,fun D2 ys2 hD2 hp2 hs2=>?_⟩
   ·have h3:=F8 (fun p:Pg=>p.2.any fun q=>decide (q=(("to" :Str),a))) AD;unfold Gk;rw[AL]
    lia
   ·refine q _ _ (s3.trans (Ak hD2)) ?_;show Rep _ (.lst ((Jp Hn (Gk AD a)).map Dt.str)) _;rw[<-Ru Hn hp2 hs2];exact Rep.LH AR (V4 ys2)
theorem ja:((["place","word"]:List Str)++(["plain"]:List Str)).Nodup:=by ac_rfl
noncomputable def D8(z:Str):Nat->List PR->List Int
 |_,[]=>[]
 |k,p::ws=>(if p=(("word" :Str),z) then[(k:Int)] else[])++D8 z (k+1) ws
theorem U1(z:Str)(p:PR):∀(ws:List PR)(k:Nat),D8 z k (ws++[p])=D8 z k ws++(if p=(("word" :Str),z) then[((k+ws.length:Nat):Int)] else[])
 |[],k=>by simp[D8]
 |q::ws,k=>by rw[Nf,D8,D8,U1 z p ws (k+1),Bu,CV];rw[show k+1+ws.length=k+(ws.length+1) by lia]
theorem Q8(z:Str):∀(ws:List PR)(k:Nat),(D8 z k ws).length<=ws.length
 |[],k=>by simp[D8]
 |q::ws,k=>by have:=Q8 z ws (k+1);rw[D8,BC,CV];split<;>simp<;>lia
def YY:Sp:=fun vs H Q _=>∃v ws z,vs=[v,.str z]/\Rep H (DO ws) v/\ws.length<=100000/\∀u H',AS H H'->Rep H' (.lst ((D8 z 0 ws).map Dt.int)) u->Q u H'
noncomputable def Ck(p:PR):Str:=if p.1=("to" :Str) then "[" ++p.2++ "]" else p.2
def Ho(ws:List PR):Str:=Pt " " (ws.map Ck)
def Yn:Sp:=fun vs H Q _=>∃v p,vs=[v]/\Rep H (DL p) v/\p.2.length<=4000000/\Q (.str (Ck p)) H
theorem kR:A0 ["words","plain"] ["words","plain"] (Ao N0):=by ac_rfl
theorem jg(F:Ab K "places_of" "places_of" N0 f fd)(O:Gh mg):AU P w K mg base Aa 1 f fd ["words","plain"] YY:=by
 refine F.ok kR (fun vs H Q E h=>?_) (fun cdv A outer s H vs Q E hr h=>?_)
 ·obtain⟨v,ws,z,rfl,_⟩:=h;rfl
 ·obtain⟨v,ws,z,rfl,rp,hz,q⟩:=h;have hu1:=Ce hr;have hu:(A.deeper (envOfC "places_of" (Ao N0) s.heap.objs.size f cdv)).units<cLine:=by lia
  refine⟨_,(AV (An (ES (ts:=["place","word"]) (cap:=["plain"]) (ix:=[1]) (Hi rfl rfl (by ac_rfl) (by ac_rfl) rfl rfl rfl rfl rfl) (Wf rfl O.en (AE (pv 0) AI))
   (fun _ _ _ _ _=>WT (K:=K) (i:=0) (j:=1) rfl rfl ja rfl (Ad rfl) (Co rfl) rfl (Ad rfl) (Co rfl))
   (fun _ _ _ _ _=>Oh (Av (Vm hu) (pv 1) (Cd (AE AX (AE (pv 2) AI))) (As _))) (fun _ _ _ _ _=>pv 0)))),?_⟩;obtain⟨l,xs,rfl,hl,rr⟩:=Eg rp;refine⟨_,rfl,l,rfl,⟨_,AN.of hl⟩,fun D hD=>cg (xs:=xs) (fun i H'=>CI H D ((D8 z 0 (ws.take i)).map Dt.int) H') (CI.start hD) (fun i H' _ c=>AN.of (c.same _ _ hl)) (fun i x pr H' ex hpr c=>?_) fun H' c=>?_⟩
  ·obtain⟨p,ep,rx⟩:=IT rr ex;obtain⟨ad,rfl,ha⟩:=MS rx;have s2:=Ak (o:=.tup [.int i,.ref ad]) hpr;have c2:=c.ext s2;have ha2:=c2.same _ _ ha;refine⟨pr,_,rfl,AY.of AR,rfl,_,_,rfl,_,_,rfl,rfl,Yq,_,rfl,_,rfl,(by show 2<=sizeLine;decide),fun t ht=>?_⟩;have st:=Ak (o:=.tup [.str "word",.str z]) ht;have c3:=c2.ext st;refine⟨ad,t,p,(("word" :Str),z),rfl,rfl,st _ _ ha2,AR,_,rfl,?_⟩;have hi:i<ws.length:=(BW.mp ep).1;have es:D8 z 0 (ws.take (i+1))=D8 z 0 (ws.take i)++(if p=(("word" :Str),z) then[(i:Int)] else[]):=by rw[Dm,ep];show D8 z 0 (ws.take i++[p])=_;rw[U1,Bg,Lm (by lia),Nat.zero_add]
   rw[es,BX];by_cases y:p=(("word" :Str),z)
   ·rw[Bj y,AH y];refine Bf ⟨_,rfl,?_⟩;refine c3.push (.int _) ?_;have h1:=Q8 z (ws.take i) 0;have h2:=Hb i ws;rw[AL]
    lia
   ·rw[BK y,AG y,KQ,Cy];exact BM c3
  ·have e:xs.length=ws.length:=by have:=rr.1;rw[AL] at this;lia
   rw[e,Cv] at c;exact q _ _ c.same c.done
theorem Yr:A0 ["word","inner"] ["word"] (Ao N2):=by ac_rfl
theorem jo(F:Ab K "tell_word" "tell_word" N2 f fd):AU P w K mg base Aa 1 f fd ["word"] Yn:=by
 refine F.ok Yr (fun vs H Q E h=>?_) (fun cdv A outer s H vs Q E hr h=>?_)
 ·obtain⟨v,p,rfl,_⟩:=h;rfl
 ·obtain⟨v,p,rfl,rp,hz,q⟩:=h;refine⟨_,(AW (Ax (i:=1) Yr.nd rfl (Ad rfl) (Ag DW (pv 0) AK (fun _ _=>rfl))) (AW (A1 (Av BV (Ag DW (pv 0) AK (fun _ _=>rfl)) AX (As _)) (AV (An (gY (pv 1) (by ac_rfl) (by ac_rfl)))) BF) (AV (An (pv 1))))),?_⟩;obtain⟨a,rfl,ha⟩:=MS rp;refine⟨_,rfl,a,_,_,_,rfl,rfl,AY.of ha,Bv (j:=1) rfl,?_⟩;refine⟨_,rfl,a,_,_,_,rfl,rfl,AY.of ha,Bv (j:=0) rfl,rfl,_,rfl,?_⟩;unfold Ck at q;by_cases y:p.1=("to" :Str)
  ·rw[AH y] at q;refine FH (fun _=>⟨_,rfl,p.2,rfl,hz,q⟩) (fun n=>absurd (Bj (show V.str p.1=V.str "to" by rw[y])) n)
  ·rw[AG y] at q;refine FH (fun n=>absurd (V.str.inj (J9 n)) y) (fun _=>⟨_,rfl,q⟩)
noncomputable def wt(p:PR):Nat:=max 40 p.2.length+3
def wsum(ws:List PR):Nat:=(ws.map wt).sum
theorem Kb:∀ws:List PR,ws.length*43<=wsum ws
 |[]=>by simp[wsum]
 |p::ws=>by
  have h:=Kb ws;unfold wsum at h⊢;rw[Au,CM,CV,Nat.succ_mul];have:43<=wt p:=by unfold wt;lia
  lia
theorem OF(a b:List PR):wsum (a++b)=wsum a+wsum b:=by unfold wsum;rw[BX,List.sum_append]
theorem Vv:∀{ws:List PR}{p:PR},p∈ws->wt p<=wsum ws
 |q::ws,p,h=>by
  unfold wsum;rw[Au,CM];rcases Bk.mp h with e|e
  ·rw[e];lia
  ·have:=Vv e;unfold wsum at this
   lia
theorem N9(p:PR):(Ck p).length<=p.2.length+2:=by
 unfold Ck;split
 ·rw[Gx,Gx];have e1:("[" :Str).length=1:=by ac_rfl
  have e2:("]" :Str).length=1:=by ac_rfl
  lia
 ·lia
theorem RH(k:Nat)(hk:k<=1):∀(ws:List PR)(acc:Nat),(ws.map Ck).foldl (·+·.length+k) acc<=acc+wsum ws
 |[],acc=>by simp[wsum]
 |p::ws,acc=>by
  rw[Au,List.foldl_cons];have h1:=RH k hk ws (acc+(Ck p).length+k);have h2:=N9 p;unfold wsum at h1⊢;rw[Au,CM];have:p.2.length+3<=wt p:=by unfold wt;lia
  lia
theorem Va(g:Str)(hg:g.length<=1):∀(ws:List PR)(acc:Array Nat),((ws.map Ck).foldl (fun acc p=>acc++g.cps++p.cps) acc).size<=acc.size+wsum ws
 |[],acc=>by simp[wsum]
 |p::ws,acc=>by
  rw[Au,List.foldl_cons];have h1:=Va g hg ws (acc++g.cps++(Ck p).cps);rw[Array.size_append,Array.size_append] at h1;have h2:=N9 p;have h3:g.cps.size=g.length:=rfl;have h4:(Ck p).cps.size=(Ck p).length:=rfl;unfold wsum at h1⊢;rw[Au,CM];have:p.2.length+3<=wt p:=by unfold wt;lia
  lia
theorem Wv{g:Str}(hg:g.length<=1):∀ws:List PR,(Pt g (ws.map Ck)).length<=wsum ws
 |[]=>CF _
 |[p]=>by
  have:=N9 p;have h:p.2.length+3<=wt p:=by unfold wt;lia
  show(Ck p).length<=(List.map wt [p]).sum;rw[Au,CM]
  lia
 |p::q::r=>by
  have h1:=Va g hg (q::r) (Ck p).cps;have h2:=N9 p;have h:p.2.length+3<=wt p:=by unfold wt;lia
  have h4:(Ck p).cps.size=(Ck p).length:=rfl;show(((q::r).map Ck).foldl (fun acc p=>acc++g.cps++p.cps) (Ck p).cps).size<=_;unfold wsum at h1⊢;rw[show List.map wt (p::q::r)=wt p::List.map wt (q::r) from rfl,CM]
  lia
def Y6:Sp:=fun vs H Q _=>∃v ws,vs=[v]/\Rep H (DO ws) v/\wsum ws<=4000000/\∀H',AS H H'->Q (.str (Ho ws)) H'
theorem nA:A0 ["words"] ["words"] (Ao Qt):=by ac_rfl
theorem YN{fW:Addr}{fdW:FuncData}(F:Ab K "tell_text" "tell_text" Qt f fd)(FW:Ab K "tell_word" "tell_word" N2 fW fdW)(bW:Binds K fdW ["word"] [])(mW:mg "tell_word" =some (.ref fW)):AU P w K mg base Aa 2 f fd ["words"] Y6:=by
 have GW:AU P w K mg base Aa 1 fW fdW ["word"] Yn:=jo FW;refine F.ok nA (fun vs H Q E h=>?_) (fun cdv A outer s H vs Q E hr h=>?_)
 ·obtain⟨v,ws,rfl,_⟩:=h;rfl
 ·obtain⟨v,ws,rfl,rp,tl,q⟩:=h;refine⟨_,(AV (An (Ht LX PySem.F.slot_str_join PySem.F.type_str_join XE AX (AE (ES (ts:=["word"]) (cap:=[]) (ix:=[]) (Kd rfl rfl (by ac_rfl) (by ac_rfl)) (Fo (pv 0))
   (fun _ _ _ _ _=>Bl (i:=0) NC rfl (Ad rfl) (Co rfl)) (fun _ _ _ _ _=>Fq) (fun _ _ _ _ _=>BJ GW hr rfl mW FW.kp bW .nil BB (AE (pv 0) AI))) AI)))),?_⟩;obtain⟨l,xs,rfl,hl,rr⟩:=Eg rp;refine⟨rfl,_,rfl,l,rfl,⟨_,AN.of hl⟩,fun D hD=>GH (xs:=xs) (fun i H'=>CI H D (((ws.take i).map Ck).map Dt.str) H') (CI.start hD) (fun i H' _ c=>AN.of (c.same _ _ hl)) (fun i x H' ex c=>?_) fun H' c=>?_⟩
  ·obtain⟨p,ep,rx⟩:=IT rr ex;refine⟨FG,_,rfl,x,p,rfl,rx.same c.same,?_,?_⟩
   ·have:=Vv (CL ep);have h:p.2.length+3<=wt p:=by unfold wt;lia
    lia
   rw[JE ep,BX];refine c.push (.str _) ?_;have h2:=Hb i ws;have h3:=Kb ws;rw[AL,AL]
   lia
  ·have e:xs.length=ws.length:=by have:=rr.1;rw[AL] at this;lia
   rw[e,Cv] at c;obtain⟨ys,hy,ry⟩:=c.lst;have lb:(" " :Str).length=1:=by ac_rfl
   refine⟨" ",D,ws.map Ck,rfl,rfl,AN.of (by rw[hy,L0 ry]),?_,?_,q _ c.same⟩
   ·have:=RH (" " :Str).length (by lia) ws 0;rw[BA]
    lia
   ·have:=Wv (g:=" ") (by lia) ws;rw[BA]
    lia
theorem jB{α γ:Type}[DecidableEq α]{R:(α×β)->(α×γ)->Prop}(hR:∀t p,R t p->t.1=p.1){k:α}{u:β}{v:γ}(hn:R (k,u) (k,v))(l:List (α×β))(m:List (α×γ))(hl:l.length=m.length)(h:∀(i:Nat) t p,l[i]? =some t->m[i]? =some p->R t p):
 (AZ l k u).length=(AZ m k v).length/\∀(i:Nat) t p,(AZ l k u)[i]? =some t->(AZ m k v)[i]? =some p->R t p:=by
 have ek:∀(l:List (α×β))(m:List (α×γ)),l.length=m.length->(∀(i:Nat) t p,l[i]? =some t->m[i]? =some p->R t p)->(l.any fun p=>decide (p.1=k))=(m.any fun p=>decide (p.1=k)):=by
  intro l
  induction l with
  |nil=>intro m hl _;cases m with|nil=>rfl|cons _ _=>cases hl
  |cons t l ih=>
   intro m hl h
   cases m with
   |nil=>cases hl
   |cons p m=>rw[Hg,Hg,ih m (by simpa using hl) fun i t p a b=>h (i+1) t p (by simpa using a) (by simpa using b),hR t p (h 0 t p rfl rfl)]
 have e:=ek l m hl h;unfold AZ;rw[<-e];by_cases c:(l.any fun p=>decide (p.1=k))=true
 ·rw[AH c,AH c];refine⟨by rw[AL,AL,hl],fun i t p a b=>?_⟩;rw[Az] at a b
  cases e1:l[i]?with
  |none=>rw[e1] at a;cases a
  |some t0=>
   cases e2:m[i]?with
   |none=>rw[e2] at b;cases b
   |some p0=>
    rw[e1] at a;rw[e2] at b;have h0:=h i t0 p0 e1 e2;have hk:=hR _ _ h0;have a':(if t0.1=k then(t0.1,u) else t0)=t:=Ah a;have b':(if p0.1=k then(p0.1,v) else p0)=p:=Ah b;by_cases z:t0.1=k
    ·rw[AH z] at a';rw[AH (hk▸z)] at b';rw[<-a',<-b',<-hk,z];exact hn
    ·rw[AG z] at a';rw[AG (hk▸z)] at b';rw[<-a',<-b'];exact h0
 ·rw[AG c,AG c];refine⟨by rw[BC,BC,hl];rfl,fun i t p a b=>?_⟩;by_cases hi:i<l.length
  ·rw[C9 hi] at a;rw[C9 (by lia)] at b;exact h i t p a b
  ·rw[C4 (by lia)] at a;rw[C4 (by lia),<-hl] at b
   cases ez:i-l.length with
   |zero=>
    rw[ez] at a b;have a':(k,u)=t:=by simpa using a
    have b':(k,v)=p:=by simpa using b
    rw[<-a',<-b'];exact hn
   |succ j=>rw[ez] at a;simp at a
theorem XX{α β γ:Type}[DecidableEq α]{R:(α×β)->(α×γ)->Prop}(hR:∀t p,R t p->t.1=p.1)(k:α):∀(l:List (α×β))(m:List (α×γ)),l.length=m.length->(∀(i:Nat) t p,l[i]? =some t->m[i]? =some p->R t p)->
 (AF l k=none/\AF m k=none)\/∃u v,AF l k=some u/\AF m k=some v/\R (k,u) (k,v)
 |[],[],_,_=>.inl ⟨rfl,rfl⟩
 |t::l,p::m,hl,h=>by
  have h0:=h 0 t p rfl rfl;have hk:=hR _ _ h0;unfold AF;rw[Cw,Cw,<-hk];by_cases z:t.1=k
  ·rw[Bj z];refine .inr ⟨t.2,p.2,rfl,rfl,?_⟩;rw[<-z];have e:(t.1,p.2)=p:=by rw[hk]
   rw[e];exact h0
  ·rw[BK z];exact XX hR k l m (by simpa using hl) fun i t p a b=>h (i+1) t p (by simpa using a) (by simpa using b)
 |[],_::_,hl,_=>by cases hl
 |_::_,[],hl,_=>by cases hl
theorem DH.get{AA:List (Str×V)}(g:DH H AA AD)(n:Str):(AF AA n=none/\AF AD n=none)\/∃v ws,AF AA n=some v/\AF AD n=some ws/\Rep H (DO ws) v:=by
 rcases XX (R:=fun t p=>t.1=p.1/\Rep H (DO p.2) t.2) (fun _ _ r=>r.1) n AA AD g.len g.row with z|⟨u,v,a,b,c⟩
 ·exact .inl z
 ·exact .inr ⟨u,v,a,b,c.2⟩
theorem DH.put{AA:List (Str×V)}(g:DH H AA AD)(n:Str){ws:List PR}(r:Rep H (DO ws) v):DH H (AZ AA n v) (AZ AD n ws):=
 let⟨a,b⟩:=jB (R:=fun t p=>t.1=p.1/\Rep H (DO p.2) t.2) (fun _ _ r=>r.1) (k:=n) (u:=v) (v:=ws) ⟨rfl,r⟩ AA AD g.len g.row
 ⟨a,b⟩
theorem DH.drop{AA:List (Str×V)}(g:DH H AA AD)(n:Str):DH H (AQ AA n) (AQ AD n):=
 let⟨a,b⟩:=RZ (R:=fun t p=>t.1=p.1/\Rep H (DO p.2) t.2) (fun _ _ r=>r.1) n AA AD g.len g.row
 ⟨a,b⟩
theorem GU(AA:List (Str×V))(n:Str):Be (Aq AA) (.inr n)=AF AA n:=by unfold Aq;rw[ER E7];cases AF AA n<;>rfl
theorem Ks(AA:List (Str×V))(n:Str)(v:V):putK (Aq AA) (.inr n) v=Aq (AZ AA n v):=JL (g:=id) E7 n v AA
theorem RR(AA:List (Str×V))(n:Str):Ie (Aq AA) (.inr n)=Aq (AQ AA n):=KZ (g:=id) E7 n AA
structure CO(cN:Addr)(H:Hp)(a d:Addr)(AA:List (Str×V))(AD:List Pg):Prop where
 ins:∃dx,H a=some (.ins cN dx [("pages",.ref d)])
 Bo:H d=some (.dK (Aq AA))
 AD:DH H AA AD
theorem CO.same{cN:Addr}{H H':Hp}{a d:Addr}{AA:List (Str×V)}{AD:List Pg}(g:CO cN H a d AA AD)(s:AS H H'):CO cN H' a d AA AD:=
 let⟨dx,h⟩:=g.ins
 ⟨⟨dx,s _ _ h⟩,s _ _ g.Bo,g.AD.same s⟩
variable{cN:Addr}
theorem CO.upd{AA kvs':List (Str×V)}{pgs':List Pg}(g:CO cN H a d AA AD)(g':DH H kvs' pgs'):CO cN (upd H d (.dK (Aq kvs'))) a d kvs' pgs':=by
 obtain⟨dx,h⟩:=g.ins;refine⟨⟨dx,?_⟩,AR,?_⟩
 ·rw[AO (CT h g.Bo (by intro z;cases z))];exact h
 ·exact(g'.ex g.Bo).same Ku
structure EI(K:PySem.W.Frag)(cN:Addr):Prop where
 cl:Gr K cN
 nf:JT K cN "pages"
noncomputable def keys(AD:List Pg):List Str:=AD.map (·.1)
def XI(K:PySem.W.Frag)(cN cR:Addr):Sp:=fun vs H Q E=>∃a d n AA AD,vs=[.ref a,.str n]/\CO cN H a d AA AD/\(∀ws,AF AD n=some ws->∀H',AS H H'->Q .A3 H')/\(AF AD n=none->Xw K cR E H "no page")
def Xf(K:PySem.W.Frag)(cN cR:Addr):Sp:=fun vs H Q E=>∃a d n AA AD,vs=[.ref a,.str n]/\CO cN H a d AA AD/\n.length<=100000/\(isNm n=false->Xw K cR E H "no name")/\(∀ws,isNm n=true->AF AD n=some ws->Xw K cR E H "taken")/\(isNm n=true->AF AD n=none->∀H',AS H H'->Q .A3 H')
theorem jK:A0 ["self","name"] ["self","name"] (Ao QU):=by ac_rfl
theorem iB(F:Ab K "need_page" "Nook.need_page" QU f fd)(C:EI K cN)(R:Rz P w K mg base cR "NoPage" "no page"):AU P w K mg base (Ca P w) 4 f fd ["self","name"] (XI K cN cR):=by
 refine HV F jK (fun vs H Q E h=>?_) (fun cdv A outer s H vs Q E hr h=>?_)
 ·obtain⟨a,d,n,AA,AD,rfl,_⟩:=h;rfl
 ·obtain⟨a,d,n,AA,AD,rfl,g,q1,q2⟩:=h;have hu1:=Ce hr;refine⟨_,(AV (A1 (IV (N7 hu1 (pv 1) (Cr (pv 0) rfl))) (AV (Jh (k:=0) R hr rfl)) BF)),?_⟩;obtain⟨dx,hi⟩:=g.ins;refine⟨_,rfl,_,rfl,a,cN,dx,_,_,rfl,hi,C.cl,C.nf,rfl,d,_,rfl,BN.kq (k:=.inr n) g.Bo,_,rfl,?_⟩;rw[GU];rcases g.AD.get n with⟨e1,e2⟩|⟨v,ws,e1,e2,_⟩
  ·rw[e1];exact Bf (q2 e2)
  ·rw[e1];exact BM (q1 ws e2 H (AS.refl H))
theorem i4:A0 ["self","name"] ["self","name"] (Ao P6):=by ac_rfl
theorem gu{fdI:FuncData}(F:Ab K "need_free_name" "Nook.need_free_name" P6 f fd)(C:EI K cN)(R1:Rz P w K mg base cR "NoName" "no name")(R2:Rz P w K mg base cR "Taken" "taken")
 (FI:Ab K "is_name" "is_name" M9 fI fdI)(bI:Binds K fdI ["word"] [])(mI:mg "is_name" =some (.ref fI))(O:Gh mg):AU P w K mg base (Ca P w) 4 f fd ["self","name"] (Xf K cN cR):=by
 have GI:AU P w K mg base Aa 1 fI fdI ["word"] PM:=SI FI O.all;refine HV F i4 (fun vs H Q E h=>?_) (fun cdv A outer s H vs Q E hr h=>?_)
 ·obtain⟨a,d,n,AA,AD,rfl,_⟩:=h;rfl
 ·obtain⟨a,d,n,AA,AD,rfl,g,hz,q1,q2,q3⟩:=h;have hu1:=Ce hr;refine⟨_,(AW (A1 (JW (Em (BJ GI (hr.mono (by lia)) rfl mI FI.kp bI .nil BB (AE (pv 1) AI)))) (AV (Jh (k:=0) R1 hr rfl)) BF) (AV (A1 (IV (Xg hu1 (pv 1) (Cr (pv 0) rfl))) (AV (Jh (k:=0) R2 hr rfl)) BF))),?_⟩;refine⟨_,rfl,n,rfl,hz,fun H1 s1=>⟨_,rfl,?_⟩⟩
  cases en:isNm n with
  |false=>exact Bf ((q1 en).mono s1)
  |true=>
   refine BM ?_;have g1:=g.same s1;obtain⟨dx,hi⟩:=g1.ins;refine⟨_,rfl,_,rfl,a,cN,dx,_,_,rfl,hi,C.cl,C.nf,rfl,d,_,rfl,BN.kq (k:=.inr n) g1.Bo,_,rfl,?_⟩;rw[GU];rcases g1.AD.get n with⟨e1,e2⟩|⟨v,ws,e1,e2,_⟩
   ·rw[e1];exact BM (q3 en e2 H1 s1)
   ·rw[e1];exact Bf ((q2 ws en e2).mono s1)
theorem Ke{α β:Type}[DecidableEq α]{k:α}{v w:β}:∀{l:List (α×β)}{i:Nat},(l.map (·.1)).Nodup->l[i]? =some (k,w)->AZ l k v=l.set i (k,v)
 |[],i,_,h=>by simp at h
 |p::l,0,nd,h=>by
  have e:p=(k,w):=by simpa using h
  subst e;have nd':=IG.mp nd;have hmap:l.map (fun p=>if p.1=k then(p.1,v) else p)=l:=by
   conv=>rhs;rw[<-N3 l]
   refine Fc fun q hq=>?_;have:q.1≠k:=fun z=>nd'.1 (by rw[<-z];exact BY.mpr ⟨q,hq,rfl⟩);rw[AG this];rfl
  unfold AZ;rw[AH (by rw[Hg];simp),Au,hmap];simp
 |p::l,i+1,nd,h=>by
  have h':l[i]? =some (k,w):=by simpa using h
  have nd':=IG.mp nd;have ih:=Ke (v:=v) nd'.2 h';have ne:p.1≠k:=fun z=>nd'.1 (by show p.1∈_;rw[z];exact BY.mpr ⟨_,CL h',rfl⟩);have any:(l.any fun q=>decide (q.1=k))=true:=KA.mpr ⟨_,CL h',Bj rfl⟩;unfold AZ at ih⊢;rw[AH any] at ih;rw[AH (by rw[Hg,any,Bool.or_true]),Au,ih,AG ne];rfl
def DE(AD:List Pg)(n m:Str):List Pg:=AD.map fun p=>(p.1,Cs p.2 n m)
def Ek(AD:List Pg)(n m:Str)(i:Nat):List Pg:=DE (AD.take i) n m++AD.drop i
theorem UX(AD:List Pg)(n m:Str)(i:Nat):(Ek AD n m i).map (·.1)=AD.map (·.1):=by unfold Ek DE;rw[BX,Bh];show(AD.take i).map (·.1)++_=_;rw[<-BX,De]
theorem cb{n m:Str}{p:Pg}(h:AD[i]? =some p):(Ek AD n m i)[i]? =some p:=by have hi:=(BW.mp h).1;unfold Ek DE;rw[C4 (by rw[AL,Bg];lia),AL,Bg,Lm (by lia),E3,J8,Nat.add_zero];exact h
theorem Z9{n m:Str}{p:Pg}(h:AD[i]? =some p):(Ek AD n m i).set i (p.1,Cs p.2 n m)=Ek AD n m (i+1):=by
 have hi:=(BW.mp h).1;unfold Ek DE;have hl:((AD.take i).map fun p:Pg=>(p.1,Cs p.2 n m)).length=i:=by rw[AL,Bg];lia
 rw[List.set_append_right _ _ (by lia),hl,E3,Dm,h,BX,Bu];congr 1;rw[NN hi,List.set_cons_zero];rfl
def BE(AD:List Pg):Nat:=(AD.map fun p=>wsum p.2).sum
theorem Ki:∀{AD:List Pg}{p:Pg},p∈AD->wsum p.2<=BE AD
 |q::AD,p,h=>by
  unfold BE;rw[Au,CM];rcases Bk.mp h with e|e
  ·rw[e];lia
  ·have:=Ki e;unfold BE at this
   lia
structure C0(AD:List Pg):Prop where
 nd:(AD.map (·.1)).Nodup
 Cc:AD.length<=900
 BE:BE AD<=3900000
theorem C0.EH(n:C0 AD):LF AD:=⟨BI n.Cc (by lia),fun p hp=>by
 have h1:=Ki hp;have h2:=Kb p.2;have h3:=n.BE
 lia⟩
theorem VX(ws:List PR)(n m:Str):(Cs ws n m).length=ws.length:=by unfold Cs;rw[AL]
def W6(cN:Addr):Sp:=fun vs H Q _=>∃a d n m AA AD,vs=[.ref a,.str n,.str m]/\CO cN H a d AA AD/\C0 AD/\∀H' kvs',AS (Ex H d) H'->CO cN H' a d kvs' (DE AD n m)->Q .A3 H'
theorem We:A0 ["self","name","fresh","page"] ["self","name","fresh"] (Ao P8):=by ac_rfl
theorem fL{fP:Addr}(F:Ab K "point_all_on" "Nook.point_all_on" P8 f fd)(C:EI K cN)(O:Gh mg)(FP:Ab K "point_on" "point_on" Ls fP fdP)(bP:Binds K fdP ["words","name","fresh"] [])(mP:mg "point_on" =some (.ref fP)):
 AU P w K mg base Aa 2 f fd ["self","name","fresh"] (W6 cN):=by
 have GP:AU P w K mg base Aa 1 fP fdP ["words","name","fresh"] Y5:=j9 FP;refine F.ok We (fun vs H Q E h=>?_) (fun cdv A outer s H vs Q E hr h=>?_)
 ·obtain⟨a,d,n,m,AA,AD,rfl,_⟩:=h;rfl
 ·obtain⟨a,d,n,m,AA,AD,rfl,g,nc,q⟩:=h;have hu1:=Ce hr;refine⟨_,(AV (Dx Dr rfl (Fo (E6 (KU rfl) rfl O.lst HD (AE (Cr (pv 0) rfl) AI))) (Bl (i:=3) We.nd rfl (Ad rfl))
   (AV (Eh hu1 (Cr (pv 0) rfl) (pv 3) (BJ GP hr rfl mP FP.kp bP .nil BB (AE (BQ hu1 (Cr (pv 0) rfl) (pv 3) (fun _ _=>rfl)) (AE (pv 1) (AE (pv 2) AI)))) rfl)))),?_⟩;obtain⟨dx,hi⟩:=g.ins;refine⟨_,rfl,a,cN,dx,_,_,rfl,hi,C.cl,C.nf,rfl,d,_,rfl,g.Bo,fun L hL=>⟨L,rfl,⟨_,AN.of AR⟩,?_⟩⟩;have s1:=Ak (o:=.lst ((Aq AA).map fun kv=>kV kv.1)) hL;have g1:=g.same s1;have hL1:(upd H L (.lst ((Aq AA).map fun kv=>kV kv.1))) L=some (.lst ((Aq AA).map fun kv=>kV kv.1)):=AR;have hd0:=g.Bo;generalize upd H L (.lst ((Aq AA).map fun kv=>kV kv.1))=H1 at s1 g1 hL1;have hlen:(Aq AA).length=AD.length:=by show(AA.map _).length=_;rw[AL];exact g.AD.len
  refine JK (xs:=(Aq AA).map fun kv=>kV kv.1) (fun i σ H'=>σ[0]? =some (some (.ref a))/\σ[1]? =some (some (.str n))/\σ[2]? =some (some (.str m))/\3<σ.length/\AS (Ex H1 d) H'/\H' L=some (.lst ((Aq AA).map fun kv=>kV kv.1))/\∃kvs',CO cN H' a d kvs' (Ek AD n m i))
   ⟨rfl,rfl,rfl,by show 3<4;decide,Ex.sub,hL1,AA,g1⟩ (fun i σ H' _ c=>AN.of c.2.2.2.2.2.1) (fun i x σ H' ex c=>?_) (fun σ H' c=>?_)
  ·obtain⟨e0,e1,e2,e3,sm,hL',kvs',g'⟩:=c;have ek:x=kV (Sum.inr (AA.map (·.1))[i]!):=by
    rw[Az] at ex
    cases e:(Aq AA)[i]?with
    |none=>rw[e] at ex;cases ex
    |some kv=>rw[e] at ex;obtain⟨nm,e5,e6⟩:=Ow (k:=kv.1) (x:=kv.2) e;have:kV kv.1=x:=Ah ex;rw[<-this,e6];congr 2;rw[List.getElem!_eq_getElem?_getD,Az,e5];rfl
   have hi':i<AD.length:=by have:=(BW.mp ex).1;rw[AL,hlen] at this;exact this
   have ep:AD[i]? =some AD[i]:=Ar hi';have hk:i<AA.length:=by rw[g.AD.len];exact hi'
   have en:(AA.map (·.1))[i]! =AD[i].1:=by rw[List.getElem!_eq_getElem?_getD,Az,Ar hk];exact(g.AD.row i _ _ (Ar hk) ep).1
   rw[en] at ek;subst ek;have CQ:((Ek AD n m i).map (·.1)).Nodup:=by rw[UX];exact nc.nd
   have at':=cb (n:=n) (m:=m) ep;have gt:AF (Ek AD n m i) AD[i].1=some AD[i].2:=IU CQ at';obtain⟨dx',Ez⟩:=g'.ins;rcases g'.AD.get AD[i].1 with⟨_,z⟩|⟨v,ws,v1,v2,rw_⟩
   ·rw[gt] at z;cases z
   ·rw[gt] at v2;cases v2;have p0:(σ.set 3 (some (kV (Sum.inr AD[i].1))))[0]? =some (some (.ref a)):=by rw[NT (by decide)];exact e0
    have p1:(σ.set 3 (some (kV (Sum.inr AD[i].1))))[1]? =some (some (.str n)):=by rw[NT (by decide)];exact e1
    have p2:(σ.set 3 (some (kV (Sum.inr AD[i].1))))[2]? =some (some (.str m)):=by rw[NT (by decide)];exact e2
    have p3:(σ.set 3 (some (kV (Sum.inr AD[i].1))))[3]? =some (some (kV (Sum.inr AD[i].1))):=NP e3;have dg:BN H' d (kV (Sum.inr AD[i].1)) (some v):=by have:=BN.kq (k:=.inr AD[i].1) g'.Bo;rw[GU,v1] at this;exact this
    have hsz:AD[i].2.length<=100000:=nc.EH.short _ (E1 hi');refine⟨_,p0,a,cN,dx',_,_,rfl,Ez,C.cl,C.nf,rfl,_,p3,d,_,rfl,dg,_,p1,_,p2,v,_,n,m,rfl,rw_,hsz,fun u H2 s2 ru=>?_⟩;have g2:=g'.same s2;obtain⟨dx2,EG⟩:=g2.ins;have hl2:(Aq kvs').length<sizeLine:=by
     show(kvs'.map _).length<_;rw[AL,g'.AD.len,BA];have:=BZ List.length (UX AD n m i);rw[AL,AL] at this;have:=nc.Cc
     lia
    have dp:=DP.kq (k:=.inr AD[i].1) (v:=u) g2.Bo hl2;rw[Ks] at dp;refine⟨_,p0,a,cN,dx2,_,_,rfl,EG,C.cl,C.nf,rfl,_,p3,d,_,rfl,dp,?_⟩;have g3:=g2.upd (g2.AD.put AD[i].1 ru);have es:AZ (Ek AD n m i) AD[i].1 (Cs AD[i].2 n m)=Ek AD n m (i+1):=(Ke (k:=AD[i].1) (w:=AD[i].2) CQ at').trans (Z9 ep);rw[es] at g3;have hLd:L≠d:=fun z=>by rw[z,hd0] at hL;cases hL
    refine⟨p0,p1,p2,by rw[List.length_set];exact e3,?_,by rw[AO hLd];exact s2 _ _ hL',_,g3⟩;have n1:(Ex H1 d) d=none:=by unfold Ex;rw[AH rfl]
    exact(sm.trans s2).upd n1
  ·obtain⟨_,_,_,_,sm,_,kvs',g'⟩:=c;have e:Ek AD n m ((Aq AA).map fun kv=>kV kv.1).length=DE AD n m:=by rw[AL,hlen];unfold Ek;rw[Cv,List.drop_length,Cy]
   rw[e] at g';exact q H' kvs' ((Ex.mono s1).trans sm) g'
theorem Cn{α:Type}[DecidableEq α]{k j:α}{v:β}:∀l:List (α×β),AF (AZ l k v) j=if j=k then some v else AF l j:=fun l=>by
 have hm:∀l:List (α×β),AF (l.map fun p=>if p.1=k then(p.1,v) else p) j=if j=k then(if(l.any fun p=>decide (p.1=k))=true then some v else none) else AF l j:=by
  intro l
  induction l with
  |nil=>simp[AF]
  |cons p l ih=>
   unfold AF at ih⊢;rw[Au,Cw,Cw,Hg];by_cases z:p.1=k
   ·rw[AH z];by_cases y:j=k
    ·rw[AH y,Bj (show(p.1,v).1=j by rw[y];exact z),Bj z,Bool.true_or,AH rfl];rfl
    ·rw[AG y,BK (show¬(p.1,v).1=j from fun x=>y (x.symm.trans z))];rw[AG y] at ih;exact ih
   ·rw[AG z];by_cases y:j=k
    ·rw[AH y,BK z,Qo,BK (show¬p.1=j from fun x=>z (x.trans y))];rw[AH y] at ih;exact ih
    ·rw[AG y];rw[AG y] at ih
     cases decide (p.1=j) with
     |true=>rfl
     |false=>exact ih
 unfold AZ;by_cases c:(l.any fun p=>decide (p.1=k))=true
 ·rw[AH c,hm l];by_cases y:j=k
  ·rw[AH y,AH y,AH c]
  ·rw[AG y,AG y]
 ·rw[AG c];have hn:∀p∈l,¬p.1=k:=fun p hp z=>c (KA.mpr ⟨p,hp,Bj z⟩);unfold AF;rw[QQ];by_cases y:j=k
  ·rw[AH y,UG.mpr (fun p hp=>by rw[y];simp[hn p hp])];rw[Cw,Bj (show(k,v).1=j from y.symm)];rfl
  ·rw[AG y,Cw,BK (show¬(k,v).1=j from fun x=>y x.symm)];cases List.find? (fun p=>decide (p.1=j)) l<;>rfl
inductive Rs where
 |no (msg:Str)|ok (r:Dt) (AD:List Pg)|un (AD:List Pg)
def Out(K:PySem.W.Frag)(cN cR:Addr)(H:Hp)(a d:Addr)(Q:VK)(E:XK):Rs->Prop
 |.no msg=>Xw K cR E H msg
 |.ok r pgs'=>∀H' kvs' u,AS (Ex H d) H'->CO cN H' a d kvs' pgs'->Rep H' r u->Q u H'
 |.un pgs'=>∀H' kvs' u,AS (Ex H d) H'->CO cN H' a d kvs' pgs'->Q u H'
def El(t:Str):List PR:=(CP t).map DZ
def HE(AD:List Pg)(n t:Str):Rs:=if isNm n=true then .ok (.int (El t).length) (AZ AD n (El t)) else .no "no name"
def renamed(AD:List Pg)(n m:Str)(ws:List PR):List Pg:=DE (AZ (AQ AD n) m ws) n m
def G9(AD:List Pg)(n m:Str):Rs:=match AF AD n with
 |none=>.no "no page"
 |some ws=>if isNm m=true then(match AF AD m with
  |some _=>.no "taken"
  |none=>.ok (.int (cnt (renamed AD n m ws) m)) (renamed AD n m ws)) else .no "no name"
def joined(AD:List Pg)(n o:Str)(w1 w2:List PR):List Pg:=DE (AZ (AQ AD o) n (w1++w2)) o n
def E9(AD:List Pg)(n o:Str):Rs:=match AF AD n with
 |none=>.no "no page"
 |some w1=>match AF AD o with
  |none=>.no "no page"
  |some w2=>if n=o then .no "same page" else .ok (.int (cnt (joined AD n o w1 w2) n)) (joined AD n o w1 w2)
def cutAt(AD:List Pg)(n m:Str)(ws:List PR)(k:Nat):List Pg:=AZ (AZ AD m (ws.drop k)) n (ws.take k++[(("to" :Str),m)])
def HJ(AD:List Pg)(n:Str)(pl:Int)(m:Str):Rs:=match AF AD n with
 |none=>.no "no page"
 |some ws=>if isNm m=true then(match AF AD m with
  |some _=>.no "taken"
  |none=>if pl<0\/(ws.length:Int)<pl then .no "no place" else .ok (.int ((ws.drop pl.toNat).length:Nat)) (cutAt AD n m ws pl.toNat)) else .no "no name"
def HG(AD:List Pg)(n:Str):Rs:=match AF AD n with
 |none=>.no "no page"
 |some _=>.ok (.int (cnt AD n)) (AQ AD n)
def GQ(AD:List Pg)(n:Str):Rs:=match AF AD n with
 |none=>.no "no page"
 |some ws=>.ok (.str (Ho ws)) AD
def jm(AD:List Pg)(n:Str):Rs:=.ok (.lst ((K5 (Gk AD n)).map Dt.str)) AD
theorem Fs:(Ex H d) d=none:=by unfold Ex;rw[AH rfl]
theorem Lw{AA:List (Str×V)}(g:DH H AA AD)(h:AD.length<=1000):(Aq AA).length<sizeLine:=by
 show(AA.map _).length<_;rw[AL,g.len,BA]
 lia
def WR(K:PySem.W.Frag)(cN cR:Addr):Sp:=fun vs H Q E=>∃a d n t AA AD,vs=[.ref a,.str n,.str t]/\CO cN H a d AA AD/\C0 AD/\n.length<=100000/\t.length<=10000/\Out K cN cR H a d Q E (HE AD n t)
theorem gD:A0 ["self","name","text"] ["self","name","text"] (Ao QJ):=by ac_rfl
theorem d6{fS:Addr}{fdI fdS:FuncData}(F:Ab K "write_page" "Nook.write_page" QJ f fd)(C:EI K cN)(O:Gh mg)(R1:Rz P w K mg base cR "NoName" "no name")
 (FI:Ab K "is_name" "is_name" M9 fI fdI)(bI:Binds K fdI ["word"] [])(mI:mg "is_name" =some (.ref fI))(FS:Ab K "split_up" "split_up" TX fS fdS)(GS:AU P w K mg base Aa 3 fS fdS ["text"] Y4)(bS:Binds K fdS ["text"] [])(mS:mg "split_up" =some (.ref fS)):
 AU P w K mg base (Ca P w) 4 f fd ["self","name","text"] (WR K cN cR):=by
 have GI:AU P w K mg base Aa 1 fI fdI ["word"] PM:=SI FI O.all;refine HV F gD (fun vs H Q E h=>?_) (fun cdv A outer s H vs Q E hr h=>?_)
 ·obtain⟨a,d,n,t,AA,AD,rfl,_⟩:=h;rfl
 ·obtain⟨a,d,n,t,AA,AD,rfl,g,nc,hz,hz2,q⟩:=h;have hu1:=Ce hr;refine⟨_,(AW (A1 (JW (Em (BJ GI (hr.mono (by lia)) rfl mI FI.kp bI .nil BB (AE (pv 1) AI)))) (AV (Jh (k:=0) R1 hr rfl)) BF)
   (AW (Eh hu1 (Cr (pv 0) rfl) (pv 1) (BJ GS hr rfl mS FS.kp bS .nil BB (AE (pv 2) AI)) rfl)
   (AV (An (Bc Hh rfl O.len Dg (AE (BQ hu1 (Cr (pv 0) rfl) (pv 1) (fun _ _=>rfl)) AI)))))),?_⟩;refine⟨_,rfl,n,rfl,hz,fun H1 s1=>⟨_,rfl,?_⟩⟩;unfold HE at q
  cases en:isNm n with
  |false=>rw[en,AG CS] at q;exact Bf (Xw.mono q s1)
  |true=>
   rw[en,AH rfl] at q;refine BM ?_;refine⟨_,rfl,t,rfl,hz2,fun D H2 s2 rD=>?_⟩;have g2:=(g.same s1).same s2;obtain⟨dx,hi⟩:=g2.ins;have rD':Rep H2 (DO (El t)) (.ref D):=by
    have e:DO (El t)=.lst ((CP t).map TN):=by unfold DO El;rw[Bh];rfl
    rw[e];exact rD
   have dp:=DP.kq (k:=.inr n) (v:=.ref D) g2.Bo (Lw g2.AD (BI nc.Cc (by lia)));rw[Ks] at dp;refine⟨_,rfl,a,cN,dx,_,_,rfl,hi,C.cl,C.nf,rfl,_,rfl,d,_,rfl,dp,?_⟩;have g3:=g2.upd (g2.AD.put n rD');have s3:AS (Ex H d) (upd H2 d (.dK (Aq (AZ AA n (.ref D))))):=((Ex.sub.trans s1).trans s2).upd Fs;generalize upd H2 d (.dK (Aq (AZ AA n (.ref D))))=H3 at g3 s3;obtain⟨dx3,EG⟩:=g3.ins;rcases g3.AD.get n with⟨_,z⟩|⟨v,ws,v1,v2,rw_⟩
   ·rw[Cn,AH rfl] at z;cases z
   ·have ev:ws=El t:=by rw[Cn,AH rfl] at v2;exact(Ah v2).symm
    subst ev;have dg:BN H3 d (.str n) (some v):=by have:=BN.kq (k:=.inr n) g3.Bo;rw[GU,v1] at this;exact this
    obtain⟨l,xs,rfl,hl,rr⟩:=Eg rw_;refine⟨_,rfl,a,cN,dx3,_,_,rfl,EG,C.cl,C.nf,rfl,_,rfl,d,_,rfl,dg,l,xs,rfl,.inl (AN.of hl),?_⟩;have el:xs.length=(El t).length:=by have:=rr.1;rw[AL] at this;exact this.symm
    rw[el];exact q _ _ _ s3 g3 (.int _)
theorem GN{α:Type}[DecidableEq α](l:List (α×β))(k:α)(v:β):(AZ l k v).length<=l.length+1:=by
 unfold AZ;split
 ·rw[AL];lia
 ·rw[BC];exact Ac _
theorem MA{α β:Type}[DecidableEq α]{k:α}{v:β}:∀{l:List (α×β)},AF l k=some v->(AQ l k).length+1<=l.length
 |[],h=>by cases h
 |p::l,h=>by
  by_cases c:p.1=k
  ·have d1:AQ (p::l) k=AQ l k:=by unfold AQ;rw[Gs];simp[c]
   rw[d1,CV];have:=F8 (fun p:α×β=>decide (p.1≠k)) l;show(l.filter _).length+1<=_
   lia
  ·have d1:AQ (p::l) k=p::AQ l k:=by unfold AQ;rw[F6];simp[c]
   have h':AF l k=some v:=by unfold AF at h⊢;rw[Cw,BK c] at h;exact h
   have:=MA h';rw[d1,CV,CV]
   lia
theorem D1{α:Type}[DecidableEq α]{l:List (α×β)}{k:α}{v:β}(h:(l.map (·.1)).Nodup):((AZ l k v).map (·.1)).Nodup:=by
 unfold AZ;by_cases c:(l.any fun p=>decide (p.1=k))=true
 ·rw[AH c,Bh];have e:(l.map ((fun x:α×β=>x.1)∘fun p=>if p.1=k then(p.1,v) else p))=l.map (·.1):=Fc fun p _=>by show(if p.1=k then(p.1,v) else p).1=p.1;split<;>rfl
  rw[e];exact h
 ·rw[AG c,BX];refine QO.mpr ⟨h,by simp,fun x hx y hy=>?_⟩;intro z;have hy':y=k:=by simpa using hy
  obtain⟨p,hp,e⟩:=BY.mp hx;exact c (KA.mpr ⟨p,hp,Bj (e.trans (z.trans hy'))⟩)
theorem OS(AD:List Pg)(n:Str)(ws:List PR)(nd:(AD.map (·.1)).Nodup):BE (AZ AD n ws)<=BE AD+wsum ws:=by
 cases h:AF AD n with
 |none=>
  unfold AZ;rw[AG (by
   intro c;obtain⟨p,hp,e⟩:=KA.mp c;have e':=J9 e;unfold AF at h
   cases f:AD.find? (fun p=>decide (p.1=n)) with
   |none=>exact absurd e' (by simpa using UG.mp f p hp)
   |some q=>rw[f] at h;cases h)];unfold BE;rw[BX,List.sum_append];simp
 |some w0=>
  obtain⟨i,hi⟩:=Fn h;rw[Ke nd hi];unfold BE;have hl:=(BW.mp hi).1;have:∀(l:List Nat)(i x:Nat),(l.set i x).sum<=l.sum+x:=by
   intro l
   induction l with
   |nil=>intro i x;simp
   |cons y l ih=>
    intro i x
    cases i with
    |zero=>simp;lia
    |succ i=>rw[UE,CM,CM];have:=ih i x;lia
  rw[List.map_set];exact this _ _ _
theorem MB{n:Str}{ws:List PR}:∀{AD:List Pg},AF AD n=some ws->BE (AQ AD n)+wsum ws<=BE AD
 |[],h=>by cases h
 |p::AD,h=>by
  by_cases c:p.1=n
  ·have d1:AQ (p::AD) n=AQ AD n:=by unfold AQ;rw[Gs];simp[c]
   have e:p.2=ws:=by unfold AF at h;rw[Cw,Bj c] at h;exact Ah h
   have:∀l:List Pg,BE (AQ l n)<=BE l:=by
    intro l
    induction l with
    |nil=>exact Ac _
    |cons q l ih=>
     by_cases z:q.1=n
     ·have d2:AQ (q::l) n=AQ l n:=by unfold AQ;rw[Gs];simp[z]
      rw[d2];unfold BE at ih⊢;rw[Au,CM]
      lia
     ·have d2:AQ (q::l) n=q::AQ l n:=by unfold AQ;rw[F6];simp[z]
      rw[d2];unfold BE at ih⊢;rw[Au,CM,Au,CM]
      lia
   have:=this AD;rw[d1,<-e];unfold BE at this⊢;rw[Au,CM]
   lia
  ·have d1:AQ (p::AD) n=p::AQ AD n:=by unfold AQ;rw[F6];simp[c]
   have h':AF AD n=some ws:=by unfold AF at h⊢;rw[Cw,BK c] at h;exact h
   have:=MB h';rw[d1];unfold BE at this⊢;rw[Au,CM,Au,CM]
   lia
theorem C0.moved{n m:Str}{ws:List PR}(nc:C0 AD)(h:AF AD n=some ws):C0 (AZ (AQ AD n) m ws):=by
 refine⟨D1 (DC nc.nd),?_,?_⟩
 ·have h1:=GN (AQ AD n) m ws;have h2:=MA h;have h3:=nc.Cc
  lia
 ·have h1:=OS (AQ AD n) m ws (DC nc.nd);have h2:=MB h;have h3:=nc.BE
  lia
theorem U6{n m:Str}(s:LF AD):LF (DE AD n m):=by refine⟨by unfold DE;rw[AL];exact s.Cc,fun p hp=>?_⟩;obtain⟨q,hq,rfl⟩:=BY.mp hp;show(Cs q.2 n m).length<=_;rw[VX];exact s.short q hq
def WJ(K:PySem.W.Frag)(cN cR:Addr):Sp:=fun vs H Q E=>∃a d n m AA AD,vs=[.ref a,.str n,.str m]/\CO cN H a d AA AD/\C0 AD/\m.length<=100000/\Out K cN cR H a d Q E (G9 AD n m)
structure LA(P:Program)(w:World)(K:PySem.W.Frag)(mg:Str->Option Value)(base:Heap)(cN cR:Addr):Prop where
 need:∃f fd,Meth K cN "need_page" f/\AU P w K mg base (Ca P w) 4 f fd ["self","name"] (XI K cN cR)/\Binds K fd ["self","name"] []
 free:∃f fd,Meth K cN "need_free_name" f/\AU P w K mg base (Ca P w) 4 f fd ["self","name"] (Xf K cN cR)/\Binds K fd ["self","name"] []
 DE:∃f fd,Meth K cN "point_all_on" f/\AU P w K mg base Aa 2 f fd ["self","name","fresh"] (W6 cN)/\Binds K fd ["self","name","fresh"] []
 cnt:∃f fd,mg "count_pointers" =some (.ref f)/\keepIn K (.ref f)=true/\AU P w K mg base Aa 1 f fd ["pages","name"] YL/\Binds K fd ["pages","name"] []
theorem eR:A0 ["self","name","fresh"] ["self","name","fresh"] (Ao QC):=by ac_rfl
theorem bb(F:Ab K "rename_page" "Nook.rename_page" QC f fd)(C:EI K cN)(M:LA P w K mg base cN cR):AU P w K mg base (Ca P w) 5 f fd ["self","name","fresh"] (WJ K cN cR):=by
 obtain⟨f1,fd1,m1,G1,b1⟩:=M.need;obtain⟨f2,fd2,m2,G2,b2⟩:=M.free;obtain⟨f3,fd3,m3,G3,b3⟩:=M.DE;obtain⟨f4,fd4,m4,k4,G4,b4⟩:=M.cnt;refine HV F eR (fun vs H Q E h=>?_) (fun cdv A outer s H vs Q E hr h=>?_)
 ·obtain⟨a,d,n,m,AA,AD,rfl,_⟩:=h;rfl
 ·obtain⟨a,d,n,m,AA,AD,rfl,g,nc,hz,q⟩:=h;have hu1:=Ce hr;refine⟨_,(AW (Bn (DS (pv 0) C.cl m1 G1 hr b1 .nil ET (AE (pv 1) AI))) (AW (Bn (DS (pv 0) C.cl m2 G2 hr b2 .nil ET (AE (pv 2) AI)))
   (AW (Eh hu1 (Cr (pv 0) rfl) (pv 2) (IM (Cr (pv 0) rfl) (pv 1) ⟨rfl,rfl,rfl,rfl⟩) rfl)
   (AW (Bn (DS (pv 0) C.cl m3 G3 (hr.mono (by lia)) b3 .nil BB (AE (pv 1) (AE (pv 2) AI))))
   (AV (An (BJ G4 (hr.mono (by lia)) rfl m4 k4 b4 .nil BB (AE (Cr (pv 0) rfl) (AE (pv 2) AI))))))))),?_⟩;obtain⟨dx,hi⟩:=g.ins;unfold G9 at q;refine⟨_,rfl,a,dx,_,rfl,hi,rfl,_,rfl,a,d,n,AA,AD,rfl,g,fun ws hw H1 s1=>?_,fun hw=>by rw[hw] at q;exact q⟩;rw[hw] at q;have g1:=g.same s1;obtain⟨dx1,C2⟩:=g1.ins;refine⟨_,rfl,a,dx1,_,rfl,C2,rfl,_,rfl,a,d,m,AA,AD,rfl,g1,hz,fun en=>?_,fun w2 en hm=>?_,fun en hm H2 s2=>?_⟩
  ·dsimp only at q;rw[en,AG CS] at q;exact Xw.mono q s1
  ·dsimp only at q;rw[en,AH rfl,hm] at q;exact Xw.mono q s1
  ·dsimp only at q;rw[en,AH rfl,hm] at q;have g2:=g1.same s2;obtain⟨dx2,Ez⟩:=g2.ins;rcases g2.AD.get n with⟨_,z⟩|⟨v,ws',v1,v2,rw_⟩
   ·rw[hw] at z;cases z
   have ev:ws'=ws:=by rw[hw] at v2;exact(Ah v2).symm
   subst ev;have vv:Be (Aq AA) (.inr n)=some v:=by rw[GU];exact v1
   refine⟨_,rfl,a,cN,dx2,_,_,rfl,Ez,C.cl,C.nf,rfl,d,rfl,.inl ⟨_,.inl g2.Bo⟩,_,rfl,_,.inr n,_,g2.Bo,rfl,vv,?_⟩;rw[RR];have g3:=g2.upd (g2.AD.drop n);have r3:Rep (upd H2 d (.dK (Aq (AQ AA n)))) (DO ws') v:=(Lq g2.Bo rw_).same Ku;have s3:AS (Ex H d) (upd H2 d (.dK (Aq (AQ AA n)))):=((Ex.sub.trans s1).trans s2).upd Fs;generalize upd H2 d (.dK (Aq (AQ AA n)))=H3 at g3 s3 r3;obtain⟨dx3,EG⟩:=g3.ins;have dp:=DP.kq (k:=.inr m) (v:=v) g3.Bo (Lw g3.AD (by have:=MA hw;have:=nc.Cc;lia));rw[Ks] at dp;refine⟨_,rfl,a,cN,dx3,_,_,rfl,EG,C.cl,C.nf,rfl,_,rfl,d,_,rfl,dp,?_⟩;have g4:=g3.upd (g3.AD.put m r3);have s4:=s3.upd (o:=.dK (Aq (AZ (AQ AA n) m v))) Fs;generalize upd H3 d (.dK (Aq (AZ (AQ AA n) m v)))=H4 at g4 s4;obtain⟨dx4,Im⟩:=g4.ins;have nc4:C0 (AZ (AQ AD n) m ws'):=nc.moved hw;refine⟨_,rfl,a,dx4,_,rfl,Im,rfl,_,rfl,_,rfl,a,d,n,m,_,_,rfl,g4,nc4,fun H5 kvs5 s5 g5=>?_⟩;obtain⟨dx5,Jy⟩:=g5.ins;have s45:AS (Ex H d) H5:=by have:AS (Ex H d) (Ex H4 d):=Ex.of_none s4 Fs;exact this.trans s5
   refine⟨_,rfl,a,cN,dx5,_,_,rfl,Jy,C.cl,C.nf,rfl,_,rfl,d,m,kvs5,_,rfl,g5.Bo,g5.AD,U6 nc4.EH,fun H6 s6=>?_⟩;exact q H6 kvs5 _ (s45.trans s6) (g5.same s6) (.int _)
theorem Wq{l:Addr}{xs:List V}{w1 w2:List PR}(h:H l=some (.lst (xs++ys)))(r1:Am H (w1.map DL) xs)(r2:Am H (w2.map DL) ys):Rep H (DO (w1++w2)) (.ref l):=by
 refine Rep.LH h ⟨?_,fun i d x h1 h2=>?_⟩
 ·rw[BX,BC,BC,r1.1,r2.1]
 ·rw[BX] at h1;by_cases hi:i<xs.length
  ·rw[C9 hi] at h2;rw[C9 (by rw[r1.1];exact hi)] at h1;exact r1.2 i d x h1 h2
  ·rw[C4 (by lia)] at h2;rw[C4 (by rw[r1.1];lia),r1.1] at h1;exact r2.2 _ d x h1 h2
theorem C0.join{n o:Str}{w1 w2:List PR}(nc:C0 AD)(hno:n≠o)(h1:AF AD n=some w1)(h2:AF AD o=some w2):C0 (AZ (AQ AD o) n (w1++w2)):=by
 have h1':AF (AQ AD o) n=some w1:=by rw[Dv hno];exact h1
 refine⟨D1 (DC nc.nd),?_,?_⟩
 ·have a1:=GN (AQ AD o) n (w1++w2);have a2:=MA h2;have a3:=nc.Cc
  lia
 ·
  obtain⟨i,hi⟩:=Fn h1';rw[Ke (DC nc.nd) hi];have a2:=MB h2;have a3:=nc.BE;have key:∀(l:List Nat)(i x y:Nat),l[i]? =some y->(l.set i x).sum+y=l.sum+x:=by
   intro l
   induction l with
   |nil=>intro i x y h;simp at h
   |cons z l ih=>
    intro i x y h
    cases i with
    |zero=>
     have:z=y:=by simpa using h
     subst this;simp
     lia
    |succ i=>
     rw[UE,CM,CM];have:=ih i x y (by simpa using h)
     lia
  have k1:=key ((AQ AD o).map fun p:Pg=>wsum p.2) i (wsum (w1++w2)) (wsum w1) (by rw[Az,hi];rfl);have k2:=OF w1 w2;have e2:((AQ AD o).set i (n,w1++w2)).map (fun p:Pg=>wsum p.2)=((AQ AD o).map fun p:Pg=>wsum p.2).set i (wsum (w1++w2)):=by rw[List.map_set]
  unfold L2.BE at a2 a3⊢;rw[e2]
  lia
def XG(K:PySem.W.Frag)(cN cR:Addr):Sp:=fun vs H Q E=>∃a d n m AA AD,vs=[.ref a,.str n,.str m]/\CO cN H a d AA AD/\C0 AD/\Out K cN cR H a d Q E (E9 AD n m)
def Xd(K:PySem.W.Frag)(cN cR:Addr):Sp:=fun vs H Q E=>∃a d n AA AD,vs=[.ref a,.str n]/\CO cN H a d AA AD/\C0 AD/\Out K cN cR H a d Q E (HG AD n)
def R8(K:PySem.W.Frag)(cN cR:Addr):Sp:=fun vs H Q E=>∃a d n AA AD,vs=[.ref a,.str n]/\CO cN H a d AA AD/\C0 AD/\(∀ws,AF AD n=some ws->∀H',AS H H'->Q (.str (Ho ws)) H')/\(AF AD n=none->Xw K cR E H "no page")
def XR(cN:Addr):Sp:=fun vs H Q _=>∃a d n AA AD,vs=[.ref a,.str n]/\CO cN H a d AA AD/\C0 AD/\AD.length<64/\∀u H',AS H H'->Rep H' (.lst ((K5 (Gk AD n)).map Dt.str)) u->Q u H'
theorem XS:A0 ["self","name","other","behind"] ["self","name","other"] (Ao QL):=by ac_rfl
theorem iI(F:Ab K "join_pages" "Nook.join_pages" QL f fd)(C:EI K cN)(M:LA P w K mg base cN cR)(R:Rz P w K mg base cR "SamePage" "same page"):AU P w K mg base (Ca P w) 5 f fd ["self","name","other"] (XG K cN cR):=by
 obtain⟨f1,fd1,m1,G1,b1⟩:=M.need;obtain⟨f3,fd3,m3,G3,b3⟩:=M.DE;obtain⟨f4,fd4,m4,k4,G4,b4⟩:=M.cnt;refine HV F XS (fun vs H Q E h=>?_) (fun cdv A outer s H vs Q E hr h=>?_)
 ·obtain⟨a,d,n,m,AA,AD,rfl,_⟩:=h;rfl
 ·obtain⟨a,d,n,m,AA,AD,rfl,g,nc,q⟩:=h;have hu1:=Ce hr;refine⟨_,(AW (Bn (DS (pv 0) C.cl m1 G1 hr b1 .nil ET (AE (pv 1) AI))) (AW (Bn (DS (pv 0) C.cl m1 G1 hr b1 .nil ET (AE (pv 2) AI)))
   (AW (A1 (Av BV (pv 1) (pv 2) (As _)) (AV (Jh (k:=1) R hr rfl)) BF)
   (AW (Ax (i:=3) XS.nd rfl (Ad rfl) (IM (Cr (pv 0) rfl) (pv 2) ⟨rfl,rfl,rfl,rfl⟩))
   (AW (Eh hu1 (Cr (pv 0) rfl) (pv 1) (Al Kp (BQ hu1 (Cr (pv 0) rfl) (pv 1) (fun _ _=>rfl)) (pv 3)) rfl)
   (AW (Bn (DS (pv 0) C.cl m3 G3 (hr.mono (by lia)) b3 .nil BB (AE (pv 2) (AE (pv 1) AI))))
   (AV (An (BJ G4 (hr.mono (by lia)) rfl m4 k4 b4 .nil BB (AE (Cr (pv 0) rfl) (AE (pv 1) AI))))))))))),?_⟩;obtain⟨dx,hi⟩:=g.ins;unfold E9 at q;refine⟨_,rfl,a,dx,_,rfl,hi,rfl,_,rfl,a,d,n,AA,AD,rfl,g,fun w1 hw1 H1 s1=>?_,fun hw=>by rw[hw] at q;exact q⟩;rw[hw1] at q;have g1:=g.same s1;obtain⟨dx1,C2⟩:=g1.ins;refine⟨_,rfl,a,dx1,_,rfl,C2,rfl,_,rfl,a,d,m,AA,AD,rfl,g1,fun w2 hw2 H2 s2=>?_,fun hw=>by dsimp only at q;rw[hw] at q;exact Xw.mono q s1⟩;dsimp only at q;rw[hw2] at q;refine⟨_,rfl,_,rfl,rfl,_,rfl,?_⟩;have hce:(H:Hp)->AS (Ex H d) H:=fun _=>Ex.sub;by_cases hnm:n=m
  ·dsimp only at q;rw[AH hnm] at q;refine B1 (by rw[hnm]) (Xw.mono q (s1.trans s2))
  ·dsimp only at q;rw[AG hnm] at q;refine CN (fun z=>hnm (V.str.inj z)) ?_;have g2:=g1.same s2;obtain⟨dx2,Ez⟩:=g2.ins;rcases g2.AD.get m with⟨_,z⟩|⟨v,ws',v1,v2,rw_⟩
   ·rw[hw2] at z;cases z
   have ev:ws'=w2:=by rw[hw2] at v2;exact(Ah v2).symm
   subst ev;have vv:Be (Aq AA) (.inr m)=some v:=by rw[GU];exact v1
   refine⟨_,rfl,a,cN,dx2,_,_,rfl,Ez,C.cl,C.nf,rfl,d,rfl,.inl ⟨_,.inl g2.Bo⟩,_,rfl,_,.inr m,_,g2.Bo,rfl,vv,?_⟩;rw[RR];have g3:=g2.upd (g2.AD.drop m);have r3:Rep (upd H2 d (.dK (Aq (AQ AA m)))) (DO ws') v:=(Lq g2.Bo rw_).same Ku;have s3:AS (Ex H d) (upd H2 d (.dK (Aq (AQ AA m)))):=((Ex.sub.trans s1).trans s2).upd Fs;generalize upd H2 d (.dK (Aq (AQ AA m)))=H3 at g3 s3 r3;obtain⟨dx3,EG⟩:=g3.ins;have hw1':AF (AQ AD m) n=some w1:=by rw[Dv hnm];exact hw1
   rcases g3.AD.get n with⟨_,z⟩|⟨u,ws1,u1,u2,ru⟩
   ·rw[hw1'] at z;cases z
   have ev1:ws1=w1:=by rw[hw1'] at u2;exact(Ah u2).symm
   subst ev1;have dg:BN H3 d (.str n) (some u):=by have:=BN.kq (k:=.inr n) g3.Bo;rw[GU,u1] at this;exact this
   obtain⟨l1,xs1,rfl,hl1,rr1⟩:=Eg ru;obtain⟨l2,xs2,rfl,hl2,rr2⟩:=Eg r3;have z1:xs1.length<=100000:=by have h1:=rr1.1;rw[AL] at h1;have h2:ws1.length<=100000:=nc.EH.short (n,ws1) (by obtain⟨i,hi⟩:=Fn hw1;exact CL hi);lia
   have z2:xs2.length<=100000:=by have h1:=rr2.1;rw[AL] at h1;have h2:ws'.length<=100000:=nc.EH.short (m,ws') (by obtain⟨i,hi⟩:=Fn hw2;exact CL hi);lia
   refine⟨_,rfl,a,cN,dx3,_,_,rfl,EG,C.cl,C.nf,rfl,_,rfl,d,_,rfl,dg,_,rfl,l1,l2,_,_,rfl,rfl,hl1,hl2,by rw[BA];lia,fun l hl=>?_⟩;have s4:=Ak (o:=.lst (xs1++xs2)) hl;have g4:=g3.same s4;have r4:Rep (upd H3 l (.lst (xs1++xs2))) (DO (ws1++ws')) (.ref l):=Wq AR (rr1.same s4) (rr2.same s4);have s4':=s3.trans s4;generalize upd H3 l (.lst (xs1++xs2))=H4 at g4 r4 s4';obtain⟨dx4,Im⟩:=g4.ins;have dp:=DP.kq (k:=.inr n) (v:=.ref l) g4.Bo (Lw g4.AD (by have:=MA hw2;have:=nc.Cc;lia));rw[Ks] at dp;refine⟨_,rfl,a,cN,dx4,_,_,rfl,Im,C.cl,C.nf,rfl,_,rfl,d,_,rfl,dp,?_⟩;have g5:=g4.upd (g4.AD.put n r4);have s5:=s4'.upd (o:=.dK (Aq (AZ (AQ AA m) n (.ref l)))) Fs;generalize upd H4 d (.dK (Aq (AZ (AQ AA m) n (.ref l))))=H5 at g5 s5;obtain⟨dx5,Jy⟩:=g5.ins;have nc5:C0 (AZ (AQ AD m) n (ws1++ws')):=nc.join hnm hw1 hw2;refine⟨_,rfl,a,dx5,_,rfl,Jy,rfl,_,rfl,_,rfl,a,d,m,n,_,_,rfl,g5,nc5,fun H6 kvs6 s6 g6=>?_⟩;obtain⟨dx6,TL⟩:=g6.ins;have s56:AS (Ex H d) H6:=(Ex.of_none s5 Fs).trans s6;refine⟨_,rfl,a,cN,dx6,_,_,rfl,TL,C.cl,C.nf,rfl,_,rfl,d,n,kvs6,_,rfl,g6.Bo,g6.AD,U6 nc5.EH,fun H7 s7=>?_⟩;exact q H7 kvs6 _ (s56.trans s7) (g6.same s7) (.int _)
theorem Xy:A0 ["self","name","led"] ["self","name"] (Ao QT):=by ac_rfl
theorem gz(F:Ab K "drop_page" "Nook.drop_page" QT f fd)(C:EI K cN)(M:LA P w K mg base cN cR):AU P w K mg base (Ca P w) 5 f fd ["self","name"] (Xd K cN cR):=by
 obtain⟨f1,fd1,m1,G1,b1⟩:=M.need;obtain⟨f4,fd4,m4,k4,G4,b4⟩:=M.cnt;refine HV F Xy (fun vs H Q E h=>?_) (fun cdv A outer s H vs Q E hr h=>?_)
 ·obtain⟨a,d,n,AA,AD,rfl,_⟩:=h;rfl
 ·obtain⟨a,d,n,AA,AD,rfl,g,nc,q⟩:=h;have hu1:=Ce hr;refine⟨_,(AW (Bn (DS (pv 0) C.cl m1 G1 hr b1 .nil ET (AE (pv 1) AI))) (AW (Ax (i:=2) Xy.nd rfl (Ad rfl) (BJ G4 (hr.mono (by lia)) rfl m4 k4 b4 .nil BB (AE (Cr (pv 0) rfl) (AE (pv 1) AI))))
   (AW (Bn (IM (Cr (pv 0) rfl) (pv 1) ⟨rfl,rfl,rfl,rfl⟩)) (AV (An (pv 2)))))),?_⟩;obtain⟨dx,hi⟩:=g.ins;unfold HG at q;refine⟨_,rfl,a,dx,_,rfl,hi,rfl,_,rfl,a,d,n,AA,AD,rfl,g,fun ws hw H1 s1=>?_,fun hw=>by rw[hw] at q;exact q⟩;rw[hw] at q;have g1:=g.same s1;obtain⟨dx1,C2⟩:=g1.ins;refine⟨_,rfl,a,cN,dx1,_,_,rfl,C2,C.cl,C.nf,rfl,_,rfl,d,n,AA,_,rfl,g1.Bo,g1.AD,nc.EH,fun H2 s2=>?_⟩;have g2:=g1.same s2;obtain⟨dx2,Ez⟩:=g2.ins;rcases g2.AD.get n with⟨_,z⟩|⟨v,ws',v1,v2,rw_⟩
  ·rw[hw] at z;cases z
  have vv:Be (Aq AA) (.inr n)=some v:=by rw[GU];exact v1
  refine⟨_,rfl,a,cN,dx2,_,_,rfl,Ez,C.cl,C.nf,rfl,d,rfl,.inl ⟨_,.inl g2.Bo⟩,_,rfl,_,.inr n,_,g2.Bo,rfl,vv,?_⟩;rw[RR];have g3:=g2.upd (g2.AD.drop n);have s3:AS (Ex H d) (upd H2 d (.dK (Aq (AQ AA n)))):=((Ex.sub.trans s1).trans s2).upd Fs;exact⟨_,rfl,q _ _ _ s3 g3 (.int _)⟩
theorem jF:A0 ["self","name"] ["self","name"] (Ao Qe):=by ac_rfl
variable{fdT:FuncData}
theorem Wm{fT:Addr}(F:Ab K "text_of" "Nook.text_of" Qe f fd)(C:EI K cN)(M:LA P w K mg base cN cR)(GT:AU P w K mg base Aa 2 fT fdT ["words"] Y6)(bT:Binds K fdT ["words"] [])(mT:mg "tell_text" =some (.ref fT))(kT:keepIn K (.ref fT)=true):
 AU P w K mg base (Ca P w) 5 f fd ["self","name"] (R8 K cN cR):=by
 obtain⟨f1,fd1,m1,G1,b1⟩:=M.need;refine HV F jF (fun vs H Q E h=>?_) (fun cdv A outer s H vs Q E hr h=>?_)
 ·obtain⟨a,d,n,AA,AD,rfl,_⟩:=h;rfl
 ·obtain⟨a,d,n,AA,AD,rfl,g,nc,q,qx⟩:=h;have hu1:=Ce hr;refine⟨_,(AW (Bn (DS (pv 0) C.cl m1 G1 hr b1 .nil ET (AE (pv 1) AI))) (AV (An (BJ GT (hr.mono (by lia)) rfl mT kT bT .nil BB (AE (BQ hu1 (Cr (pv 0) rfl) (pv 1) (fun _ _=>rfl)) AI))))),?_⟩;obtain⟨dx,hi⟩:=g.ins;refine⟨_,rfl,a,dx,_,rfl,hi,rfl,_,rfl,a,d,n,AA,AD,rfl,g,fun ws hw H1 s1=>?_,qx⟩;have g1:=g.same s1;obtain⟨dx1,C2⟩:=g1.ins;rcases g1.AD.get n with⟨_,z⟩|⟨v,ws',v1,v2,rw_⟩
  ·rw[hw] at z;cases z
  have ev:ws'=ws:=by rw[hw] at v2;exact(Ah v2).symm
  subst ev;have dg:BN H1 d (.str n) (some v):=by have:=BN.kq (k:=.inr n) g1.Bo;rw[GU,v1] at this;exact this
  refine⟨_,rfl,a,cN,dx1,_,_,rfl,C2,C.cl,C.nf,rfl,_,rfl,d,_,rfl,dg,v,ws',rfl,rw_,?_,fun H2 s2=>q ws' hw H2 (s1.trans s2)⟩;have h1:=nc.BE;obtain⟨i,hi⟩:=Fn hw;have h2:=Ki (CL hi);show wsum ws'<=_;have h3:wsum ws'<=BE AD:=h2
  lia
theorem jc:A0 ["self","name"] ["self","name"] (Ao QS):=by ac_rfl
theorem gN{fT:Addr}(F:Ab K "back_from" "Nook.back_from" QS f fd)(C:EI K cN)(GT:AU P w K mg base Aa 1 fT fdT ["pages","name"] X8)(bT:Binds K fdT ["pages","name"] [])(mT:mg "pages_pointing" =some (.ref fT))(kT:keepIn K (.ref fT)=true):
 AU P w K mg base Aa 2 f fd ["self","name"] (XR cN):=by
 refine F.ok jc (fun vs H Q E h=>?_) (fun cdv A outer s H vs Q E hr h=>?_)
 ·obtain⟨a,d,n,AA,AD,rfl,_⟩:=h;rfl
 ·obtain⟨a,d,n,AA,AD,rfl,g,nc,h64,q⟩:=h;refine⟨_,(AV (An (BJ GT hr rfl mT kT bT .nil BB (AE (Cr (pv 0) rfl) (AE (pv 1) AI))))),?_⟩;obtain⟨dx,hi⟩:=g.ins;exact⟨_,rfl,a,cN,dx,_,_,rfl,hi,C.cl,C.nf,rfl,_,rfl,d,n,AA,_,rfl,g.Bo,g.AD,nc.EH,h64,fun u H1 s1 r=>q u H1 s1 r⟩
theorem Vl{xs:List V}{pl:Int}(h0:0<=pl)(h1:pl<=xs.length):EA xs (some pl) none=xs.drop pl.toNat:=by
 unfold EA;have e1:A9 xs.length 0 (some pl)=pl.toNat:=by
  show(if pl<0 then _ else min pl.toNat xs.length)=_;rw[AG (by lia)]
  lia
 rw[e1];show(xs.drop pl.toNat).take (xs.length-pl.toNat)=_;rw[F7 (by rw[Dq];exact Ac _)]
theorem XY{xs:List V}{pl:Int}(h0:0<=pl)(h1:pl<=xs.length):EA xs none (some pl)=xs.take pl.toNat:=by
 unfold EA;have e1:A9 xs.length xs.length (some pl)=pl.toNat:=by
  show(if pl<0 then _ else min pl.toNat xs.length)=_;rw[AG (by lia)]
  lia
 rw[e1];show(xs.drop 0).take (pl.toNat-0)=_;rw[Np,Nat.sub_zero]
theorem cK{ws:List PR}{xs:List V}(r:Am H (ws.map DL) xs)(k:Nat):Am H ((ws.drop k).map DL) (xs.drop k):=by
 refine⟨?_,fun i d x h1 h2=>?_⟩
 ·have:=r.1;rw[AL] at this;rw[AL,Dq,Dq,this]
 ·rw[Nv,J8] at h1;rw[J8] at h2;exact r.2 _ d x h1 h2
theorem bx{ws:List PR}{xs:List V}(r:Am H (ws.map DL) xs)(k:Nat):Am H ((ws.take k).map DL) (xs.take k):=by
 refine⟨?_,fun i d x h1 h2=>?_⟩
 ·have:=r.1;rw[AL] at this;rw[AL,Bg,Bg,this]
 ·rw[Nu] at h1;by_cases hi:i<k
  ·rw[List.getElem?_take_of_lt hi] at h1 h2;exact r.2 _ d x h1 h2
  ·rw[QF,AG hi] at h2;cases h2
theorem dn{t:Addr}(h:H t=some (.tup (FV p))):Am H ([p].map DL) [.ref t]:=by
 refine⟨rfl,fun i d x h1 h2=>?_⟩
 match i with
 |0=>cases h1;cases h2;exact R9 h
 |i+1=>simp at h1
def YA(K:PySem.W.Frag)(cN cR:Addr):Sp:=fun vs H Q E=>∃a d n pl m AA AD,vs=[.ref a,.str n,.int pl,.str m]/\CO cN H a d AA AD/\C0 AD/\m.length<=100000/\Out K cN cR H a d Q E (HJ AD n pl m)
def WY(cN:Addr):Sp:=fun vs H Q _=>∃a dx,vs=[.ref a]/\H a=some (.ins cN dx [])/\∀H' d,H d=none->d≠a->AS (Ex H a) H'->CO cN H' a d [] []->Q .A3 H'
theorem YX:A0 ["self","name","place","fresh","words"] ["self","name","place","fresh"] (Ao QZ):=by ac_rfl
theorem jU(F:Ab K "cut_page" "Nook.cut_page" QZ f fd)(C:EI K cN)(M:LA P w K mg base cN cR)(R:Rz P w K mg base cR "NoPlace" "no place")(O:Gh mg):AU P w K mg base (Ca P w) 5 f fd ["self","name","place","fresh"] (YA K cN cR):=by
 obtain⟨f1,fd1,m1,G1,b1⟩:=M.need;obtain⟨f2,fd2,m2,G2,b2⟩:=M.free;refine HV F YX (fun vs H Q E h=>?_) (fun cdv A outer s H vs Q E hr h=>?_)
 ·obtain⟨a,d,n,pl,m,AA,AD,rfl,_⟩:=h;rfl
 ·obtain⟨a,d,n,pl,m,AA,AD,rfl,g,nc,hz,q⟩:=h;have hu1:=Ce hr;refine⟨_,(AW (Bn (DS (pv 0) C.cl m1 G1 hr b1 .nil ET (AE (pv 1) AI))) (AW (Bn (DS (pv 0) C.cl m2 G2 hr b2 .nil ET (AE (pv 3) AI)))
   (AW (Ax (i:=4) YX.nd rfl (Ad rfl) (BQ hu1 (Cr (pv 0) rfl) (pv 1) (fun _ _=>rfl)))
   (AW (A1 (PW.pt (Jb (Av IZ (pv 2) AK (As _)) (JS (Av SU (pv 2) (Bc Hh rfl O.len Dg (AE (pv 4) AI)) (As _))))) (AV (Jh (k:=1) R hr rfl)) BF)
   (AW (Eh hu1 (Cr (pv 0) rfl) (pv 3) (Fl OW (pv 4) (DV (pv 2)) Kl) rfl)
   (AW (Eh hu1 (Cr (pv 0) rfl) (pv 1) (Al Kp (Fl OW (pv 4) Kl (DV (pv 2))) (CY (AE (Cd (AE AX (AE (pv 3) AI))) AI))) rfl)
   (AV (An (Bc Hh rfl O.len Dg (AE (BQ hu1 (Cr (pv 0) rfl) (pv 3) (fun _ _=>rfl)) AI)))))))))),?_⟩;obtain⟨dx,hi⟩:=g.ins;unfold HJ at q;refine⟨_,rfl,a,dx,_,rfl,hi,rfl,_,rfl,a,d,n,AA,AD,rfl,g,fun ws hw H1 s1=>?_,fun hw=>by rw[hw] at q;exact q⟩;rw[hw] at q;have g1:=g.same s1;obtain⟨dx1,C2⟩:=g1.ins;refine⟨_,rfl,a,dx1,_,rfl,C2,rfl,_,rfl,a,d,m,AA,AD,rfl,g1,hz,fun en=>?_,fun w2 en hm=>?_,fun en hm H2 s2=>?_⟩
  ·dsimp only at q;rw[en,AG CS] at q;exact Xw.mono q s1
  ·dsimp only at q;rw[en,AH rfl,hm] at q;exact Xw.mono q s1
  ·dsimp only at q;rw[en,AH rfl,hm] at q;dsimp only at q;have g2:=g1.same s2;obtain⟨dx2,Ez⟩:=g2.ins;rcases g2.AD.get n with⟨_,z⟩|⟨v,ws',v1,v2,rw_⟩
   ·rw[hw] at z;cases z
   have ev:ws'=ws:=by rw[hw] at v2;exact(Ah v2).symm
   subst ev;have dg:BN H2 d (.str n) (some v):=by have:=BN.kq (k:=.inr n) g2.Bo;rw[GU,v1] at this;exact this
   obtain⟨l,xs,rfl,hl,rr⟩:=Eg rw_;have el:xs.length=ws'.length:=by have:=rr.1;rw[AL] at this;exact this.symm
   have zl:xs.length<=100000:=by have h2:ws'.length<=100000:=nc.EH.short (n,ws') (by obtain⟨i,hi⟩:=Fn hw;exact CL hi);lia
   refine⟨_,rfl,a,cN,dx2,_,_,rfl,Ez,C.cl,C.nf,rfl,_,rfl,d,_,rfl,dg,?_⟩;refine⟨_,rfl,_,_,rfl,rfl,_,rfl,?_⟩;by_cases c1:pl<0
   ·rw[AH (.inl c1)] at q;refine B1 c1 ?_;exact Bf (Xw.mono q (s1.trans s2))
   refine CN c1 ⟨_,rfl,_,rfl,l,xs,rfl,.inl (AN.of hl),_,_,rfl,rfl,_,rfl,?_⟩;by_cases c2:(xs.length:Int)<pl
   ·rw[AH (.inr (by rw[<-el];exact c2))] at q;exact B1 c2 (Xw.mono q (s1.trans s2))
   refine CN c2 ?_;rw[AG (by rw[<-el];exact fun z=>z.elim c1 c2)] at q;have p0:0<=pl:=by lia
   have p1:pl<=xs.length:=by lia
   refine⟨_,rfl,_,rfl,_,rfl,l,xs,rfl,AN.of hl,fun l3 hl3=>?_⟩;rw[Vl p0 p1];have s3:=Ak (o:=.lst (xs.drop pl.toNat)) hl3;have g3:=g2.same s3;have r3:Rep (upd H2 l3 (.lst (xs.drop pl.toNat))) (DO (ws'.drop pl.toNat)) (.ref l3):=Rep.LH AR ((cK rr _).same s3);have s3':AS (Ex H d) (upd H2 l3 (.lst (xs.drop pl.toNat))):=((Ex.sub.trans s1).trans s2).trans s3;have hl':=s3 _ _ hl;have rr':=rr.same s3;generalize upd H2 l3 (.lst (xs.drop pl.toNat))=H3 at g3 r3 s3' hl' rr';obtain⟨dx3,EG⟩:=g3.ins;have dp:=DP.kq (k:=.inr m) (v:=.ref l3) g3.Bo (Lw g3.AD (BI nc.Cc (by lia)));rw[Ks] at dp;refine⟨_,rfl,a,cN,dx3,_,_,rfl,EG,C.cl,C.nf,rfl,_,rfl,d,_,rfl,dp,?_⟩;have g4:=g3.upd (g3.AD.put m r3);have s4:=s3'.upd (o:=.dK (Aq (AZ AA m (.ref l3)))) Fs;have hl4:(upd H3 d (.dK (Aq (AZ AA m (.ref l3))))) l=some (.lst xs):=by rw[AO (CT hl' g3.Bo (by intro z;cases z))];exact hl'
   have rr4:Am (upd H3 d (.dK (Aq (AZ AA m (.ref l3))))) (ws'.map DL) xs:=by obtain⟨l0,xs0,e0,h0,r0⟩:=Eg ((Lq g3.Bo (Rep.LH hl' rr')).same (Ku (o:=.dK (Aq (AZ AA m (.ref l3))))));cases e0;rw[hl4] at h0;cases h0;exact r0
   generalize upd H3 d (.dK (Aq (AZ AA m (.ref l3))))=H4 at g4 s4 hl4 rr4;refine⟨_,rfl,_,rfl,_,rfl,l,xs,rfl,AN.of hl4,fun l5 hl5=>⟨_,rfl,(by show 2<=sizeLine;decide),fun t ht=>⟨(by show 1<=sizeLine;decide),fun l6 hl6=>?_⟩⟩⟩;rw[XY p0 p1] at ht hl6⊢;have s5:=Ak (o:=.lst (xs.take pl.toNat)) hl5;have s6:=Ak (o:=.tup [.str "to",.str m]) ht;have s7:=Ak (o:=.lst [.ref t]) hl6;have s57:=s5.trans (s6.trans s7);have h5:=(s6.trans s7) _ _ (AR (H:=H4) (a:=l5) (o:=.lst (xs.take pl.toNat)));have h6:=s7 _ _ (AR (a:=t) (o:=.tup [.str "to",.str m]) (H:=upd H4 l5 (.lst (xs.take pl.toNat))));have h7:=AR (a:=l6) (o:=.lst [V.ref t]) (H:=upd (upd H4 l5 (.lst (xs.take pl.toNat))) t (.tup [.str "to",.str m]));have g7:=g4.same s57;have rr7:=rr4.same s57;have s7':=s4.trans s57;generalize upd (upd (upd H4 l5 (.lst (xs.take pl.toNat))) t (.tup [.str "to",.str m])) l6 (.lst [V.ref t])=H7 at h5 h6 h7 g7 rr7 s7';refine⟨l5,l6,_,_,rfl,rfl,h5,h7,by rw[Bg,BA,EK];lia,fun l8 hl8=>?_⟩;have s8:=Ak (o:=.lst (xs.take pl.toNat++[.ref t])) hl8;have g8:=g7.same s8;have r8:Rep (upd H7 l8 (.lst (xs.take pl.toNat++[.ref t]))) (DO (ws'.take pl.toNat++[(("to" :Str),m)])) (.ref l8):=Wq AR ((bx rr7 _).same s8) (dn (s8 _ _ h6));have s8':=s7'.trans s8;generalize upd H7 l8 (.lst (xs.take pl.toNat++[.ref t]))=H8 at g8 r8 s8';obtain⟨dx8,Pn⟩:=g8.ins;have dp8:=DP.kq (k:=.inr n) (v:=.ref l8) g8.Bo (Lw g8.AD (by have:=GN AD m (ws'.drop pl.toNat);have:=nc.Cc;lia));rw[Ks] at dp8;refine⟨_,rfl,a,cN,dx8,_,_,rfl,Pn,C.cl,C.nf,rfl,_,rfl,d,_,rfl,dp8,?_⟩;have g9:=g8.upd (g8.AD.put n r8);have s9:=s8'.upd (o:=.dK (Aq (AZ (AZ AA m (.ref l3)) n (.ref l8)))) Fs;generalize upd H8 d (.dK (Aq (AZ (AZ AA m (.ref l3)) n (.ref l8))))=H9 at g9 s9;obtain⟨dx9,ND⟩:=g9.ins;have hmn:m≠n:=fun z=>by rw[z,hw] at hm;cases hm
   rcases g9.AD.get m with⟨_,z⟩|⟨u,wu,u1,u2,ru⟩
   ·rw[Cn,AG hmn,Cn,AH rfl] at z;cases z
   have eu:wu=ws'.drop pl.toNat:=by rw[Cn,AG hmn,Cn,AH rfl] at u2;exact(Ah u2).symm
   subst eu;have dg9:BN H9 d (.str m) (some u):=by have:=BN.kq (k:=.inr m) g9.Bo;rw[GU,u1] at this;exact this
   obtain⟨lu,xu,rfl,hlu,rru⟩:=Eg ru;refine⟨_,rfl,a,cN,dx9,_,_,rfl,ND,C.cl,C.nf,rfl,_,rfl,d,_,rfl,dg9,lu,xu,rfl,.inl (AN.of hlu),?_⟩;have elu:xu.length=(ws'.drop pl.toNat).length:=by have:=rru.1;rw[AL] at this;exact this.symm
   rw[elu];exact q _ _ _ s9 g9 (.int _)
theorem gA:A0 ["self"] ["self"] (Ao Qu):=by ac_rfl
theorem dB(F:Ab K "__init__" "Nook.__init__" Qu f fd)(C:EI K cN):AU P w K mg base Aa 1 f fd ["self"] (WY cN):=by
 refine F.ok gA (fun vs H Q E h=>?_) (fun cdv A outer s H vs Q E hr h=>?_)
 ·obtain⟨a,dx,rfl,_⟩:=h;rfl
 ·obtain⟨a,dx,rfl,hi,q⟩:=h;refine⟨_,(AV (jP (pv 0) OL rfl)),fun d hd=>?_⟩;have s1:=Ak (o:=.dK []) hd;have nd:d≠a:=fun z=>by rw[z,hi] at hd;cases hd
  have C2:=s1 _ _ hi;refine⟨_,rfl,a,cN,dx,_,rfl,C2,C.cl,C.nf,(by show 0<1000;decide),?_⟩;refine q _ d hd nd ?_ ⟨⟨dx,AR⟩,by rw[AO nd];exact AR,⟨rfl,fun i kv p e=>by simp at e⟩⟩;exact(Ex.sub.trans s1).upd (by unfold Ex;rw[AH rfl])
def HH(AD:List Pg):A8->Rs
 |.write n t=>HE AD n t
 |.rename n m=>G9 AD n m
 |.join n o=>E9 AD n o
 |.cut n p m=>HJ AD n p m
 |.drop n=>HG AD n
 |.text n=>GQ AD n
 |.back n=>jm AD n
 |.find ws far=>if ws=[] then .no "no words" else .un AD
def Xl(K:PySem.W.Frag)(cN cR:Addr):Sp:=fun vs H Q E=>∃a d v ws far AA AD,vs=[.ref a,v,.int far]/\CO cN H a d AA AD/\C0 AD/\AD.length<64/\Rep H (.tup (ws.map Dt.str)) v/\ws.length<=9/\Out K cN cR H a d Q E (if ws=[] then .no "no words" else .un AD)
def Ss(K:PySem.W.Frag)(cN cR:Addr):Sp:=fun vs H Q E=>∃a d v x AA AD,vs=[.ref a,v]/\CO cN H a d AA AD/\C0 AD/\AD.length<64/\Rep H (A8.dt x) v/\x.Good/\Out K cN cR H a d Q E (HH AD x)
structure ZR(P:Program)(w:World)(K:PySem.W.Frag)(mg:Str->Option Value)(base:Heap)(cN cR:Addr):Prop where
 write:∃f fd,Meth K cN "write_page" f/\AU P w K mg base (Ca P w) 4 f fd ["self","name","text"] (WR K cN cR)/\Binds K fd ["self","name","text"] []
 rename:∃f fd,Meth K cN "rename_page" f/\AU P w K mg base (Ca P w) 5 f fd ["self","name","fresh"] (WJ K cN cR)/\Binds K fd ["self","name","fresh"] []
 join:∃f fd,Meth K cN "join_pages" f/\AU P w K mg base (Ca P w) 5 f fd ["self","name","other"] (XG K cN cR)/\Binds K fd ["self","name","other"] []
 cut:∃f fd,Meth K cN "cut_page" f/\AU P w K mg base (Ca P w) 5 f fd ["self","name","place","fresh"] (YA K cN cR)/\Binds K fd ["self","name","place","fresh"] []
 drop:∃f fd,Meth K cN "drop_page" f/\AU P w K mg base (Ca P w) 5 f fd ["self","name"] (Xd K cN cR)/\Binds K fd ["self","name"] []
 text:∃f fd,Meth K cN "text_of" f/\AU P w K mg base (Ca P w) 5 f fd ["self","name"] (R8 K cN cR)/\Binds K fd ["self","name"] []
 back:∃f fd,Meth K cN "back_from" f/\AU P w K mg base Aa 2 f fd ["self","name"] (XR cN)/\Binds K fd ["self","name"] []
 find:∃f fd,Meth K cN "find_pages" f/\AU P w K mg base (Ca P w) 5 f fd ["self","wanted","near"] (Xl K cN cR)/\Binds K fd ["self","wanted","near"] []
theorem Y8:A0 ["nook","deed","kind"] ["nook","deed"] (Ao Q5):=by ac_rfl
theorem jn(F:Ab K "do_deed" "do_deed" Q5 f fd)(C:EI K cN)(M:ZR P w K mg base cN cR):AU P w K mg base (Ca P w) 6 f fd ["nook","deed"] (Ss K cN cR):=by
 obtain⟨f1,fd1,m1,G1,b1⟩:=M.write;obtain⟨f2,fd2,m2,G2,b2⟩:=M.rename;obtain⟨f3,fd3,m3,G3,b3⟩:=M.join;obtain⟨f4,fd4,m4,G4,b4⟩:=M.cut;obtain⟨f5,fd5,m5,G5,b5⟩:=M.drop;obtain⟨f6,fd6,m6,G6,b6⟩:=M.text;obtain⟨f7,fd7,m7,G7,b7⟩:=M.back;obtain⟨f8,fd8,m8,G8,b8⟩:=M.find;refine HV F Y8 (fun vs H Q E h=>?_) (fun cdv A outer s H vs Q E hr h=>?_)
 ·obtain⟨a,d,v,x,AA,AD,rfl,_⟩:=h;rfl
 ·obtain⟨a,d,v,x,AA,AD,rfl,g,nc,h64,rx,good,q⟩:=h;refine⟨_,(AW (Ax (i:=2) Y8.nd rfl (Ad rfl) (Ag DW (pv 1) AK (fun _ _=>rfl)))
   (AW (A1 (Av BV (pv 2) AX (As _)) (AV (An (DS (pv 0) C.cl m1 G1 (hr.mono (by lia)) b1 .nil ET (AE (Ag DW (pv 1) AK (fun _ _=>rfl)) (AE (Ag DW (pv 1) AK (fun _ _=>rfl)) AI))))) BF)
   (AW (A1 (Av BV (pv 2) AX (As _)) (AV (An (DS (pv 0) C.cl m2 G2 hr b2 .nil ET (AE (Ag DW (pv 1) AK (fun _ _=>rfl)) (AE (Ag DW (pv 1) AK (fun _ _=>rfl)) AI))))) BF)
   (AW (A1 (Av BV (pv 2) AX (As _)) (AV (An (DS (pv 0) C.cl m3 G3 hr b3 .nil ET (AE (Ag DW (pv 1) AK (fun _ _=>rfl)) (AE (Ag DW (pv 1) AK (fun _ _=>rfl)) AI))))) BF)
   (AW (A1 (Av BV (pv 2) AX (As _)) (AV (An (DS (pv 0) C.cl m4 G4 hr b4 .nil ET (AE (Ag DW (pv 1) AK (fun _ _=>rfl)) (AE (Ag DW (pv 1) AK (fun _ _=>rfl)) (AE (Ag DW (pv 1) AK (fun _ _=>rfl)) AI)))))) BF)
   (AW (A1 (Av BV (pv 2) AX (As _)) (AV (An (DS (pv 0) C.cl m5 G5 hr b5 .nil ET (AE (Ag DW (pv 1) AK (fun _ _=>rfl)) AI)))) BF)
   (AW (A1 (Av BV (pv 2) AX (As _)) (AV (An (DS (pv 0) C.cl m6 G6 hr b6 .nil ET (AE (Ag DW (pv 1) AK (fun _ _=>rfl)) AI)))) BF)
   (AW (A1 (Av BV (pv 2) AX (As _)) (AV (An (DS (pv 0) C.cl m7 G7 (hr.mono (by lia)) b7 .nil BB (AE (Ag DW (pv 1) AK (fun _ _=>rfl)) AI)))) BF)
   (AV (An (DS (pv 0) C.cl m8 G8 hr b8 .nil ET (AE (Ag DW (pv 1) AK (fun _ _=>rfl)) (AE (Ag DW (pv 1) AK (fun _ _=>rfl)) AI))))))))))))),?_⟩;obtain⟨dx,hi⟩:=g.ins
  cases x with
  |write n t=>obtain⟨ad,xs,rfl,had,rr⟩:=CC rx;obtain⟨u1,u2,u3,rfl,r1,r2,r3⟩:=EU rr;cases r1;cases r2;cases r3;refine⟨_,rfl,ad,_,_,_,rfl,rfl,AY.of had,Bv (j:=0) rfl,?_⟩;refine Ir rfl ?_;exact⟨_,rfl,a,dx,_,rfl,hi,rfl,_,rfl,ad,_,_,_,rfl,rfl,AY.of had,Bv (j:=1) rfl,_,rfl,ad,_,_,_,rfl,rfl,AY.of had,Bv (j:=2) rfl,a,d,n,t,AA,AD,rfl,g,nc,BI good.1 (by lia),BI good.2 (by lia),q⟩
  |rename n m=>obtain⟨ad,xs,rfl,had,rr⟩:=CC rx;obtain⟨u1,u2,u3,rfl,r1,r2,r3⟩:=EU rr;cases r1;cases r2;cases r3;refine⟨_,rfl,ad,_,_,_,rfl,rfl,AY.of had,Bv (j:=0) rfl,?_⟩;refine Bb rfl (by ac_rfl) ?_;refine Ir rfl ?_;exact⟨_,rfl,a,dx,_,rfl,hi,rfl,_,rfl,ad,_,_,_,rfl,rfl,AY.of had,Bv (j:=1) rfl,_,rfl,ad,_,_,_,rfl,rfl,AY.of had,Bv (j:=2) rfl,a,d,n,m,AA,AD,rfl,g,nc,BI good.2 (by lia),q⟩
  |join n m=>obtain⟨ad,xs,rfl,had,rr⟩:=CC rx;obtain⟨u1,u2,u3,rfl,r1,r2,r3⟩:=EU rr;cases r1;cases r2;cases r3;refine⟨_,rfl,ad,_,_,_,rfl,rfl,AY.of had,Bv (j:=0) rfl,?_⟩;refine Bb rfl (by ac_rfl) ?_;refine Bb rfl (by ac_rfl) ?_;refine Ir rfl ?_;exact⟨_,rfl,a,dx,_,rfl,hi,rfl,_,rfl,ad,_,_,_,rfl,rfl,AY.of had,Bv (j:=1) rfl,_,rfl,ad,_,_,_,rfl,rfl,AY.of had,Bv (j:=2) rfl,a,d,n,m,AA,AD,rfl,g,nc,q⟩
  |cut n pl m=>obtain⟨ad,xs,rfl,had,rr⟩:=CC rx;obtain⟨u1,u2,u3,u4,rfl,r1,r2,r3,r4⟩:=O0 rr;cases r1;cases r2;cases r3;cases r4;refine⟨_,rfl,ad,_,_,_,rfl,rfl,AY.of had,Bv (j:=0) rfl,?_⟩;refine Bb rfl (by ac_rfl) ?_;refine Bb rfl (by ac_rfl) ?_;refine Bb rfl (by ac_rfl) ?_;refine Ir rfl ?_;exact⟨_,rfl,a,dx,_,rfl,hi,rfl,_,rfl,ad,_,_,_,rfl,rfl,AY.of had,Bv (j:=1) rfl,_,rfl,ad,_,_,_,rfl,rfl,AY.of had,Bv (j:=2) rfl,_,rfl,ad,_,_,_,rfl,rfl,AY.of had,Bv (j:=3) rfl,a,d,n,pl,m,AA,AD,rfl,g,nc,BI good.2 (by lia),q⟩
  |drop n=>obtain⟨ad,xs,rfl,had,rr⟩:=CC rx;obtain⟨u1,u2,rfl,r1,r2⟩:=HN rr;cases r1;cases r2;refine⟨_,rfl,ad,_,_,_,rfl,rfl,AY.of had,Bv (j:=0) rfl,?_⟩;refine Bb rfl (by ac_rfl) ?_;refine Bb rfl (by ac_rfl) ?_;refine Bb rfl (by ac_rfl) ?_;refine Bb rfl (by ac_rfl) ?_;refine Ir rfl ?_;exact⟨_,rfl,a,dx,_,rfl,hi,rfl,_,rfl,ad,_,_,_,rfl,rfl,AY.of had,Bv (j:=1) rfl,a,d,n,AA,AD,rfl,g,nc,q⟩
  |text n=>
   obtain⟨ad,xs,rfl,had,rr⟩:=CC rx;obtain⟨u1,u2,rfl,r1,r2⟩:=HN rr;cases r1;cases r2;refine⟨_,rfl,ad,_,_,_,rfl,rfl,AY.of had,Bv (j:=0) rfl,?_⟩;refine Bb rfl (by ac_rfl) ?_;refine Bb rfl (by ac_rfl) ?_;refine Bb rfl (by ac_rfl) ?_;refine Bb rfl (by ac_rfl) ?_;refine Bb rfl (by ac_rfl) ?_;refine Ir rfl ?_;refine⟨_,rfl,a,dx,_,rfl,hi,rfl,_,rfl,ad,_,_,_,rfl,rfl,AY.of had,Bv (j:=1) rfl,a,d,n,AA,AD,rfl,g,nc,fun ws hw H' s'=>?_,fun hw=>?_⟩
   ·have q':Out K cN cR H a d Q E (GQ AD n):=q;unfold GQ at q';rw[hw] at q';exact q' H' AA _ (Ex.sub.trans s') (g.same s') (.str _)
   ·have q':Out K cN cR H a d Q E (GQ AD n):=q;unfold GQ at q';rw[hw] at q';exact q'
  |back n=>obtain⟨ad,xs,rfl,had,rr⟩:=CC rx;obtain⟨u1,u2,rfl,r1,r2⟩:=HN rr;cases r1;cases r2;refine⟨_,rfl,ad,_,_,_,rfl,rfl,AY.of had,Bv (j:=0) rfl,?_⟩;refine Bb rfl (by ac_rfl) ?_;refine Bb rfl (by ac_rfl) ?_;refine Bb rfl (by ac_rfl) ?_;refine Bb rfl (by ac_rfl) ?_;refine Bb rfl (by ac_rfl) ?_;refine Bb rfl (by ac_rfl) ?_;refine Ir rfl ?_;exact⟨_,rfl,a,dx,_,rfl,hi,rfl,_,rfl,ad,_,_,_,rfl,rfl,AY.of had,Bv (j:=1) rfl,a,d,n,AA,AD,rfl,g,nc,h64,fun u H' s' r=>q H' AA u (Ex.sub.trans s') (g.same s') r⟩
  |find ws far=>obtain⟨ad,xs,rfl,had,rr⟩:=CC rx;obtain⟨u1,u2,u3,rfl,r1,r2,r3⟩:=EU rr;cases r1;cases r3;refine⟨_,rfl,ad,_,_,_,rfl,rfl,AY.of had,Bv (j:=0) rfl,?_⟩;refine Bb rfl (by ac_rfl) ?_;refine Bb rfl (by ac_rfl) ?_;refine Bb rfl (by ac_rfl) ?_;refine Bb rfl (by ac_rfl) ?_;refine Bb rfl (by ac_rfl) ?_;refine Bb rfl (by ac_rfl) ?_;refine Bb rfl (by ac_rfl) ?_;exact⟨_,rfl,a,dx,_,rfl,hi,rfl,_,rfl,ad,_,_,_,rfl,rfl,AY.of had,Bv (j:=1) rfl,_,rfl,ad,_,_,_,rfl,rfl,AY.of had,Bv (j:=2) rfl,a,d,u2,ws,far,AA,AD,rfl,g,nc,h64,r2,good.1,q⟩
noncomputable def Rs.next(AD:List Pg):Rs->List Pg
 |.no _=>AD
 |.ok _ p=>p
 |.un p=>p
def YQ(cN:Addr):Sp:=fun vs H Q _=>∃a d v x AA AD,vs=[.ref a,v]/\CO cN H a d AA AD/\C0 AD/\AD.length<64/\Rep H (A8.dt x) v/\x.Good/\
 ∀H' kvs' u,AS (Ex H d) H'->CO cN H' a d kvs' ((HH AD x).next AD)->Q u H'
def D4:List Pg->List A8->List Pg
 |AD,[]=>AD
 |AD,x::xs=>D4 ((HH AD x).next AD) xs
theorem Ue(x:A8):∀(xs:List A8)(AD:List Pg),D4 AD (xs++[x])=(HH (D4 AD xs) x).next (D4 AD xs)
 |[],AD=>rfl
 |y::ys,AD=>Ue x ys _
def Small(AD:List Pg)(xs:List A8):Prop:=∀k,k<=xs.length->C0 (D4 AD (xs.take k))/\(D4 AD (xs.take k)).length<64
def YT(cN:Addr):Sp:=fun vs H Q _=>∃a d v xs AA AD,vs=[.ref a,v]/\CO cN H a d AA AD/\Rep H (.lst (xs.map A8.dt)) v/\(∀x∈xs,x.Good)/\xs.length<=1000/\Small AD xs/\
 ∀H' kvs' u,AS (Ex H d) H'->CO cN H' a d kvs' (D4 AD xs)->Q u H'
theorem eQ(hd:H d=some (.dK kk))(s:AS (Ex H d) H'){x:Dt}(r:Rep H x v):Rep H' x v:=(Lq hd r).same s
theorem YM:A0 ["nook","deed","refusal"] ["nook","deed"] (Ao Qi):=by ac_rfl
theorem iy{fD:Addr}{fdD:FuncData}(F:Ab K "answer_deed" "answer_deed" Qi f fd)(T:Hx K mg cR fR)(GD:AU P w K mg base (Ca P w) 6 fD fdD ["nook","deed"] (Ss K cN cR))(bD:Binds K fdD ["nook","deed"] [])(mD:mg "do_deed" =some (.ref fD))(kD:keepIn K (.ref fD)=true):
 AU P w K mg base Aa 7 f fd ["nook","deed"] (YQ cN):=by
 refine F.ok YM (fun vs H Q E h=>?_) (fun cdv A outer s H vs Q E hr h=>?_)
 ·obtain⟨a,d,v,x,AA,AD,rfl,_⟩:=h;rfl
 ·obtain⟨a,d,v,x,AA,AD,rfl,g,nc,h64,rx,good,q⟩:=h;refine⟨_,(AV (ip (tb:=fun E=>ZG (Oy (Ss K cN cR) [] E (Mp (D9 0) (Mp (D9 1) Jt)))) (i:=2) (Rc:=cR) YM.nd rfl rfl (fun pins W E hp=>AV (An (BJ GD hr rfl mD kD bD .nil hp (AE (pv 0) (AE (pv 1) AI))))) rfl T.mR T.cat ⟨rfl,rfl⟩)),?_⟩;refine⟨_,rfl,_,rfl,a,d,v,x,AA,AD,rfl,g,nc,h64,rx,good,?_⟩
  cases e:HH AD x with
  |no msg=>rw[e] at q;exact fun C D H' xs xa s' hD=>⟨C,D,msg,rfl,rfl,xs,xa,hD,q H' AA _ (Ex.sub.trans s') (g.same s')⟩
  |ok r p=>rw[e] at q;exact fun H' kvs' u s' g' _=>q H' kvs' u s' g'
  |un p=>rw[e] at q;exact q
theorem jz:A0 ["nook","deeds"] ["nook","deeds"] (Ao Qp):=by ac_rfl
theorem jC{fA:Addr}{fdA:FuncData}(F:Ab K "answer_all" "answer_all" Qp f fd)(GA:AU P w K mg base Aa 7 fA fdA ["nook","deed"] (YQ cN))(bA:Binds K fdA ["nook","deed"] [])(mA:mg "answer_deed" =some (.ref fA))(kA:keepIn K (.ref fA)=true):
 AU P w K mg base Aa 8 f fd ["nook","deeds"] (YT cN):=by
 refine F.ok jz (fun vs H Q E h=>?_) (fun cdv A outer s H vs Q E hr h=>?_)
 ·obtain⟨a,d,v,xs,AA,AD,rfl,_⟩:=h;rfl
 ·obtain⟨a,d,v,xs,AA,AD,rfl,g,rx,good,hz,EH,q⟩:=h;refine⟨_,(AV (An (ES (ts:=["deed"]) (cap:=["nook"]) (ix:=[0]) (Hi rfl rfl (by ac_rfl) (by ac_rfl) rfl rfl rfl rfl rfl) (Fo (pv 1)) (fun _ _ _ _ _=>Bl (i:=0) (Gj (by ac_rfl)) rfl (Ad rfl) (Co rfl))
   (fun _ _ _ _ _=>Fq) (fun _ _ _ _ _=>V0 (BJ GA hr rfl mA kA bA .nil BB (AE (pv 1) (AE (pv 0) AI))))))),?_⟩;obtain⟨l,ys,rfl,hl,rr⟩:=Eg rx;have hdc:=g.Bo;have nld:l≠d:=CT hl hdc (by intro z;cases z);have nD:∀D,H D=none->(Ex H d) D=none:=fun D hD=>by
   by_cases z:D=d
   ·rw[z];exact Fs
   ·unfold Ex;rw[AG z];exact hD
  refine⟨_,rfl,l,rfl,⟨_,AN.of hl⟩,fun D hD=>GH (xs:=ys) (fun i H'=>∃H0 zs kvs',H'=upd H0 D (.lst zs)/\H0 D=none/\AS (Ex H d) H0/\CO cN H0 a d kvs' (D4 AD (xs.take i))/\zs.length<=i) ?_ (fun i H' _ c=>?_) (fun i x H' ex c=>?_) fun H' c=>?_⟩
  ·exact⟨H,[],AA,rfl,hD,Ex.sub,g,Ac 0⟩
  ·obtain⟨H0,zs,kvs',rfl,h0,s0,_⟩:=c;have e:=s0 _ _ (Ex.at hl nld);exact AN.of (by rw[AO (A2 e h0)];exact e)
  ·obtain⟨H0,zs,kvs',rfl,h0,s0,g',rz⟩:=c;obtain⟨x0,ex0,rx0⟩:=IT rr ex;have hi:i<xs.length:=(BW.mp ex0).1;obtain⟨nc,h64⟩:=EH i (by lia);have eE:Ex (upd H0 D (.lst zs)) D=H0:=by
    rw[Ex.upd];funext b;by_cases z:b=D
    ·rw[z,Ex.self,h0]
    ·rw[Ex.ne z]
   refine⟨FG,D,zs,AR,?_⟩;rw[eE];refine⟨_,rfl,_,rfl,a,d,x,x0,kvs',_,rfl,g',nc,h64,eQ hdc s0 rx0,good x0 (CL ex0),fun H2 kvs2 u s2 g2 h2=>?_⟩;have e2:xs.take (i+1)=xs.take i++[x0]:=by rw[Dm,ex0];rfl
   refine⟨zs,AR,?_,H2,zs++[u],kvs2,by rw[JN],h2,(Ex.of_none s0 Fs).trans s2,by rw[e2,Ue];exact g2,?_⟩
   ·rw[BA]
    lia
   ·rw[BC,EK]
    lia
  ·obtain⟨H0,zs,kvs',rfl,h0,s0,g',rz⟩:=c;have e:ys.length=xs.length:=by have:=rr.1;rw[AL] at this;lia
   rw[e,Cv] at g';have su:=Ak (o:=.lst zs) h0;exact q _ kvs' _ (s0.trans su) (g'.same su)
abbrev TQ:Stmt:=UJ
abbrev ZP:Stmt:=Uh
def Kw(H:Hp)(as:List Addr)(rows:List (List Int)):Prop:=as.length=rows.length/\∀(i:Nat) a row,as[i]? =some a->rows[i]? =some row->H a=some (.lst (row.map V.int))
variable{rows:List (List Int)}
theorem Kw.same{as:List Addr}(s:AS H H')(h:Kw H as rows):Kw H' as rows:=⟨h.1,fun i a row h1 h2=>s _ _ (h.2 i a row h1 h2)⟩
noncomputable def keysOf(q:Int×Nat):List Key:=[Sum.inl q.1,Sum.inl (q.2:Int)]
def IP(H:Hp)(l:List (Addr×Int×Nat)):Prop:=∀p∈l,H p.1=some (.tup [.int p.2.1,.int (p.2.2:Int)])
theorem IP.same{l:List (Addr×Int×Nat)}(s:AS H H')(h:IP H l):IP H' l:=fun p hp=>s _ _ (h p hp)
def Zm(rows:List (List Int)):Prop:=rows.length<=9/\∀row∈rows,row.length<=100000
def ZL:Sp:=fun vs H Q _=>∃(a:Addr)(as:List Addr)(rows:List (List Int)),vs=[.ref a]/\H a=some (.lst (as.map V.ref))/\Kw H as rows/\Zm rows/\
 ∀(D:Addr)(l:List (Addr×Int×Nat))(H':Hp),AS H H'->H' D=some (.lst (l.map fun p=>V.ref p.1))->IP H' l->l.length<=900000->Q (.ref D) H'
noncomputable def LD:List Key->Int×Nat
 |[.inl a,.inl b]=>(a,b.toNat)
 |_=>(0,0)
theorem eB(q:Int×Nat):LD (keysOf q)=q:=by show(q.1,(q.2:Int).toNat)=q;rw[Gu]
theorem PV:A0 ["rows","marks","number","row"] ["rows"] (Ao TQ):=by ac_rfl
theorem kC(F:Ab K "places_in_order" "places_in_order" TQ f fd)(hen:mg "enumerate" =none)(hso:mg "sorted" =none):AU P w K mg base Aa 1 f fd ["rows"] ZL:=by
 refine F.ok PV (fun vs H Q E h=>?_) (fun cdv A outer s H vs Q E hr h=>?_)
 ·obtain⟨a,as,rows,rfl,_⟩:=h;rfl
 ·obtain⟨a,as,rows,rfl,ha,hrows,Cc,k⟩:=h;refine⟨_,AW (Ax (i:=1) PV.nd rfl (Ad rfl) (CY AI))
   (AW (Dx Dr rfl (Wf rfl hen (AE (pv 0) AI)) (Ma rfl (GK (Bl (i:=2) PV.nd rfl (Co rfl)) (GK (Bl (i:=3) PV.nd rfl (Ad rfl)) MQ)))
    (AV (Bn (Ht EJ PySem.F.slot_list_extend PySem.F.type_list_extend bU (pv 1)
     (AE (ES (ts:=["place"]) (cap:=["number"]) (ix:=[2]) (Hi rfl rfl (by ac_rfl) (by ac_rfl) rfl rfl rfl rfl rfl) (Fo (pv 3))
      (fun _ _ _ _ _=>Bl (i:=0) (Gj (by ac_rfl)) rfl (Ad rfl) (Co rfl)) (fun _ _ _ _ _=>Fq) (fun _ _ _ _ _=>Cd (AE (pv 0) (AE (pv 1) AI)))) AI)))))
   (AV (An (Bc Ub rfl hso Lr (AE (pv 1) AI))))),?_⟩;refine⟨by show 0<=sizeLine;decide,fun mr hmr=>?_⟩;have nam:a≠mr:=A2 ha hmr;refine⟨_,rfl,a,rfl,⟨_,AN.of (by rw[AO nam];exact ha)⟩,?_⟩;refine d9 (K:=K) (a:=a) (xs:=as.map V.ref) (fun i σ H'=>∃(v2 v3:Option V)(l:List (Addr×Int×Nat)),σ=[some (.ref a),some (.ref mr),v2,v3]/\AS H H'/\H' mr=some (.lst (l.map fun p=>V.ref p.1))/\IP H' l/\l.length<=i*100000)
   ⟨none,none,[],rfl,(AS.refl H).upd hmr,AR,fun p hp=>(by cases hp),CF _⟩ (fun i σ H' _ ⟨_,_,_,_,sm,_⟩=>AN.of (sm _ _ ha)) ?_ ?_
  ·rintro i x p σ H' hx hp ⟨v2,v3,l,rfl,sm,hm,pl,el⟩;rw[Az] at hx
   cases ea:as[i]?with
   |none=>rw[ea] at hx;cases hx
   |some ai=>
   rw[ea] at hx;obtain rfl:V.ref ai=x:=Ah hx;have hi:i<rows.length:=by rw[<-hrows.1];exact(BW.mp ea).1
   have er:rows[i]? =some rows[i]:=Ar hi;generalize rows[i]=row at er;have hai:H ai=some (.lst (row.map V.int)):=hrows.2 i ai row ea er;have s1:AS H' (upd H' p (.tup [.int (i:Int),.ref ai])):=Ak hp;have hl1:=Cc.2 _ (CL er);have ND:=Cc.1;refine⟨p,_,rfl,AY.of AR,rfl,_,_,rfl,_,_,rfl,rfl,?_⟩;have hm1:=s1 _ _ hm;refine⟨_,rfl,.inl ⟨rfl,_,AN.of hm1⟩,_,rfl,ai,rfl,⟨_,AN.of ((sm.trans s1) _ _ hai)⟩,fun D hD=>?_⟩;have nmD:mr≠D:=A2 hm1 hD;refine GH (K:=K) (xs:=row.map V.int) (fun j H2=>∃t:List (Addr×Int×Nat),AS (upd H' p (.tup [.int (i:Int),.ref ai])) H2/\H2 D=some (.lst (t.map fun p=>V.ref p.1))/\IP H2 t/\t.length<=j)
    ⟨[],Ak hD,AR,fun p hp=>(by cases hp),CF _⟩ (fun j H2 _ ⟨_,s2,_⟩=>AN.of (s2 _ _ ((sm.trans s1) _ _ hai))) ?_ ?_
   ·rintro j y H2 hy ⟨t,s2,hD2,pt,et⟩;rw[Az] at hy
    cases ey:row[j]?with
    |none=>rw[ey] at hy;cases hy
    |some z=>
    rw[ey] at hy;obtain rfl:V.int z=y:=Ah hy;have hj:j<row.length:=(BW.mp ey).1;refine⟨FG,_,rfl,_,rfl,by show 2<=sizeLine;decide,fun tp htp=>⟨t.map fun p=>V.ref p.1,(Ak htp) _ _ hD2,by rw[AL,BA];lia,t++[(tp,z,i)],(s2.upd (s2.free htp)).upd hD,?_,fun q hq=>?_,?_⟩⟩
    ·rw[AR,BX];rfl
    ·have htD:tp≠D:=(A2 hD2 htp).symm;rcases CB.mp hq with e|e
     ·have h1:=pt q e;rw[AO (CT h1 hD2 (by intro zz;cases zz)),AO (A2 h1 htp)];exact h1
     ·rw[CA.mp e,AO htD,AR]
    ·rw[BC,EK]
     lia
   ·rintro H2 ⟨t,s2,hD2,pt,et⟩;rw[AL] at et;have hm2:=s2 _ _ hm1;refine⟨mr,D,_,_,rfl,rfl,hm2,hD2,by rw[AL,AL,BA];lia,some (.int (i:Int)),some (.ref ai),l++t,rfl,(sm.trans (s1.trans s2)).upd hmr,?_,fun q hq=>?_,?_⟩
    ·rw[AR,BX]
    ·have h1:H2 q.1=some (.tup [.int q.2.1,.int (q.2.2:Int)]):=by
      rcases CB.mp hq with e|e
      ·exact(s1.trans s2) _ _ (pl q e)
      ·exact pt q e
     rw[AO (CT h1 hm2 (by intro zz;cases zz))];exact h1
    ·rw[BC,Nat.succ_mul]
     lia
  ·rintro σ H' ⟨v2,v3,l,rfl,sm,hm,pl,el⟩;rw[AL,hrows.1] at el;have ND:=Cc.1;refine⟨_,rfl,mr,l.map (fun p=>(p.1,keysOf p.2)),[true,true],rfl,AN.of (by rw[hm,Bh];rfl),by simp,fun q hq=>?_,by rw[AL];lia,fun D qs hD hperm hsort=>?_⟩
   ·obtain⟨p,hp,e⟩:=BY.mp hq;rw[<-e];exact⟨pl p hp,rfl⟩
   ·have p2:(qs.map fun q=>(q.1,LD q.2)).Perm l:=by
     have:=hperm.map fun q=>(q.1,LD q.2);rw[Bh] at this;have e3:l.map ((fun q:Addr×List Key=>(q.1,LD q.2))∘fun p:Addr×Int×Nat=>(p.1,keysOf p.2))=l:=by
      conv=>rhs;rw[<-N3 l]
      refine Fc fun p hp=>?_;show(p.1,LD (keysOf p.2))=p;rw[eB]
     rw[e3] at this;exact this
    refine k D (qs.map fun q=>(q.1,LD q.2)) _ (sm.upd (sm.free hD)) ?_ (fun q hq=>?_) ?_
    ·rw[AR,Bh];rfl
    ·have h1:=pl q (p2.mem_iff.mp hq);rw[AO (A2 h1 hD)];exact h1
    ·rw[p2.length_eq]
     lia
noncomputable def Y0:Option Int->V
 |none=>.A3
 |some m=>.int m
def ZN:Sp:=fun vs H Q _=>∃(a:Addr)(as:List Addr)(rows:List (List Int)),vs=[.ref a]/\H a=some (.lst (as.map V.ref))/\Kw H as rows/\Zm rows/\
 ∀(b:Option Int)(H':Hp),AS H H'->Q (Y0 b) H'
theorem dH(h:∀q∈AA,∃n,q.2=V.int n)(k:Key)(p:Int):∀q∈putK AA k (V.int p),∃n,q.2=V.int n:=fun q hq=>by
 unfold putK at hq;split at hq
 ·obtain⟨z,hz,e⟩:=BY.mp hq;split at e
  ·exact⟨p,by rw[<-e]⟩
  ·rw[<-e];exact h z hz
 ·rcases CB.mp hq with e|e
  ·exact h q e
  ·exact⟨p,by rw[CA.mp e]⟩
theorem dS(AA:List (Key×V))(k:Key)(v:V):putK AA k v≠[]:=fun z=>by have:=dY AA k k v;rw[z,AH rfl] at this;cases this
theorem Wr:∀{AA:List (Key×V)},(∀q∈AA,∃n,q.2=V.int n)->∃ns:List Int,AA.map (·.2)=ns.map V.int
 |[],_=>⟨[],rfl⟩
 |q::AA,h=>by obtain⟨ns,e⟩:=Wr fun z hz=>h z (DU _ hz);obtain⟨n,en⟩:=h q Ed;exact⟨n::ns,by rw[Au,e,en];rfl⟩
theorem Jm:A0 ["rows","latest","best","place","number","length"] ["rows"] (Ao ZP):=by ac_rfl
theorem ak:C6 X (.builtin "len") (fun xs H Q=>∃a AA,xs=[V.ref a]/\H a=some (.dK AA)/\Q (.int AA.length) H):=by intro pins s σ H xs us Q I r h;obtain⟨a,AA,rfl,ha,q⟩:=h;obtain⟨u,rfl,ru⟩:=vals1 r;cases ru;exact lR I (.inl ha) fun t s' I'=>⟨.int AA.length,H,I',⟨t,rfl⟩,q⟩
theorem j3{fP:Addr}(F:Ab K "shortest" "shortest" ZP f fd)(FP:Ab K "places_in_order" "places_in_order" TQ fP fdP)(GP:AU P w K mg base Aa 1 fP fdP ["rows"] ZL)(bP:Binds K fdP ["rows"] [])(mP:mg "places_in_order" =some (.ref fP))
 (hlen:mg "len" =none)(hmin:mg "min" =none):AU P w K mg base Aa 2 f fd ["rows"] ZN:=by
 refine F.ok Jm (fun vs H Q E h=>?_) (fun cdv A outer s H vs Q E hr h=>?_)
 ·obtain⟨a,as,rows,rfl,_⟩:=h;rfl
 ·obtain⟨a,as,rows,rfl,ha,hrows,Cc,k⟩:=h;have hu:=Ce hr;refine⟨_,AW (Ax (i:=1) Jm.nd rfl (Ad rfl) OL)
   (AW (Ax (i:=2) Jm.nd rfl (Ad rfl) jT)
   (AW (Dx Dr rfl (Fo (BJ GP hr rfl mP FP.kp bP .nil BB (AE (pv 0) AI))) (Ma rfl (GK (Bl (i:=3) Jm.nd rfl (Ad rfl)) (GK (Bl (i:=4) Jm.nd rfl (Ad rfl)) MQ)))
    (AW (Eh hu (pv 1) (pv 4) (pv 3) rfl)
    (AV (A1 (Av BV (Bc ak rfl hlen Dg (AE (pv 1) AI)) (Bc Hh rfl hlen Dg (AE (pv 0) AI)) (As _))
     (AW (Ax (i:=5) Jm.nd rfl (Ad rfl) (Al DJ (Al R7 (pv 3) (Bc (bw rfl) rfl hmin boot_min (AE (Mb LW Tp PySem.F.type_dict_values U9 (pv 1)) AI))) AK))
     (AV (A1 (PW.pt (Jb (IV (iT (pv 2))) (JS (Av IZ (pv 5) (pv 2) (As _))))) (AV (Ax (i:=2) Jm.nd rfl (Ad rfl) (pv 5))) BF)))
     BF))))
   (AV (An (pv 2))))),?_⟩;intro d hd;have nad:a≠d:=A2 ha hd;have s0:AS H (upd H d (.dK [])):=Ak hd;refine⟨_,rfl,a,as,rows,rfl,s0 _ _ ha,hrows.same s0,Cc,fun D l H1 s1 hD pl hll=>?_⟩;have hd1:H1 d=some (.dK []):=s1 _ _ AR;refine⟨D,rfl,⟨_,AN.of hD⟩,?_⟩;refine JK (K:=K) (a:=D) (xs:=l.map fun p=>V.ref p.1) (fun i σ H'=>∃(b:Option Int)(v3 v4 v5:Option V)(AA:List (Key×V)),σ=[some (.ref a),some (.ref d),some (Y0 b),v3,v4,v5]/\AS H H'/\H' D=some (.lst (l.map fun p=>V.ref p.1))/\IP H' l/\H' d=some (.dK AA)/\
   (∀q∈AA,∃n,q.2=V.int n)/\AA.length<=i) ⟨none,none,none,none,[],rfl,s0.trans s1,hD,pl,hd1,fun q hq=>(by cases hq),Ac 0⟩ (fun i σ H' _ ⟨_,_,_,_,_,_,_,h,_⟩=>AN.of h) ?_ ?_
  ·rintro i x σ H' hx ⟨b,v3,v4,v5,AA,rfl,sm,hD2,pl2,hd2,iz,hkl⟩;rw[Az] at hx
   cases el:l[i]?with
   |none=>rw[el] at hx;cases hx
   |some q=>
   rw[el] at hx;obtain rfl:V.ref q.1=x:=Ah hx;have hi:i<l.length:=(BW.mp el).1;obtain⟨ad,p,r⟩:=q;have hq:=pl2 _ (CL el);have iz':=dH iz (Sum.inl (r:Int)) p;have hkl':=Nz AA (Sum.inl (r:Int)) (V.int p);have hne:=dS AA (Sum.inl (r:Int)) (V.int p);refine⟨ad,_,rfl,AY.of hq,rfl,_,_,rfl,_,_,rfl,rfl,?_⟩;refine⟨_,rfl,_,rfl,_,rfl,d,_,rfl,DP.kq (k:=Sum.inl (r:Int)) hd2 (by rw[BA];lia),?_⟩;generalize ekv:putK AA (Sum.inl (r:Int)) (V.int p)=kvs' at iz' hkl' hne;have hdd:(upd H' d (.dK kvs')) d=some (.dK kvs'):=AR;have hka:∀b o,H' b=some o->(∀z,o≠.dK z)->(upd H' d (.dK kvs')) b=some o:=fun b o h hz=>by rw[AO (CT h hd2 (hz AA))];exact h
   have sm':AS H (upd H' d (.dK kvs')):=sm.upd hd;have hD3:=hka D _ hD2 (by intro z zz;cases zz);have pl3:IP (upd H' d (.dK kvs')) l:=fun y hy=>hka _ _ (pl2 y hy) (by intro z zz;cases zz);generalize upd H' d (.dK kvs')=H2 at hdd sm' hD3 pl3;refine⟨_,rfl,d,kvs',rfl,hdd,_,rfl,a,_,rfl,.inl (AN.of (sm' _ _ ha)),rfl,_,rfl,?_⟩;have eln:((as.map V.ref).length:Nat)=rows.length:=by rw[AL];exact hrows.1
   by_cases hfull:kvs'.length=rows.length
   ·refine B1 (by rw[eln,hfull]) ?_;obtain⟨ns,hv⟩:=Wr iz';have hne:ns≠[]:=by rintro rfl;exact hne (List.map_eq_nil_iff.mp hv)
    refine⟨_,rfl,_,rfl,.inr (.inr (.inl ⟨rfl,.inl ⟨_,hdd⟩⟩)),d,kvs',rfl,rfl,hdd,fun vp hvp=>⟨vp,d,kvs',ns,rfl,AR,(Ak hvp) _ _ hdd,hv,hne,fun mn hmn hle=>⟨_,_,rfl,rfl,_,_,rfl,rfl,?_⟩⟩⟩;have sv:AS H2 (upd H2 vp (Gb vp d)):=Ak hvp;generalize upd H2 vp (Gb vp d)=H3 at sv
    cases b with
    |none=>refine⟨_,rfl,_,rfl,B1 rfl (Bf ⟨_,rfl,?_⟩)⟩;exact⟨some (p-mn+1),_,_,_,kvs',rfl,sm'.trans sv,sv _ _ hD3,pl3.same sv,sv _ _ hdd,iz',by lia⟩
    |some b0=>
     refine⟨_,rfl,_,rfl,CN (by intro z;cases z) ⟨_,rfl,_,rfl,_,_,rfl,rfl,_,rfl,?_⟩⟩;by_cases hlt:p-mn+1<b0
     ·refine B1 hlt ⟨_,rfl,?_⟩;exact⟨some (p-mn+1),_,_,_,kvs',rfl,sm'.trans sv,sv _ _ hD3,pl3.same sv,sv _ _ hdd,iz',by lia⟩
     ·refine CN hlt ?_;exact⟨some b0,_,_,_,kvs',rfl,sm'.trans sv,sv _ _ hD3,pl3.same sv,sv _ _ hdd,iz',by lia⟩
   ·refine CN (by rw[eln];intro z;exact hfull (by have:=V.int.inj z;lia)) ?_;exact⟨b,_,_,_,kvs',rfl,sm',hD3,pl3,hdd,iz',by lia⟩
  ·rintro σ H' ⟨b,v3,v4,v5,AA,rfl,sm,hD2,pl2,hd2,iz,hkl⟩;exact⟨_,rfl,k b H' sm⟩
def rowsOf(ws:List PR)(pl:List Str):List (List Int):=pl.map fun z=>D8 z 0 ws
theorem V8:∀(ws σ:List Str),(Et σ ws).length<=σ.length+ws.length
 |[],σ=>by simp[Et]
 |z::ws,σ=>by
  have h1:=V8 ws (EW σ z);have h2:=Vp σ z;rw[Et,CV]
  lia
theorem gr{zs:List V}(r:Am H (rows.map fun r=>Dt.lst (r.map Dt.int)) zs):∃as,zs=as.map V.ref/\Kw H as rows:=by
 have each:∀(i:Nat) v,zs[i]? =some v->∃a row,v=.ref a/\rows[i]? =some row/\H a=some (.lst (row.map V.int)):=fun i v e=>by obtain⟨row,er,rd⟩:=IT r e;obtain⟨a,xs,rfl,ha,rr⟩:=Eg rd;rw[Qz rr] at ha;exact⟨a,row,rfl,er,ha⟩
 refine⟨zs.map fun v=>match v with|.ref a=>a|_=>0,?_,?_,fun i a row h1 h2=>?_⟩
 ·rw[Bh];conv=>lhs;rw[<-N3 zs]
  refine Fc fun v hv=>?_;obtain⟨i,hi⟩:=T5 hv;obtain⟨a,_,rfl,_⟩:=each i v hi;rfl
 ·have:=r.1;rw[AL] at this;rw[AL,this]
 ·rw[Az] at h1
  cases e:zs[i]?with
  |none=>rw[e] at h1;cases h1
  |some v=>rw[e] at h1;obtain⟨b,row',rfl,e2,hb⟩:=each i v e;rw[h2] at e2;cases Ah e2;cases Ah h1;exact hb
theorem aU(hK:X.K=K):C6 X (.builtin "len") (fun xs H Q=>∃p ys,xs=[.ref p]/\(AN K H p ys\/AY K H p ys)/\Q (.int ys.length) H):=by subst hK;exact Hh
def XO:Sp:=fun vs H Q _=>∃d v near AA AD,∃ws:List Str,vs=[.ref d,v,.int near]/\H d=some (.dK (Aq AA))/\DH H AA AD/\LF AD/\Rep H (.tup (ws.map Dt.str)) v/\ws.length<=9/\∀H' u,AS H H'->Q u H'
theorem XH{o:HO}(s:AS H H'):AS (Ex H d) (upd H' d o):=fun b u e=>by
 by_cases z:b=d
 ·rw[z,Ex.self] at e;cases e
 ·rw[Ex.ne z] at e;rw[AO z];exact s _ _ e
theorem mh{y:Str}{a b c:V}:Hz [x,y,z] [] σ [some a,some b,some c]:=⟨[some a,some b,some c],rfl,rfl⟩
theorem IY:A0 ["pages","wanted","near","plains","found","page","words","rows","length","places"] ["pages","wanted","near"] (Ao Qr):=by ac_rfl
theorem iw:bootBuiltins "set" =some (.type "set"):=by ac_rfl
theorem jH:((["length","places","page"]:List Str)++([]:List Str)).Nodup:=by ac_rfl
theorem fz{fP fS:Addr}{fdS:FuncData}(F:Ab K "pages_near" "pages_near" Qr f fd)(O:Gh mg)
 (GP:AU P w K mg base Aa 1 fP fdP ["words","plain"] YY)(bP:Binds K fdP ["words","plain"] [])(mP:mg "places_of" =some (.ref fP))(kP:keepIn K (.ref fP)=true)
 (GS:AU P w K mg base Aa 2 fS fdS ["rows"] ZN)(bS:Binds K fdS ["rows"] [])(mS:mg "shortest" =some (.ref fS))(kS:keepIn K (.ref fS)=true):AU P w K mg base Aa 3 f fd ["pages","wanted","near"] XO:=by
 refine F.ok IY (fun vs H Q E h=>?_) (fun cdv A outer s H vs Q E hr h=>?_)
 ·obtain⟨d,v,near,AA,AD,ws,rfl,_⟩:=h;rfl
 ·obtain⟨d,v,near,AA,AD,ws,rfl,hd,g,sm0,rv,hws,q⟩:=h;have hu1:=Ce hr;refine⟨_,(AW (Ax (i:=3) IY.nd rfl (Ad rfl) (Bc (aa (P:=P) (w:=w) rfl rfl rfl) rfl O.so Lr (AE (E6 (bh (P:=P) (w:=w) (K:=K) rfl rfl rfl rfl) rfl O.set iw (AE (pv 1) AI)) AI)))
   (AW (Ax (i:=4) IY.nd rfl (Ad rfl) (CY AI))
   (AW (gP (Dx Dr rfl (V2 (Mb LW Tr PySem.F.type_dict_items Vn (pv 0))) (Ma rfl (GK (Bl (i:=5) IY.nd rfl (Ad rfl)) (GK (Bl (i:=6) IY.nd rfl (Co rfl)) MQ)))
    (AW (gk (i:=7) (ts:=["plain"]) (cap:=["words"]) (ix:=[6]) (Hi rfl rfl (by ac_rfl) (by ac_rfl) rfl rfl rfl rfl rfl) IY.nd rfl rfl (Fo (pv 3))
     (fun _ _ _ _ _=>Bl (i:=0) (Gj (by ac_rfl)) rfl (Ad rfl) (Co rfl)) (fun _ _ _ _ _=>Fq) (fun _ _ _ _ _=>V0 (BJ (GP.mono (by decide:1<=2)) hr rfl mP kP bP .nil BB (AE (pv 1) (AE (pv 0) AI)))))
    (AW (Ax (i:=8) IY.nd rfl (Ad rfl) (BJ GS hr rfl mS kS bS .nil BB (AE (pv 7) AI)))
    (AV (A1 (PW.pt (Eo (IV (fu (pv 8))) (GL (Av kh (pv 8) (pv 2) (As _)))))
     (AW (Ax (i:=9) IY.nd rfl (Ad rfl) (Bc (U7 rfl) rfl O.sum PyProof.Rows.boot_sum (AE (ES (ts:=["row"]) (cap:=[]) (ix:=[]) (cl:=[]) (Kd rfl rfl (by ac_rfl) (by ac_rfl)) (Fo (pv 7))
      (fun _ _ _ _ _=>Bl (i:=0) NC rfl (Ad rfl) (Co rfl)) (fun _ _ _ _ _=>Fq) (fun _ _ _ _ _=>Bc (aU (K:=K) rfl) rfl O.len Dg (AE (pv 0) AI))) AI)))
     (AV (Bn (Ht EJ FZ FY Ef (pv 4) (AE (Cd (AE (pv 8) (AE (D6 Dy (pv 9)) (AE (pv 5) AI)))) AI))))) BF))))))
   (AV (An (ES (ts:=["length","places","page"]) (cap:=[]) (ix:=[]) (cl:=[]) (Kd rfl rfl (by ac_rfl) (by ac_rfl)) (Fo (Bc Ub rfl O.so Lr (AE (pv 4) AI)))
    (fun _ _ _ _ _=>gJ (K:=K) (i:=0) (j:=1) (l:=2) rfl rfl jH rfl (Ad rfl) (Co rfl) rfl (Ad rfl) (Co rfl) rfl (Ad rfl) (Co rfl)) (fun _ _ _ _ _=>Fq) (fun _ _ _ _ _=>Cd (AE (pv 2) (AE (pv 0) AI))))))))),?_⟩;obtain⟨av,xs,rfl,ha,rr⟩:=CC rv;rw[L0 rr] at ha;refine⟨_,rfl,av,ws,rfl,AY.of ha,by lia,fun Dz hz=>⟨Dz,Et [] ws,rfl,AR,fun Dp ys hDp pz sz=>?_⟩⟩;have ylen:=V8 ws [];rw[<-pz.length_eq,KG,Nat.zero_add] at ylen;have s1:AS H (upd (upd H Dz (K8 P w Dz (Et [] ws))) Dp (.lst (ys.map V.str))):=(Ak hz).trans (Ak hDp);have hp1:(upd (upd H Dz (K8 P w Dz (Et [] ws))) Dp (.lst (ys.map V.str))) Dp=some (.lst (ys.map V.str)):=AR;refine⟨by show 0<=sizeLine;decide,fun fo hfo=>?_⟩;have s2:=s1.trans (Ak (o:=.lst []) hfo);have hp2:=(Ak (o:=.lst []) hfo) _ _ hp1;have hf2:(upd (upd (upd H Dz (K8 P w Dz (Et [] ws))) Dp (.lst (ys.map V.str))) fo (.lst [])) fo=some (.lst []):=AR;have hfH:H fo=none:=s1.free hfo;have nDf:Dp≠fo:=A2 hp1 hfo;generalize upd (upd (upd H Dz (K8 P w Dz (Et [] ws))) Dp (.lst (ys.map V.str))) fo (.lst [])=H2 at s2 hp2 hf2;have hd2:=s2 _ _ hd;refine⟨d,Aq AA,hd2,_,rfl,.inr (.inr (.inl ⟨rfl,.inl ⟨_,hd2⟩⟩)),d,_,rfl,rfl,hd2,fun p hp=>⟨p,d,Aq AA,rfl,AR,by rw[AO (A2 hd2 hp)];exact hd2,fun o=>?_⟩⟩;have gE:=g.ex hd;have sE:AS (Ex H d) (upd (upd H2 p (HK p d)) d (.BO o (.dK (Aq AA)))):=XH (s2.trans (Ak hp));have npd:Dp≠d:=CT hp2 hd2 (by intro z;cases z);have nfd:fo≠d:=CT hf2 hd2 (by intro z;cases z);have hpA:(upd (upd H2 p (HK p d)) d (.BO o (.dK (Aq AA)))) Dp=some (.lst (ys.map V.str)):=by rw[AO npd];exact(Ak hp) _ _ hp2
  have hfA:(upd (upd H2 p (HK p d)) d (.BO o (.dK (Aq AA)))) fo=some (.lst []):=by rw[AO nfd];exact(Ak hp) _ _ hf2
  refine bV (fun i σ H'=>∃(v5 v6 v7 v8 v9:Option V)(l:List (Addr×List Key)),σ=[some (.ref d),some (.ref av),some (.int near),some (.ref Dp),some (.ref fo),v5,v6,v7,v8,v9]/\AS (Ex H d) H'/\H' d=some (.BO o (.dK (Aq AA)))/\H' Dp=some (.lst (ys.map V.str))/\
   H' fo=some (.lst (l.map fun p=>V.ref p.1))/\(∀q∈l,H' q.1=some (.tup (q.2.map kV))/\∃m c n,q.2=[.inl m,.inl c,.inr n])/\l.length<=i) ⟨none,none,none,none,none,[],rfl,sE,AR,hpA,hfA,fun q hq=>(by cases hq),Ac 0⟩ (fun i σ H' ⟨_,_,_,_,_,_,_,_,h,_⟩=>h) ?_ ?_
  ·rintro i k x pr σ H' ex hpr ⟨v5,v6,v7,v8,v9,l,rfl,sm,hdz,hpl,hfl,hl,el⟩;obtain⟨n,ekv,rfl⟩:=Ow ex;have hi:i<AD.length:=by rw[<-g.len];exact(BW.mp ekv).1
   have ep:AD[i]? =some AD[i]:=Ar hi;obtain⟨en,rw_⟩:=gE.row i _ _ ekv ep;have en:n=AD[i].1:=en;have rw_:Rep (Ex H d) (DO AD[i].2) x:=rw_;have wl:AD[i].2.length<=100000:=sm0.short _ (E1 hi);generalize AD[i]=pg at ep en rw_ wl;have s3:AS H' (upd H' pr (.tup [kV (Sum.inr n),x])):=Ak hpr;refine⟨pr,_,rfl,AY.of AR,rfl,_,_,rfl,_,_,rfl,rfl,?_⟩;generalize upd H' pr (.tup [kV (Sum.inr n),x])=H3 at s3;have sm3:=sm.trans s3;have hpl3:=s3 _ _ hpl;refine⟨_,rfl,Dp,rfl,⟨_,AN.of hpl3⟩,fun D hD=>GH (xs:=ys.map V.str) (fun j H4=>∃H0 zs,H4=upd H0 D (.lst zs)/\H0 D=none/\AS H3 H0/\Am H0 ((rowsOf pg.2 (ys.take j)).map fun r=>Dt.lst (r.map Dt.int)) zs) ?_ (fun j H4 _ c=>?_) (fun j y H4 ey' c=>?_) fun H4 c=>?_⟩
   ·exact⟨H3,[],rfl,hD,AS.refl _,Am.nil⟩
   ·obtain⟨H0,zs,rfl,h0,s0,_⟩:=c;have e:=s0 _ _ hpl3;exact AN.of (by rw[AO (A2 e h0)];exact e)
   ·obtain⟨H0,zs,rfl,h0,s0,rz⟩:=c;rw[Az] at ey'
    cases ez:ys[j]?with
    |none=>rw[ez] at ey';cases ey'
    |some z=>
    rw[ez] at ey';obtain rfl:V.str z=y:=Ah ey';have eE:Ex (upd H0 D (.lst zs)) D=H0:=by
     rw[Ex.upd];funext b;by_cases c:b=D
     ·rw[c,Ex.self,h0]
     ·rw[Ex.ne c]
    refine⟨FG,D,zs,AR,?_⟩;rw[eE];refine⟨_,rfl,_,rfl,x,pg.2,z,rfl,rw_.same (sm3.trans s0),wl,fun u H5 s5 ru h5=>?_⟩;refine⟨zs,AR,?_,H5,zs++[u],by rw[JN],h5,s0.trans s5,?_⟩
    ·have h1:=rz.1;unfold rowsOf at h1;rw[AL,AL] at h1;have h2:=Hb j ys;rw[BA]
     lia
    ·have e2:rowsOf pg.2 (ys.take (j+1))=rowsOf pg.2 (ys.take j)++[D8 z 0 pg.2]:=by unfold rowsOf;rw[Dm,ez,BX];rfl
     rw[e2,BX];exact(rz.same s5).snoc ru
   ·obtain⟨H0,zs,rfl,h0,s0,rz⟩:=c;rw[AL,Cv] at rz;obtain⟨as,rfl,ra⟩:=gr rz;have s4:AS H0 (upd H0 D (.lst (as.map V.ref))):=Ak h0;have hD4:(upd H0 D (.lst (as.map V.ref))) D=some (.lst (as.map V.ref)):=AR;have ra4:=ra.same s4;have s34:=s0.trans s4;generalize upd H0 D (.lst (as.map V.ref))=H4 at s4 hD4 ra4 s34;have rl:(rowsOf pg.2 ys).length=ys.length:=by unfold rowsOf;rw[AL]
    have rsm:∀row∈rowsOf pg.2 ys,row.length<=100000:=fun row hr'=>by obtain⟨z,_,rfl⟩:=BY.mp hr';exact BI (Q8 z pg.2 0) wl
    generalize rowsOf pg.2 ys=rows at ra4 rl rsm rz ra;refine⟨_,rfl,D,as,rows,rfl,hD4,ra4,⟨by lia,rsm⟩,fun bst H5 s5=>?_⟩;have s35:=s34.trans s5;have hdz5:=(s3.trans s35) _ _ hdz;have hpl5:=s35 _ _ hpl3;have hfl5:=(s3.trans s35) _ _ hfl;have hl5:∀q∈l,H5 q.1=some (.tup (q.2.map kV))/\∃m c n,q.2=[.inl m,.inl c,.inr n]:=fun q hq=>⟨(s3.trans s35) _ _ (hl q hq).1,(hl q hq).2⟩;have sm5:=sm3.trans s35
    cases bst with
    |none=>refine⟨_,rfl,_,rfl,D5 rfl ?_⟩;exact⟨_,_,_,_,_,l,rfl,sm5,hdz5,hpl5,hfl5,hl5,by lia⟩
    |some m=>
     refine⟨_,rfl,_,rfl,Ga (by intro z;cases z) ⟨_,rfl,_,rfl,_,_,rfl,rfl,_,rfl,?_⟩⟩;by_cases hmn:m<=near
     ·refine B1 hmn ?_;have hD5:=s5 _ _ hD4;have ra5:=ra4.same s5;refine⟨_,rfl,D,rfl,⟨_,AN.of hD5⟩,fun D2 hD2=>GH (xs:=as.map V.ref) (fun j H6=>CI H5 D2 (((rows.take j).map fun r=>(r.length:Int)).map Dt.int) H6) (CI.start hD2) (fun j H6 _ c=>AN.of (c.same _ _ hD5)) (fun j y H6 ey' c=>?_) fun H6 c=>?_⟩
      ·rw[Az] at ey'
       cases ea:as[j]?with
       |none=>rw[ea] at ey';cases ey'
       |some aj=>
       rw[ea] at ey';obtain rfl:V.ref aj=y:=Ah ey';have hj:j<rows.length:=by rw[<-ra5.1];exact(BW.mp ea).1
       have erj:rows[j]? =some rows[j]:=Ar hj;have haj:=c.same _ _ (ra5.2 j aj _ ea erj);refine⟨FG,_,rfl,aj,_,rfl,.inl (AN.of haj),?_⟩;rw[JE (f:=fun r:List Int=>(r.length:Int)) erj,BX,AL];refine c.push (.int _) ?_;rw[AL,AL];have:=Hb j rows
       lia
      ·rw[AL,ra5.1,Cv] at c;obtain⟨z2,hz2,rz2⟩:=c.lst;rw[Qz rz2] at hz2;have s6:=c.same;have hfl6:=s6 _ _ hfl5;have h4:=sm0.Cc;refine⟨D2,_,rfl,AN.of hz2,_,rfl,.inl ⟨rfl,_,AN.of hfl6⟩,_,rfl,_,rfl,_,rfl,_,rfl,by show 3<=sizeLine;decide,fun tp htp=>?_⟩;have st:=Ak (o:=.tup [.int m,.int (-(((rows.map fun r=>(r.length:Int))).sum)),kV (Sum.inr n)]) htp;have hfl7:=st _ _ hfl6;have s7:=s6.trans st;have hE:(Ex H d) fo=none:=by rw[Ex.ne nfd];exact hfH
       have ntf:tp≠fo:=(A2 hfl6 htp).symm;refine⟨fo,_,_,rfl,rfl,hfl7,by rw[AL,BA];lia,?_⟩;refine⟨_,_,_,_,_,l++[(tp,[.inl m,.inl (-((rows.map fun r=>(r.length:Int)).sum)),.inr pg.1])],rfl,(sm5.trans s7).upd hE,by rw[AO nfd.symm];exact s7 _ _ hdz5,by rw[AO nDf];exact s7 _ _ hpl5,?_,fun q hq=>?_,?_⟩
       ·rw[AR,BX];rfl
       ·rcases CB.mp hq with e|e
        ·have h1:=s7 _ _ (hl5 q e).1;rw[AO (CT h1 hfl7 (by intro z;cases z))];exact⟨h1,(hl5 q e).2⟩
        ·rw[CA.mp e,AO ntf,AR,en];exact⟨rfl,_,_,_,rfl⟩
       ·rw[BC,EK]
        lia
     ·refine CN hmn ?_;exact⟨_,_,_,_,_,l,rfl,sm5,hdz5,hpl5,hfl5,hl5,by lia⟩
  ·rintro σ H' ⟨v5,v6,v7,v8,v9,l,rfl,sm,hdz,hpl,hfl,hl,el⟩;have e0:(Aq AA).length=AD.length:=by show(AA.map _).length=_;rw[AL];exact g.len
   rw[e0] at el;refine⟨o,hdz,?_⟩;have sH:AS H (upd H' d (.dK (Aq AA))):=fun b u e=>by
    by_cases z:b=d
    ·subst z;rw[hd] at e;cases e;exact AR
    ·rw[AO z];exact sm b u (Ex.at e z)
   have hflA:(upd H' d (.dK (Aq AA))) fo=some (.lst (l.map fun p=>V.ref p.1)):=by rw[AO nfd];exact hfl
   have hlA:∀q∈l,(upd H' d (.dK (Aq AA))) q.1=some (.tup (q.2.map kV)):=fun q hq=>by have h1:=(hl q hq).1;rw[AO (CT h1 hdz (by intro z;cases z))];exact h1
   generalize upd H' d (.dK (Aq AA))=HA at sH hflA hlA;have shp:=fun q hq=>(hl q hq).2;have h4:=sm0.Cc;refine⟨_,rfl,fo,l,[true,true,false],rfl,AN.of hflA,by simp,fun q hq=>⟨hlA q hq,?_⟩,by lia,fun Ds qs hDs hperm hsort=>?_⟩
   ·obtain⟨m,c,n,e⟩:=shp q hq;rw[e];rfl
   have sB:=Ak (o:=.lst (qs.map fun p=>V.ref p.1)) hDs;have hDB:(upd HA Ds (.lst (qs.map fun p=>V.ref p.1))) Ds=some (.lst (qs.map fun p=>V.ref p.1)):=AR;generalize upd HA Ds (.lst (qs.map fun p=>V.ref p.1))=HB at sB hDB;have sHB:=sH.trans sB;refine⟨Ds,rfl,⟨_,AN.of hDB⟩,fun D3 hD3=>GH (xs:=qs.map fun p=>V.ref p.1) (fun j H6=>∃ds:List Dt,CI HB D3 ds H6/\ds.length<=j) ⟨[],CI.start hD3,Ac 0⟩ (fun j H6 _ ⟨_,c,_⟩=>AN.of (c.same _ _ hDB)) (fun j y H6 ey' ⟨ds,c,hds⟩=>?_) fun H6 ⟨ds,c,_⟩=>q _ _ (sHB.trans c.same)⟩
   ·rw[Az] at ey';have hjq:j<qs.length:=by
     by_cases z:j<qs.length
     ·exact z
     ·rw[EL (by lia)] at ey';cases ey'
    cases ea:qs[j]?with
    |none=>rw[ea] at ey';cases ey'
    |some qq=>
    rw[ea] at ey';obtain rfl:V.ref qq.1=y:=Ah ey';have hq:qq∈l:=hperm.mem_iff.mp (CL ea);obtain⟨m,c',n,e⟩:=shp qq hq;have hqq:=(sB.trans c.same) _ _ (hlA qq hq);rw[e] at hqq;refine⟨qq.1,_,rfl,AY.of hqq,rfl,_,_,rfl,_,_,rfl,_,_,rfl,rfl,mh,_,rfl,_,rfl,by show 2<=sizeLine;decide,fun tp htp=>?_⟩;have st:=Ak (o:=.tup [kV (Sum.inr n),kV (Sum.inl m)]) htp;have c2:=c.ext st;have nt:tp≠D3:=by obtain⟨zz,hz,_⟩:=c.lst;exact(A2 hz htp).symm
    obtain⟨ys',h1,h2,h3⟩:=c2.push (d:=.tup [.str n,.int m]) (Rep.LR (Ex.at AR nt) (Am.snoc (Am.snoc Am.nil (.str n)) (.int m))) (by have h2:=hperm.length_eq;lia);exact⟨ys',h1,h2,_,h3,by rw[BC,EK];lia⟩
abbrev Tx:=Str×Str
noncomputable def FJ(x:Tx):Dt:=.tup [.str x.1,.str x.2]
def GZ(AD:List Pg)(n:Str):Tx:=(n,Ho ((AF AD n).getD []))
def K1(AD:List Pg):List Tx:=(K5 (keys AD)).map (GZ AD)
def X3(cN:Addr):Sp:=fun vs H Q _=>∃a d AA AD,vs=[.ref a]/\CO cN H a d AA AD/\C0 AD/\AD.length<64/\∀H' u,AS H H'->Rep H' (.lst ((K1 AD).map FJ)) u->Q u H'
theorem XQ{x:Tx}{t:Addr}(h:H t=some (.tup [.str x.1,.str x.2])):Rep H (FJ x) (.ref t):=Rep.LR h (Am.snoc (Am.snoc Am.nil (.str _)) (.str _))
theorem eM{AA:List (Str×V)}(g:DH H AA AD):(Aq AA).map (·.1)=(keys AD).map Sum.inr:=by
 apply JA;intro i;have e1:(Aq AA).map (·.1)=AA.map fun p=>(Sum.inr p.1:Key):=by show(AA.map _).map _=_;rw[Bh];rfl
 rw[e1];unfold keys;rw[Bh,Az,Az];by_cases hi:i<AA.length
 ·have hj:i<AD.length:=by rw[<-g.len];exact hi
  rw[Ar hi,Ar hj];have:=(g.row i _ _ (Ar hi) (Ar hj)).1;show some (Sum.inr AA[i].1)=some (Sum.inr AD[i].1);rw[this]
 ·rw[EL (by lia),EL (by rw[<-g.len];lia)];rfl
theorem gh{n:Str}(h:AF AD n=none):n∉keys AD:=L8 h
theorem ic:A0 ["self","wanted","near"] ["self","wanted","near"] (Ao QK):=by ac_rfl
theorem fZ{fT:Addr}(F:Ab K "find_pages" "Nook.find_pages" QK f fd)(C:EI K cN)(R:Rz P w K mg base cR "NoWords" "no words")(O:Gh mg)(GT:AU P w K mg base Aa 3 fT fdT ["pages","wanted","near"] XO)(bT:Binds K fdT ["pages","wanted","near"] [])(mT:mg "pages_near" =some (.ref fT))(kT:keepIn K (.ref fT)=true):
 AU P w K mg base (Ca P w) 4 f fd ["self","wanted","near"] (Xl K cN cR):=by
 refine HV F ic (fun vs H Q E h=>?_) (fun cdv A outer s H vs Q E hr h=>?_)
 ·obtain⟨a,d,v,ws,far,AA,AD,rfl,_⟩:=h;rfl
 ·obtain⟨a,d,v,ws,far,AA,AD,rfl,g,nc,h64,rv,hws,q⟩:=h;have hu1:=Ce hr;refine⟨_,(AW (A1 (Av BV (Bc Hh rfl O.len Dg (AE (pv 1) AI)) AK (As _)) (AV (Jh (k:=0) R hr rfl)) BF) (AV (An (BJ GT hr rfl mT kT bT .nil BB (AE (Cr (pv 0) rfl) (AE (pv 1) (AE (pv 2) AI))))))),?_⟩;have rv0:=rv;obtain⟨av,xs,rfl,ha,rr⟩:=CC rv;rw[L0 rr] at ha;refine⟨_,rfl,av,_,rfl,.inr (AY.of ha),rfl,_,rfl,?_⟩;by_cases e:ws=[]
  ·rw[AH e] at q;subst e;exact B1 rfl q
  ·rw[AG e] at q;refine CN (fun z=>e ?_) ?_
   ·have:=V.int.inj z;rw[AL] at this;exact P4.mp (by lia)
   ·obtain⟨dx,hi⟩:=g.ins;exact⟨_,rfl,a,cN,dx,_,_,rfl,hi,C.cl,C.nf,rfl,_,rfl,_,rfl,d,.ref av,far,AA,AD,ws,rfl,g.Bo,g.AD,nc.EH,rv0,hws,fun H1 u s1=>q H1 AA u (Ex.sub.trans s1) (g.same s1)⟩
theorem jJ:A0 ["self"] ["self"] (Ao QV):=by ac_rfl
theorem gb{fT:Addr}(F:Ab K "all_texts" "Nook.all_texts" QV f fd)(C:EI K cN)(O:Gh mg)(mT:Meth K cN "text_of" fT)(GT:AU P w K mg base (Ca P w) 5 fT fdT ["self","name"] (R8 K cN cR))(bT:Binds K fdT ["self","name"] []):
 AU P w K mg base Aa 6 f fd ["self"] (X3 cN):=by
 refine F.ok jJ (fun vs H Q E h=>?_) (fun cdv A outer s H vs Q E hr h=>?_)
 ·obtain⟨a,d,AA,AD,rfl,_⟩:=h;rfl
 ·obtain⟨a,d,AA,AD,rfl,g,nc,h64,q⟩:=h;refine⟨_,AV (An (ES (ts:=["name"]) (cap:=["self"]) (ix:=[0]) (Hi rfl rfl (by ac_rfl) (by ac_rfl) rfl rfl rfl rfl rfl) (Fo (Bc (bG rfl) rfl O.so Lr (AE (Cr (pv 0) rfl) AI)))
   (fun _ _ _ _ _=>Bl (i:=0) (Gj (by ac_rfl)) rfl (Ad rfl) (Co rfl)) (fun _ _ _ _ _=>Fq) (fun _ _ _ _ _=>Cd (AE (pv 0) (AE (DS (pv 1) C.cl mT GT hr bT .nil jx (AE (pv 0) AI)) AI))))),?_⟩;obtain⟨dx,hi⟩:=g.ins;have hkey:(Aq AA).map (·.1)=(keys AD).map Sum.inr:=eM g.AD;refine⟨_,rfl,a,cN,dx,_,_,rfl,hi,C.cl,C.nf,rfl,d,Aq AA,keys AD,rfl,g.Bo,hkey,?_,fun Ds ys hDs hp hs=>?_⟩
  ·unfold keys;rw[AL];have:=nc.Cc
   lia
  have ey:ys=K5 (keys AD):=Ru Hn hp hs;have sB:=Ak (o:=.lst (ys.map V.str)) hDs;have hDB:(upd H Ds (.lst (ys.map V.str))) Ds=some (.lst (ys.map V.str)):=AR;generalize upd H Ds (.lst (ys.map V.str))=H2 at sB hDB;have g2:=g.same sB;refine⟨Ds,rfl,⟨_,AN.of hDB⟩,fun D hD=>GH (xs:=ys.map V.str) (fun i H'=>CI H2 D (((ys.take i).map (GZ AD)).map FJ) H') (CI.start hD) (fun i H' _ c=>AN.of (c.same _ _ hDB)) (fun i y H' ey' c=>?_) fun H' c=>?_⟩
  ·rw[Az] at ey'
   cases ez:ys[i]?with
   |none=>rw[ez] at ey';cases ey'
   |some z=>
   rw[ez] at ey';obtain rfl:V.str z=y:=Ah ey';have g3:=g2.same c.same;obtain⟨dx3,EG⟩:=g3.ins;have zk:z∈keys AD:=hp.mem_iff.mp (CL ez);refine⟨FG,_,rfl,_,rfl,a,dx3,_,rfl,EG,rfl,_,rfl,a,d,z,AA,AD,rfl,g3,nc,fun ws hw H4 s4=>?_,fun zz=>absurd zk (gh zz)⟩;refine⟨by show 2<=sizeLine;decide,fun tp htp=>?_⟩;have st:=Ak (o:=.tup [.str z,.str (Ho ws)]) htp;have c5:=(c.ext s4).ext st;have nt:tp≠D:=by obtain⟨z5,hz5,_⟩:=(c.ext s4).lst;exact(A2 hz5 htp).symm
   have et:GZ AD z=(z,Ho ws):=by unfold GZ;rw[hw];rfl
   rw[JE (f:=GZ AD) ez,BX];refine c5.push (d:=FJ (GZ AD z)) (by rw[et];exact XQ (Ex.at AR nt)) ?_;rw[AL,AL];have f1:=Hb i ys;have f3:=hp.length_eq;unfold keys at f3;rw[AL] at f3
   lia
  ·rw[AL,Cv] at c;have:=c.done;rw[ey] at this;exact q _ _ (sB.trans c.same) this
def WH(cN:Addr):Sp:=fun vs H Q _=>∃v xs,vs=[v]/\Rep H (.lst (xs.map A8.dt)) v/\(∀x∈xs,x.Good)/\xs.length<=1000/\Small [] xs/\∀H' a d AA,AS H H'->CO cN H' a d AA (D4 [] xs)->Q (.ref a) H'
def WE:Sp:=fun vs H Q _=>∃v xs,vs=[v]/\Rep H (.lst (xs.map A8.dt)) v/\(∀x∈xs,x.Good)/\xs.length<=1000/\Small [] xs/\∀H' u,AS H H'->Rep H' (.lst ((K1 (D4 [] xs)).map FJ)) u->Q u H'
theorem VY:A0 ["deeds","nook"] ["deeds"] (Ao Qj):=by ac_rfl
theorem cw{fA:Addr}{fdI fdA:FuncData}(F:Ab K "nook_behind" "nook_behind" Qj f fd)(M:Mk K cN fI)(GI:AU P w K mg base Aa 1 fI fdI ["self"] (WY cN))(bI:Binds K fdI ["self"] [])(mN:mg "Nook" =some (.ref cN))
 (GA:AU P w K mg base Aa 8 fA fdA ["nook","deeds"] (YT cN))(bA:Binds K fdA ["nook","deeds"] [])(mA:mg "answer_all" =some (.ref fA))(kA:keepIn K (.ref fA)=true):AU P w K mg base Aa 9 f fd ["deeds"] (WH cN):=by
 refine F.ok VY (fun vs H Q E h=>?_) (fun cdv A outer s H vs Q E hr h=>?_)
 ·obtain⟨v,xs,rfl,_⟩:=h;rfl
 ·obtain⟨v,xs,rfl,rv,good,hl,EH,q⟩:=h;refine⟨_,(AW (Ax (i:=1) VY.nd rfl (Ad rfl) (eZ M GI (hr.mono (by lia)) rfl mN bI .nil BB))
   (AW (Bn (BJ GA hr rfl mA kA bA .nil BB (AE (pv 1) (AE (pv 0) AI)))) (AV (An (pv 1))))),?_⟩;intro a dx ha hdx hne;refine⟨a,dx,rfl,AR,fun H1 d hd hda s1 g=>⟨rfl,?_⟩⟩;have sH:AS H H1:=fun b u e=>by
   refine s1 b u ?_;have n1:b≠a:=A2 e ha;have n2:b≠dx:=A2 e hdx;rw[Ex.at (by rw[AO n1,AO n2];exact e) n1]
  refine⟨_,rfl,_,rfl,a,d,v,xs,[],[],rfl,g,rv.same sH,good,hl,EH,fun H2 kvs' u s2 g2=>⟨_,rfl,q H2 a d kvs' (fun b z e=>s2 b z (Ex.at (sH _ _ e) ?_)) g2⟩⟩;have hdH:H d=none:=by
   have n1:d≠a:=hda;rw[AO n1] at hd;by_cases n2:d=dx
   ·rw[n2,AR] at hd;cases hd
   ·rw[AO n2] at hd;exact hd
  exact A2 e hdH
theorem eG:A0 ["deeds"] ["deeds"] (Ao OX):=by ac_rfl
theorem bK{fB fP:Addr}{fdB:FuncData}(F:Ab K "texts" "texts" OX f fd)(C:EI K cN)(GB:AU P w K mg base Aa 9 fB fdB ["deeds"] (WH cN))(bB:Binds K fdB ["deeds"] [])(mB:mg "nook_behind" =some (.ref fB))(kB:keepIn K (.ref fB)=true)
 (hP:Meth K cN "all_texts" fP)(GP:AU P w K mg base Aa 6 fP fdP ["self"] (X3 cN))(bP:Binds K fdP ["self"] []):AU P w K mg base Aa 10 f fd ["deeds"] WE:=by
 refine F.ok eG (fun vs H Q E h=>?_) (fun cdv A outer s H vs Q E hr h=>?_)
 ·obtain⟨v,xs,rfl,_⟩:=h;rfl
 ·obtain⟨v,xs,rfl,rv,good,hl,EH,q⟩:=h;refine⟨_,(AV (An (eN (BJ GB hr rfl mB kB bB .nil BB (AE (pv 0) AI)) C.cl hP GP (hr.mono (by lia)) bP .nil BB))),?_⟩;have se:xs.take xs.length=xs:=Cv;obtain⟨nc,h64⟩:=EH xs.length (Ac _);rw[se] at nc h64;refine⟨_,rfl,v,xs,rfl,rv,good,hl,EH,fun H1 a d AA s1 g=>?_⟩;obtain⟨dx,hi⟩:=g.ins;exact⟨a,dx,_,rfl,hi,rfl,a,d,AA,_,rfl,g,nc,h64,fun H2 u s2 r=>q H2 u (s1.trans s2) r⟩
theorem Ww:∀{l:List Pg}{i:Nat}{p q:Pg},l[i]? =some p->BE (l.set i q)+wsum p.2=BE l+wsum q.2
 |x::l,0,p,q,h=>by
  cases Ah h;unfold BE;rw[List.set_cons_zero,Au,CM,Au,CM]
  lia
 |x::l,i+1,p,q,h=>by
  have ih:=Ww (l:=l) (i:=i) (p:=p) (q:=q) (by simpa using h);unfold BE at ih⊢;rw[UE,Au,CM,Au,CM]
  lia
theorem XD{l:List Pg}{n:Str}{w0 ws:List PR}(nd:(l.map (·.1)).Nodup)(h:AF l n=some w0):BE (AZ l n ws)+wsum w0=BE l+wsum ws:=by obtain⟨i,hi⟩:=Fn h;rw[Ke nd hi];exact Ww hi
theorem gQ(ws:List PR)(n m:Str)(hm:m.length<=40):wsum (Cs ws n m)<=wsum ws:=by
 unfold Cs wsum
 induction ws with
 |nil=>simp
 |cons p ws ih=>
  rw[Au,Au,CM,Au,CM];have:wt (if p=(("to" :Str),n) then(("to" :Str),m) else p)<=wt p:=by
   split
   ·show max 40 m.length+3<=wt p;unfold wt
    lia
   ·exact Ac _
  lia
theorem Xs(AD:List Pg)(n m:Str)(hm:m.length<=40):BE (DE AD n m)<=BE AD:=by
 unfold DE BE
 induction AD with
 |nil=>simp
 |cons p AD ih=>
  rw[Au,Au,CM,Au,CM];have:=gQ p.2 n m hm;show wsum (Cs p.2 n m)+_<=_
  lia
theorem OR(AD:List Pg)(n m:Str):(DE AD n m).map (·.1)=AD.map (·.1):=by unfold DE;rw[Bh];rfl
theorem gH(x:Str):(DZ x).2.length<=x.length:=by
 unfold DZ;split
 ·exact Ny x _ _
 ·exact Ac _
theorem ay(t:Str):wsum (El t)<=44*(t.length+1):=by
 have h:=Lp t " " (by decide);unfold El CP;generalize Txt.split t " " =L at h;have:∀L:List Str,wsum ((L.filter fun p:Str=> !decide (p=("" :Str))).map DZ)<=43*L.length+(L.map (·.length)).sum:=by
  intro L
  induction L with
  |nil=>simp[wsum]
  |cons x L ih=>
   rw[Au,CM,CV];by_cases e:x=("" :Str)
   ·rw[Gs (by simp[e])]
    lia
   ·rw[F6 (by simp[e])];unfold wsum at ih⊢;rw[Au,Au,CM];have:wt (DZ x)<=43+x.length:=by
     have:=gH x;unfold wt
     lia
    lia
 have h2:=this L;have h3:43*L.length<=43*(t.length+1):=QA _ (by lia)
 lia
structure Sz(k:Nat)(AD:List Pg):Prop where
 nd:(AD.map (·.1)).Nodup
 len:AD.length<=k
 BE:BE AD<=50000*k
theorem Sz.more(s:Sz k AD):Sz (k+1) AD:=⟨s.nd,Nat.le_succ_of_le s.len,by have:=s.BE;lia⟩
theorem RO(AD:List Pg)(n:Str):(AQ AD n).length<=AD.length:=F8 _ _
theorem b9(AD:List Pg)(n:Str):L2.BE (AQ AD n)<=L2.BE AD:=by
 unfold AQ L2.BE
 induction AD with
 |nil=>simp
 |cons p AD ih=>
  rw[Au,CM];by_cases e:p.1=n
  ·rw[Gs (by simp[e])];lia
  ·rw[F6 (by simp[e]),Au,CM];lia
theorem Sz.next{k:Nat}{AD:List Pg}(s:Sz k AD){x:A8}(g:x.Good):Sz (k+1) ((HH AD x).next AD):=by
 have s':=s.more;have st:=s.BE;have sl:=s.len
 cases x with
 |write n t=>
  show Sz (k+1) ((HE AD n t).next AD);unfold HE;split
  ·refine⟨D1 s.nd,BI (GN _ _ _) (by lia),?_⟩;have h1:=OS AD n (El t) s.nd;have h2:=ay t;have h3:t.length<=1000:=g.2;show L2.BE (AZ AD n (El t))<=_
   lia
  ·exact s'
 |rename n m=>
  show Sz (k+1) ((G9 AD n m).next AD);unfold G9
  cases e:AF AD n with
  |none=>exact s'
  |some ws=>
   dsimp only;split
   ·cases e2:AF AD m with
    |some _=>exact s'
    |none=>
     show Sz (k+1) (renamed AD n m ws);unfold renamed;refine⟨by rw[OR];exact D1 (DC s.nd),?_,?_⟩
     ·have h1:=GN (AQ AD n) m ws;have h2:=RO AD n;show(List.map _ _).length<=_;rw[AL]
      lia
     ·have h1:=Xs (AZ (AQ AD n) m ws) n m g.2;have h2:=OS (AQ AD n) m ws (DC s.nd);have h3:=MB e
      lia
   ·exact s'
 |join n o=>
  show Sz (k+1) ((E9 AD n o).next AD);unfold E9
  cases e:AF AD n with
  |none=>exact s'
  |some w1=>
   dsimp only
   cases e2:AF AD o with
   |none=>exact s'
   |some w2=>
    dsimp only;split
    ·exact s'
    ·rename_i hne;show Sz (k+1) (joined AD n o w1 w2);unfold joined;refine⟨by rw[OR];exact D1 (DC s.nd),?_,?_⟩
     ·have h1:=GN (AQ AD o) n (w1++w2);have h2:=RO AD o;show(List.map _ _).length<=_;rw[AL]
      lia
     ·have h1:=Xs (AZ (AQ AD o) n (w1++w2)) o n g.1;have h2:=XD (ws:=w1++w2) (DC (k:=o) s.nd) (show AF (AQ AD o) n=some w1 by rw[Dv hne];exact e);have h3:=MB e2;rw[OF] at h2
      lia
 |cut n pl m=>
  show Sz (k+1) ((HJ AD n pl m).next AD);unfold HJ
  cases e:AF AD n with
  |none=>exact s'
  |some ws=>
   dsimp only;split
   ·cases e2:AF AD m with
    |some _=>exact s'
    |none=>
     dsimp only;split
     ·exact s'
     ·show Sz (k+1) (cutAt AD n m ws pl.toNat);unfold cutAt;have e3:AF (AZ AD m (ws.drop pl.toNat)) n=some ws:=by rw[Cn];rw[AG (fun z=>by rw[z,e2] at e;cases e)];exact e
      have Gj:((AZ AD m (ws.drop pl.toNat)).map (·.1)).Nodup:=D1 s.nd;refine⟨D1 Gj,?_,?_⟩
      ·obtain⟨i,hi⟩:=Fn e3;rw[Ke Gj hi,List.length_set];have:=GN AD m (ws.drop pl.toNat)
       lia
      ·have h1:=XD (ws:=ws.take pl.toNat++[(("to" :Str),m)]) Gj e3;have h2:=OS AD m (ws.drop pl.toNat) s.nd;have h3:wsum (ws.take pl.toNat)+wsum (ws.drop pl.toNat)=wsum ws:=by rw[<-OF,De]
       rw[OF] at h1;have h4:wsum [(("to" :Str),m)]=43:=by
        have:m.length<=40:=g.2;show(max 40 m.length+3)+0=43
        lia
       lia
   ·exact s'
 |drop n=>
  show Sz (k+1) ((HG AD n).next AD);unfold HG
  cases e:AF AD n with
  |none=>exact s'
  |some ws=>
   refine⟨DC s.nd,BI (RO _ _) (by lia),?_⟩;have:=b9 AD n;show L2.BE (AQ AD n)<=_
   lia
 |text n=>
  show Sz (k+1) ((GQ AD n).next AD);unfold GQ
  cases e:AF AD n with
  |none=>exact s'
  |some ws=>exact s'
 |back n=>exact s'
 |find ws far=>
  show Sz (k+1) (Rs.next AD (if ws=[] then .no "no words" else .un AD));split
  ·exact s'
  ·exact s'
theorem Oq:∀(xs:List A8)(k:Nat)(AD:List Pg),Sz k AD->(∀x∈xs,x.Good)->Sz (k+xs.length) (D4 AD xs)
 |[],k,AD,s,_=>s
 |x::xs,k,AD,s,g=>by have:=Oq xs (k+1) _ (s.next (g x Ed)) fun y hy=>g y (DU _ hy);rw[CV,show k+(xs.length+1)=k+1+xs.length by lia];exact this
theorem Rt:Sz 0 []:=⟨Nm,Ac _,Ac _⟩
theorem eT{xs:List A8}(g:∀x∈xs,x.Good)(hl:xs.length<=63):Small [] xs:=fun k hk=>by
 have s:=Oq (xs.take k) 0 [] Rt fun x hx=>g x (HY hx);have hk2:(xs.take k).length<=63:=by rw[Bg];lia
 have h1:=s.len;have h2:=s.BE;refine⟨⟨s.nd,by lia,?_⟩,by lia⟩;have:50000*(0+(xs.take k).length)<=50000*63:=QA _ (by lia)
 lia
section
variable[DecidableEq α]
theorem BU{l:List (α×β)}{k:α}{v:β}(h:AF l k=some v):(k,v)∈l:=by obtain⟨i,hi⟩:=Fn h;exact CL hi
theorem IL{l:List (α×β)}{k:α}{v:β}(nd:(l.map (·.1)).Nodup)(h:(k,v)∈l):AF l k=some v:=by obtain⟨i,hi⟩:=T5 h;exact IU nd hi
theorem RG{l:List (α×β)}{k:α}(h:k∈l.map (·.1)):∃v,AF l k=some v:=by
 cases e:AF l k with
 |some v=>exact⟨v,rfl⟩
 |none=>exact absurd h (L8 e)
theorem Ri{l:List (α×β)}{k:α}{v:β}(h:AF l k=some v):k∈l.map (·.1):=BY.mpr ⟨_,BU h,rfl⟩
theorem Ly{l m:List (α×β)}(hk:l.map (·.1)=m.map (·.1))(nd:(l.map (·.1)).Nodup)(h:∀k,k∈l.map (·.1)->AF l k=AF m k):l=m:=by
 have hlen:l.length=m.length:=by have:=BZ List.length hk;simpa using this
 refine JA fun i=>?_;by_cases hi:i<l.length
 ·have hj:i<m.length:=by lia
  have e1:l[i]? =some l[i]:=Ar hi;have e2:m[i]? =some m[i]:=Ar hj;have ek:l[i].1=m[i].1:=by have:=BZ (fun x=>x[i]?) hk;rw[Az,Az,e1,e2] at this;exact Ah this
  have g1:=IU nd e1;have g2:=IU (hk▸nd) e2;have:=h l[i].1 (BY.mpr ⟨_,E1 hi,rfl⟩);rw[g1,ek,g2] at this;rw[e1,e2];exact BZ some (Prod.ext ek (Ah this))
 ·rw[EL (by lia),EL (by lia)]
theorem JJ(l:List (α×β))(k:α)(v:β):(AZ l k v).map (·.1)=if k∈l.map (·.1) then l.map (·.1) else l.map (·.1)++[k]:=by
 by_cases h:k∈l.map (·.1)
 ·obtain⟨w,hw⟩:=RG h;rw[AH h];have hm:=BU hw;unfold AZ;rw[AH (KA.mpr ⟨_,hm,by simp⟩),Bh];refine Fc fun p _=>?_;show(if p.1=k then(p.1,v) else p).1=p.1;split<;>rfl
 ·rw[AG h];have hn:AF l k=none:=by
   cases e:AF l k with
   |none=>rfl
   |some w=>exact absurd (Ri e) h
  rw[Gz hn,BX];rfl
theorem KY(l:List (α×β))(k:α):(AQ l k).map (·.1)=(l.map (·.1)).filter fun x=>decide (x≠k):=by unfold AQ;rw[List.filter_map];rfl
theorem II(l:List (α×β))(k:α):AF (AQ l k) k=none:=by
 cases e:AF (AQ l k) k with
 |none=>rfl
 |some v=>have:=BU e;unfold AQ at this;have:=(IH.mp this).2;simp at this
theorem IS{l:List (α×β)}{k:α}{v:β}{p:α×β}(h:p∈AZ l k v):p∈l\/p=(k,v):=by
 unfold AZ at h;split at h
 ·obtain⟨q,hq,e⟩:=BY.mp h;split at e
  ·rename_i e1;rw[<-e,e1];exact .inr rfl
  ·rw[<-e];exact .inl hq
 ·rcases CB.mp h with z|z
  ·exact .inl z
  ·exact .inr (CA.mp z)
theorem Fh{l:List (α×β)}{k:α}{p:α×β}(h:p∈AQ l k):p∈l/\p.1≠k:=by unfold AQ at h;have:=IH.mp h;exact⟨this.1,by simpa using this.2⟩
theorem G0{l:List (α×β)}{k:α}{p:α×β}(h:p∈l)(hk:p.1≠k):p∈AQ l k:=IH.mpr ⟨h,by simpa using hk⟩
end
def sh(names:List (Str×Int))(w:Wd):PR:=if w.to=true then(("to" :Str),if w.no= -1 then w.nm else nameOf names w.no) else(("word" :Str),w.nm)
def Aj(n:Nk)(no:Int):List PR:=((AF n.texts no).getD []).map (sh n.names)
def vw(n:Nk):List Pg:=n.names.map fun p=>(p.1,Aj n p.2)
def ED(names:List (Str×Int))(w:Wd):Prop:=w.to=true->(w.no= -1/\AF names w.nm=none)\/∃nm,(nm,w.no)∈names
structure Bm(n:Nk):Prop where
 CQ:(n.names.map (·.1)).Nodup
 inj:(n.names.map (·.2)).Nodup
 Cb:(n.texts.map (·.1)).Nodup
 tx:∀p∈n.names,∃ws,AF n.texts p.2=some ws
 own:∀p∈n.texts,∃nm,(nm,p.1)∈n.names
 lt:∀p∈n.texts,0<=p.1/\p.1<n.made
 wd:∀p∈n.texts,∀w∈p.2,ED n.names w
variable{l:List (Str×Int)}
theorem JU(inj:(l.map (·.2)).Nodup){a b:Str}(ha:(a,no)∈l)(hb:(b,no)∈l):a=b:=by
 induction l with
 |nil=>cases ha
 |cons p l ih=>
  rw[Au,IG] at inj;rcases Bk.mp ha with e1|e1
  ·rcases Bk.mp hb with e2|e2
   ·rw[<-e1] at e2;exact(KS e2).1.symm
   ·exact absurd (BY.mpr ⟨_,e2,by rw[<-e1]⟩) inj.1
  ·rcases Bk.mp hb with e2|e2
   ·exact absurd (BY.mpr ⟨_,e1,by rw[<-e2]⟩) inj.1
   ·exact ih inj.2 e1 e2
theorem VR(inj:(l.map (·.2)).Nodup){a:Str}(h:(a,no)∈l):nameOf l no=a:=by
 unfold nameOf
 cases e:l.find? fun p=>decide (p.2=no) with
 |none=>have:=UG.mp e _ h;simp at this
 |some p=>
  have h1:=List.mem_of_find?_eq_some e;have h2:p.2=no:=by simpa using List.find?_some e
  show p.1=a;exact JU inj (show(p.1,no)∈l by rw[<-h2];exact h1) h
theorem Bm.Eu(b:Bm n){nm:Str}(h:(nm,no)∈n.names):0<=no/\no<n.made:=by obtain⟨ws,hw⟩:=b.tx _ h;exact b.lt _ (BU hw)
theorem Dh(n:Nk):(vw n).map (·.1)=n.names.map (·.1):=by unfold vw;rw[Bh];rfl
theorem En(n:Nk)(k:Str):AF (vw n) k=(AF n.names k).map (Aj n):=by
 unfold vw AF;generalize n.names=l
 induction l with
 |nil=>rfl
 |cons p l ih=>
  rw[Au];by_cases e:p.1=k
  ·rw[LY (by simpa using e),LY (by simpa using e)];rfl
  ·rw[LZ (by simpa using e),LZ (by simpa using e)];exact ih
theorem SD(l:List Pg)(a b k:Str):AF (DE l a b) k=(AF l k).map fun ws=>Cs ws a b:=by
 unfold DE AF
 induction l with
 |nil=>rfl
 |cons p l ih=>
  rw[Au];by_cases e:p.1=k
  ·rw[LY (by simpa using e),LY (by simpa using e)];rfl
  ·rw[LZ (by simpa using e),LZ (by simpa using e)];exact ih
theorem MK(n:Nk)(g:Wd->Wd)(no:Int):AF (n.Hu g).texts no=(AF n.texts no).map (List.map g):=by
 show AF (n.texts.map fun p=>(p.1,p.2.map g)) no=_;unfold AF;generalize n.texts=l
 induction l with
 |nil=>rfl
 |cons p l ih=>
  rw[Au];by_cases e:p.1=no
  ·rw[LY (by simpa using e),LY (by simpa using e)];rfl
  ·rw[LZ (by simpa using e),LZ (by simpa using e)];exact ih
theorem Bm.same(b:Bm n){a k:Str}{no':Int}(ha:AF n.names a=some no)(hk:AF n.names k=some no'):no'=no↔k=a:=by
 constructor
 ·intro e;rw[e] at hk;exact JU b.inj (BU hk) (BU ha)
 ·intro e;rw[e,ha] at hk;exact(Ah hk).symm
theorem Bm.text(b:Bm n){a:Str}(ha:AF n.names a=some no):∃ws,AF n.texts no=some ws/\∀w∈ws,ED n.names w:=by obtain⟨ws,hw⟩:=b.tx _ (BU ha);exact⟨ws,hw,b.wd _ (BU hw)⟩
noncomputable def I0(a b:Str)(p:PR):PR:=if p=(("to" :Str),a) then(("to" :Str),b) else p
theorem RX(ws:List PR)(a b:Str):Cs ws a b=ws.map (I0 a b):=rfl
theorem lL{a:Str}:((("word" :Str),x):PR)≠(("to" :Str),a):=by intro z;have:("word" :Str)="to" :=(KS z).1;exact absurd this (by ac_rfl)
theorem XB(a b x:Str):I0 a b (("word" :Str),x)=(("word" :Str),x):=AG lL
theorem Yc(a b:Str):I0 a b (("to" :Str),a)=(("to" :Str),b):=AH rfl
theorem OM{a b:Str}(h:x≠a):I0 a b (("to" :Str),x)=(("to" :Str),x):=AG fun z=>h (KS z).2
theorem HC{w:Wd}(h:w.to=false):sh names w=(("word" :Str),w.nm):=by unfold sh;rw[h];rfl
theorem Fm{w:Wd}(h:w.to=true)(hn:w.no= -1):sh names w=(("to" :Str),w.nm):=by unfold sh;rw[AH h,AH hn]
theorem dw{w:Wd}(h:w.to=true)(hn:w.no≠-1):sh names w=(("to" :Str),nameOf names w.no):=by unfold sh;rw[AH h,AG hn]
theorem EV(inj:(names.map (·.2)).Nodup){w:Wd}(h:w.to=true)(hn:w.no≠-1)(hx:(x,w.no)∈names):sh names w=(("to" :Str),x):=by rw[dw h hn,VR inj hx]
variable{ws:List Wd}
theorem Rm{n':Nk}{g:Wd->Wd}{h:PR->PR}(e1:AF n.texts no=some ws)(e2:AF n'.texts no=some (ws.map g))(hw:∀w∈ws,sh n'.names (g w)=h (sh n.names w)):Aj n' no=(Aj n no).map h:=by unfold Aj;rw[e1,e2];show(ws.map g).map _=(ws.map _).map h;rw[Bh,Bh];exact Fc fun w hw'=>hw w hw'
theorem RQ{k:Str}{v:Int}(inj:(l.map (·.2)).Nodup)(hk:AF l k=none)(hv:v∉l.map (·.2)):((AZ l k v).map (·.2)).Nodup:=by
 rw[Gz hk,BX];refine QO.mpr ⟨inj,by simp,fun a ha b hb e=>?_⟩;have:b=v:=by simpa using hb
 rw[<-e] at this;exact hv (this▸ha)
theorem L7{k:Str}(inj:(l.map (·.2)).Nodup):((AQ l k).map (·.2)).Nodup:=by unfold AQ;exact List.Nodup.sublist ((List.filter_sublist).map _) inj
section
variable{o:Str}
theorem N1(ho:AF n.names o=none):(n.added o).names=n.names++[(o,n.made)]:=Gz ho
theorem N8(no:Int):AF (n.added o).texts no=((if no=n.made then some [] else AF n.texts no):Option (List Wd)).map (List.map (CH o n.made)):=by show AF (Nk.Hu _ (CH o n.made)).texts no=_;rw[MK];show(AF (AZ n.texts n.made []) no).map _=_;rw[Cn]
theorem Bm.fresh(b:Bm n):n.made∉n.names.map (·.2):=fun h=>by
 obtain⟨p,hp,e⟩:=BY.mp h;have:=(b.Eu (nm:=p.1) (no:=p.2) hp).2
 lia
theorem Um(b:Bm n)(h0:0<=n.made)(ho:AF n.names o=none){w:Wd}(ok:ED n.names w):sh (n.added o).names (CH o n.made w)=sh n.names w/\ED (n.added o).names (CH o n.made w):=by
 have inj':((n.added o).names.map (·.2)).Nodup:=RQ b.inj ho b.fresh;rw[N1 ho] at inj'⊢;unfold CH
 cases ht:w.to with
 |false=>rw[AG (fun z=>by cases z.1)];exact⟨by rw[HC ht,HC ht],fun z=>by rw[ht] at z;cases z⟩
 |true=>
  rcases ok ht with⟨hl,hnm⟩|⟨x,hx⟩
  ·by_cases e:w.nm=o
   ·rw[AH ⟨rfl,hl,e⟩];have hin:(o,n.made)∈n.names++[(o,n.made)]:=Df _ (CA.mpr rfl);refine⟨?_,fun _=>.inr ⟨o,hin⟩⟩;rw[Fm ht hl,e];exact EV inj' (w:=⟨true,o,n.made⟩) rfl (by show n.made≠-1;lia) hin
   ·rw[AG (fun z=>e z.2.2)];refine⟨by rw[Fm ht hl,Fm ht hl],fun _=>.inl ⟨hl,?_⟩⟩;rw[<-Gz ho,Cn,AG e];exact hnm
  ·have hp:=b.Eu hx;have hn:w.no≠-1:=by lia
   rw[AG (fun z=>hn z.2.1)];have hx':(x,w.no)∈n.names++[(o,n.made)]:=Ha _ hx;exact⟨by rw[EV inj' ht hn hx',EV b.inj ht hn hx],fun _=>.inr ⟨x,hx'⟩⟩
theorem Bm.added(b:Bm n)(h0:0<=n.made)(ho:AF n.names o=none):Bm (n.added o):=by
 have hnm:=N1 ho;have tn:AF n.texts n.made=none:=by
  cases e:AF n.texts n.made with
  |none=>rfl
  |some ws=>have:=(b.lt _ (BU e)).2;dsimp only at this;lia
 have etx:(n.added o).texts=(AZ n.texts n.made []).map fun p=>(p.1,p.2.map (CH o n.made)):=rfl;have kt:(n.added o).texts.map (·.1)=n.texts.map (·.1)++[n.made]:=by rw[etx,Bh];show(AZ n.texts n.made []).map (·.1)=_;rw[Gz tn,BX];rfl
 have ndt':((n.added o).texts.map (·.1)).Nodup:=by rw[etx,Bh];exact D1 b.Cb
 have mem_t:∀p∈(n.added o).texts,∃q∈AZ n.texts n.made [],p=(q.1,q.2.map (CH o n.made)):=fun p hp=>by rw[etx] at hp;obtain⟨q,hq,e⟩:=BY.mp hp;exact⟨q,hq,e.symm⟩
 refine⟨D1 b.CQ,RQ b.inj ho b.fresh,ndt',fun p hp=>?_,fun p hp=>?_,fun p hp=>?_,fun p hp w hw=>?_⟩
 ·rw[N8];rw[hnm] at hp;rcases CB.mp hp with e|e
  ·obtain⟨ws,hw⟩:=b.tx p e;by_cases z:p.2=n.made
   ·rw[AH z];exact⟨_,rfl⟩
   ·rw[AG z,hw];exact⟨_,rfl⟩
  ·rw[CA.mp e,AH rfl];exact⟨_,rfl⟩
 ·obtain⟨q,hq,rfl⟩:=mem_t p hp;rw[hnm];rcases IS hq with e|e
  ·obtain⟨nm,h⟩:=b.own q e;exact⟨nm,Ha _ h⟩
  ·rw[e];exact⟨o,Df _ (CA.mpr rfl)⟩
 ·obtain⟨q,hq,rfl⟩:=mem_t p hp;show 0<=q.1/\q.1<n.made+1;rcases IS hq with e|e
  ·have:=b.lt q e
   lia
  ·rw[e];show 0<=n.made/\n.made<n.made+1
   lia
 ·obtain⟨q,hq,rfl⟩:=mem_t p hp;obtain⟨w0,h0',rfl⟩:=BY.mp hw;rcases IS hq with e|e
  ·exact(Um b h0 ho (b.wd q e w0 h0')).2
  ·rw[e] at h0';cases h0'
theorem WI(b:Bm n)(h0:0<=n.made)(ho:AF n.names o=none)(hw:AF n.texts no=some ws):Aj (n.added o) no=Aj n no:=by
 have hne:no≠n.made:=by have:=(b.lt _ (BU hw)).2;dsimp only at this;lia
 have e2:AF (n.added o).texts no=some (ws.map (CH o n.made)):=by rw[N8,AG hne,hw];rfl
 have:=Rm (h:=id) hw e2 fun w hw'=>(Um b h0 ho (b.wd _ (BU hw) w hw')).1;rw[this,N3]
theorem WD(b:Bm n)(h0:0<=n.made)(ho:AF n.names o=none):vw (n.added o)=AZ (vw n) o []:=by
 have hv:AF (vw n) o=none:=by rw[En,ho];rfl
 rw[Gz hv];unfold vw;rw[N1 ho,BX];congr 1
 ·refine Fc fun p hp=>?_;obtain⟨ws,hw⟩:=b.tx p hp;show(p.1,Aj (n.added o) p.2)=_;rw[WI b h0 ho hw]
 ·show[(o,Aj (n.added o) n.made)]=_;unfold Aj;rw[N8,AH rfl];rfl
end
section
variable{a:Str}
def Nk.Cf(n:Nk)(no:Int)(ws:List Wd):Nk:={n with texts:=AZ n.texts no ws}
theorem Bm.Cf(b:Bm n)(ha:AF n.names a=some no)(ok:∀w∈ws,ED n.names w):Bm (n.Cf no ws):=by
 refine⟨b.CQ,b.inj,D1 b.Cb,fun p hp=>?_,fun p hp=>?_,fun p hp=>?_,fun p hp w hw=>?_⟩
 ·show∃x,AF (AZ n.texts no ws) p.2=some x;rw[Cn];by_cases z:p.2=no
  ·rw[AH z];exact⟨_,rfl⟩
  ·rw[AG z];exact b.tx p hp
 ·rcases IS hp with e|e
  ·exact b.own p e
  ·rw[e];exact⟨a,BU ha⟩
 ·rcases IS hp with e|e
  ·exact b.lt p e
  ·rw[e];exact b.Eu (BU ha)
 ·rcases IS hp with e|e
  ·exact b.wd p e w hw
  ·rw[e] at hw;exact ok w hw
theorem OQ(b:Bm n)(ha:AF n.names a=some no):vw (n.Cf no ws)=AZ (vw n) a (ws.map (sh n.names)):=by
 have hin:a∈(vw n).map (·.1):=by rw[Dh];exact Ri ha
 refine Ly ?_ (by rw[Dh];exact b.CQ) fun k hk=>?_
 ·rw[JJ,AH hin,Dh,Dh];rfl
 ·rw[En,Cn,En];rw[Dh] at hk;obtain⟨no',hk'⟩:=RG hk;have hk2:AF n.names k=some no':=hk';show(AF n.names k).map (Aj (n.Cf no ws))=_;rw[hk2];show some (Aj (n.Cf no ws) no')=_;have e:Aj (n.Cf no ws) no'=((AF (AZ n.texts no ws) no').getD []).map (sh n.names):=rfl;rw[e,Cn];by_cases z:k=a
  ·rw[AH z,AH ((b.same ha hk2).mpr z)];rfl
  ·rw[AG z,AG (fun y=>z ((b.same ha hk2).mp y))];rfl
end
theorem WU{l:List Pg}{k:Str}{x y:List PR}(nd:(l.map (·.1)).Nodup):AZ (AZ l k x) k y=AZ l k y:=by
 refine Ly ?_ (D1 (D1 nd)) fun j hj=>?_
 ·rw[JJ,JJ,JJ];by_cases h:k∈l.map (·.1)
  ·rw[AH h,AH h]
  ·rw[AG h,AH (by simp)]
 ·rw[Cn,Cn,Cn];split<;>rfl
section
variable{a o:Str}
def Nk.renamed(n:Nk)(a o:Str)(no:Int):Nk:=({n with names:=AQ n.names a}:Nk).named o no
theorem Lx{a o:Str}(h:AF l o=none):AF (AQ l a) o=none:=by
 by_cases z:o=a
 ·rw[z];exact II ..
 ·rw[Dv z];exact h
theorem L4(ho:AF n.names o=none):(n.renamed a o no).names=AQ n.names a++[(o,no)]:=Gz (Lx ho)
theorem WL(b:Bm n)(ha:AF n.names a=some no)(ho:AF n.names o=none):((n.renamed a o no).names.map (·.2)).Nodup:=by refine RQ (L7 b.inj) (Lx ho) fun h=>?_;obtain⟨p,hp,e⟩:=BY.mp h;obtain⟨h1,h2⟩:=Fh hp;exact h2 (JU b.inj (show(p.1,no)∈n.names by rw[<-e];exact h1) (BU ha))
theorem Vd(b:Bm n)(ha:AF n.names a=some no)(ho:AF n.names o=none){w:Wd}(ok:ED n.names w):sh (n.renamed a o no).names (CH o no w)=I0 a o (sh n.names w)/\ED (n.renamed a o no).names (CH o no w):=by
 have inj':=WL b ha ho;have hao:o≠a:=fun z=>by rw[z,ha] at ho;cases ho
 have hpos:=b.Eu (BU ha);have hin:(o,no)∈(n.renamed a o no).names:=by rw[L4 ho];exact Df _ (CA.mpr rfl)
 have gn:∀k,k≠o->AF n.names k=none->AF (n.renamed a o no).names k=none:=fun k h1 h2=>by show AF (AZ (AQ n.names a) o no) k=none;rw[Cn,AG h1];exact Lx h2
 have mn:∀x m,(x,m)∈n.names->x≠a->(x,m)∈(n.renamed a o no).names:=fun x m h1 h2=>by rw[L4 ho];exact Ha _ (G0 h1 h2)
 obtain⟨t,nm,m⟩:=w;unfold CH
 cases t with
 |false=>rw[AG (fun z=>by cases z.1)];exact⟨by rw[HC rfl,HC rfl,XB],fun z=>by cases z⟩
 |true=>
  rcases ok rfl with⟨hl,hnm⟩|⟨x,hx⟩
  ·have hl':m= -1:=hl;have hnm':AF n.names nm=none:=hnm;have nna:nm≠a:=fun z=>by rw[z,ha] at hnm';cases hnm'
   rw[Fm (names:=n.names) rfl hl,OM nna];by_cases e:nm=o
   ·rw[AH ⟨rfl,hl',e⟩];refine⟨?_,fun _=>.inr ⟨o,hin⟩⟩;show _=(("to" :Str),nm);rw[e];exact EV inj' (w:=⟨true,_,no⟩) rfl (by show no≠-1;lia) hin
   ·rw[AG (fun z=>e z.2.2)];exact⟨Fm rfl hl,fun _=>.inl ⟨hl,gn _ e hnm'⟩⟩
  ·have hx':(x,m)∈n.names:=hx;have hp:=b.Eu hx';have hn:m≠-1:=by lia
   rw[AG (fun z=>hn z.2.1),EV b.inj (w:=⟨true,nm,m⟩) rfl hn hx'];by_cases e:x=a
   ·have em:m=no:=by have h1:=IL b.CQ hx';rw[e,ha] at h1;exact(Ah h1).symm
    rw[e,Yc];have hin':(o,m)∈(n.renamed a o no).names:=by rw[em];exact hin
    exact⟨EV inj' (w:=⟨true,nm,m⟩) rfl hn hin',fun _=>.inr ⟨o,hin'⟩⟩
   ·rw[OM e];exact⟨EV inj' (w:=⟨true,nm,m⟩) rfl hn (mn _ _ hx' e),fun _=>.inr ⟨x,mn _ _ hx' e⟩⟩
theorem Wh(m:Int):AF (n.renamed a o no).texts m=(AF n.texts m).map (List.map (CH o no)):=MK _ _ _
theorem Bm.renamed(b:Bm n)(ha:AF n.names a=some no)(ho:AF n.names o=none):Bm (n.renamed a o no):=by
 have etx:(n.renamed a o no).texts=n.texts.map fun p=>(p.1,p.2.map (CH o no)):=rfl;have mem_t:∀p∈(n.renamed a o no).texts,∃q∈n.texts,p=(q.1,q.2.map (CH o no)):=fun p hp=>by rw[etx] at hp;obtain⟨q,hq,e⟩:=BY.mp hp;exact⟨q,hq,e.symm⟩
 refine⟨D1 (DC b.CQ),WL b ha ho,by rw[etx,Bh];exact b.Cb,fun p hp=>?_,fun p hp=>?_,fun p hp=>?_,fun p hp w hw=>?_⟩
 ·rw[Wh];rw[L4 ho] at hp;have:∃ws,AF n.texts p.2=some ws:=by
   rcases CB.mp hp with e|e
   ·exact b.tx p (Fh e).1
   ·rw[CA.mp e];exact b.tx (a,no) (BU ha)
  obtain⟨ws,hw⟩:=this;rw[hw];exact⟨_,rfl⟩
 ·obtain⟨q,hq,rfl⟩:=mem_t p hp;obtain⟨nm,h⟩:=b.own q hq;rw[L4 ho];by_cases z:nm=a
  ·have:q.1=no:=by have h1:=IL b.CQ h;rw[z,ha] at h1;exact(Ah h1).symm
   exact⟨o,Df _ (by show(o,q.1)∈_;rw[this];exact CA.mpr rfl)⟩
  ·exact⟨nm,Ha _ (G0 h z)⟩
 ·obtain⟨q,hq,rfl⟩:=mem_t p hp;exact b.lt q hq
 ·obtain⟨q,hq,rfl⟩:=mem_t p hp;obtain⟨w0,h0',rfl⟩:=BY.mp hw;exact(Vd b ha ho (b.wd q hq w0 h0')).2
theorem ji(b:Bm n)(ha:AF n.names a=some no)(ho:AF n.names o=none):vw (n.renamed a o no)=DE (AZ (AQ (vw n) a) o (Aj n no)) a o:=by
 have hk0:(vw n).map (·.1)=n.names.map (·.1):=Dh n;refine Ly ?_ (by rw[Dh];exact D1 (DC b.CQ)) fun k hk=>?_
 ·rw[Dh,OR,JJ,KY,hk0];show(AZ (AQ n.names a) o no).map (·.1)=_;rw[JJ,KY]
 ·rw[En,SD,Cn];show(AF (AZ (AQ n.names a) o no) k).map _=_;rw[Cn];have key:∀m x,AF n.names x=some m->Aj (n.renamed a o no) m=Cs (Aj n m) a o:=fun m x hx=>by obtain⟨ws,h1,h2⟩:=b.text hx;rw[RX];exact Rm (h:=I0 a o) h1 (by rw[Wh,h1];rfl) fun w hw=>(Vd b ha ho (h2 w hw)).1
  by_cases z:k=o
  ·rw[AH z,AH z];exact BZ some (key no a ha)
  ·rw[AG z,AG z];by_cases z2:k=a
   ·rw[z2,II,II];rfl
   ·rw[Dv z2,Dv z2,En]
    cases e:AF n.names k with
    |none=>rfl
    |some m=>exact BZ some (key m k e)
end
section
variable{a o:Str}{no2:Int}
def Nk.dropped(n:Nk)(a:Str)(no:Int):Nk:=({n with names:=AQ n.names a,texts:=AQ n.texts no}:Nk).turned no a (-1)
theorem Uw(b:Bm n)(ha:AF n.names a=some no){w:Wd}(ok:ED n.names w):sh (AQ n.names a) (CJ no a (-1) w)=sh n.names w/\ED (AQ n.names a) (CJ no a (-1) w):=by
 have inj':=L7 (k:=a) b.inj;obtain⟨t,nm,m⟩:=w;unfold CJ
 cases t with
 |false=>rw[AG (fun z=>by cases z.1)];exact⟨by rw[HC rfl,HC rfl],fun z=>by cases z⟩
 |true=>
  have hpos:=b.Eu (BU ha);rcases ok rfl with⟨hl,hnm⟩|⟨x,hx⟩
  ·have hl':m= -1:=hl;rw[AG (fun z=>by have h2:m=no:=z.2;lia)];exact⟨by rw[Fm rfl hl,Fm rfl hl],fun _=>.inl ⟨hl,Lx hnm⟩⟩
  ·have hx':(x,m)∈n.names:=hx;have hn:m≠-1:=by have:=b.Eu hx';lia
   rw[EV b.inj (w:=⟨true,nm,m⟩) rfl hn hx'];by_cases e:m=no
   ·rw[AH ⟨rfl,e⟩];have ex:x=a:=JU b.inj (by rw[<-e];exact hx') (BU ha);rw[ex];exact⟨Fm (w:=⟨true,a,-1⟩) rfl rfl,fun _=>.inl ⟨rfl,II ..⟩⟩
   ·rw[AG (fun z=>e z.2)];have ex:x≠a:=fun z=>by have h1:=IL b.CQ hx';rw[z,ha] at h1;exact e (Ah h1).symm
    exact⟨EV inj' (w:=⟨true,nm,m⟩) rfl hn (G0 hx' ex),fun _=>.inr ⟨x,G0 hx' ex⟩⟩
theorem Bm.dropped(b:Bm n)(ha:AF n.names a=some no):Bm (n.dropped a no):=by
 have etx:(n.dropped a no).texts=(AQ n.texts no).map fun p=>(p.1,p.2.map (CJ no a (-1))):=rfl;have mem_t:∀p∈(n.dropped a no).texts,∃q∈n.texts,q.1≠no/\p=(q.1,q.2.map (CJ no a (-1))):=fun p hp=>by rw[etx] at hp;obtain⟨q,hq,e⟩:=BY.mp hp;exact⟨q,(Fh hq).1,(Fh hq).2,e.symm⟩
 refine⟨DC b.CQ,L7 b.inj,by rw[etx,Bh];exact DC b.Cb,fun p hp=>?_,fun p hp=>?_,fun p hp=>?_,fun p hp w hw=>?_⟩
 ·obtain⟨h1,h2⟩:=Fh hp;obtain⟨ws,hw⟩:=b.tx p h1;have hne:p.2≠no:=fun z=>h2 (JU b.inj (show(p.1,no)∈n.names by rw[<-z];exact h1) (BU ha));have:AF (n.dropped a no).texts p.2=(AF (AQ n.texts no) p.2).map (List.map (CJ no a (-1))):=MK _ _ _;rw[this,Dv hne,hw];exact⟨_,rfl⟩
 ·obtain⟨q,hq,hne,rfl⟩:=mem_t p hp;obtain⟨nm,h⟩:=b.own q hq;refine⟨nm,G0 h fun z=>hne ?_⟩;have h1:=IL b.CQ h;have z':nm=a:=z;rw[z',ha] at h1;exact(Ah h1).symm
 ·obtain⟨q,hq,_,rfl⟩:=mem_t p hp;exact b.lt q hq
 ·obtain⟨q,hq,_,rfl⟩:=mem_t p hp;obtain⟨w0,h0',rfl⟩:=BY.mp hw;exact(Uw b ha (b.wd q hq w0 h0')).2
theorem gF(b:Bm n)(ha:AF n.names a=some no):vw (n.dropped a no)=AQ (vw n) a:=by
 refine Ly ?_ (by rw[Dh];exact DC b.CQ) fun k hk=>?_
 ·rw[Dh,KY,Dh];exact KY ..
 ·rw[En];show(AF (AQ n.names a) k).map _=_;by_cases z:k=a
  ·rw[z,II,II];rfl
  ·rw[Dv z,Dv z,En]
   cases e:AF n.names k with
   |none=>rfl
   |some m=>
    obtain⟨ws,h1,h2⟩:=b.text e;have hne:m≠no:=fun y=>z ((b.same ha e).mp y);have e2:AF (n.dropped a no).texts m=some (ws.map (CJ no a (-1))):=by have:AF (n.dropped a no).texts m=(AF (AQ n.texts no) m).map (List.map (CJ no a (-1))):=MK _ _ _;rw[this,Dv hne,h1];rfl
    have:=Rm (n':=n.dropped a no) (h:=id) h1 e2 fun w hw=>(Uw b ha (h2 w hw)).1;show some (Aj (n.dropped a no) m)=some (Aj n m);rw[this,N3]
end
section
variable{a o:Str}{no2:Int}{w1 w2:List Wd}
theorem VT(b:Bm n)(ha:AF n.names a=some no)(ho:AF n.names o=some no2)(hne:a≠o){w:Wd}(ok:ED n.names w):sh (AQ n.names o) (CJ no2 "" no w)=I0 o a (sh n.names w)/\ED (AQ n.names o) (CJ no2 "" no w):=by
 have inj':=L7 (k:=o) b.inj;have hin:(a,no)∈AQ n.names o:=G0 (BU ha) hne;have hpos:=b.Eu (BU ha);have hpos2:=b.Eu (BU ho);obtain⟨t,nm,m⟩:=w;unfold CJ
 cases t with
 |false=>rw[AG (fun z=>by cases z.1)];exact⟨by rw[HC rfl,HC rfl,XB],fun z=>by cases z⟩
 |true=>
  rcases ok rfl with⟨hl,hnm⟩|⟨x,hx⟩
  ·have hl':m= -1:=hl;have hnm':AF n.names nm=none:=hnm;have nno:nm≠o:=fun z=>by rw[z,ho] at hnm';cases hnm'
   rw[AG (fun z=>by have h2:m=no2:=z.2;lia)];exact⟨by rw[Fm rfl hl,Fm rfl hl,OM nno],fun _=>.inl ⟨hl,Lx hnm⟩⟩
  ·have hx':(x,m)∈n.names:=hx;have hn:m≠-1:=by have:=b.Eu hx';lia
   rw[EV b.inj (w:=⟨true,nm,m⟩) rfl hn hx'];by_cases e:m=no2
   ·rw[AH ⟨rfl,e⟩];have ex:x=o:=JU b.inj (by rw[<-e];exact hx') (BU ho);rw[ex,Yc];exact⟨EV inj' (w:=⟨true,"",no⟩) rfl (by show no≠-1;lia) hin,fun _=>.inr ⟨a,hin⟩⟩
   ·rw[AG (fun z=>e z.2)];have ex:x≠o:=fun z=>by have h1:=IL b.CQ hx';rw[z,ho] at h1;exact e (Ah h1).symm
    rw[OM ex];exact⟨EV inj' (w:=⟨true,nm,m⟩) rfl hn (G0 hx' ex),fun _=>.inr ⟨x,G0 hx' ex⟩⟩
theorem RL(m:Int):AF (n.joined no o no2 w1 w2).texts m=((if m=no then some (w1++w2) else AF (AQ n.texts no2) m):Option (List Wd)).map (List.map (CJ no2 "" no)):=by show AF (Nk.Hu _ (CJ no2 "" no)).texts m=_;rw[MK];show(AF (AZ (AQ n.texts no2) no (w1++w2)) m).map _=_;rw[Cn]
theorem Bm.joined(b:Bm n)(ha:AF n.names a=some no)(ho:AF n.names o=some no2)(hne:a≠o)(h1:AF n.texts no=some w1)(h2:AF n.texts no2=some w2):Bm (n.joined no o no2 w1 w2):=by
 have nn:no≠no2:=fun z=>hne ((b.same ho ha).mp z);have etx:(n.joined no o no2 w1 w2).texts=(AZ (AQ n.texts no2) no (w1++w2)).map fun p=>(p.1,p.2.map (CJ no2 "" no)):=rfl;have mem_t:∀p∈(n.joined no o no2 w1 w2).texts,∃q,((q∈n.texts/\q.1≠no2)\/q=(no,w1++w2))/\p=(q.1,q.2.map (CJ no2 "" no)):=fun p hp=>by
  rw[etx] at hp;obtain⟨q,hq,e⟩:=BY.mp hp;refine⟨q,?_,e.symm⟩;rcases IS hq with z|z
  ·exact .inl (Fh z)
  ·exact .inr z
 refine⟨DC b.CQ,L7 b.inj,by rw[etx,Bh];exact D1 (DC b.Cb),fun p hp=>?_,fun p hp=>?_,fun p hp=>?_,fun p hp w hw=>?_⟩
 ·obtain⟨g1,g2⟩:=Fh hp;obtain⟨ws,hw⟩:=b.tx p g1;rw[RL];by_cases z:p.2=no
  ·rw[AH z];exact⟨_,rfl⟩
  ·have hne2:p.2≠no2:=fun z=>g2 (JU b.inj (show(p.1,no2)∈n.names by rw[<-z];exact g1) (BU ho));rw[AG z,Dv hne2,hw];exact⟨_,rfl⟩
 ·obtain⟨q,hq,rfl⟩:=mem_t p hp;rcases hq with⟨hq,hq2⟩|rfl
  ·obtain⟨nm,h⟩:=b.own q hq;refine⟨nm,G0 h fun z=>hq2 ?_⟩;have g1:=IL b.CQ h;have z':nm=o:=z;rw[z',ho] at g1;exact(Ah g1).symm
  ·exact⟨a,G0 (BU ha) hne⟩
 ·obtain⟨q,hq,rfl⟩:=mem_t p hp;rcases hq with⟨hq,_⟩|rfl
  ·exact b.lt q hq
  ·exact b.Eu (BU ha)
 ·obtain⟨q,hq,rfl⟩:=mem_t p hp;obtain⟨w0,h0',rfl⟩:=BY.mp hw;refine(VT b ha ho hne ?_).2;rcases hq with⟨hq,_⟩|rfl
  ·exact b.wd q hq w0 h0'
  ·rcases CB.mp h0' with z|z
   ·exact b.wd _ (BU h1) w0 z
   ·exact b.wd _ (BU h2) w0 z
theorem iG(b:Bm n)(ha:AF n.names a=some no)(ho:AF n.names o=some no2)(hne:a≠o)(h1:AF n.texts no=some w1)(h2:AF n.texts no2=some w2):
 vw (n.joined no o no2 w1 w2)=DE (AZ (AQ (vw n) o) a (Aj n no++Aj n no2)) o a:=by
 have hk0:(vw n).map (·.1)=n.names.map (·.1):=Dh n;have okAll:∀ws:List Wd,(∀w∈ws,ED n.names w)->(ws.map (CJ no2 "" no)).map (sh (AQ n.names o))=(ws.map (sh n.names)).map (I0 o a):=fun ws h=>by rw[Bh,Bh];exact Fc fun w hw=>(VT b ha ho hne (h w hw)).1
 refine Ly ?_ (by rw[Dh];exact DC b.CQ) fun k hk=>?_
 ·rw[Dh,OR,JJ,KY,hk0,AH]
  ·exact KY ..
  ·exact IH.mpr ⟨Ri ha,by simpa using hne⟩
 ·rw[En,SD,Cn];show(AF (AQ n.names o) k).map _=_;by_cases z:k=o
  ·rw[z,II,AG hne.symm,II];rfl
  ·rw[Dv z];by_cases y:k=a
   ·rw[AH y,y,ha];show some (((AF (n.joined no o no2 w1 w2).texts no).getD []).map (sh (AQ n.names o)))=some (Cs _ o a);rw[RL,AH rfl,RX];show some (((w1++w2).map (CJ no2 "" no)).map (sh (AQ n.names o)))=_;rw[okAll _ fun w hw=>by
     rcases CB.mp hw with z|z
     ·exact b.wd _ (BU h1) w z
     ·exact b.wd _ (BU h2) w z];unfold Aj;rw[h1,h2,BX];rfl
   ·rw[AG y,Dv z,En]
    cases e:AF n.names k with
    |none=>rfl
    |some m=>obtain⟨ws,g1,g2⟩:=b.text e;have m1:m≠no:=fun q=>y ((b.same ha e).mp q);have m2:m≠no2:=fun q=>z ((b.same ho e).mp q);show some (((AF (n.joined no o no2 w1 w2).texts m).getD []).map (sh (AQ n.names o)))=some (Cs (Aj n m) o a);rw[RL,AG m1,Dv m2,g1,RX];show some ((ws.map (CJ no2 "" no)).map (sh (AQ n.names o)))=_;rw[okAll ws g2];unfold Aj;rw[g1];rfl
end
def Nk.wrote(n:Nk)(a t:Str):Nk:=match AF n.names a with
 |some no=>n.Cf no (Fu n.names t)
 |none=>(n.added a).Cf n.made (Fu (n.added a).names t)
def Nk.HP(n:Nk)(no:Int)(k:Nat)(o:Str):Nk:=((n.added o).Cf n.made (((AF (n.added o).texts no).getD []).drop k)).Cf no (((AF (n.added o).texts no).getD []).take k++[⟨true,o,n.made⟩])
theorem str_list{a b:Str}:a=b↔a.cps.toList=b.cps.toList:=⟨fun h=>by rw[h],fun h=>UO h⟩
theorem Ud(l:List Nat)(a:Nat):∀m,(List.range m).filterMap (fun k=>l[a+k]?)=(l.drop a).take m
 |0=>by simp
 |m+1=>by rw[List.range_succ,List.filterMap_append,Ud l a m,List.take_succ,J8];congr 1
theorem slice_list(x:Str)(l u:Option Int)(lo hi:Nat)(hl:lo<=x.length)(hu:hi<=x.length)
 (C2:Builtin.Str.strSliceIndices l u 1 x.length=sliceRange (lo:Int) (hi:Int) 1):(Txt.slice x l u).cps.toList=(x.cps.toList.drop lo).take (hi-lo):=by
 have hn:x.cps.toList.length=x.length:=by simp[Str.length]
 have idx:Builtin.Str.strSliceIndices l u 1 x.length=(List.range (hi-lo)).map fun k=>lo+k:=by
  rw[C2];unfold sliceRange;simp only[show(1:Int)>0 by decide,CG];have ec:((if(lo:Int)<(hi:Int) then((hi:Int)-lo+1-1)/1 else 0):Int).toNat=hi-lo:=by split<;>lia
  rw[ec];refine Fc fun k _=>?_;show((lo:Int)+1*(k:Int)).toNat=lo+k
  lia
 unfold Txt.slice;rw[idx];split
 ·rename_i h;have:hi-lo=x.length:=by simpa using h
  have h0:lo=0:=by lia
  rw[h0,Np,F7 (by lia)]
 ·show(((List.range (hi-lo)).map fun k=>lo+k).filterMap fun i=>x.cps[i]?)=_;rw[List.filterMap_map];have:=Ud x.cps.toList lo (hi-lo);rw[<-this];have ef:((fun i=>x.cps[i]?)∘fun k=>lo+k)=fun k=>x.cps.toList[lo+k]? :=funext fun k=>by show x.cps[lo+k]? =_;rw[Fb]
  rw[ef]
theorem cM(x:Str):(Txt.slice x none (some 1)).cps.toList=x.cps.toList.take 1:=by
 have:=slice_list x none (some 1) 0 (min 1 x.length) (CF _) (Nat.min_le_right ..) (by
  unfold Builtin.Str.strSliceIndices;simp only[show(1:Int)>0 by decide,CG,show¬(1:Int)<0 by decide,Bp];congr 1
  lia);rw[this,Np];have hn:x.cps.toList.length=x.length:=by simp[Str.length]
 by_cases h:1<=x.length
 ·rw[show min 1 x.length-0=1 by lia]
 ·rw[F7 (by lia),F7 (by lia)]
theorem Zt(x:Str):(Txt.slice x (some (-1)) none).cps.toList=x.cps.toList.drop (x.length-1):=by
 have:=slice_list x (some (-1)) none (x.length-1) x.length (by lia) (Ac _) (by
  unfold Builtin.Str.strSliceIndices;simp only[show(1:Int)>0 by decide,CG,show(-1:Int)<0 by decide];congr 1
  lia);rw[this];have hn:x.cps.toList.length=x.length:=by simp[Str.length]
 rw[F7 (by rw[Dq];lia)]
theorem Xh:("[" :Str).cps.toList=[91]:=by ac_rfl
theorem X5:("]" :Str).cps.toList=[93]:=by ac_rfl
theorem cz(x:Str):decide (V.str (Txt.slice x none (some 1))=V.str "[")=Txt.startswith x "[" :=by
 have hn:x.cps.toList.length=x.length:=by simp[Str.length]
 have l1:("[" :Str).length=1:=by ac_rfl
 have e1:(V.str (Txt.slice x none (some 1))=V.str "[")↔x.cps.toList.take 1=[91]:=by rw[V.str.injEq,str_list,cM,Xh]
 have e2:Txt.startswith x "[" =true↔x.cps.toList.take 1=[91]:=by
  unfold Txt.startswith Builtin.Str.subAt;rw[l1,E2,NZ,Fg,<-JC,Xh,T8];constructor
  ·intro h;have:=h.2;simpa[To] using this
  ·intro h;refine⟨?_,by simpa[To] using h⟩;have:=BZ List.length h;rw[Bg,hn] at this;have t2:min 1 x.length=1:=this
   lia
 cases e:Txt.startswith x "[" with
 |true=>exact Bj (e1.mpr (e2.mp e))
 |false=>exact BK fun z=>by rw[e2.mpr (e1.mp z)] at e;cases e
theorem gf(x:Str):decide (V.str (Txt.slice x (some (-1)) none)=V.str "]")=Txt.endswith x "]" :=by
 have hn:x.cps.toList.length=x.length:=by simp[Str.length]
 have l1:("]" :Str).length=1:=by ac_rfl
 have e1:(V.str (Txt.slice x (some (-1)) none)=V.str "]")↔x.cps.toList.drop (x.length-1)=[93]:=by rw[V.str.injEq,str_list,Zt,X5]
 have e2:Txt.endswith x "]" =true↔x.cps.toList.drop (x.length-1)=[93]:=by
  unfold Txt.endswith Builtin.Str.subAt;rw[l1,E2,NZ,Fg,<-JC,X5,T8];have et:∀h:1<=x.length,List.extract x.cps.toList (x.length-1) (x.length-1+1)=x.cps.toList.drop (x.length-1):=fun h=>by rw[To,F7 (by rw[Dq];lia)]
  constructor
  ·intro h;rw[<-et (by lia)];exact h.2
  ·intro h;have h1:1<=x.length:=by
    have:=BZ List.length h;rw[Dq,hn] at this;have t2:x.length-(x.length-1)=1:=this
    lia
   exact⟨by lia,by rw[et h1];exact h⟩
 cases e:Txt.endswith x "]" with
 |true=>exact Bj (e1.mpr (e2.mp e))
 |false=>exact BK fun z=>by rw[e2.mpr (e1.mp z)] at e;cases e
theorem Od(z:Str):C7 z=isNm z:=by
 unfold C7 isNm;congr 1;generalize z.cps.toList=l
 induction l with
 |nil=>rfl
 |cons c l ih=>
  have hb:Eb c= !DT c:=by unfold Eb DT;rw[Bool.not_or]
  rw[KN,hb,<-ih]
  cases e:DT c with
  |true=>rw[F6 e];rfl
  |false=>rw[Gs (by simp[e])];rfl
theorem Vt(p:Str):HL p=HS p:=by unfold HL HS;rw[cz,gf,Od];rfl
theorem Uv(inj:(names.map (·.2)).Nodup)(pos:∀p∈names,0<=p.2)(t:Str):(Fu names t).map (sh names)=El t/\∀w∈Fu names t,ED names w:=by
 have one:∀p:Str,(DX names p=none/\p="")\/∃w,DX names p=some w/\p≠ "" /\sh names w=DZ p/\ED names w:=fun p=>by
  unfold DX;by_cases hp:HL p=true
  ·rw[AH hp];refine .inr ⟨_,rfl,fun z=>?_,?_,fun _=>?_⟩
   ·rw[z] at hp;exact absurd hp (by ac_rfl)
   ·have hp':HS p=true:=by rw[<-Vt];exact hp
    have er:DZ p=(("to" :Str),inner p):=by unfold DZ;rw[AH hp'];rfl
    rw[er]
    cases e:AF names (inner p) with
    |none=>exact Fm (w:=⟨true,inner p,-1⟩) rfl rfl
    |some no=>have hm:=BU e;have:=pos _ hm;exact EV inj (w:=⟨true,inner p,no⟩) rfl (by show no≠-1;have t2:(0:Int)<=no:=this;lia) hm
   ·cases e:AF names (inner p) with
    |none=>exact .inl ⟨rfl,rfl⟩
    |some no=>exact .inr ⟨inner p,BU e⟩
  ·rw[AG hp];by_cases he:p=""
   ·rw[AH he];exact .inl ⟨rfl,he⟩
   ·rw[AG he];refine .inr ⟨_,rfl,he,?_,fun z=>by cases z⟩;have hp':¬HS p=true:=by rw[<-Vt];exact hp
    have er:DZ p=(("word" :Str),p):=by unfold DZ;rw[AG hp']
    rw[er];exact HC rfl
 unfold Fu El CP;generalize Txt.split t " " =L
 induction L with
 |nil=>exact⟨rfl,fun w hw=>by cases hw⟩
 |cons p L ih=>
  obtain⟨ih1,ih2⟩:=ih;rcases one p with⟨e1,e2⟩|⟨w,e1,e2,e3,e4⟩
  ·rw[List.filterMap_cons_none e1,Gs (by simp[e2])];exact⟨ih1,ih2⟩
  ·rw[List.filterMap_cons_some e1,F6 (by simp[e2]),Au,Au,ih1,e3];refine⟨rfl,fun w' hw'=>?_⟩;rcases Bk.mp hw' with z|z
   ·rw[z];exact e4
   ·exact ih2 w' z
def wl(n:Nk):Prop:=∀p∈n.texts,∀w∈p.2,w.nm.length<=1000
structure Bd(n:Nk):Prop where
 b:Bm n
 h0:0<=n.made
 nm:∀p∈n.names,p.1.length<=40
 wl:wl n
theorem WW(o:Str)(no:Int)(w:Wd):(CH o no w).nm=w.nm:=by unfold CH;split<;>rfl
theorem Ws{other:Int}{nm:Str}{w:Wd}(h1:nm.length<=1000)(h2:w.nm.length<=1000):(CJ no nm other w).nm.length<=1000:=by
 unfold CJ;split
 ·exact h1
 ·exact h2
theorem Ol{g:Wd->Wd}(h:wl n)(hg:∀w,w.nm.length<=1000->(g w).nm.length<=1000):wl (n.Hu g):=fun p hp w hw=>by obtain⟨q,hq,rfl⟩:=BY.mp hp;obtain⟨w0,h0,rfl⟩:=BY.mp hw;exact hg w0 (h q hq w0 h0)
theorem Rp(h:wl n)(hw:∀w∈ws,w.nm.length<=1000):wl {n with texts:=AZ n.texts no ws}:=fun p hp w hw'=>by
 rcases IS hp with e|e
 ·exact h p e w hw'
 ·rw[e] at hw';exact hw w hw'
theorem W0(h:wl n):wl {n with texts:=AQ n.texts no}:=fun p hp w hw'=>h p (Fh hp).1 w hw'
theorem VN{t:Str}(ht:t.length<=1000):∀w∈Fu names t,w.nm.length<=1000:=fun w hw=>by
 unfold Fu at hw;obtain⟨p,hp,e⟩:=QE.mp hw;have h1:=UK t p hp;unfold DX at e;split at e
 ·cases Ah e;have:=Ny p (some 1) (some (-1));show(inner p).length<=1000;unfold inner
  lia
 ·split at e
  ·cases e
  ·cases Ah e;show p.length<=1000
   lia
theorem Bd.added{n:Nk}{o:Str}(h:Bd n)(ho:AF n.names o=none)(hl:o.length<=40):Bd (n.added o):=by
 refine⟨h.b.added h.h0 ho,by show 0<=n.made+1;have:=h.h0;lia,fun p hp=>?_,Ol (Rp (n:={n with made:=n.made+1}) h.wl (fun w hw=>by cases hw)) fun w hw=>by rw[WW];exact hw⟩;rw[N1 ho] at hp;rcases CB.mp hp with e|e
 ·exact h.nm p e
 ·rw[CA.mp e];exact hl
theorem Bd.Cf{n:Nk}{a:Str}{no:Int}{ws:List Wd}(h:Bd n)(ha:AF n.names a=some no)(ok:∀w∈ws,ED n.names w)(hw:∀w∈ws,w.nm.length<=1000):Bd (n.Cf no ws):=
 ⟨h.b.Cf ha ok,h.h0,h.nm,Rp h.wl hw⟩
noncomputable def A8.asks:A8->Bool
 |.text _=>true
 |.back _=>true
 |.find _ _=>true
 |_=>false
def Ay(n:Nk)(a:Str):Int:=(AF n.names a).getD 0
def Bz(n:Nk)(no:Int):List Wd:=(AF n.texts no).getD []
def O7(n:Nk):A8->Nk
 |.write a t=>n.wrote a t
 |.rename a o=>n.renamed a o (Ay n a)
 |.join a o=>n.joined (Ay n a) o (Ay n o) (Bz n (Ay n a)) (Bz n (Ay n o))
 |.cut a p o=>n.HP (Ay n a) p.toNat o
 |.drop a=>n.dropped a (Ay n a)
 |_=>n
def Ge(n:Nk)(x:A8):Nk:=if x.asks=true then n else if BR n x="" then O7 n x else n
theorem dI{a t:Str}(h:Bd n)(hl:a.length<=40)(ht:t.length<=1000):Bd (n.wrote a t)/\vw (n.wrote a t)=AZ (vw n) a (El t):=by
 have pos:∀{m:Nk},Bd m->∀p∈m.names,0<=p.2:=fun hm p hp=>(hm.b.Eu (nm:=p.1) (no:=p.2) hp).1;unfold Nk.wrote
 cases e:AF n.names a with
 |some no=>obtain⟨p1,p2⟩:=Uv h.b.inj (pos h) t;exact⟨h.Cf e p2 (VN ht),by rw[OQ h.b e,p1]⟩
 |none=>
  have h':=h.added e hl;have e2:AF (n.added a).names a=some n.made:=by show AF (AZ n.names a n.made) a=_;rw[Cn,AH rfl]
  obtain⟨p1,p2⟩:=Uv h'.b.inj (pos h') t;refine⟨h'.Cf e2 p2 (VN ht),?_⟩;show vw ((n.added a).Cf n.made _)=_;rw[OQ h'.b e2,p1,WD h.b h.h0 e,WU (by rw[Dh];exact h.b.CQ)]
theorem jb{a o:Str}(h:Bd n)(ha:AF n.names a=some no)(ho:AF n.names o=none)(hl:o.length<=40):
 Bd (n.HP no k o)/\vw (n.HP no k o)=AZ (AZ (vw n) o ((Aj n no).drop k)) a ((Aj n no).take k++[(("to" :Str),o)]):=by
 have h1:=h.added ho hl;have em:AF (n.added o).names o=some n.made:=by show AF (AZ n.names o n.made) o=_;rw[Cn,AH rfl]
 have hne:a≠o:=fun z=>by rw[z,ho] at ha;cases ha
 have ea:AF (n.added o).names a=some no:=by show AF (AZ n.names o n.made) a=_;rw[Cn,AG hne];exact ha
 obtain⟨w0,hw0,ok0⟩:=h.b.text ha;obtain⟨ws,hw,ok⟩:=h1.b.text ea;have pg:Aj n no=ws.map (sh (n.added o).names):=by rw[<-WI h.b h.h0 ho hw0];unfold Aj;rw[hw];rfl
 have wl1:∀w∈ws,w.nm.length<=1000:=fun w hw'=>h1.wl _ (BU hw) w hw';unfold Nk.HP;rw[hw];show Bd (((n.added o).Cf n.made (ws.drop k)).Cf no (ws.take k++[⟨true,o,n.made⟩]))/\_;have h2:=h1.Cf (ws:=ws.drop k) em (fun w hw'=>ok w (J7 hw')) fun w hw'=>wl1 w (J7 hw');have ok3:∀w∈ws.take k++[(⟨true,o,n.made⟩:Wd)],ED (n.added o).names w:=fun w hw'=>by
  rcases CB.mp hw' with z|z
  ·exact ok w (HY z)
  ·rw[CA.mp z];exact fun _=>.inr ⟨o,BU em⟩
 have ea2:AF ((n.added o).Cf n.made (ws.drop k)).names a=some no:=ea;refine⟨h2.Cf ea2 ok3 fun w hw'=>?_,?_⟩
 ·rcases CB.mp hw' with z|z
  ·exact wl1 w (HY z)
  ·rw[CA.mp z];show o.length<=1000
   lia
 ·show vw (((n.added o).Cf n.made (ws.drop k)).Cf no (ws.take k++[⟨true,o,n.made⟩]))=_;have sm:sh (n.added o).names ⟨true,o,n.made⟩=(("to" :Str),o):=EV h1.b.inj (w:=⟨true,o,n.made⟩) rfl (by show n.made≠-1;have:=h.h0;lia) (BU em);rw[OQ h2.b ea2,OQ h1.b em,WD h.b h.h0 ho,WU (by rw[Dh];exact h.b.CQ)];show AZ (AZ (vw n) o ((ws.drop k).map (sh (n.added o).names))) a ((ws.take k++[(⟨true,o,n.made⟩:Wd)]).map (sh (n.added o).names))=_;rw[pg,BX,Nv,Nu];show AZ _ a (_++[sh (n.added o).names (Wd.mk true o n.made)])=_;rw[sm]
theorem Bd.renamed{n:Nk}{a o:Str}{no:Int}(h:Bd n)(ha:AF n.names a=some no)(ho:AF n.names o=none)(hl:o.length<=40):Bd (n.renamed a o no):=by
 refine⟨h.b.renamed ha ho,h.h0,fun p hp=>?_,Ol (n:={n with names:=AZ (AQ n.names a) o no}) h.wl fun w hw=>by rw[WW];exact hw⟩;rw[L4 ho] at hp;rcases CB.mp hp with e|e
 ·exact h.nm p (Fh e).1
 ·rw[CA.mp e];exact hl
theorem Bd.dropped{n:Nk}{a:Str}{no:Int}(h:Bd n)(ha:AF n.names a=some no):Bd (n.dropped a no):=
 ⟨h.b.dropped ha,h.h0,fun p hp=>h.nm p (Fh hp).1,Ol (n:={n with names:=AQ n.names a,texts:=AQ n.texts no}) (W0 (n:=n) h.wl) fun w hw=>Ws (by have:=h.nm _ (BU ha);dsimp only at this;lia) hw⟩
theorem Bd.joined{n:Nk}{a o:Str}{no no2:Int}{w1 w2:List Wd}(h:Bd n)(ha:AF n.names a=some no)(ho:AF n.names o=some no2)(hne:a≠o)(h1:AF n.texts no=some w1)(h2:AF n.texts no2=some w2):Bd (n.joined no o no2 w1 w2):=by
 refine⟨h.b.joined ha ho hne h1 h2,h.h0,fun p hp=>h.nm p (Fh hp).1,Ol (Rp (n:={n with names:=AQ n.names o,texts:=AQ n.texts no2}) (W0 (n:=n) h.wl) fun w hw=>?_) fun w hw=>Ws (by ac_rfl) hw⟩;rcases CB.mp hw with z|z
 ·exact h.wl _ (BU h1) w z
 ·exact h.wl _ (BU h2) w z
def Cq(s:Str):Rs->Prop
 |.no m=>s=m/\m≠ ""
 |.ok _ _=>s=""
 |.un _=>s=""
theorem Xp(n:Nk)(x:A8):Cq (BR n x) (HH (vw n) x):=by
 have hg:=En n
 cases x with
 |write a t=>
  show Cq (if C7 a=true then "" else "no name") (HE (vw n) a t);unfold HE;rw[Od];by_cases e:isNm a=true
  ·rw[AH e,AH e];exact rfl
  ·rw[AG e,AG e];exact⟨rfl,by ac_rfl⟩
 |rename a o=>
  show Cq (if AF n.names a=none then "no page" else if C7 o=false then "no name" else if AF n.names o=none then "" else "taken") (G9 (vw n) a o);unfold G9;rw[Od,hg a]
  cases e:AF n.names a with
  |none=>rw[AH rfl];exact⟨rfl,by ac_rfl⟩
  |some no=>
   rw[AG (by simp)];show Cq _ (if isNm o=true then _ else _)
   cases e2:isNm o with
   |false=>exact⟨rfl,by ac_rfl⟩
   |true=>
    rw[AH rfl,AG (by simp),hg o]
    cases e3:AF n.names o with
    |none=>rw[AH rfl];exact rfl
    |some no2=>rw[AG (by simp)];exact⟨rfl,by ac_rfl⟩
 |join a o=>
  show Cq (if AF n.names a=none then "no page" else if AF n.names o=none then "no page" else if a=o then "same page" else "") (E9 (vw n) a o);unfold E9;rw[hg a]
  cases e:AF n.names a with
  |none=>rw[AH rfl];exact⟨rfl,by ac_rfl⟩
  |some no=>
   rw[AG (by simp),hg o]
   cases e2:AF n.names o with
   |none=>rw[AH rfl];exact⟨rfl,by ac_rfl⟩
   |some no2=>
    rw[AG (by simp)];show Cq _ (if a=o then _ else _);by_cases e3:a=o
    ·rw[AH e3,AH e3];exact⟨rfl,by ac_rfl⟩
    ·rw[AG e3,AG e3];exact rfl
 |cut a p o=>
  show Cq (match AF n.names a with
   |none=>"no page"
   |some no=>if C7 o=false then "no name" else if AF n.names o=none then(if p<0 then "no place" else if((AF n.texts no).getD []).length<p then "no place" else "") else "taken") (HJ (vw n) a p o);unfold HJ;rw[Od,hg a]
  cases e:AF n.names a with
  |none=>exact⟨rfl,by ac_rfl⟩
  |some no=>
   show Cq (if isNm o=false then _ else _) (if isNm o=true then _ else _)
   cases e2:isNm o with
   |false=>exact⟨rfl,by ac_rfl⟩
   |true=>
    rw[AH rfl,AG (by simp),hg o]
    cases e3:AF n.names o with
    |some no2=>rw[AG (by simp)];exact⟨rfl,by ac_rfl⟩
    |none=>
     rw[AH rfl];have hlen:(Aj n no).length=((AF n.texts no).getD []).length:=by unfold Aj;rw[AL]
     show Cq _ (if p<0\/((Aj n no).length:Int)<p then _ else _);rw[hlen];by_cases c1:p<0
     ·rw[AH c1,AH (Ad c1)];exact⟨rfl,by ac_rfl⟩
     ·by_cases c2:(((AF n.texts no).getD []).length:Int)<p
      ·rw[AG c1,AH c2,AH (Co c2)];exact⟨rfl,by ac_rfl⟩
      ·rw[AG c1,AG c2,AG (fun z=>Or.elim z c1 c2)];exact rfl
 |drop a=>
  show Cq (if AF n.names a=none then "no page" else "") (HG (vw n) a);unfold HG;rw[hg a]
  cases e:AF n.names a with
  |none=>rw[AH rfl];exact⟨rfl,by ac_rfl⟩
  |some no=>rw[AG (by simp)];exact rfl
 |text a=>
  show Cq (if AF n.names a=none then "no page" else "") (GQ (vw n) a);unfold GQ;rw[hg a]
  cases e:AF n.names a with
  |none=>rw[AH rfl];exact⟨rfl,by ac_rfl⟩
  |some no=>rw[AG (by simp)];exact rfl
 |back a=>exact rfl
 |find ws far=>
  show Cq (if ws=[] then "no words" else "") (if ws=[] then .no "no words" else .un (vw n));by_cases e:ws=[]
  ·rw[AH e,AH e];exact⟨rfl,by ac_rfl⟩
  ·rw[AG e,AG e];exact rfl
theorem iJ(h:Bd n){x:A8}(g:x.Good):Bd (Ge n x)/\vw (Ge n x)=(HH (vw n) x).next (vw n):=by
 have br:=Xp n x;have hg:=En n;unfold Ge;by_cases ha:x.asks=true
 ·rw[AH ha];refine⟨h,?_⟩
  cases x with
  |text a=>show _=(GQ (vw n) a).next (vw n);unfold GQ;cases AF (vw n) a<;>rfl
  |back a=>rfl
  |find ws far=>show _=Rs.next (vw n) (if ws=[] then .no "no words" else .un (vw n));split<;>rfl
  |_=>cases ha
 ·rw[AG ha];by_cases hb:BR n x=""
  ·rw[AH hb];rw[hb] at br
   cases x with
   |write a t=>
    obtain⟨r1,r2⟩:=dI (n:=n) (a:=a) (t:=t) h g.1 g.2;refine⟨r1,r2.trans ?_⟩;have br':Cq "" (HE (vw n) a t):=br;show _=(HE (vw n) a t).next (vw n);unfold HE at br'⊢;by_cases e:isNm a=true
    ·rw[AH e];rfl
    ·rw[AG e] at br';exact absurd br'.1.symm br'.2
   |rename a o=>
    have br':Cq "" (G9 (vw n) a o):=br;show Bd (n.renamed a o (Ay n a))/\vw (n.renamed a o (Ay n a))=(G9 (vw n) a o).next (vw n);unfold G9 Ay at*;rw[hg a] at br'⊢
    cases e:AF n.names a with
    |none=>rw[e] at br';exact absurd br'.1.symm br'.2
    |some no=>
     rw[e] at br';have br2:Cq "" (if isNm o=true then(match AF (vw n) o with|some _=>.no "taken" |none=>.ok (.int (L2.cnt (L2.renamed (vw n) a o (Aj n no)) o)) (L2.renamed (vw n) a o (Aj n no))) else .no "no name"):=br';show Bd (n.renamed a o no)/\vw (n.renamed a o no)=Rs.next (vw n) (if isNm o=true then(match AF (vw n) o with|some _=>.no "taken" |none=>.ok (.int (L2.cnt (L2.renamed (vw n) a o (Aj n no)) o)) (L2.renamed (vw n) a o (Aj n no))) else .no "no name");by_cases e2:isNm o=true
     ·rw[AH e2,hg o] at br2⊢
      cases e3:AF n.names o with
      |some no2=>rw[e3] at br2;exact absurd br2.1.symm br2.2
      |none=>exact⟨h.renamed e e3 g.2,ji h.b e e3⟩
     ·rw[AG e2] at br2;exact absurd br2.1.symm br2.2
   |join a o=>
    have br':Cq "" (E9 (vw n) a o):=br;show Bd (n.joined (Ay n a) o (Ay n o) (Bz n (Ay n a)) (Bz n (Ay n o)))/\vw (n.joined (Ay n a) o (Ay n o) (Bz n (Ay n a)) (Bz n (Ay n o)))=(E9 (vw n) a o).next (vw n);unfold E9 at*;rw[hg a,hg o] at br'⊢;unfold Ay
    cases e:AF n.names a with
    |none=>rw[e] at br';exact absurd br'.1.symm br'.2
    |some no=>
     cases e2:AF n.names o with
     |none=>rw[e,e2] at br';exact absurd br'.1.symm br'.2
     |some no2=>
      rw[e,e2] at br';have br2:Cq "" (if a=o then .no "same page" else .ok (.int (L2.cnt (L2.joined (vw n) a o (Aj n no) (Aj n no2)) a)) (L2.joined (vw n) a o (Aj n no) (Aj n no2))):=br';show Bd (n.joined no o no2 (Bz n no) (Bz n no2))/\vw (n.joined no o no2 (Bz n no) (Bz n no2))=Rs.next (vw n) (if a=o then .no "same page" else .ok (.int (L2.cnt (L2.joined (vw n) a o (Aj n no) (Aj n no2)) a)) (L2.joined (vw n) a o (Aj n no) (Aj n no2)));by_cases e3:a=o
      ·rw[AH e3] at br2;exact absurd br2.1.symm br2.2
      ·rw[AG e3];obtain⟨w1,h1,_⟩:=h.b.text e;obtain⟨w2,h2,_⟩:=h.b.text e2;unfold Bz;rw[h1,h2];exact⟨h.joined e e2 e3 h1 h2,iG h.b e e2 e3 h1 h2⟩
   |cut a p o=>
    have br':Cq "" (HJ (vw n) a p o):=br;show Bd (n.HP (Ay n a) p.toNat o)/\vw (n.HP (Ay n a) p.toNat o)=(HJ (vw n) a p o).next (vw n);unfold HJ at*;rw[hg a,hg o] at br'⊢;unfold Ay
    cases e:AF n.names a with
    |none=>rw[e] at br';exact absurd br'.1.symm br'.2
    |some no=>
     rw[e] at br';by_cases e2:isNm o=true
     ·cases e3:AF n.names o with
      |some no2=>rw[e3] at br';have br2:Cq "" (if isNm o=true then .no "taken" else .no "no name"):=br';rw[AH e2] at br2;exact absurd br2.1.symm br2.2
      |none=>
       rw[e3] at br';have br2:Cq "" (if isNm o=true then(if p<0\/((Aj n no).length:Int)<p then .no "no place" else .ok (.int (((Aj n no).drop p.toNat).length:Nat)) (cutAt (vw n) a o (Aj n no) p.toNat)) else .no "no name"):=br';show Bd (n.HP no p.toNat o)/\vw (n.HP no p.toNat o)=Rs.next (vw n) (if isNm o=true then(if p<0\/((Aj n no).length:Int)<p then .no "no place" else .ok (.int (((Aj n no).drop p.toNat).length:Nat)) (cutAt (vw n) a o (Aj n no) p.toNat)) else .no "no name");rw[AH e2] at br2⊢;by_cases c:p<0\/((Aj n no).length:Int)<p
       ·rw[AH c] at br2;exact absurd br2.1.symm br2.2
       ·rw[AG c];exact jb h e e3 g.2
     ·cases e3:AF n.names o with
      |some no2=>rw[e3] at br';have br2:Cq "" (if isNm o=true then .no "taken" else .no "no name"):=br';rw[AG e2] at br2;exact absurd br2.1.symm br2.2
      |none=>rw[e3] at br';have br2:Cq "" (if isNm o=true then(if p<0\/((Aj n no).length:Int)<p then .no "no place" else .ok (.int (((Aj n no).drop p.toNat).length:Nat)) (cutAt (vw n) a o (Aj n no) p.toNat)) else .no "no name"):=br';rw[AG e2] at br2;exact absurd br2.1.symm br2.2
   |drop a=>
    have br':Cq "" (HG (vw n) a):=br;show Bd (n.dropped a (Ay n a))/\vw (n.dropped a (Ay n a))=(HG (vw n) a).next (vw n);unfold HG at*;rw[hg a] at br'⊢;unfold Ay
    cases e:AF n.names a with
    |none=>rw[e] at br';exact absurd br'.1.symm br'.2
    |some no=>exact⟨h.dropped e,gF h.b e⟩
   |text a=>exact absurd rfl ha
   |back a=>exact absurd rfl ha
   |find ws far=>exact absurd rfl ha
  ·rw[AG hb];refine⟨h,?_⟩;generalize HH (vw n) x=r at br
   cases r with
   |no m=>rfl
   |ok a b=>exact absurd br hb
   |un a=>exact absurd br hb
def chg(n:Nk):A8->Int
 |.write a t=>(Fu (n.wrote a t).names t).length
 |.rename a o=>(n.renamed a o (Ay n a)).led (Ay n a)
 |.join a o=>(n.joined (Ay n a) o (Ay n o) (Bz n (Ay n a)) (Bz n (Ay n o))).led (Ay n a)
 |.cut a p o=>((Bz (n.added o) (Ay n a)).length:Int)-p
 |.drop a=>n.led (Ay n a)
 |_=>0
def VG:Sp:=fun vs H Q _=>∃(a:Addr)(d:V)(x:A8)(H0:Hp)(n:Nk),vs=[.ref a,d]/\CZ H0 H a n/\Fits n/\Bd n/\n.texts.length<1000/\n.names.length<1000/\Rep H0 x.dt d/\x.Good/\x.asks=false/\BR n x="" /\
 (∀a' o',x=.join a' o'->(Bz n (Ay n a')++Bz n (Ay n o')).length<=100000)/\∀H',CZ H0 H' a (O7 n x)->Q (.int (chg n x)) H'
theorem Fits.SR(h:Fits n)(a:Str):Fits {n with names:=AQ n.names a}:=
 ⟨DC h.CQ,h.Cb,BI (F8 _ _) h.names,h.texts,h.words⟩
theorem Fits.O5(h:Fits n)(no:Int):Fits {n with texts:=AQ n.texts no}:=
 ⟨h.CQ,DC h.Cb,h.names,BI (F8 _ _) h.texts,fun p hp=>h.words p (Fh hp).1⟩
theorem Fits.named(h:Fits n)(o:Str)(no:Int)(hl:n.names.length<1000):Fits (n.named o no):=by have h1:Fits {n with names:=AZ n.names o no}:=⟨D1 h.CQ,h.Cb,by show(AZ n.names o no).length<=1000;have:=GN n.names o no;lia,h.texts,h.words⟩;exact h1.map
theorem CZ.ext{H0 H H':Hp}{a:Addr}{n:Nk}(h:CZ H0 H a n)(s:AS H H'):CZ H0 H' a n:=by obtain⟨x,y,z,nk⟩:=h;exact⟨x,y,z,nk.ext s⟩
theorem VD(b:Bm n):AF n.texts n.made=none:=by
 cases e:AF n.texts n.made with
 |none=>rfl
 |some ws=>have:=(b.lt _ (BU e)).2;dsimp only at this;lia
theorem OE{x:A8}{a:Str}(h:BR n x="")(hx:(∃o,x=.rename a o)\/(∃o,x=.join a o)\/(∃p o,x=.cut a p o)\/x=.drop a):∃no,AF n.names a=some no:=by
 cases e:AF n.names a with
 |some no=>exact⟨no,rfl⟩
 |none=>
  exfalso;rcases hx with⟨o,rfl⟩|⟨o,rfl⟩|⟨p,o,rfl⟩|rfl
  ·have h':(if AF n.names a=none then("no page" :Str) else _)="" :=h;rw[e,AH rfl] at h';exact absurd h' (by ac_rfl)
  ·have h':(if AF n.names a=none then("no page" :Str) else _)="" :=h;rw[e,AH rfl] at h';exact absurd h' (by ac_rfl)
  ·simp only[BR,e] at h;exact absurd h (by ac_rfl)
  ·have h':(if AF n.names a=none then("no page" :Str) else _)="" :=h;rw[e,AH rfl] at h';exact absurd h' (by ac_rfl)
theorem JI:A0 ["_law_nook","_law_deed","_law_name","_law_words","_law_number","_law_fresh","_law_many"] ["_law_nook","_law_deed"] (Ao OJ):=by ac_rfl
set_option maxHeartbeats 2000000 in
theorem aJ{fAd fPi fNa fLe fJo fTu:Addr}{fdAd fdPi fdNa fdLe fdJo fdTu:FuncData}(F:Ab K "_law_changed" "_law_changed" OJ f fd)(O:Own mg)
 (FAd:Ab K "_law_added" "_law_added" Oo fAd fdAd)(GAd:AU P w K mg base Aa 2 fAd fdAd ["_law_nook","_law_name"] Wn)(bAd:Binds K fdAd ["_law_nook","_law_name"] [])(mAd:mg "_law_added" =some (.ref fAd))
 (FPi:Ab K "_law_penned_in" "_law_penned_in" N6 fPi fdPi)(GPi:AU P w K mg base Aa 2 fPi fdPi ["_law_nook","_law_text"] Uj)(bPi:Binds K fdPi ["_law_nook","_law_text"] [])(mPi:mg "_law_penned_in" =some (.ref fPi))
 (FNa:Ab K "_law_named" "_law_named" MZ fNa fdNa)(bNa:Binds K fdNa ["_law_nook","_law_name","_law_number"] [])(mNa:mg "_law_named" =some (.ref fNa))
 (FLe:Ab K "_law_led" "_law_led" Mu fLe fdLe)(bLe:Binds K fdLe ["_law_nook","_law_number"] [])(mLe:mg "_law_led" =some (.ref fLe))
 (FJo:Ab K "_law_joined" "_law_joined" Oc fJo fdJo)(GJo:AU P w K mg base Aa 2 fJo fdJo ["_law_nook","_law_number","_law_other"] Vj)(bJo:Binds K fdJo ["_law_nook","_law_number","_law_other"] [])(mJo:mg "_law_joined" =some (.ref fJo))
 (FTu:Ab K "_law_turned" "_law_turned" MH fTu fdTu)(bTu:Binds K fdTu ["_law_nook","_law_number","_law_name","_law_other"] [])(mTu:mg "_law_turned" =some (.ref fTu)):
 AU P w K mg base Aa 3 f fd ["_law_nook","_law_deed"] VG:=by
 have GNa:AU P w K mg base Aa 1 fNa fdNa ["_law_nook","_law_name","_law_number"] RP:=Vy FNa O;have GLe:AU P w K mg base Aa 1 fLe fdLe ["_law_nook","_law_number"] SH:=XM FLe O;have GTu:AU P w K mg base Aa 1 fTu fdTu ["_law_nook","_law_number","_law_name","_law_other"] RC:=VU FTu O;refine F.ok JI (fun vs H Q E h=>?_) (fun cdv A outer s H vs Q E hr h=>?_)
 ·obtain⟨a,d,x,H0,n,rfl,_⟩:=h;rfl
 ·obtain⟨a,dv,x,H0,n,rfl,nk0,fit,bd,tl,nl,rd,gd,na,br,jl,q⟩:=h;have hu1:=Ce hr;refine⟨_,(AW (Ax (i:=2) JI.nd rfl (Ad rfl) (Ag BS (pv 1) AK (fun _ _=>rfl))) (AW (A1 (Av BV (Ag BS (pv 1) AK (fun _ _=>rfl)) AX (As _))
   (AW (A1 (IV (N7 hu1 (pv 2) (BQ hu1 (pv 0) AX (fun _ _=>rfl))))
   (AV (Bn (BJ GAd hr rfl mAd FAd.kp bAd .nil BB (AE (pv 0) (AE (pv 2) AI)))))
   BF) (AW (Ax (i:=3) JI.nd rfl (Ad rfl) (BJ GPi hr rfl mPi FPi.kp bPi .nil BB (AE (pv 0) (AE (Ag BS (pv 1) AK (fun _ _=>rfl)) AI)))) (AW (Eh hu1 (BQ hu1 (pv 0) AX (fun _ _=>rfl)) (BQ hu1 (BQ hu1 (pv 0) AX (fun _ _=>rfl)) (pv 2) (fun _ _=>rfl)) (pv 3) rfl) (AV (An (Bc Hq rfl O.len Dg (AE (pv 3) AI)))))))
   BF) (AW (Ax (i:=4) JI.nd rfl (Ad rfl) (BQ hu1 (BQ hu1 (pv 0) AX (fun _ _=>rfl)) (pv 2) (fun _ _=>rfl))) (AW (A1 (Av BV (Ag BS (pv 1) AK (fun _ _=>rfl)) AX (As _))
   (AW (Bn (IM (BQ hu1 (pv 0) AX (fun _ _=>rfl)) (pv 2) ⟨rfl,rfl,rfl,rfl⟩)) (AW (Bn (BJ GNa (hr.mono (by lia)) rfl mNa FNa.kp bNa .nil BB (AE (pv 0) (AE (Ag BS (pv 1) AK (fun _ _=>rfl)) (AE (pv 4) AI))))) (AV (An (BJ GLe (hr.mono (by lia)) rfl mLe FLe.kp bLe .nil BB (AE (pv 0) (AE (pv 4) AI)))))))
   BF) (AW (A1 (Av BV (Ag BS (pv 1) AK (fun _ _=>rfl)) AX (As _))
   (AV (An (BJ GJo hr rfl mJo FJo.kp bJo .nil BB (AE (pv 0) (AE (pv 4) (AE (Ag BS (pv 1) AK (fun _ _=>rfl)) AI))))))
   BF) (AW (A1 (Av BV (Ag BS (pv 1) AK (fun _ _=>rfl)) AX (As _))
   (AW (Ax (i:=5) JI.nd rfl (Ad rfl) (BJ GAd hr rfl mAd FAd.kp bAd .nil BB (AE (pv 0) (AE (Ag BS (pv 1) AK (fun _ _=>rfl)) AI)))) (AW (Ax (i:=3) JI.nd rfl (Ad rfl) (BQ hu1 (BQ hu1 (pv 0) AX (fun _ _=>rfl)) (pv 4) (fun _ _=>rfl))) (AW (Eh hu1 (BQ hu1 (pv 0) AX (fun _ _=>rfl)) (pv 5) (Fl Ys (pv 3) (DV (Ag BS (pv 1) AK (fun _ _=>rfl))) Kl) rfl) (AW (Eh hu1 (BQ hu1 (pv 0) AX (fun _ _=>rfl)) (pv 4) (Al Kp (Fl Ys (pv 3) Kl (DV (Ag BS (pv 1) AK (fun _ _=>rfl)))) (CY (AE (CY (AE AX (AE (Ag BS (pv 1) AK (fun _ _=>rfl)) (AE (pv 5) AI)))) AI))) rfl) (AV (An (Al R7 (Bc Hq rfl O.len Dg (AE (pv 3) AI)) (Ag BS (pv 1) AK (fun _ _=>rfl)))))))))
   BF) (AW (Ax (i:=6) JI.nd rfl (Ad rfl) (BJ GLe (hr.mono (by lia)) rfl mLe FLe.kp bLe .nil BB (AE (pv 0) (AE (pv 4) AI)))) (AW (Bn (IM (BQ hu1 (pv 0) AX (fun _ _=>rfl)) (pv 4) ⟨rfl,rfl,rfl,rfl⟩)) (AW (Bn (IM (BQ hu1 (pv 0) AX (fun _ _=>rfl)) (pv 2) ⟨rfl,rfl,rfl,rfl⟩)) (AW (Bn (BJ GTu (hr.mono (by lia)) rfl mTu FTu.kp bTu .nil BB (AE (pv 0) (AE (pv 4) (AE (pv 2) (AE (D6 Dy AK) AI)))))) (AV (An (pv 6))))))))))))),?_⟩;obtain⟨an,at_,tx,nk⟩:=nk0;have sm:=nk.same;have no_eq:∀{p r:Str},p≠r->V.str p≠V.str r:=fun h z=>h (V.str.inj z)
  cases x with
  |write nm t=>
   obtain⟨d,xs,rfl,hd0,rs⟩:=CC rd;obtain⟨u,v,x,rfl,r1,r2,r3⟩:=EU rs;cases Ba r1;cases Ba r2;cases Ba r3;have hd:=sm _ _ hd0;refine⟨_,rfl,d,_,_,.str nm,rfl,rfl,AY.of hd,rfl,?_⟩;refine Pw rfl hd ?_;refine⟨_,rfl,_,rfl,a,_,rfl,Du nk.ha,an,_,rfl,Dw nk.hn nm,_,rfl,?_⟩;rcases e:AF n.names nm with _|no;refine Bf ?_;refine⟨_,rfl,_,rfl,a,nm,H0,n,rfl,⟨an,at_,tx,nk⟩,fit,tl,VD bd.b,fun H1 nk1=>?_⟩;have g1:AF (n.added nm).names nm=some n.made:=by show AF (AZ n.names nm n.made) nm=_;rw[Cn,AH rfl]
   have e1:n.wrote nm t=(n.added nm).Cf n.made (Fu (n.added nm).names t):=by unfold Nk.wrote;rw[e]
   have Jx:(n.added nm).texts.length<=1000:=by
    show((AZ n.texts n.made []).map _).length<=1000;rw[AL];have:=GN n.texts n.made []
    lia
   rotate_left
   refine BM ?_;have g1:=e;have e1:n.wrote nm t=n.Cf no (Fu n.names t):=by unfold Nk.wrote;rw[e]
   have nk1:CZ H0 H a n:=⟨an,at_,tx,nk⟩;have Jx:n.texts.length<=1000:=by lia
   all_goals
    obtain⟨an1,at1,tx1,k1⟩:=nk1;have hd1:=k1.same _ _ hd0;refine⟨_,rfl,_,rfl,d,_,_,.str t,rfl,rfl,AY.of hd1,rfl,a,t,H0,_,rfl,⟨an1,at1,tx1,k1⟩,gd.2,fun L ws H2 s2 hL hL2 pw=>?_⟩;have k2:=k1.ext s2;have htl:(CK tx1).length<sizeLine:=by
     show(tx1.map _).length<_;rw[AL,k1.len,BA]
     lia
    have dgn:=Dw k2.hn nm;rw[g1] at dgn;have dp:=fun no=>DP.kq (k:=.inl no) (v:=.ref L) k2.ht htl;have e2:=fun no=>(JL (g:=fun p:Addr×List Addr=>V.ref p.1) Ej no (L,ws) tx1:putK (CK tx1) (.inl no) (.ref L)=CK (AZ tx1 no (L,ws)));simp only[e2] at dp;refine⟨_,rfl,_,rfl,a,_,rfl,GG k2.ha,_,rfl,a,_,rfl,Du k2.ha,_,rfl,an1,_,rfl,dgn,at1,_,rfl,dp _,?_⟩;have k3:=fun no=>k2.Mv no (l:=L) (ws:=ws) (CP:=_) hL2 pw.len pw.at_ (fun w hw=>k1.same.free (pw.new w hw));have hL3:∀no,(upd H2 at1 (.dK (CK (AZ tx1 no (L,ws))))) L=some (.lst (ws.map V.ref)):=fun no=>by rw[AO (CT hL2 k2.ht (by intro z;cases z))];exact hL2
    refine⟨_,rfl,L,_,rfl,.inl (AN.of (hL3 _)),?_⟩;have q1:=q _ (by show CZ H0 _ a (n.wrote nm t);rw[e1];exact⟨an1,at1,_,k3 _⟩);have ec:chg n (.write nm t)=((ws.map V.ref).length:Nat):=by show((Fu (n.wrote nm t).names t).length:Int)=_;rw[e1,AL,pw.len];rfl
    rw[ec] at q1;exact q1
  |rename nm o=>
   obtain⟨d,xs,rfl,hd0,rs⟩:=CC rd;obtain⟨u,v,x,rfl,r1,r2,r3⟩:=EU rs;cases Ba r1;cases Ba r2;cases Ba r3;have hd:=sm _ _ hd0;obtain⟨no,e⟩:=OE br (.inl ⟨o,rfl⟩);have eno:Ay n nm=no:=by unfold Ay;rw[e];rfl
   have dgn:=Dw nk.hn nm;rw[e] at dgn;refine⟨_,rfl,d,_,_,.str nm,rfl,rfl,AY.of hd,rfl,?_⟩;refine HW rfl hd (by ac_rfl) ?_;refine⟨_,rfl,a,_,rfl,Du nk.ha,_,rfl,an,_,rfl,dgn,?_⟩;refine Pw rfl hd ?_;have v1:Be (FU n.names) (.inr nm)=some (.int no):=by rw[ER E7,e];rfl
   refine⟨_,rfl,a,_,rfl,Du nk.ha,an,rfl,.inl ⟨_,.inl nk.hn⟩,_,rfl,_,.inr nm,_,nk.hn,rfl,v1,?_⟩;rw[KZ E7];have nk1:=nk.putN (AQ n.names nm);generalize upd H an (.dK (FU (AQ n.names nm)))=H1 at nk1;have hd1:=nk1.same _ _ hd0;have nl1:(AQ n.names nm).length<1000:=Nat.lt_of_le_of_lt (F8 _ _) nl;refine⟨_,rfl,_,rfl,d,_,_,.str o,rfl,rfl,AY.of hd1,rfl,_,rfl,a,o,no,H0,_,rfl,⟨an,at_,tx,nk1⟩,fit.SR nm,fun H2 nk2=>?_⟩;refine⟨_,rfl,_,rfl,a,no,H0,_,rfl,nk2,(fit.SR nm).named o no nl1,fun H3 s3=>?_⟩;have q1:=q H3 (by show CZ H0 H3 a (n.renamed nm o (Ay n nm));rw[eno];exact nk2.ext s3);have ec:chg n (.rename nm o)=((n.renamed nm o no).led no:Nat):=by show((n.renamed nm o (Ay n nm)).led (Ay n nm):Int)=_;rw[eno]
   rw[ec] at q1;exact q1
  |join nm o=>
   obtain⟨d,xs,rfl,hd0,rs⟩:=CC rd;obtain⟨u,v,x,rfl,r1,r2,r3⟩:=EU rs;cases Ba r1;cases Ba r2;cases Ba r3;have hd:=sm _ _ hd0;obtain⟨no,e⟩:=OE br (.inr (.inl ⟨o,rfl⟩));have br':(if AF n.names nm=none then("no page" :Str) else if AF n.names o=none then "no page" else if nm=o then "same page" else "")="" :=br;rw[e,AG (by simp)] at br'
   cases e2:AF n.names o with
   |none=>rw[e2,AH rfl] at br';exact absurd br' (by ac_rfl)
   |some no2=>
   rw[e2,AG (by simp)] at br';have hne:nm≠o:=fun z=>by rw[AH z] at br';exact absurd br' (by ac_rfl)
   have eno:Ay n nm=no:=by unfold Ay;rw[e];rfl
   have eno2:Ay n o=no2:=by unfold Ay;rw[e2];rfl
   obtain⟨w1,h1,_⟩:=bd.b.text e;obtain⟨w2,h2,_⟩:=bd.b.text e2;have ew1:Bz n no=w1:=by unfold Bz;rw[h1];rfl
   have ew2:Bz n no2=w2:=by unfold Bz;rw[h2];rfl
   have nn:no≠no2:=fun z=>hne ((bd.b.same e2 e).mp z);have jl':=jl nm o rfl;rw[eno,eno2,ew1,ew2] at jl';have dgn:=Dw nk.hn nm;rw[e] at dgn;refine⟨_,rfl,d,_,_,.str nm,rfl,rfl,AY.of hd,rfl,?_⟩;refine HW rfl hd (by ac_rfl) ?_;refine⟨_,rfl,a,_,rfl,Du nk.ha,_,rfl,an,_,rfl,dgn,?_⟩;refine HW rfl hd (by ac_rfl) ?_;refine Pw rfl hd ?_;refine⟨_,rfl,_,rfl,_,rfl,d,_,_,.str o,rfl,rfl,AY.of hd,rfl,a,no,o,H0,n,no2,w1,w2,rfl,⟨an,at_,tx,nk⟩,fit,e2,h1,h2,nn,jl',fun H2 nk2=>?_⟩;have es:O7 n (.join nm o)=n.joined no o no2 w1 w2:=by show n.joined (Ay n nm) o (Ay n o) (Bz n (Ay n nm)) (Bz n (Ay n o))=_;rw[eno,eno2,ew1,ew2]
   have q1:=q H2 (by rw[es];exact nk2);have ec:chg n (.join nm o)=((n.joined no o no2 w1 w2).led no:Nat):=by show((n.joined (Ay n nm) o (Ay n o) (Bz n (Ay n nm)) (Bz n (Ay n o))).led (Ay n nm):Int)=_;rw[eno,eno2,ew1,ew2]
   rw[ec] at q1;exact q1
  |cut nm p o=>
   obtain⟨d,xs,rfl,hd0,rs⟩:=CC rd;obtain⟨u,v,x,y,rfl,r1,r2,r3,r4⟩:=O0 rs;cases Ba r1;cases Ba r2;cases r3;cases Ba r4;have hd:=sm _ _ hd0;obtain⟨no,e⟩:=OE br (.inr (.inr (.inl ⟨p,o,rfl⟩)));have eno:Ay n nm=no:=by unfold Ay;rw[e];rfl
   obtain⟨w0,h0,_⟩:=bd.b.text e;have br':(if C7 o=false then("no name" :Str) else if AF n.names o=none then(if p<0 then "no place" else if((w0.length:Nat):Int)<p then "no place" else "") else "taken")="" :=by have:=br;simp only[BR,e,h0] at this;exact this
   have hnm:¬C7 o=false:=fun z=>by rw[AH z] at br';exact absurd br' (by ac_rfl)
   rw[AG hnm] at br';have ho:AF n.names o=none:=by
    cases eo:AF n.names o with
    |none=>rfl
    |some z=>rw[eo,AG (by simp)] at br';exact absurd br' (by ac_rfl)
   rw[AH ho] at br';have p0:¬p<0:=fun z=>by rw[AH z] at br';exact absurd br' (by ac_rfl)
   rw[AG p0] at br';have p1:¬((w0.length:Nat):Int)<p:=fun z=>by rw[AH z] at br';exact absurd br' (by ac_rfl)
   have dgn:=Dw nk.hn nm;rw[e] at dgn;refine⟨_,rfl,d,_,_,.str nm,rfl,rfl,AY.of hd,rfl,?_⟩;refine HW rfl hd (by ac_rfl) ?_;refine⟨_,rfl,a,_,rfl,Du nk.ha,_,rfl,an,_,rfl,dgn,?_⟩;refine HW rfl hd (by ac_rfl) ?_;refine HW rfl hd (by ac_rfl) ?_;refine Pw rfl hd ?_;refine⟨_,rfl,_,rfl,d,_,_,.str o,rfl,rfl,AY.of hd,rfl,a,o,H0,n,rfl,⟨an,at_,tx,nk⟩,fit,tl,VD bd.b,fun H1 nk1=>?_⟩;obtain⟨an1,at1,tx1,k1⟩:=nk1;have hd1:=k1.same _ _ hd0;have bd1:=bd.b.added bd.h0 ho;have nno:no≠n.made:=by have:=(bd.b.Eu (BU e)).2;lia
   have hw:AF (n.added o).texts no=some (w0.map (CH o n.made)):=by rw[N8,AG nno,h0];rfl
   have wlen:(w0.map (CH o n.made)).length=w0.length:=AL .. ;generalize w0.map (CH o n.made)=ws at hw wlen;obtain⟨l1,ws1,g1,hl1,EZ,at1',new1⟩:=k1.find bd1.Cb hw;have d1:BN H1 at1 (.int no) (some (.ref l1)):=by have:=BN.kq (k:=.inl no) k1.ht;rw[ER Ej,g1] at this;exact this
   have c0:0<=p:=by lia
   have c1:p<=(ws1.map V.ref).length:=by rw[AL];lia
   have zl:ws1.length<=100000:=by
    have:=fit.words _ (BU h0);dsimp only at this
    lia
   have Jx:tx1.length<=1000:=by
    have h1:=k1.len;have h2:(n.added o).texts.length<=n.texts.length+1:=by show((AZ n.texts n.made []).map _).length<=_;rw[AL];exact GN ..
    lia
   refine⟨_,rfl,a,_,rfl,GG k1.ha,_,rfl,at1,_,rfl,d1,?_⟩;refine⟨_,rfl,_,rfl,d,_,_,.int p,rfl,rfl,AY.of hd1,rfl,_,rfl,l1,_,rfl,AN.of hl1,fun l3 hl3=>?_⟩;rw[Vl c0 c1,<-Nv];have s3:=Ak (o:=.lst ((ws1.drop p.toNat).map V.ref)) hl3;have k2:=k1.ext s3;have hl3':(upd H1 l3 (.lst ((ws1.drop p.toNat).map V.ref))) l3=some (.lst ((ws1.drop p.toNat).map V.ref)):=AR;have hl1':=s3 _ _ hl1;have at2:=fun j w wd (e1:ws1[j]? =some w)(e2:ws[j]? =some wd)=>s3 _ _ (at1' j w wd e1 e2);generalize upd H1 l3 (.lst ((ws1.drop p.toNat).map V.ref))=H2 at k2 hl3' hl1' at2;have dp:=DP.kq (k:=.inl n.made) (v:=.ref l3) k2.ht (by show(tx1.map _).length<_;rw[AL,BA];lia);have e3:putK (CK tx1) (.inl n.made) (.ref l3)=CK (AZ tx1 n.made (l3,ws1.drop p.toNat)):=JL (g:=fun p:Addr×List Addr=>V.ref p.1) Ej n.made (l3,ws1.drop p.toNat) tx1;rw[e3] at dp;refine⟨_,rfl,a,_,rfl,GG k2.ha,_,rfl,at1,_,rfl,dp,?_⟩;have k3:=k2.Mv n.made (l:=l3) (ws:=ws1.drop p.toNat) (CP:=ws.drop p.toNat) hl3' (by rw[Dq,Dq,EZ]) (fun j w wd f1 f2=>by
    rw[J8] at f1 f2;exact at2 _ w wd f1 f2) (fun w hw'=>new1 w (J7 hw'));have keep:∀b xs,H2 b=some (.lst xs)->(upd H2 at1 (.dK (CK (AZ tx1 n.made (l3,ws1.drop p.toNat))))) b=some (.lst xs):=fun b xs f=>by
    rw[AO (CT f k2.ht (by intro z;cases z))];exact f
   have hl3a:=keep _ _ hl1';have at3:=fun j w wd (e1:ws1[j]? =some w)(e2:ws[j]? =some wd)=>keep _ _ (at2 j w wd e1 e2);generalize upd H2 at1 (.dK (CK (AZ tx1 n.made (l3,ws1.drop p.toNat))))=H3 at k3 hl3a at3;have hd3:=k3.same _ _ hd0;refine⟨_,rfl,_,rfl,d,_,_,.int p,rfl,rfl,AY.of hd3,rfl,_,rfl,l1,_,rfl,AN.of hl3a,fun l5 hl5=>?_⟩;rw[XY c0 c1,<-Nu];have s5:=Ak (o:=.lst ((ws1.take p.toNat).map V.ref)) hl5;have h5:(upd H3 l5 (.lst ((ws1.take p.toNat).map V.ref))) l5=some (.lst ((ws1.take p.toNat).map V.ref)):=AR;generalize upd H3 l5 (.lst ((ws1.take p.toNat).map V.ref))=H5 at s5 h5;refine⟨_,rfl,d,_,_,.str o,rfl,rfl,AY.of (s5 _ _ hd3),rfl,_,rfl,by show 3<=sizeLine;decide,fun wq hwq=>⟨by show 1<=sizeLine;decide,fun l6 hl6=>?_⟩⟩;have s6:=Ak (o:=.lst (⟨true,o,n.made⟩:Wd).vq) hwq;have h6:(upd H5 wq (.lst (⟨true,o,n.made⟩:Wd).vq)) wq=some (.lst (⟨true,o,n.made⟩:Wd).vq):=AR;have hq0:H0 wq=none:=k3.same.free (s5.free hwq);have hl6':(upd H5 wq (.lst (⟨true,o,n.made⟩:Wd).vq)) l6=none:=hl6;show∃_,_;have s7:=Ak (o:=.lst [V.ref wq]) hl6';have h7:(upd (upd H5 wq (.lst (⟨true,o,n.made⟩:Wd).vq)) l6 (.lst [V.ref wq])) l6=some (.lst [V.ref wq]):=AR;refine⟨l5,l6,(ws1.take p.toNat).map V.ref,[V.ref wq],rfl,rfl,(s6.trans s7) _ _ h5,h7,by rw[AL,Bg,BA,EK];lia,fun l8 hl8=>?_⟩;have s8:=Ak (o:=.lst ((ws1.take p.toNat).map V.ref++[V.ref wq])) hl8;have s38:=s5.trans (s6.trans (s7.trans s8));have k8:=k3.ext s38;have h8:(upd (upd (upd H5 wq (.lst (⟨true,o,n.made⟩:Wd).vq)) l6 (.lst [V.ref wq])) l8 (.lst ((ws1.take p.toNat).map V.ref++[V.ref wq]))) l8=some (.lst ((ws1.take p.toNat).map V.ref++[V.ref wq])):=AR;have hq8:=(s7.trans s8) _ _ h6;have at8:=fun j w wd (e1:ws1[j]? =some w)(e2:ws[j]? =some wd)=>s38 _ _ (at3 j w wd e1 e2);have hl8a:=s38 _ _ hl3a;have dp8:=DP.kq (k:=.inl no) (v:=.ref l8) k8.ht (by
    show((AZ tx1 n.made (l3,ws1.drop p.toNat)).map _).length<_;rw[AL,BA];have:=GN tx1 n.made (l3,ws1.drop p.toNat)
    lia);have e8:putK (CK (AZ tx1 n.made (l3,ws1.drop p.toNat))) (.inl no) (.ref l8)=CK (AZ (AZ tx1 n.made (l3,ws1.drop p.toNat)) no (l8,ws1.take p.toNat++[wq])):=JL (g:=fun p:Addr×List Addr=>V.ref p.1) Ej no (l8,ws1.take p.toNat++[wq]) _;rw[e8] at dp8;refine⟨_,rfl,a,_,rfl,GG k8.ha,_,rfl,at1,_,rfl,dp8,?_⟩;have k9:=k8.Mv no (l:=l8) (ws:=ws1.take p.toNat++[wq]) (CP:=ws.take p.toNat++[⟨true,o,n.made⟩]) (by rw[BX];exact h8) (by rw[BC,BC,Bg,Bg,EZ];rfl) (fun j w wd f1 f2=>by
    by_cases hj:j<(ws1.take p.toNat).length
    ·rw[C9 hj] at f1;rw[C9 (by rw[Bg] at hj⊢;lia)] at f2;rw[QF] at f1 f2;split at f1
     ·rename_i hjp;rw[AH hjp] at f2;exact at8 j w wd f1 f2
     ·cases f1
    ·have hj1:j<(ws1.take p.toNat++[wq]).length:=(BW.mp f1).1;rw[BC,EK] at hj1;obtain rfl:j=(ws1.take p.toNat).length:=by lia
     have el:(ws1.take p.toNat).length=(ws.take p.toNat).length:=by rw[Bg,Bg,EZ]
     rw[C4 (Ac _),E3] at f1;rw[C4 (by lia),el,E3] at f2;cases Ah f1;cases Ah f2;exact hq8) (fun w hw'=>(CB.mp hw').elim (fun z=>new1 w (HY z)) fun z=>by rw[CA.mp z];exact hq0);have hd9:=k9.same _ _ hd0;have hl9:(upd (upd (upd (upd H5 wq (.lst (⟨true,o,n.made⟩:Wd).vq)) l6 (.lst [V.ref wq])) l8 (.lst ((ws1.take p.toNat).map V.ref++[V.ref wq]))) at1 (.dK (CK (AZ (AZ tx1 n.made (l3,ws1.drop p.toNat)) no (l8,ws1.take p.toNat++[wq]))))) l1=some (.lst (ws1.map V.ref)):=by
    rw[AO (CT hl8a k8.ht (by intro z;cases z))];exact hl8a
   refine⟨_,rfl,l1,_,rfl,.inl (AN.of hl9),_,rfl,d,_,_,.int p,rfl,rfl,AY.of hd9,rfl,_,_,rfl,rfl,?_⟩;have ew:Bz (n.added o) no=ws:=by unfold Bz;rw[hw];rfl
   have es:O7 n (.cut nm p o)=((n.added o).Cf n.made (ws.drop p.toNat)).Cf no (ws.take p.toNat++[⟨true,o,n.made⟩]):=by show n.HP (Ay n nm) p.toNat o=_;rw[eno];unfold Nk.HP;rw[hw];rfl
   have q1:=q _ (by rw[es];exact⟨an1,at1,_,k9⟩);have ec:chg n (.cut nm p o)=(((ws1.map V.ref).length:Nat):Int)-p:=by show((Bz (n.added o) (Ay n nm)).length:Int)-p=_;rw[eno,ew,AL,EZ]
   rw[ec] at q1;exact q1
  |drop nm=>
   obtain⟨d,xs,rfl,hd0,rs⟩:=CC rd;obtain⟨u,v,rfl,r1,r2⟩:=HN rs;cases Ba r1;cases Ba r2;have hd:=sm _ _ hd0;obtain⟨no,e⟩:=OE br (.inr (.inr (.inr rfl)));have eno:Ay n nm=no:=by unfold Ay;rw[e];rfl
   have dgn:=Dw nk.hn nm;rw[e] at dgn;obtain⟨w1,h1,_⟩:=bd.b.text e;refine⟨_,rfl,d,_,_,.str nm,rfl,rfl,AY.of hd,rfl,?_⟩;refine HW rfl hd (by ac_rfl) ?_;refine⟨_,rfl,a,_,rfl,Du nk.ha,_,rfl,an,_,rfl,dgn,?_⟩;refine HW rfl hd (by ac_rfl) ?_;refine HW rfl hd (by ac_rfl) ?_;refine HW rfl hd (by ac_rfl) ?_;refine⟨_,rfl,_,rfl,a,no,H0,n,rfl,⟨an,at_,tx,nk⟩,fit,fun H1 s1=>?_⟩;have nk1:=nk.ext s1;obtain⟨l1,ws1,g1,hl1,_⟩:=nk1.find fit.Cb h1;have v2:Be (CK tx) (.inl no)=some (.ref l1):=by rw[ER Ej,g1];rfl
   refine⟨_,rfl,a,_,rfl,GG nk1.ha,at_,rfl,.inl ⟨_,.inl nk1.ht⟩,_,rfl,_,.inl no,_,nk1.ht,rfl,v2,?_⟩;rw[KZ Ej];have nk2:=nk1.O5 no;generalize upd H1 at_ (.dK (CK (AQ tx no)))=H2 at nk2;have v1:Be (FU n.names) (.inr nm)=some (.int no):=by rw[ER E7,e];rfl
   refine⟨_,rfl,a,_,rfl,Du nk2.ha,an,rfl,.inl ⟨_,.inl nk2.hn⟩,_,rfl,_,.inr nm,_,nk2.hn,rfl,v1,?_⟩;rw[KZ E7];have nk3:=nk2.putN (AQ n.names nm);generalize upd H2 an (.dK (FU (AQ n.names nm)))=H3 at nk3;refine⟨_,rfl,_,rfl,_,rfl,_,rfl,a,no,nm,-1,H0,_,rfl,⟨an,at_,_,nk3⟩,(fit.O5 no).SR nm,fun H4 nk4=>⟨_,rfl,?_⟩⟩;have q1:=q H4 (by show CZ H0 H4 a (n.dropped nm (Ay n nm));rw[eno];exact nk4);have ec:chg n (.drop nm)=(n.led no:Nat):=by show(n.led (Ay n nm):Int)=_;rw[eno]
   rw[ec] at q1;exact q1
  |text nm=>cases na
  |back nm=>cases na
  |find ws far=>cases na
theorem aQ(h:Bd n)(hws:AF n.texts no=some ws):ws.map (shown n.names)=(Aj n no).map Ck:=by
 have e:Aj n no=ws.map (sh n.names):=by unfold Aj;rw[hws];rfl
 rw[e,Bh];refine Fc fun w hw=>?_;obtain⟨nm,hn⟩:=h.b.own (no,ws) (BU hws);obtain⟨ws',hws',ok⟩:=h.b.text (IL h.b.CQ hn);rw[show AF n.texts (no,ws).1=some ws from hws] at hws';cases Ah hws';show shown n.names w=Ck (sh n.names w)
 cases ht:w.to with
 |false=>rw[HC ht];unfold shown Ck;rw[ht,AG CS,AG (show¬("word" :Str)="to" by ac_rfl)]
 |true=>
  rcases ok w hw ht with⟨hl,_⟩|⟨x,hx⟩
  ·rw[Fm ht hl];unfold shown Ck;rw[AH ht,AH hl,AH rfl]
  ·have hn:w.no≠-1:=by have:=h.b.Eu hx;lia
   rw[EV h.b.inj ht hn hx];unfold shown Ck;rw[AH ht,AG hn,VR h.b.inj hx,AH rfl]
def Yd:Sp:=fun vs H Q _=>∃(a:Addr)(nm:Str)(no:Int)(H0:Hp)(n:Nk),vs=[.ref a,.str nm]/\CZ H0 H a n/\Fits n/\Bd n/\AF n.names nm=some no/\wsum (Aj n no)<=4000000/\∀H',AS H H'->Q (.str (Ho (Aj n no))) H'
def WC:Sp:=fun vs H Q _=>∃(a:Addr)(H0:Hp)(n:Nk),vs=[.ref a]/\CZ H0 H a n/\Fits n/\Bd n/\n.names.length<64/\BE (vw n)<=4000000/\∀u H',AS H H'->Rep H' (.lst ((K1 (vw n)).map FJ)) u->Q u H'
theorem YK:A0 ["_law_nook","_law_name","_law_words"] ["_law_nook","_law_name"] (Ao Of):=by ac_rfl
theorem iq{fSh:Addr}{fdSh:FuncData}(F:Ab K "_law_text_of" "_law_text_of" Of f fd)
 (FSh:Ab K "_law_shown" "_law_shown" Ov fSh fdSh)(GSh:AU P w K mg base Aa 2 fSh fdSh ["_law_nook","_law_word"] Wl)(bSh:Binds K fdSh ["_law_nook","_law_word"] [])(mSh:mg "_law_shown" =some (.ref fSh)):AU P w K mg base Aa 3 f fd ["_law_nook","_law_name"] Yd:=by
 refine F.ok YK (fun vs H Q E h=>?_) (fun cdv A outer s H vs Q E hr h=>?_)
 ·obtain⟨a,nm,no,H0,n,rfl,_⟩:=h;rfl
 ·obtain⟨a,nm,no,H0,n,rfl,⟨an,at_,tx,nk⟩,fit,bd,hno,hw,q⟩:=h;have hu1:=Ce hr;refine⟨_,AW (Ax (i:=2) YK.nd rfl (Ad rfl) (BQ hu1 (BQ hu1 (pv 0) AX (fun _ _=>rfl)) (BQ hu1 (BQ hu1 (pv 0) AX (fun _ _=>rfl)) (pv 1) (fun _ _=>rfl)) (fun _ _=>rfl)))
   (AV (An (FQ LX PySem.F.slot_str_join PySem.F.type_str_join XE AX (AE (ES (ts:=["_law_word"]) (cap:=["_law_nook"]) (ix:=[0]) (Hi rfl rfl (by ac_rfl) (by ac_rfl) rfl rfl rfl rfl rfl) (Gg (pv 2))
    (fun _ _ _ _ _=>Bl (i:=0) (Gj (by ac_rfl)) rfl (Ad rfl) (Co rfl)) (fun _ _ _ _ _=>Fq) (fun _ _ _ _ _=>BJ GSh hr rfl mSh FSh.kp bSh .nil BB (AE (pv 1) (AE (pv 0) AI)))) AI)))),?_⟩;obtain⟨ws,hws,_⟩:=bd.b.text hno;obtain⟨l1,ws1,g1,hl1,EZ,at1,new1⟩:=nk.find fit.Cb hws;have dgn:=Dw nk.hn nm;rw[hno] at dgn;have d1:BN H at_ (.int no) (some (.ref l1)):=by
   have:=BN.kq (k:=.inl no) nk.ht;rw[ER Ej,g1] at this;exact this
  refine⟨_,rfl,a,_,rfl,GG nk.ha,_,rfl,a,_,rfl,Du nk.ha,_,rfl,an,_,rfl,dgn,at_,_,rfl,d1,?_⟩;have est:=aQ bd hws;have el:(Aj n no).length=ws.length:=by have:=BZ List.length est;rw[AL,AL] at this;lia
  have hwl:=Kb (Aj n no);refine⟨rfl,_,rfl,l1,rfl,⟨_,AN.of hl1⟩,fun D hD=>GH (xs:=ws1.map V.ref) (fun i H'=>CI H D (((ws.take i).map (shown n.names)).map Dt.str) H') (CI.start hD) (fun i H' _ c=>AN.of (c.same _ _ hl1)) (fun i x H' ex c=>?_) fun H' c=>?_⟩
  ·rw[Az] at ex
   cases ea:ws1[i]?with
   |none=>rw[ea] at ex;cases ex
   |some aw=>
   rw[ea] at ex;obtain rfl:V.ref aw=x:=Ah ex;have hj:i<ws.length:=by rw[<-EZ];exact(BW.mp ea).1
   have ewj:ws[i]? =some ws[i]:=Ar hj;generalize ws[i]=wd at ewj;have nk4:=nk.ext c.same;have haw:H' aw=some (.lst wd.vq):=c.same _ _ (at1 i aw wd ea ewj);have nml:wd.nm.length<=2000:=by
    have h1:=bd.wl _ (BU hws) wd (CL ewj)
    lia
   have nl2:∀p∈n.names,p.1.length<=2000:=fun p hp'=>by have:=bd.nm p hp';lia
   refine⟨FG,_,rfl,_,rfl,a,aw,wd,H0,n,rfl,⟨an,at_,tx,nk4⟩,fit,haw,nml,nl2,fun H5 s5=>?_⟩;rw[JE (f:=shown n.names) ewj,BX];refine(c.ext s5).push (.str _) ?_;have h2:=Hb i ws;rw[AL,AL]
   lia
  ·rw[AL,EZ,Cv,est] at c;obtain⟨ys,hy,ry⟩:=c.lst;have lb:(" " :Str).length=1:=by ac_rfl
   refine⟨" ",D,(Aj n no).map Ck,rfl,rfl,AN.of (by rw[hy,L0 ry]),?_,?_,q _ c.same⟩
   ·have:=RH (" " :Str).length (by lia) (Aj n no) 0;rw[BA]
    lia
   ·have:=Wv (g:=" ") (by lia) (Aj n no);rw[BA]
    lia
theorem fE:A0 ["_law_nook"] ["_law_nook"] (Ao Om):=by ac_rfl
theorem cj{fT:Addr}(F:Ab K "_law_texts" "_law_texts" Om f fd)(O:Own mg)(hso:mg "sorted" =none)
 (FT:Ab K "_law_text_of" "_law_text_of" Of fT fdT)(GT:AU P w K mg base Aa 3 fT fdT ["_law_nook","_law_name"] Yd)(bT:Binds K fdT ["_law_nook","_law_name"] [])(mT:mg "_law_text_of" =some (.ref fT)):AU P w K mg base Aa 4 f fd ["_law_nook"] WC:=by
 refine F.ok fE (fun vs H Q E h=>?_) (fun cdv A outer s H vs Q E hr h=>?_)
 ·obtain⟨a,H0,n,rfl,_⟩:=h;rfl
 ·obtain⟨a,H0,n,rfl,⟨an,at_,tx,nk⟩,fit,bd,h64,ht,q⟩:=h;have hu1:=Ce hr;refine⟨_,AV (An (ES (ts:=["_law_name"]) (cap:=["_law_nook"]) (ix:=[0]) (Hi rfl rfl (by ac_rfl) (by ac_rfl) rfl rfl rfl rfl rfl) (Gg (Bc UY rfl hso Lr (AE (E6 (KU rfl) rfl O.lst HD (AE (BQ hu1 (pv 0) AX (fun _ _=>rfl)) AI)) AI)))
   (fun _ _ _ _ _=>Bl (i:=0) (Gj (by ac_rfl)) rfl (Ad rfl) (Co rfl)) (fun _ _ _ _ _=>Fq) (fun _ _ _ _ _=>Cd (AE (pv 0) (AE (BJ GT hr rfl mT FT.kp bT .nil BB (AE (pv 1) (AE (pv 0) AI))) AI))))),?_⟩;refine⟨_,rfl,a,_,rfl,Du nk.ha,an,_,rfl,nk.hn,fun ld hld=>?_⟩;have ek:((FU n.names).map fun kv=>kV kv.1)=(n.names.map (·.1)).map V.str:=by
   show(n.names.map _).map _=_;rw[Bh,Bh];rfl
  rw[ek];have s2:=Ak (o:=.lst ((n.names.map (·.1)).map V.str)) hld;have h2:(upd H ld (.lst ((n.names.map (·.1)).map V.str))) ld=some (.lst ((n.names.map (·.1)).map V.str)):=AR;generalize upd H ld (.lst ((n.names.map (·.1)).map V.str))=H2 at s2 h2;refine⟨ld,n.names.map (·.1),rfl,AN.of h2,by rw[AL];exact h64,fun Ds ys hDs hp hs=>?_⟩;have ey:ys=K5 (n.names.map (·.1)):=Ru Hn hp hs;have s3:=Ak (o:=.lst (ys.map V.str)) hDs;have h3:(upd H2 Ds (.lst (ys.map V.str))) Ds=some (.lst (ys.map V.str)):=AR;generalize upd H2 Ds (.lst (ys.map V.str))=H3 at s3 h3;have s13:=s2.trans s3;refine⟨Ds,rfl,⟨_,AN.of h3⟩,fun D hD=>GH (xs:=ys.map V.str) (fun i H'=>CI H3 D (((ys.take i).map (GZ (vw n))).map FJ) H') (CI.start hD) (fun i H' _ c=>AN.of (c.same _ _ h3)) (fun i y H' ey' c=>?_) fun H' c=>?_⟩
  ·rw[Az] at ey'
   cases ez:ys[i]?with
   |none=>rw[ez] at ey';cases ey'
   |some z=>
   rw[ez] at ey';obtain rfl:V.str z=y:=Ah ey';have zk:z∈n.names.map (·.1):=hp.mem_iff.mp (CL ez);obtain⟨no,hno⟩:=RG zk;have hv:AF (vw n) z=some (Aj n no):=by rw[En,hno];rfl
   have hwt:wsum (Aj n no)<=4000000:=by
    have:=Ki (BU hv);have h1:wsum (Aj n no)<=BE (vw n):=this
    lia
   refine⟨FG,_,rfl,_,rfl,_,rfl,a,z,no,H0,n,rfl,⟨an,at_,tx,nk.ext (s13.trans c.same)⟩,fit,bd,hno,hwt,fun H4 s4=>?_⟩;refine⟨by show 2<=sizeLine;decide,fun tp htp=>?_⟩;have st:=Ak (o:=.tup [.str z,.str (Ho (Aj n no))]) htp;have c5:=(c.ext s4).ext st;have nt:tp≠D:=by obtain⟨z5,hz5,_⟩:=(c.ext s4).lst;exact(A2 hz5 htp).symm
   have et:GZ (vw n) z=(z,Ho (Aj n no)):=by unfold GZ;rw[hv];rfl
   rw[JE (f:=GZ (vw n)) ez,BX];refine c5.push (d:=FJ (GZ (vw n) z)) (by rw[et];exact XQ (Ex.at AR nt)) ?_;rw[AL,AL];have f1:=Hb i ys;have f3:=hp.length_eq;rw[AL] at f3
   lia
  ·rw[AL,Cv,ey] at c;have ek2:keys (vw n)=n.names.map (·.1):=Dh n;refine q _ _ (s13.trans c.same) ?_;unfold K1;rw[ek2];exact c.done
theorem HQ:C6 X (.builtin "isinstance") (fun xs H Q=>∃x c t b,xs=[x,.ty c]/\(∀K:PySem.W.Frag,Bi K H x t)/\(∀K:PySem.W.Frag,kitOne K t (.type c)=some b)/\Q (.bl b) H):=
 fun _ _ _ _ _ _ _ I r ⟨x,c,t,b,e,y,k,z⟩=>dz _ _ _ _ _ _ _ I r ⟨x,c,t,b,e,y _,k _,z⟩
theorem lE:C6 X (.builtin "isinstance") (fun xs H Q=>∃(x:V)(p:Addr)(cs:List String)(t:Value)(b:Bool),xs=[x,.ref p]/\H p=some (.tup (cs.map V.ty))/\(∀K:PySem.W.Frag,Bi K H x t)/\(∀K:PySem.W.Frag,kitAny K t (cs.map Value.type)=some b)/\Q (.bl b) H):=
 fun _ _ _ _ _ _ _ I r ⟨x,p,cs,t,b,e,h,y,k,z⟩=>bH _ _ _ _ _ _ _ I r ⟨x,p,cs,t,b,e,h,y _,k _,z⟩
theorem Yl:Gq X (nY []):=Bq.or (BS.or Kt)
section
variable{o:Expr}{to:TE}{id:String}
theorem mY(pa:PlainAttrs T)(slot:Slot T name id)(hty:typeOf (.builtin id)=pure (.type "method_descriptor"))(hm:NA X id r)(ho:PE X o to)
 (hbase:attributeBase o name X.env (eval o X.env)=eval o X.env:=by rfl)(hline:(apos.endLine==cpos.line)=true:=by rfl):PE X (.Call (.Attribute o name apos) [] [] cpos) (ZD [] T r to):=
 fun pins s σ H Q I h=>Mb pa slot hty hm ho.mc hbase hline pins s σ H Q I ⟨_,h,fun _ _ ⟨y,z⟩=>⟨Y2 y,z⟩⟩
theorem mV(hu:X.A.units<cLine):Bs X (compareOp .NotEq) (fun x y H Q=>∃a b xs,x=.ref a/\y=.ref b/\AN [] H a xs/\AN [] H b []/\Q (.bl (!xs.isEmpty)) H):=
 fun _ _ _ _ _ _ _ _ _ I r r' ⟨p,b,xs,e,e',q,q',z⟩=>cS hu _ _ _ _ _ _ _ _ _ I r r' ⟨p,b,xs,e,e',FF q,FF q',z⟩
end
abbrev TJ:Stmt:=XJ
abbrev ZF:Stmt:=TC
def Yu:Sp:=fun vs H Q _=>∃(x y:V)(d:Dt),vs=[x,y]/\Rep H d x/\Rep H d y/\d.sz<=1000000/\∀H',AS H H'->Q (.bl true) H'
def Yw:Sp:=fun vs H Q _=>∃i:Int,vs=[.int i]/\Q (.bl true) H
theorem lX:A0 ["_law_found"] ["_law_found"] (Ao TJ):=by ac_rfl
theorem lQ(F:Ab K "_law_whole" "_law_whole" TJ f fd)(O:Own mg):AU P w K mg base Aa 1 f fd ["_law_found"] Yw:=by
 refine F.ok lX (fun vs H Q E h=>?_) (fun cdv A outer s H vs Q E hr h=>?_)
 ·obtain⟨i,rfl,_⟩:=h;rfl
 ·obtain⟨i,rfl,k⟩:=h;refine⟨_,AV (An (MW (Bc HQ rfl O.Gn GX (AE (pv 0) (AE (Fp (v:=.ty "int") rfl O.int Kn rfl) AI)))
   (MU (iO (Bc HQ rfl O.Gn GX (AE (pv 0) (AE (Fp (v:=.ty "bool") rfl O.bl Rg rfl) AI))))))),?_⟩;exact⟨_,rfl,_,_,_,_,rfl,(fun _=>Bi.int i),(fun _=>Hk _),_,rfl,Bf ⟨_,rfl,_,_,_,_,rfl,(fun _=>Bi.int i),(fun _=>Yb),_,rfl,k⟩⟩
theorem PF:A0 ["_law_found","_law_due","_law_todo","_law_pair","_law_k"] ["_law_found","_law_due"] (Ao ZF):=by ac_rfl
theorem lK{fW:Addr}{fdW:FuncData}(F:Ab K "_law_alike" "_law_alike" ZF f fd)(O:Own mg)(FW:Ab K "_law_whole" "_law_whole" TJ fW fdW)(bW:Binds K fdW ["_law_found"] [])(mW:mg "_law_whole" =some (.ref fW)):
 AU P w K mg base Aa 2 f fd ["_law_found","_law_due"] Yu:=by
 have GW:AU P w K mg base Aa 1 fW fdW ["_law_found"] Yw:=lQ FW O;refine F.ok PF (fun vs H Q E h=>?_) (fun cdv A outer s H vs Q E hr h=>?_)
 ·obtain⟨x,y,d,rfl,_⟩:=h;rfl
 ·obtain⟨x0,y0,d0,rfl,rx0,ry0,hd0,k⟩:=h;have hu:=hr.Rw;refine⟨_,AW (Ax (i:=2) PF.nd rfl (Ad rfl) (CY (AE (Cd (AE (pv 0) (AE (pv 1) AI))) AI)))
   (AW (fC Dr (Av (mV hu) (pv 2) (CY AI) (As _))
    (AW (Ax (i:=3) PF.nd rfl (Ad rfl) (mY EJ PySem.F.slot_list_pop PySem.F.type_list_pop jW (pv 2)))
    (AV (A1 (Em (Bc lE rfl O.Gn GX (AE (Ag BS (pv 3) AK (fun _ _=>rfl)) (AE (Cd (AE (Fp (v:=.ty "list") rfl O.lst HD rfl) (AE (Fp (v:=.ty "tuple") rfl O.tup RA rfl) AI))) AI))))
     (AW (A1 (Av Gd (Bc HQ rfl O.Gn GX (AE (Ag BS (pv 3) AK (fun _ _=>rfl)) (AE (Fp (v:=.ty "list") rfl O.lst HD rfl) AI))) (Bc HQ rfl O.Gn GX (AE (Ag BS (pv 3) AK (fun _ _=>rfl)) (AE (Fp (v:=.ty "list") rfl O.lst HD rfl) AI))) (As _)) (AV (An JX)) BF)
     (AW (A1 (Av Gd (Bc HQ rfl O.Gn GX (AE (Ag BS (pv 3) AK (fun _ _=>rfl)) (AE (Fp (v:=.ty "tuple") rfl O.tup RA rfl) AI))) (Bc HQ rfl O.Gn GX (AE (Ag BS (pv 3) AK (fun _ _=>rfl)) (AE (Fp (v:=.ty "tuple") rfl O.tup RA rfl) AI))) (As _)) (AV (An JX)) BF)
     (AW (A1 (Av Gd (Bc Hq rfl O.len Dg (AE (Ag BS (pv 3) AK (fun _ _=>rfl)) AI)) (Bc Hq rfl O.len Dg (AE (Ag BS (pv 3) AK (fun _ _=>rfl)) AI)) (As _)) (AV (An JX)) BF)
     (AV (Dx Dr rfl (Q1 rfl O.J0 (AE (Bc Hq rfl O.len Dg (AE (Ag BS (pv 3) AK (fun _ _=>rfl)) AI)) AI)) (Bl (i:=4) PF.nd rfl (Ad rfl))
      (AV (Bn (FQ EJ FZ FY Ef (pv 2) (AE (Cd (AE (Ag Yl (Ag BS (pv 3) AK (fun _ _=>rfl)) (pv 4) (fun _ _=>rfl)) (AE (Ag Yl (Ag BS (pv 3) AK (fun _ _=>rfl)) (pv 4) (fun _ _=>rfl)) AI))) AI)))))))))
     (AV (A1 (Em (Bc HQ rfl O.Gn GX (AE (Ag BS (pv 3) AK (fun _ _=>rfl)) (AE (Fp (v:=.ty "str") rfl O.str X1 rfl) AI))))
      (AV (A1 (PW.pt (Jb (JW (Em (Bc HQ rfl O.Gn GX (AE (Ag BS (pv 3) AK (fun _ _=>rfl)) (AE (Fp (v:=.ty "str") rfl O.str X1 rfl) AI))))) (JS (Av Gd (Ag BS (pv 3) AK (fun _ _=>rfl)) (Ag BS (pv 3) AK (fun _ _=>rfl)) (As _))))) (AV (An JX)) BF))
      (AV (A1 (Em (Bc HQ rfl O.Gn GX (AE (Ag BS (pv 3) AK (fun _ _=>rfl)) (AE (Fp (v:=.ty "bool") rfl O.bl Rg rfl) AI))))
       (AV (A1 (PW.pt (Jb (JW (Em (Bc HQ rfl O.Gn GX (AE (Ag BS (pv 3) AK (fun _ _=>rfl)) (AE (Fp (v:=.ty "bool") rfl O.bl Rg rfl) AI))))) (JS (Av Gd (Ag BS (pv 3) AK (fun _ _=>rfl)) (Ag BS (pv 3) AK (fun _ _=>rfl)) (As _))))) (AV (An JX)) BF))
       (AV (A1 (PW.pt (Jb (JW (Em (BJ GW hr rfl mW FW.kp bW .nil BB (AE (Ag BS (pv 3) AK (fun _ _=>rfl)) AI)))) (JS (Av Gd (Ag BS (pv 3) AK (fun _ _=>rfl)) (Ag BS (pv 3) AK (fun _ _=>rfl)) (As _))))) (AV (An JX)) BF))))))))))
   (AV (An JX))),?_⟩;refine⟨_,rfl,_,rfl,by show 2<=sizeLine;decide,fun p0 hp0=>⟨by show 1<=sizeLine;decide,fun t ht=>?_⟩⟩;have hp0t:p0≠t:=A2 AR ht;have htn:H t=none:=(Ak hp0).free ht;refine⟨fun m σ H'=>∃(ps:List Addr)(ds:List Dt)(v3 v4:Option V),σ=[some x0,some y0,some (.ref t),v3,v4]/\H' t=some (.lst (ps.map V.ref))/\AS H H'/\m=Dt.CD ds/\m<=1000000/\Dl H H' ds ps,
   ⟨Dt.CD [d0],[p0],[d0],none,none,rfl,AR,((AS.refl H).upd hp0).upd htn,rfl,by simp only[Dt.CD];lia,?_⟩,?_⟩
  ·refine Dl.snoc (ds:=[]) (ps:=[]) (x:=x0) (y:=y0) ⟨rfl,fun i d p e=>by simp at e⟩ ?_ rx0 ry0;rw[AO hp0t,AR]
  rintro m σ H' ⟨ps,ds,v3,v4,rfl,hT,sm,rfl,hm,st⟩;refine⟨_,rfl,by show 0<=sizeLine;decide,fun q hq=>⟨t,q,_,rfl,rfl,AN.of (by rw[AO (A2 hT hq)];exact hT),AN.of AR,_,rfl,?_⟩⟩;have s1:AS H' (upd H' q (.lst [])):=Ak hq;rcases List.eq_nil_or_concat ps with e|⟨ps',p,e⟩
  ·subst e;refine BM ?_;exact k _ (sm.trans s1)
  rw[List.concat_eq_append] at e;subst e;obtain⟨ds',d,x,y,rfl,st',hp,rx,ry⟩:=st.iS;have hTq:t≠q:=A2 hT hq;have hpt:p≠t:=CT hp hT (by intro z;cases z);have em:((ps'++[p]).map V.ref)=ps'.map V.ref++[V.ref p]:=by rw[BX];rfl
  have hne:(!((ps'++[p]).map V.ref).isEmpty)=true:=by rw[em];simp
  rw[hne];refine Bf ⟨fun σ' H2=>∃(ps:List Addr)(ds:List Dt)(v3 v4:Option V),σ'=[some x0,some y0,some (.ref t),v3,v4]/\H2 t=some (.lst (ps.map V.ref))/\AS H H2/\Dt.CD ds<Dt.CD (ds'++[d])/\Dl H H2 ds ps,
   fun σ' H2 ⟨ps2,ds2,a3,a4,e1,e2,e3,e4,e5⟩=>⟨Dt.CD ds2,e4,ps2,ds2,a3,a4,e1,e2,e3,rfl,by lia,e5⟩,?_⟩;have hT1:(upd H' q (.lst [])) t=some (.lst (ps'.map V.ref++[V.ref p])):=by rw[AO hTq,hT,em]
  refine⟨_,rfl,.inl ⟨rfl,_,AN.of hT1⟩,t,_,.ref p,rfl,rfl,hT1,by simp,?_⟩;have esz:Dt.CD (ds'++[d])=Dt.CD ds'+d.sz:=by rw[Dt.Oa];simp only[Dt.CD];lia
  have hdl:(ps'.map V.ref++[V.ref p]).dropLast=ps'.map V.ref:=by simp
  rw[hdl];generalize hH2:upd (upd H' q (.lst [])) t (.lst (ps'.map V.ref))=H2;have s2:AS H H2:=by rw[<-hH2];exact(sm.trans s1).upd htn
  have t2:H2 t=some (.lst (ps'.map V.ref)):=by rw[<-hH2];exact AR
  have kt2:∀b xs,H' b=some (.tup xs)->H2 b=some (.tup xs):=fun b xs e=>by rw[<-hH2,AO (CT e hT (by intro z;cases z)),AO (A2 e hq)];exact e
  have p2:H2 p=some (.tup [x,y]):=kt2 _ _ hp;have st2:Dl H H2 ds' ps':=st'.same kt2;refine⟨_,rfl,p,_,1,y,rfl,rfl,AY.of p2,rfl,by show 2<=sizeLine;decide,fun tq htq=>?_⟩;generalize hH3:upd H2 tq (.tup [V.ty "list",V.ty "tuple"])=H3;have s23:AS H2 H3:=by rw[<-hH3];exact Ak htq
  have s3:AS H H3:=s2.trans s23;have t3:H3 t=some (.lst (ps'.map V.ref)):=s23 _ _ t2;have p3:H3 p=some (.tup [x,y]):=s23 _ _ p2;have q3:H3 tq=some (.tup [V.ty "list",V.ty "tuple"]):=by rw[<-hH3];exact AR
  have st3:Dl H H3 ds' ps':=st2.same fun b xs e=>s23 _ _ e;have fin:∃(ps:List Addr)(ds:List Dt)(a3 a4:Option V),([some x0,some y0,some (V.ref t),some (V.ref p),v4]:St)=[some x0,some y0,some (.ref t),a3,a4]/\H3 t=some (.lst (ps.map V.ref))/\AS H H3/\Dt.CD ds<Dt.CD (ds'++[d])/\Dl H H3 ds ps:=by have:=d.XN;exact⟨ps',ds',_,_,rfl,t3,s3,by lia,st3⟩
  cases d with
  |lst ds1=>
   cases rx with
   |@lst _ a xs hx lx fx=>
   cases ry with
   |@lst _ b ys hy ly fy=>
   have a3:H3 a=some (.lst xs):=s3 _ _ hx;have b3:H3 b=some (.lst ys):=s3 _ _ hy;have hsz:(Dt.lst ds1).sz=1+Dt.CD ds1:=by simp only[Dt.sz]
   have hl1:=Dt.JO ds1;refine⟨.ref b,tq,["list","tuple"],.type "list",true,rfl,q3,(fun _=>Bi.lst b3),(fun _=>XW _ (.inl rfl)),_,rfl,Bf ?_⟩;refine⟨_,rfl,p,_,0,.ref a,rfl,rfl,AY.of p3,rfl,.ref a,"list",.type "list",true,rfl,(fun _=>Bi.lst a3),(fun _=>Hk _),_,rfl,p,_,1,.ref b,rfl,rfl,AY.of p3,rfl,.ref b,"list",.type "list",true,rfl,(fun _=>Bi.lst b3),(fun _=>Hk _),rfl,_,rfl,D5 rfl ?_⟩;refine⟨_,rfl,p,_,0,.ref a,rfl,rfl,AY.of p3,rfl,.ref a,"tuple",.type "list",false,rfl,(fun _=>Bi.lst a3),(fun _=>YE),_,rfl,p,_,1,.ref b,rfl,rfl,AY.of p3,rfl,.ref b,"tuple",.type "list",false,rfl,(fun _=>Bi.lst b3),(fun _=>YE),rfl,_,rfl,D5 rfl ?_⟩;refine⟨_,rfl,p,_,0,.ref a,rfl,rfl,AY.of p3,rfl,a,xs,rfl,.inl (AN.of a3),_,rfl,p,_,1,.ref b,rfl,rfl,AY.of p3,rfl,b,ys,rfl,.inl (AN.of b3),rfl,_,rfl,D5 (by rw[<-lx,<-ly]) ?_⟩;refine⟨_,rfl,p,_,1,.ref b,rfl,rfl,AY.of p3,rfl,b,ys,rfl,.inl (AN.of b3),(ys.length:Int),rfl,by lia,by lia,?_⟩;refine OA (lo:=0) (n:=ys.length) (fun i σ' H4=>∃(nps:List Addr)(u4:Option V),σ'=[some x0,some y0,some (.ref t),some (.ref p),u4]/\H4 t=some (.lst ((ps'++nps).map V.ref))/\AS H H4/\H4 p=some (.tup [.ref a,.ref b])/\Dl H H4 (ds'++ds1.take i) (ps'++nps))
    ⟨[],v4,rfl,by rw[Cy];exact t3,s3,p3,by rw[KH,Cy,Cy];exact st3⟩ ?_ ?_
   ·rintro i σ' H4 hi ⟨nps,u4,rfl,t4,s4,p4,st4⟩;have hxi:xs[i]? =some xs[i]:=Ar (by lia);have hyi:ys[i]? =some ys[i]:=Ar hi;have hdi:ds1[i]? =some ds1[i]:=Ar (by lia);have hps:(ps'++nps).length<=1000000:=by
     have h1:=st4.1;have h2:=Dt.JO (ds'++ds1.take i);have h3:=Dt.JO ds';rw[BC,Bg] at h1
     lia
    have e0:(0:Int)+(i:Nat)=(i:Nat):=Int.zero_add _;refine⟨_,rfl,.inl ⟨rfl,_,AN.of t4⟩,_,rfl,p,_,0,.ref a,rfl,rfl,AY.of p4,rfl,_,rfl,.inl ⟨a,xs,_,xs[i],rfl,rfl,AN.of (s4 _ _ hx),by rw[e0];exact Bv hxi,_,rfl,p,_,1,.ref b,rfl,rfl,AY.of p4,rfl,_,rfl,
     .inl ⟨b,ys,_,ys[i],rfl,rfl,AN.of (s4 _ _ hy),by rw[e0];exact Bv hyi,by show 2<=sizeLine;decide,fun np hnp=>?_⟩⟩⟩;have LK:t≠np:=A2 t4 hnp;have npp:p≠np:=A2 p4 hnp;have hpt4:p≠t:=CT p4 t4 (by intro z;cases z);refine⟨t,_,.ref np,rfl,rfl,by rw[AO LK];exact t4,by rw[AL,BA];lia,nps++[np],_,rfl,?_,(s4.upd (s4.free hnp)).upd htn,by rw[AO hpt4,AO npp];exact p4,?_⟩
    ·rw[AR];simp only[BX,Au,KQ,Bu]
    ·have kk:∀c zs,H4 c=some (.tup zs)->(upd (upd H4 np (.tup [xs[i],ys[i]])) t (.lst ((ps'++nps).map V.ref++[V.ref np]))) c=some (.tup zs):=fun c zs e=>by rw[AO (CT e t4 (by intro z;cases z)),AO (A2 e hnp)];exact e
     rw[Dm,hdi,<-Bu,<-Bu];refine(st4.same kk).snoc (x:=xs[i]) (y:=ys[i]) ?_ (fx i _ _ hdi hxi) (fy i _ _ hdi hyi);rw[AO LK.symm,AR]
   ·rintro σ' H4 ⟨nps,u4,rfl,t4,s4,p4,st4⟩;rw[<-ly,Cv] at st4;refine⟨ps'++nps,ds'++ds1,_,_,rfl,t4,s4,?_,st4⟩;rw[esz,Dt.Oa,hsz]
    lia
  |tup ds1=>
   cases rx with
   |@tup _ a xs hx lx fx=>
   cases ry with
   |@tup _ b ys hy ly fy=>
   have a3:H3 a=some (.tup xs):=s3 _ _ hx;have b3:H3 b=some (.tup ys):=s3 _ _ hy;have hsz:(Dt.tup ds1).sz=1+Dt.CD ds1:=by simp only[Dt.sz]
   have hl1:=Dt.JO ds1;refine⟨.ref b,tq,["list","tuple"],.type "tuple",true,rfl,q3,(fun _=>Bi.tup b3),(fun _=>XW _ (.inr rfl)),_,rfl,Bf ?_⟩;refine⟨_,rfl,p,_,0,.ref a,rfl,rfl,AY.of p3,rfl,.ref a,"list",.type "tuple",false,rfl,(fun _=>Bi.tup a3),(fun _=>YH),_,rfl,p,_,1,.ref b,rfl,rfl,AY.of p3,rfl,.ref b,"list",.type "tuple",false,rfl,(fun _=>Bi.tup b3),(fun _=>YH),rfl,_,rfl,D5 rfl ?_⟩;refine⟨_,rfl,p,_,0,.ref a,rfl,rfl,AY.of p3,rfl,.ref a,"tuple",.type "tuple",true,rfl,(fun _=>Bi.tup a3),(fun _=>Hk _),_,rfl,p,_,1,.ref b,rfl,rfl,AY.of p3,rfl,.ref b,"tuple",.type "tuple",true,rfl,(fun _=>Bi.tup b3),(fun _=>Hk _),rfl,_,rfl,D5 rfl ?_⟩;refine⟨_,rfl,p,_,0,.ref a,rfl,rfl,AY.of p3,rfl,a,xs,rfl,.inr (AY.of a3),_,rfl,p,_,1,.ref b,rfl,rfl,AY.of p3,rfl,b,ys,rfl,.inr (AY.of b3),rfl,_,rfl,D5 (by rw[<-lx,<-ly]) ?_⟩;refine⟨_,rfl,p,_,1,.ref b,rfl,rfl,AY.of p3,rfl,b,ys,rfl,.inr (AY.of b3),(ys.length:Int),rfl,by lia,by lia,?_⟩;refine OA (lo:=0) (n:=ys.length) (fun i σ' H4=>∃(nps:List Addr)(u4:Option V),σ'=[some x0,some y0,some (.ref t),some (.ref p),u4]/\H4 t=some (.lst ((ps'++nps).map V.ref))/\AS H H4/\H4 p=some (.tup [.ref a,.ref b])/\Dl H H4 (ds'++ds1.take i) (ps'++nps))
    ⟨[],v4,rfl,by rw[Cy];exact t3,s3,p3,by rw[KH,Cy,Cy];exact st3⟩ ?_ ?_
   ·rintro i σ' H4 hi ⟨nps,u4,rfl,t4,s4,p4,st4⟩;have hxi:xs[i]? =some xs[i]:=Ar (by lia);have hyi:ys[i]? =some ys[i]:=Ar hi;have hdi:ds1[i]? =some ds1[i]:=Ar (by lia);have hps:(ps'++nps).length<=1000000:=by
     have h1:=st4.1;have h2:=Dt.JO (ds'++ds1.take i);have h3:=Dt.JO ds';rw[BC,Bg] at h1
     lia
    have e0:(0:Int)+(i:Nat)=(i:Nat):=Int.zero_add _;refine⟨_,rfl,.inl ⟨rfl,_,AN.of t4⟩,_,rfl,p,_,0,.ref a,rfl,rfl,AY.of p4,rfl,_,rfl,.inr (.inl ⟨a,xs,_,xs[i],rfl,rfl,AY.of (s4 _ _ hx),by rw[e0];exact Bv hxi,_,rfl,p,_,1,.ref b,rfl,rfl,AY.of p4,rfl,_,rfl,
     .inr (.inl ⟨b,ys,_,ys[i],rfl,rfl,AY.of (s4 _ _ hy),by rw[e0];exact Bv hyi,by show 2<=sizeLine;decide,fun np hnp=>?_⟩)⟩)⟩;have LK:t≠np:=A2 t4 hnp;have npp:p≠np:=A2 p4 hnp;have hpt4:p≠t:=CT p4 t4 (by intro z;cases z);refine⟨t,_,.ref np,rfl,rfl,by rw[AO LK];exact t4,by rw[AL,BA];lia,nps++[np],_,rfl,?_,(s4.upd (s4.free hnp)).upd htn,by rw[AO hpt4,AO npp];exact p4,?_⟩
    ·rw[AR];simp only[BX,Au,KQ,Bu]
    ·have kk:∀c zs,H4 c=some (.tup zs)->(upd (upd H4 np (.tup [xs[i],ys[i]])) t (.lst ((ps'++nps).map V.ref++[V.ref np]))) c=some (.tup zs):=fun c zs e=>by rw[AO (CT e t4 (by intro z;cases z)),AO (A2 e hnp)];exact e
     rw[Dm,hdi,<-Bu,<-Bu];refine(st4.same kk).snoc (x:=xs[i]) (y:=ys[i]) ?_ (fx i _ _ hdi hxi) (fy i _ _ hdi hyi);rw[AO LK.symm,AR]
   ·rintro σ' H4 ⟨nps,u4,rfl,t4,s4,p4,st4⟩;rw[<-ly,Cv] at st4;refine⟨ps'++nps,ds'++ds1,_,_,rfl,t4,s4,?_,st4⟩;rw[esz,Dt.Oa,hsz]
    lia
  |str z=>cases rx;cases ry;refine⟨.str z,tq,["list","tuple"],.type "str",false,rfl,q3,(fun _=>Bi.str z),(fun _=>RN _ (.inl rfl)),_,rfl,BM ?_⟩;refine⟨_,rfl,p,_,1,.str z,rfl,rfl,AY.of p3,rfl,.str z,"str",.type "str",true,rfl,(fun _=>Bi.str z),(fun _=>Hk _),_,rfl,Bf ?_⟩;refine⟨_,rfl,p,_,0,.str z,rfl,rfl,AY.of p3,rfl,.str z,"str",.type "str",true,rfl,(fun _=>Bi.str z),(fun _=>Hk _),_,rfl,BM ⟨_,rfl,p,_,0,.str z,rfl,rfl,AY.of p3,rfl,_,rfl,p,_,1,.str z,rfl,rfl,AY.of p3,rfl,rfl,_,rfl,D5 rfl fin⟩⟩
  |bl z=>cases rx;cases ry;refine⟨.bl z,tq,["list","tuple"],.type "bool",false,rfl,q3,(fun _=>Bi.bl z),(fun _=>RN _ (.inr (.inr rfl))),_,rfl,BM ?_⟩;refine⟨_,rfl,p,_,1,.bl z,rfl,rfl,AY.of p3,rfl,.bl z,"str",.type "bool",false,rfl,(fun _=>Bi.bl z),(fun _=>lG),_,rfl,BM ?_⟩;refine⟨_,rfl,p,_,1,.bl z,rfl,rfl,AY.of p3,rfl,.bl z,"bool",.type "bool",true,rfl,(fun _=>Bi.bl z),(fun _=>Hk _),_,rfl,Bf ?_⟩;refine⟨_,rfl,p,_,0,.bl z,rfl,rfl,AY.of p3,rfl,.bl z,"bool",.type "bool",true,rfl,(fun _=>Bi.bl z),(fun _=>Hk _),_,rfl,BM ⟨_,rfl,p,_,0,.bl z,rfl,rfl,AY.of p3,rfl,_,rfl,p,_,1,.bl z,rfl,rfl,AY.of p3,rfl,rfl,_,rfl,D5 rfl fin⟩⟩
  |int z=>cases rx;cases ry;refine⟨.int z,tq,["list","tuple"],.type "int",false,rfl,q3,(fun _=>Bi.int z),(fun _=>RN _ (.inr (.inl rfl))),_,rfl,BM ?_⟩;refine⟨_,rfl,p,_,1,.int z,rfl,rfl,AY.of p3,rfl,.int z,"str",.type "int",false,rfl,(fun _=>Bi.int z),(fun _=>ju),_,rfl,BM ?_⟩;refine⟨_,rfl,p,_,1,.int z,rfl,rfl,AY.of p3,rfl,.int z,"bool",.type "int",false,rfl,(fun _=>Bi.int z),(fun _=>Yb),_,rfl,BM ?_⟩;exact⟨_,rfl,p,_,0,.int z,rfl,rfl,AY.of p3,rfl,z,rfl,_,rfl,BM ⟨_,rfl,p,_,0,.int z,rfl,rfl,AY.of p3,rfl,_,rfl,p,_,1,.int z,rfl,rfl,AY.of p3,rfl,rfl,_,rfl,D5 rfl fin⟩⟩
theorem Ux{α:Type}[DecidableEq α]:∀{l m:List α},l.Nodup->(∀x∈l,x∈m)->l.length<=m.length
 |[],_,_,_=>CF _
 |a::t,m,hn,hs=>by
  obtain⟨h1,h2⟩:=IG.mp hn;have ha:=hs a Ed;have:=Ux (l:=t) (m:=m.erase a) h2 fun x hx=>(List.mem_erase_of_ne (fun z=>h1 (by rw[<-z];exact hx))).mpr (hs x (DU _ hx));rw[List.length_erase_of_mem ha] at this;have hp:0<m.length:=Tv ha;rw[CV]
  lia
def Er(n:Nk)(xs:List A8):Nk:=xs.foldl Ge n
theorem aY(n:Nk)(xs:List A8)(x:A8):Er n (xs++[x])=Ge (Er n xs) x:=by unfold Er;rw[List.foldl_append];rfl
theorem RI:∀(xs:List A8)(n:Nk),Bd n->(∀x∈xs,x.Good)->Bd (Er n xs)/\vw (Er n xs)=D4 (vw n) xs
 |[],n,h,_=>⟨h,rfl⟩
 |x::xs,n,h,g=>by obtain⟨p1,p2⟩:=iJ h (g x Ed);obtain⟨q1,q2⟩:=RI xs (Ge n x) p1 fun y hy=>g y (DU _ hy);refine⟨q1,?_⟩;show vw (Er (Ge n x) xs)=D4 ((HH (vw n) x).next (vw n)) xs;rw[q2,p2]
theorem Zk:Bd F2:=⟨⟨Nm,Nm,Nm,fun p hp=>(by cases hp),fun p hp=>(by cases hp),fun p hp=>(by cases hp),fun p hp=>(by cases hp)⟩,Int.le_refl _,fun p hp=>(by cases hp),fun p hp=>(by cases hp)⟩
theorem ku(b:Bm n){p:Int×List Wd}(hp:p∈n.texts):∃nm,(nm,Aj n p.1)∈vw n/\(Aj n p.1).length=p.2.length:=by obtain⟨nm,h⟩:=b.own p hp;refine⟨nm,BY.mpr ⟨_,h,rfl⟩,?_⟩;unfold Aj;rw[IL b.Cb (show(p.1,p.2)∈n.texts from hp)];show(p.2.map _).length=_;rw[AL]
def O3(ws:List PR):Nat:=wsum ws
theorem fits_of(h:Bd n)(s:Sz k (vw n))(hk:k<=64):Fits n/\n.names.length<=k/\n.texts.length<=k:=by
 have hl:n.names.length<=k:=by have:=s.len;unfold vw at this;rw[AL] at this;exact this
 have ht:n.texts.length<=n.names.length:=by
  have:=Ux (l:=n.texts.map (·.1)) (m:=n.names.map (·.2)) h.b.Cb fun x hx=>by obtain⟨p,hp,rfl⟩:=BY.mp hx;obtain⟨nm,hn⟩:=h.b.own p hp;exact BY.mpr ⟨_,hn,rfl⟩
  rw[AL,AL] at this;exact this
 refine⟨⟨h.b.CQ,h.b.Cb,by lia,by lia,fun p hp=>?_⟩,hl,by lia⟩;obtain⟨nm,h1,h2⟩:=ku h.b hp;have h3:=Ki h1;have h4:=Kb (Aj n p.1);have h5:=s.BE;have h6:O3 (Aj n p.1)<=L2.BE (vw n):=h3;have h7:50000*k<=50000*64:=QA _ hk;unfold O3 at h6
 lia
theorem ao(h:Bd n)(s:Sz k (vw n))(hk:k<=63){a o:Str}(g:(A8.join a o).Good)(br:BR n (.join a o)=""):(Bz n (Ay n a)++Bz n (Ay n o)).length<=100000:=by
 have s':=s.next g;have be:=Xp n (.join a o);rw[br] at be;have be':Cq "" (E9 (vw n) a o):=be;have s2:Sz (k+1) ((E9 (vw n) a o).next (vw n)):=s';unfold E9 at be' s2;rw[En n a,En n o] at be' s2
 cases e:AF n.names a with
 |none=>rw[e] at be';exact absurd be'.1.symm be'.2
 |some no=>
  cases e2:AF n.names o with
  |none=>rw[e,e2] at be';exact absurd be'.1.symm be'.2
  |some no2=>
   rw[e,e2] at be' s2;have be2:Cq "" (if a=o then .no "same page" else .ok (.int (L2.cnt (L2.joined (vw n) a o (Aj n no) (Aj n no2)) a)) (L2.joined (vw n) a o (Aj n no) (Aj n no2))):=be';have s3:Sz (k+1) (Rs.next (vw n) (if a=o then .no "same page" else .ok (.int (L2.cnt (L2.joined (vw n) a o (Aj n no) (Aj n no2)) a)) (L2.joined (vw n) a o (Aj n no) (Aj n no2)))):=s2;by_cases e3:a=o
   ·rw[AH e3] at be2;exact absurd be2.1.symm be2.2
   ·rw[AG e3] at s3;have s4:Sz (k+1) (L2.joined (vw n) a o (Aj n no) (Aj n no2)):=s3;have ga:AF (L2.joined (vw n) a o (Aj n no) (Aj n no2)) a=some (Cs (Aj n no++Aj n no2) o a):=by unfold L2.joined;rw[SD,Cn,AH rfl];rfl
    have h3:=Ki (BU ga);have h4:=Kb (Cs (Aj n no++Aj n no2) o a);rw[VX,BC] at h4;have h5:=s4.BE;have h6:O3 (Cs (Aj n no++Aj n no2) o a)<=L2.BE (L2.joined (vw n) a o (Aj n no) (Aj n no2)):=h3;unfold O3 at h6;have l1:(Bz n (Ay n a)).length=(Aj n no).length:=by unfold Bz Ay Aj;rw[e,AL];rfl
    have l2:(Bz n (Ay n o)).length=(Aj n no2).length:=by unfold Bz Ay Aj;rw[e2,AL];rfl
    have h7:50000*(k+1)<=50000*64:=QA _ (by lia);rw[BC,l1,l2]
    lia
def Vw:Sp:=fun vs H Q _=>∃(v:V)(xs:List A8),vs=[v]/\Rep H (.lst (xs.map A8.dt)) v/\(∀x∈xs,x.Good)/\xs.length<=63/\∀a H',CZ H H' a (Er F2 xs)->Q (.ref a) H'
noncomputable def A8.word:A8->Str
 |.write _ _=>"write" |.rename _ _=>"rename" |.join _ _=>"join" |.cut _ _ _=>"cut" |.drop _=>"drop" |.text _=>"text" |.back _=>"back" |.find _ _=>"find"
theorem bu(x:A8):(Fx (.str x.word) [.str "text",.str "back",.str "find"])=x.asks:=by
 cases x with
 |write a b=>exact(by ac_rfl:Fx (.str "write") [.str "text",.str "back",.str "find"]=false)
 |rename a b=>exact(by ac_rfl:Fx (.str "rename") [.str "text",.str "back",.str "find"]=false)
 |join a b=>exact(by ac_rfl:Fx (.str "join") [.str "text",.str "back",.str "find"]=false)
 |cut a p b=>exact(by ac_rfl:Fx (.str "cut") [.str "text",.str "back",.str "find"]=false)
 |drop a=>exact(by ac_rfl:Fx (.str "drop") [.str "text",.str "back",.str "find"]=false)
 |text a=>exact(by ac_rfl:Fx (.str "text") [.str "text",.str "back",.str "find"]=true)
 |back a=>exact(by ac_rfl:Fx (.str "back") [.str "text",.str "back",.str "find"]=true)
 |find a b=>exact(by ac_rfl:Fx (.str "find") [.str "text",.str "back",.str "find"]=true)
theorem iA{x:A8}(r:Rep H x.dt v):∃d xs,v=.ref d/\H d=some (.tup (.str x.word::xs)):=by
 cases x with
 |write a b=>obtain⟨d,xs,rfl,hd,rs⟩:=CC r;obtain⟨u,v,x,rfl,r1,_⟩:=EU rs;cases Ba r1;exact⟨d,_,rfl,hd⟩
 |rename a b=>obtain⟨d,xs,rfl,hd,rs⟩:=CC r;obtain⟨u,v,x,rfl,r1,_⟩:=EU rs;cases Ba r1;exact⟨d,_,rfl,hd⟩
 |join a b=>obtain⟨d,xs,rfl,hd,rs⟩:=CC r;obtain⟨u,v,x,rfl,r1,_⟩:=EU rs;cases Ba r1;exact⟨d,_,rfl,hd⟩
 |cut a p b=>obtain⟨d,xs,rfl,hd,rs⟩:=CC r;obtain⟨u,v,x,y,rfl,r1,_⟩:=O0 rs;cases Ba r1;exact⟨d,_,rfl,hd⟩
 |drop a=>obtain⟨d,xs,rfl,hd,rs⟩:=CC r;obtain⟨u,v,rfl,r1,_⟩:=HN rs;cases Ba r1;exact⟨d,_,rfl,hd⟩
 |text a=>obtain⟨d,xs,rfl,hd,rs⟩:=CC r;obtain⟨u,v,rfl,r1,_⟩:=HN rs;cases Ba r1;exact⟨d,_,rfl,hd⟩
 |back a=>obtain⟨d,xs,rfl,hd,rs⟩:=CC r;obtain⟨u,v,rfl,r1,_⟩:=HN rs;cases Ba r1;exact⟨d,_,rfl,hd⟩
 |find ws far=>obtain⟨d,xs,rfl,hd,rs⟩:=CC r;obtain⟨u,v,x,rfl,r1,_⟩:=EU rs;cases Ba r1;exact⟨d,_,rfl,hd⟩
theorem RM:A0 ["_law_asked","_law_nook","_law_deed"] ["_law_asked"] (Ao OY):=by ac_rfl
theorem bL{fBe fBa fCh:Addr}{fdBe fdBa fdCh:FuncData}(F:Ab K "_law_played" "_law_played" OY f fd)
 (FBe:Ab K "_law_begun" "_law_begun" Ou fBe fdBe)(bBe:Binds K fdBe [] [])(mBe:mg "_law_begun" =some (.ref fBe))
 (FBa:Ab K "_law_barred" "_law_barred" Og fBa fdBa)(GBa:AU P w K mg base Aa 2 fBa fdBa ["_law_nook","_law_deed"] Vx)(bBa:Binds K fdBa ["_law_nook","_law_deed"] [])(mBa:mg "_law_barred" =some (.ref fBa))
 (FCh:Ab K "_law_changed" "_law_changed" OJ fCh fdCh)(GCh:AU P w K mg base Aa 3 fCh fdCh ["_law_nook","_law_deed"] VG)(bCh:Binds K fdCh ["_law_nook","_law_deed"] [])(mCh:mg "_law_changed" =some (.ref fCh)):AU P w K mg base Aa 4 f fd ["_law_asked"] Vw:=by
 have GBe:AU P w K mg base Aa 1 fBe fdBe [] Wo:=dR FBe;refine F.ok RM (fun vs H Q E h=>?_) (fun cdv A outer s H vs Q E hr h=>?_)
 ·obtain⟨v,xs,rfl,_⟩:=h;rfl
 ·obtain⟨v,xs,rfl,rv,good,hl,q⟩:=h;refine⟨_,(AW (Ax (i:=1) RM.nd rfl (Ad rfl) (Vb GBe (hr.mono (by lia)) rfl mBe FBe.kp bBe .nil BB)) (AW (Dx Dr rfl (Gg (pv 0)) (Bl (i:=2) RM.nd rfl (Ad rfl))
   (AV (A1 (PW.pt (Eo (Av Z2 (Ag BS (pv 2) AK (fun _ _=>rfl)) (CY (AE AX (AE AX (AE AX AI)))) rfl) (GL (Av BV (BJ GBa (hr.mono (by lia)) rfl mBa FBa.kp bBa .nil BB (AE (pv 1) (AE (pv 2) AI))) AX (As _)))))
   (AV (Bn (BJ GCh hr rfl mCh FCh.kp bCh .nil BB (AE (pv 1) (AE (pv 2) AI)))))
   BF))) (AV (An (pv 1))))),?_⟩;obtain⟨l,ys,rfl,hll,rr⟩:=Eg rv;refine⟨rfl,fun a H1 nk0=>?_⟩;have sOf:∀{n:Nk}{H':Hp},CZ H H' a n->AS H H':=fun h=>let⟨_,_,_,nk⟩:=h;nk.same;refine⟨_,rfl,l,rfl,⟨_,AN.of (sOf nk0 _ _ hll)⟩,JK (K:=[]) (a:=l) (xs:=ys) (fun i σ H'=>∃v2:Option V,σ=[some (.ref l),some (.ref a),v2]/\CZ H H' a (Er F2 (xs.take i)))
   ⟨none,rfl,nk0⟩ (fun i σ H' _ ⟨_,_,h⟩=>AN.of (sOf h _ _ hll)) ?_ ?_⟩
  ·rintro i y σ H' ey ⟨v2,rfl,nk⟩;obtain⟨x,ex,rx⟩:=IT rr ey;have hi:i<xs.length:=(BW.mp ex).1;have gi:∀z∈xs.take i,z.Good:=fun z hz=>good z (HY hz);obtain⟨bd,ev⟩:=RI (xs.take i) F2 Zk gi;have sz:=Oq (xs.take i) 0 [] Rt gi;have ev':vw (Er F2 (xs.take i))=D4 [] (xs.take i):=ev;rw[<-ev'] at sz;have hk:0+(xs.take i).length<=63:=by rw[Bg];lia
   obtain⟨fit,nl,tl⟩:=fits_of bd sz (by lia);have etk:Er F2 (xs.take (i+1))=Ge (Er F2 (xs.take i)) x:=by rw[Dm,ex];exact aY ..
   have gx:=good x (CL ex);generalize Er F2 (xs.take i)=n at nk bd sz fit nl tl etk;obtain⟨d,ds,rfl,hd⟩:=iA rx;have hd':=sOf nk _ _ hd;refine⟨_,rfl,d,_,_,.str x.word,rfl,rfl,AY.of hd',Bv (j:=0) rfl,by show 3<=sizeLine;decide,fun lq hlq=>?_⟩;have s2:=Ak (o:=.lst [V.str "text",V.str "back",V.str "find"]) hlq;have nk2:=nk.ext s2;refine⟨lq,_,rfl,.inl (AN.of AR),rfl,rfl,_,rfl,?_⟩;have aw:=bu x;show if(!Fx (.str x.word) [.str "text",.str "back",.str "find"])=true then _ else _;rw[aw]
   cases ha:x.asks with
   |true=>refine BM (BM ?_);refine⟨_,rfl,?_⟩;rw[etk];unfold Ge;rw[AH ha];exact nk2
   |false=>
    generalize upd H' lq (.lst [V.str "text",V.str "back",V.str "find"])=H2 at nk2;refine Bf ⟨_,rfl,_,rfl,a,.ref d,x,H,n,rfl,nk2,fit,rx.same (sOf nk2),gx,fun nm no h=>bd.b.tx _ (BU h),fun H3 s3=>⟨rfl,_,rfl,?_⟩⟩;have nk3:=nk2.ext s3;by_cases hb:BR n x=""
    ·refine B1 (by rw[hb]) ⟨_,rfl,_,rfl,a,.ref d,x,H,n,rfl,nk3,fit,bd,by lia,by lia,rx,gx,ha,hb,fun a' o' e=>?_,fun H4 nk4=>⟨_,rfl,?_⟩⟩
     ·subst e;exact ao bd sz hk gx hb
     ·rw[etk];unfold Ge;rw[AG (by rw[ha];exact CS),AH hb];exact nk4
    ·refine CN (fun z=>hb (V.str.inj z)) ?_;refine⟨_,rfl,?_⟩;rw[etk];unfold Ge;rw[AG (by rw[ha];exact CS),AG hb];exact nk3
  ·rintro σ H' ⟨v2,rfl,nk⟩;have e6:ys.length=xs.length:=by have:=rr.1;rw[AL] at this;exact this.symm
   rw[e6,Cv] at nk;exact⟨_,rfl,q a H' nk⟩
def SV(K:PySem.W.Frag):Sp:=fun vs H Q _=>∃(a:Addr)(ns:List Int),vs=[.ref a]/\AN K H a (ns.map V.int)/\ns.length<=63/\∀H',Q (.bl true) H'
def Yx(K:PySem.W.Frag):Sp:=fun vs H Q _=>∃(a:Addr)(ns:List Int)(m b:Int),vs=[.ref a,.int m,.int b]/\AN K H a (ns.map V.int)/\ns.length<=63/\Q (.int m) H
theorem eY(ns:List Int)(hi:Option Int)(h:ns.length<=63):∃ms:List Int,EA (ns.map V.int) (some 1) hi=ms.map V.int/\ms.length<=62:=by
 unfold EA;refine⟨(ns.drop (A9 (ns.map V.int).length 0 (some 1))).take (A9 (ns.map V.int).length (ns.map V.int).length hi-A9 (ns.map V.int).length 0 (some 1)),by rw[Nu,Nv],?_⟩;rw[Bg,Dq,show A9 (ns.map V.int).length 0 (some 1)=min 1 (ns.map V.int).length from gW _ _ 1,AL]
 lia
theorem Zx(hK:X.K=K):C6 X (.type "list") (fun xs H Q=>∃p ys,xs=[.ref p]/\(AN K H p ys\/AY K H p ys)/\∀l,H l=none->Q (.ref l) (upd H l (.lst ys))):=by subst hK;exact Z4
theorem Xa:∀l:List Tx,Dt.CD (l.map FJ)=3*l.length
 |[]=>rfl
 |t::l=>by
  rw[Au,CV];have:=Xa l;show(FJ t).sz+Dt.CD (l.map FJ)=_;rw[this];have:(FJ t).sz=3:=rfl
  lia
theorem W5:∀l:List Str,Dt.CD (l.map Dt.str)=l.length
 |[]=>rfl
 |t::l=>by
  rw[Au,CV];have:=W5 l;show 1+Dt.CD (l.map Dt.str)=_
  lia
theorem VO:∀l:List A8,(∀d∈l,d.Good)->Dt.CD (l.map A8.dt)<=20*l.length
 |[],_=>Ac _
 |d::l,g=>by
  rw[Au,CV];have:=VO l fun x hx=>g x (DU _ hx);show d.dt.sz+Dt.CD (l.map A8.dt)<=_;have h:d.dt.sz<=20:=by
   have gd:=g d Ed
   cases d with
   |find ws far=>
    have hw:ws.length<=9:=gd.1;show 1+(1+((1+Dt.CD (ws.map Dt.str))+(1+0)))<=20;rw[W5]
    lia
   |write a b=>exact(by decide:1+(1+(1+(1+0)))<=20)
   |rename a b=>exact(by decide:1+(1+(1+(1+0)))<=20)
   |join a b=>exact(by decide:1+(1+(1+(1+0)))<=20)
   |cut a p b=>exact(by decide:1+(1+(1+(1+(1+0))))<=20)
   |drop a=>exact(by decide:1+(1+(1+0))<=20)
   |text a=>exact(by decide:1+(1+(1+0))<=20)
   |back a=>exact(by decide:1+(1+(1+0))<=20)
  lia
def Yy(K:PySem.W.Frag):Sp:=fun vs H Q _=>∃(a:Addr)(ns:List Int)(k:Nat),vs=[.ref a,.int k]/\AN K H a (ns.map V.int)/\Q (.int (ns.getD k 0)) H
theorem lV:A0 ["_law_script","_law_most","_law_bound"] ["_law_script","_law_most","_law_bound"] (Ao O2):=by ac_rfl
theorem kX(F:Ab K "_law_room" "_law_room" O2 f fd)(O:Own mg):AU P w K mg base Aa 1 f fd ["_law_script","_law_most","_law_bound"] (Yx K):=by
 refine F.ok lV (fun vs H Q E h=>?_) (fun cdv A outer s H vs Q E hr h=>?_)
 ·obtain⟨a,ns,m,b,rfl,_⟩:=h;rfl
 ·obtain⟨a,ns,m,b,rfl,hS,hl,q⟩:=h;refine⟨_,AW (A1 (Av SU (Bc Hh rfl O.len Dg (AE (pv 0) AI)) AK (As _)) (AV (An (pv 2))) BF) (AV (An (pv 1))),?_⟩;refine⟨_,rfl,a,_,rfl,.inl hS,_,_,rfl,rfl,_,rfl,CN (by rw[AL];lia) ⟨_,rfl,q⟩⟩
theorem mF:A0 ["_law_script","_law_k"] ["_law_script","_law_k"] (Ao Pp):=by ac_rfl
theorem kz(F:Ab K "_law_at" "_law_at" Pp f fd)(O:Own mg):AU P w K mg base Aa 1 f fd ["_law_script","_law_k"] (Yy K):=by
 refine F.ok mF (fun vs H Q E h=>?_) (fun cdv A outer s H vs Q E hr h=>?_)
 ·obtain⟨a,ns,k,rfl,_⟩:=h;rfl
 ·obtain⟨a,ns,k,rfl,hS,q⟩:=h;refine⟨_,AW (A1 (Av IZ (pv 1) (Bc Hh rfl O.len Dg (AE (pv 0) AI)) (As _)) (AV (An (Ag Wy (pv 0) (pv 1) (fun _ _=>rfl)))) BF) (AV (An AK)),?_⟩;refine⟨_,rfl,_,rfl,a,_,rfl,.inl hS,_,_,rfl,rfl,_,rfl,?_⟩;by_cases h:(k:Int)<((ns.map V.int).length:Nat)
  ·refine B1 h ?_;rw[AL] at h;have hk:k<ns.length:=by lia
   refine⟨_,rfl,_,rfl,a,_,_,.int (ns.getD k 0),rfl,rfl,hS,Bv ?_,q⟩;rw[Az,Ar hk,Cj,Ar hk];rfl
  ·refine CN h ?_;rw[AL] at h;have hk:ns.length<=k:=by lia
   rw[Cj,EL hk] at q;exact q
noncomputable def NI:Str:="abcdefghijklmnopqrstuvwxyz"
theorem XF:NI.cps.toList.length=26:=by ac_rfl
theorem JZ:A0 ["_law_script","_law_letters","_law_seed","_law_name","_law_asked","_law_handed","_law_found"] ["_law_script"] (Ao K3):=by ac_rfl
theorem jQ{fAt fDe fRo fTe fPy fAl fTx:Addr}{fdAt fdDe fdRo fdTe fdPy fdAl fdTx:FuncData}(F:Ab K "law" "law" K3 f fd)(O:Own mg)
 (FAt:Ab K "_law_at" "_law_at" Pp fAt fdAt)(bAt:Binds K fdAt ["_law_script","_law_k"] [])(mAt:mg "_law_at" =some (.ref fAt))
 (FDe:Ab K "_law_deeds" "_law_deeds" Oj fDe fdDe)(GDe:AU P w K mg base Aa 3 fDe fdDe ["_law_cells"] WM)(bDe:Binds K fdDe ["_law_cells"] [])(mDe:mg "_law_deeds" =some (.ref fDe))
 (FRo:Ab K "_law_room" "_law_room" O2 fRo fdRo)(bRo:Binds K fdRo ["_law_script","_law_most","_law_bound"] [])(mRo:mg "_law_room" =some (.ref fRo))
 (FTe:Ab K "texts" "texts" OX fTe fdTe)(GTe:AU P w K mg base Aa 10 fTe fdTe ["deeds"] WE)(bTe:Binds K fdTe ["deeds"] [])(mTe:mg "texts" =some (.ref fTe))
 (FPy:Ab K "_law_played" "_law_played" OY fPy fdPy)(GPy:AU P w K mg base Aa 4 fPy fdPy ["_law_asked"] Vw)(bPy:Binds K fdPy ["_law_asked"] [])(mPy:mg "_law_played" =some (.ref fPy))
 (FAl:Ab K "_law_alike" "_law_alike" TC fAl fdAl)(GAl:AU P w K mg base Aa 2 fAl fdAl ["_law_found","_law_due"] Yu)(bAl:Binds K fdAl ["_law_found","_law_due"] [])(mAl:mg "_law_alike" =some (.ref fAl))
 (FTx:Ab K "_law_texts" "_law_texts" Om fTx fdTx)(GTx:AU P w K mg base Aa 4 fTx fdTx ["_law_nook"] WC)(bTx:Binds K fdTx ["_law_nook"] [])(mTx:mg "_law_texts" =some (.ref fTx)):
 AU P w K mg base Aa 11 f fd ["_law_script"] (SV K):=by
 have GRo:AU P w K mg base Aa 1 fRo fdRo ["_law_script","_law_most","_law_bound"] (Yx K):=kX FRo O;have GAt:AU P w K mg base Aa 1 fAt fdAt ["_law_script","_law_k"] (Yy K):=kz FAt O;refine F.ok JZ (fun vs H Q E h=>?_) (fun cdv A outer s H vs Q E hr h=>?_)
 ·obtain⟨a,ns,rfl,_⟩:=h;rfl
 ·obtain⟨a,ns,rfl,hS,hlen,k⟩:=h;refine⟨_,AW (Ax (i:=1) JZ.nd rfl (Ad rfl) AX)
   (AW (Ax (i:=2) JZ.nd rfl (Ad rfl) (BJ GAt (hr.mono (by lia)) rfl mAt FAt.kp bAt .nil BB (AE (pv 0) (AE AK AI))))
   (AW (Ax (i:=3) JZ.nd rfl (Ad rfl) (Al E5 (Ag Kt (pv 1) (Al Bw (pv 2) AK) (fun _ _=>rfl)) (Ag Kt (pv 1) (Al Bw (BJ GAt (hr.mono (by lia)) rfl mAt FAt.kp bAt .nil BB (AE (pv 0) (AE AK AI))) AK) (fun _ _=>rfl))))
   (AW (Ax (i:=4) JZ.nd rfl (Ad rfl) (BJ GDe (hr.mono (by lia)) rfl mDe FDe.kp bDe .nil BB (AE (Fl OW (pv 0) (DV AK) (DV (Al DJ AK (BJ GRo (hr.mono (by lia)) rfl mRo FRo.kp bRo .nil BB (AE (pv 0) (AE AK (AE AK AI))))))) AI)))
   (AW (Bn (Ht EJ FZ FY Ef (pv 4) (AE (Cd (AE AX (AE (pv 3) (AE (Al E5 (Al E5 AX (pv 3)) AX) AI)))) AI)))
   (AW (Ax (i:=5) JZ.nd rfl (Ad rfl) (E6 (Zx (K:=K) rfl) rfl O.lst HD (AE (pv 4) AI)))
   (AW (Ax (i:=6) JZ.nd rfl (Ad rfl) (BJ GTe (hr.mono (by lia)) rfl mTe FTe.kp bTe .nil BB (AE (pv 5) AI)))
   (AV (An (MW (BJ GAl (hr.mono (by lia)) rfl mAl FAl.kp bAl .nil BB (AE (pv 5) (AE (pv 4) AI))) (MU (BJ GAl (hr.mono (by lia)) rfl mAl FAl.kp bAl .nil BB (AE (pv 6) (AE (BJ GTx (hr.mono (by lia)) rfl mTx FTx.kp bTx .nil BB (AE (BJ GPy (hr.mono (by lia)) rfl mPy FPy.kp bPy .nil BB (AE (pv 4) AI)) AI)) AI))))))))))))),?_⟩;refine⟨_,rfl,a,ns,0,rfl,hS,?_⟩;obtain⟨c1,_,e1⟩:=Ei NI.cps.toList 26 XF (by decide) (ns.getD 0 0);obtain⟨c2,_,e2⟩:=Ei NI.cps.toList 26 XF (by decide) (ns.getD 1 0);refine⟨_,rfl,_,rfl,_,_,rfl,rfl,(by show(0:Int)<26;decide),NI,_,c1,rfl,rfl,by ac_rfl,e1,?_⟩;refine⟨_,rfl,_,rfl,a,ns,1,rfl,hS,_,_,rfl,rfl,(by show(0:Int)<26;decide),NI,_,c2,rfl,rfl,by ac_rfl,e2,_,_,rfl,rfl,by show 1+1<=sizeLine;decide,?_⟩;have hn2:((⟨#[c1]⟩:Str)++(⟨#[c2]⟩:Str)).length=2:=by rw[E8];rfl
  generalize((⟨#[c1]⟩:Str)++(⟨#[c2]⟩:Str))=nm at hn2;obtain⟨ms,em,hml⟩:=eY ns (some (1+48)) hlen;refine⟨_,rfl,_,rfl,_,rfl,a,ns,48,150,rfl,hS,hlen,_,_,rfl,rfl,_,rfl,a,_,rfl,hS,fun p hp=>?_⟩;refine⟨p,ms,rfl,AN.of (by rw[AR];exact BZ (fun z=>some (HO.lst z)) em),by lia,fun L ds0 xs0 H1 s1 hLn hL0 rs0 hdl good0=>?_⟩;have l1:("[" :Str).length=1:=by ac_rfl
  have l2:("] oak-_" :Str).length=7:=by ac_rfl
  refine⟨_,rfl,.inl ⟨rfl,_,AN.of hL0⟩,_,rfl,_,rfl,_,_,rfl,rfl,by rw[l1,hn2,BA];lia,_,_,rfl,rfl,by rw[E8,l1,hn2,l2,BA];lia,by show 3<=sizeLine;decide,fun tp htp=>?_⟩;have dl:xs0.length<=62:=by have:=rs0.1;rw[AL] at this;lia
  have st:=Ak (o:=.tup [.str "write",.str nm,.str ("[" ++nm++ "] oak-_")]) htp;have ntL:tp≠L:=(A2 hL0 htp).symm;have hL1:=st _ _ hL0;refine⟨L,xs0,_,rfl,rfl,hL1,by rw[BA];lia,?_⟩;have sE:AS (Ex H1 L) (upd (upd H1 tp (.tup [.str "write",.str nm,.str ("[" ++nm++ "] oak-_")])) L (.lst (xs0++[.ref tp]))):=XH st;have hL:(upd (upd H1 tp (.tup [.str "write",.str nm,.str ("[" ++nm++ "] oak-_")])) L (.lst (xs0++[.ref tp]))) L=some (.lst (xs0++[.ref tp])):=AR;have ht2:(upd (upd H1 tp (.tup [.str "write",.str nm,.str ("[" ++nm++ "] oak-_")])) L (.lst (xs0++[.ref tp]))) tp=some (.tup [.str "write",.str nm,.str ("[" ++nm++ "] oak-_")]):=by rw[AO ntL,AR]
  generalize upd (upd H1 tp (.tup [.str "write",.str nm,.str ("[" ++nm++ "] oak-_")])) L (.lst (xs0++[.ref tp]))=H2 at sE hL ht2;have rsL:Am H2 ((ds0++[A8.write nm ("[" ++nm++ "] oak-_")]).map A8.dt) (xs0++[.ref tp]):=by rw[BX];exact(rs0.same sE).snoc (Rep.LR ht2 (Am.snoc (Am.snoc (Am.snoc Am.nil (.str _)) (.str _)) (.str _)))
  have good:∀d∈ds0++[A8.write nm ("[" ++nm++ "] oak-_")],d.Good:=fun d hd=>by
   rcases CB.mp hd with e|e
   ·exact good0 d e
   ·rw[CA.mp e];exact⟨by rw[hn2];decide,by rw[E8,E8,l1,hn2,l2];decide⟩
  have hlen2:(ds0++[A8.write nm ("[" ++nm++ "] oak-_")]).length<=63:=by rw[BC,EK];lia
  generalize ds0++[A8.write nm ("[" ++nm++ "] oak-_")]=ds at rsL good hlen2;generalize xs0++[V.ref tp]=xs at hL rsL;refine⟨_,rfl,L,xs,rfl,.inl (AN.of hL),fun l hl=>?_⟩;have s2:AS H2 (upd H2 l (.lst xs)):=Ak hl;have rL:Rep (upd H2 l (.lst xs)) (.lst (ds.map A8.dt)) (.ref L):=.lst (s2 _ _ hL) (rsL.same s2).1 (rsL.same s2).2;have rl:Rep (upd H2 l (.lst xs)) (.lst (ds.map A8.dt)) (.ref l):=.lst AR (rsL.same s2).1 (rsL.same s2).2;generalize upd H2 l (.lst xs)=H3 at rL rl;refine⟨_,rfl,_,ds,rfl,rl,good,by lia,eT good hlen2,fun H4 u s4 ru=>?_⟩;obtain⟨bd,ev⟩:=RI ds F2 Zk good;have ev':vw (Er F2 ds)=D4 [] ds:=ev;have sz:=Oq ds 0 [] Rt good;have szv:=sz;rw[<-ev'] at szv;obtain⟨fit,nl,tl⟩:=fits_of bd szv (by lia);refine⟨_,rfl,_,rfl,_,_,_,rfl,rl.same s4,rL.same s4,?_,fun H5 s5=>?_⟩
  ·have:=VO ds good;show 1+Dt.CD (ds.map A8.dt)<=1000000
   lia
  have hst:=sz.BE;refine⟨_,rfl,Bf ⟨_,rfl,_,rfl,_,ds,rfl,rL.same (s4.trans s5),good,hlen2,fun an H6 nk=>?_⟩⟩;have s6:AS H5 H6:=let⟨_,_,_,nk⟩:=nk;nk.same;refine⟨an,H5,Er F2 ds,rfl,nk,fit,bd,by lia,by rw[ev'];lia,fun u2 H7 s7 ru2=>?_⟩;rw[ev'] at ru2;refine⟨_,_,_,rfl,ru.same (s5.trans (s6.trans s7)),ru2,?_,fun H8 s8=>k H8⟩;have h1:=sz.len;show 1+Dt.CD ((K1 (D4 [] ds)).map FJ)<=1000000;rw[Xa];unfold K1 keys;rw[AL,(Qy Hn _).length_eq,AL]
  lia
section
variable{N R:Addr}{nm q:Str}{bs:List Value}{hd ab:Bool}{sn:List Str}{sub:List Value}{col:Option Bool}{k0 k1 k2 k3 k5:Option Value}
theorem Mm:Hs [.type "Exception",.type "BaseException",.type "object"]:=⟨by ac_rfl,by ac_rfl,by ac_rfl,by ac_rfl⟩
theorem kK:Hs [.ref R,.type "Exception",.type "BaseException",.type "object"]:=⟨HI Mm.exc rfl,HI Mm.base rfl,HI Mm.Iq rfl,HI Mm.ZW rfl⟩
theorem jj(x:K.lookup R=some (excClassObj nm q R N bs bm hd sn sub ab col dd k0 k1 k2 k3 k5 "Exception.__new__"))(y:bm=[.type "Exception",.type "BaseException",.type "object"]):S4 K R:=
 ⟨bm,N,fun _ X=>⟨_,_,_,_,_,_,_,_,_,_,_,_,_,_,X _ _ x⟩,by rw[y];exact Mm⟩
theorem WV(x:K.lookup C=some (excClassObj nm q C N bs bm hd sn sub ab col dd k0 k1 k2 k3 k5 "Exception.__new__"))(y:bm=[.ref R,.type "Exception",.type "BaseException",.type "object"])
 (e1:hasDictIn K C=true)(e2:findIn K (.ref C) "answer" =some none)(e3:findIn K (.ref C) "__setattr__" =some (some (.builtin "object.__setattr__")))(e4:findIn K (.ref C) "__getattribute__" =some (some (.builtin "BaseException.__getattribute__")))(e5:findIn K (.ref C) "__getattr__" =some none):DK K C "answer" :=by
 refine⟨e1,e2,e3,e4,e5,?_⟩;unfold clsIn;rw[x];subst y;refine⟨_,[.ref C,.ref R],rfl,rfl,fun c hc=>?_⟩;rcases Bk.mp hc with e|e
 ·exact⟨_,e⟩
 ·exact⟨_,CA.mp e⟩
theorem ko(m:mg x=some (.ref C))(xl:K.lookup C=some (excClassObj nm q C N bs bm hd sn sub ab col dd k0 k1 k2 k3 k5 "Exception.__new__"))(y:bm=[.ref R,.type "Exception",.type "BaseException",.type "object"])
 (ei:findIn K (.ref C) "__init__" =some (some (.ref f)))(en:isFn K (.ref f)=true)(ek:keepIn K (.ref C)=true)(xa:DK K C "answer")
 (F:AU P w K mg base Aa 2 f fd ["self"] (FA C "answer" msg))(b:Binds K fd ["self"] []):Rz P w K mg base R x msg:=by
 subst y;exact⟨C,f,fd,_,m,⟨⟨N,fun _ X=>⟨_,_,_,_,_,_,_,_,_,_,_,_,_,_,X _ _ xl⟩⟩,ei,kK,en,ek⟩,F,b,⟨_,N,fun _ X=>⟨_,_,_,_,_,_,_,_,_,_,_,_,_,_,X _ _ xl⟩,by rw[QG,QG,IF,Bool.true_or,Bool.or_true]⟩,xa⟩
end
def Mw(K:PySem.W.Frag):List (Str×Stmt)->Prop
 |[]=>True
 |(x,st)::r=>(∃f fd,PySem.W.nsIn K mainGlobals x=some (some (.ref f))/\Ab K x x st f fd)/\Mw K r
def ZC(K:PySem.W.Frag)(mg:Str->Option Value):List (Str×Stmt)->Prop
 |[]=>True
 |(x,st)::r=>(∃f fd,mg x=some (.ref f)/\Ab K x x st f fd)/\ZC K mg r
def Sk(K:PySem.W.Frag)(C:Addr):List (Str×Str×Stmt)->Prop
 |[]=>True
 |(x,q,st)::r=>(∃f fd,Meth K C x f/\Ab K x q st f fd)/\Sk K C r
def Sg(K:PySem.W.Frag)(R:Addr):List (Str×Str×Stmt)->Prop
 |[]=>True
 |(x,q,st)::r=>(∃C f fd,PySem.W.nsIn K mainGlobals x=some (some (.ref C))/\DK K C "answer" /\Ab K "__init__" q st f fd/\
  ∀(P:Program)(w:World)(mg:Str->Option Value)(base:Heap)(msg:Str),mg x=some (.ref C)->AU P w K mg base Aa 2 f fd ["self"] (FA C "answer" msg)->Binds K fd ["self"] []->Rz P w K mg base R x msg)/\Sg K R r
def Pa(K:PySem.W.Frag):List Str->Prop
 |[]=>True
 |x::r=>PySem.W.nsIn K mainGlobals x=some none/\Pa K r
section
variable{st:Stmt}{R N:Addr}{oc kV doc pm cdv ct:Value}{an:Option Addr}
theorem Rj(X:K.In h)(G:h.Ns mainGlobals mg):∀{L:List (Str×Stmt)},Mw K L->ZC K mg L
 |[],_=>Cm
 |_::_,⟨⟨f,fd,a,F⟩,t⟩=>⟨⟨f,fd,IJ X G a,F⟩,Rj X G t⟩
theorem Wc(X:K.In h)(G:h.Ns mainGlobals mg):∀{L:List Str},Pa K L->∀x∈L,mg x=none
 |_::_,⟨a,_⟩,_,.head _=>mg_none_of X G a
 |_::_,⟨_,t⟩,_,.tail _ e=>Wc X G t _ e
local macro_rules| `(tactic|trivial)=> `(tactic|(
 intro _ _ _ _ _ _;first
  |exact all1 (fun _=>rfl)
  |exact all2 (fun _ _=>rfl)
  |exact lS (fun _ _ _=>rfl)
  |exact mE rfl
  |exact mX (fun _ _ _ _=>rfl)))
set_option maxRecDepth 10000 in
set_option maxHeartbeats 4000000 in
theorem all_mk{l:PySem.W.OpenLaw}{fa fRi NR:Addr}{nm qq:Str}{bs sub:List Value}{hd ab:Bool}{sn:List Str}{col:Option Bool}{k0 k1 k2 k3 k5:Option Value}(X:K.In h)(G:h.Ns mainGlobals mg)(hfa:mg "law" =some (.ref fa))
 (aR:PySem.W.nsIn K mainGlobals "Refusal" =some (some (.ref cR)))(xR:K.lookup cR=some (excClassObj nm qq cR NR bs bm hd sn sub ab col dd k0 k1 k2 k3 k5 "Exception.__new__"))(yR:bm=[.type "Exception",.type "BaseException",.type "object"])
 (rdR:readsIn K cR (.type "type")=true)(fiR:findCls K (.ref cR) (.type "type") "__init__" =some (.val (.ref fRi)))(spR:specialIn K (.ref cR) "__getattribute__" =some (some (.builtin "type.__getattribute__")))
 (lRi:K.lookup fRi=some ⟨oc,od,.func (fnOf "__init__" "Refusal.__init__" (JP JD) (Ft JD) (Ao JD) .none kV doc pm an cdv ct),osl⟩)(cRi:codeIn K cdv "Refusal.__init__" =true)(kRi:keepIn K (.ref fRi)=true)
 (E:Sg K cR (Tb.map fun z=>(z.1,z.2.1,z.2.2.1)))
 (aN:PySem.W.nsIn K mainGlobals "Nook" =some (some (.ref cN)))(pgN:plainGet K cN Str.empty=true)(hdN:hasDictIn K cN=true)(poN:plainOver K cN=true)(saN:findIn K (.ref cN) "__setattr__" =some (some (.builtin "object.__setattr__")))(mkN:makesIn K cN=true)(kcN:keepIn K (.ref cN)=true)(npN:findIn K (.ref cN) "pages" =some none)
 (M:Sk K cN TM)
 (T:Mw K TR)(T2:Mw K Sf)
 (Z:Pa K ["isinstance","list","tuple","str","int","bool","len","range","sum","sorted","set","enumerate","all","min"]):
 ∃fd:FuncData,(∀(s:Shared)(v:Value),BindsTo s fd ⟨[v],[]⟩ [("_law_script",v)])/\∀base:Heap,K.In base->base.Ns mainGlobals mg->AU l.prog w K mg base Aa 11 fa fd ["_law_script"] (SV K):=by
 have FRi:=iZ (st:=JD) lRi cRi kRi;obtain⟨⟨_,_,mL,FL⟩,⟨_,_,mPI,FPI⟩,⟨_,_,mSH,FSH⟩,⟨_,_,mCP,FCP⟩,⟨_,_,mPP,FPP⟩,⟨_,_,mPO,FPO⟩,⟨_,_,mPN,FPN⟩,⟨_,_,mIN,FIN⟩,⟨_,_,mRW,FRW⟩,⟨_,_,mSU,FSU⟩,⟨_,_,mTW,FTW⟩,⟨_,_,mTT,FTT⟩,⟨_,_,mPT,FPT⟩,⟨_,_,mDD,FDD⟩,⟨_,_,mAD,FAD⟩,⟨_,_,mAA,FAA⟩,⟨_,_,mNB,FNB⟩,⟨_,_,mTE,FTE⟩,⟨_,_,msRoom,FsRoom⟩,⟨_,_,msDraw,FsDraw⟩,⟨_,_,msWhole,FsWhole⟩,-⟩:=Rj X G T;obtain⟨⟨_,_,msAl,FsAl⟩,⟨_,_,msOdd,FsOdd⟩,⟨_,_,msPenned,FsPenned⟩,⟨_,_,msSought,FsSought⟩,⟨_,_,msDeeds,FsDeeds⟩,⟨_,_,msIsName,FsIsName⟩,⟨_,_,msBegun,FsBegun⟩,⟨_,_,msNamed,FsNamed⟩,⟨_,_,msAdded,FsAdded⟩,⟨_,_,msLed,FsLed⟩,⟨_,_,msTurned,FsTurned⟩,⟨_,_,msPennedIn,FsPennedIn⟩,⟨_,_,msNameOf,FsNameOf⟩,⟨_,_,msShown,FsShown⟩,⟨_,_,msBarred,FsBarred⟩,⟨_,_,msJoined,FsJoined⟩,⟨_,_,msChanged,FsChanged⟩,⟨_,_,msAt,FsAt⟩,⟨_,_,msTextOf,FsTextOf⟩,⟨_,_,msPlayed,FsPlayed⟩,⟨_,_,msTexts,FsTexts⟩,-⟩:=Rj X G T2;obtain⟨⟨_,_,a1,FM1⟩,⟨_,_,a2,FM2⟩,⟨_,_,a3,FM3⟩,⟨_,_,a4,FM4⟩,⟨_,_,a5,FM5⟩,⟨_,_,a6,FM6⟩,⟨_,_,a7,FM7⟩,⟨_,_,a8,FM8⟩,⟨_,_,a9,FM9⟩,⟨_,_,a10,FM10⟩,⟨_,_,a11,FM11⟩,⟨_,_,a12,FM12⟩,⟨_,_,a13,FM13⟩,-⟩:=M;obtain⟨⟨_,_,_,aE1,xa1,FE1,rE1⟩,⟨_,_,_,aE2,xa2,FE2,rE2⟩,⟨_,_,_,aE3,xa3,FE3,rE3⟩,⟨_,_,_,aE4,xa4,FE4,rE4⟩,⟨_,_,_,aE5,xa5,FE5,rE5⟩,⟨_,_,_,aE6,xa6,FE6,rE6⟩,-⟩:=E;cases hfa.symm.trans mL;have n:=Wc X G Z;have nisinstance:=n "isinstance" (by simp);have nlist:=n "list" (by simp);have ntuple:=n "tuple" (by simp);have nstr:=n "str" (by simp);have nint:=n "int" (by simp);have nbool:=n "bool" (by simp);have nlen:=n "len" (by simp);have nrange:=n "range" (by simp);have nsum:=n "sum" (by simp);have nsorted:=n "sorted" (by simp);have nset:=n "set" (by simp);have nenumerate:=n "enumerate" (by simp);have nall:=n "all" (by simp);have nmin:=n "min" (by simp);obtain⟨oc,od,kV,doc,pm,an,cdv,ct,osl,rfl,lk,hcd⟩:=FL.ex;refine⟨fnOf "law" "law" (JP K3) (Ft K3) (Ao K3) .none kV doc pm an cdv ct,fun s v=>.of_eq rfl,fun base _ _=>?_⟩;have O:Own mg:=⟨nisinstance,nlist,ntuple,nstr,nint,nbool,nlen,nrange⟩;have OP:Gh mg:=⟨nsum,nsorted,nset,nlen,nenumerate,nlist,nall,nmin⟩;have U:Hx K mg cR fRi:=⟨IJ X G aR,rdR,fiR,spR,kRi,jj xR yR⟩;have GR:AU l.prog w K mg base Aa 1 fRi _ ["self","answer"] (Hr K):=jM FRi;have R1:=rE1 l.prog w mg base "no page" (IJ X G aE1) (cW FE1 U GR (FRi.binds (by trivial)) xa1) (FE1.binds (by trivial));have R2:=rE2 l.prog w mg base "no name" (IJ X G aE2) (bj FE2 U GR (FRi.binds (by trivial)) xa2) (FE2.binds (by trivial));have R3:=rE3 l.prog w mg base "same page" (IJ X G aE3) (aG FE3 U GR (FRi.binds (by trivial)) xa3) (FE3.binds (by trivial));have R4:=rE4 l.prog w mg base "taken" (IJ X G aE4) (dW FE4 U GR (FRi.binds (by trivial)) xa4) (FE4.binds (by trivial));have R5:=rE5 l.prog w mg base "no place" (IJ X G aE5) (aK FE5 U GR (FRi.binds (by trivial)) xa5) (FE5.binds (by trivial));have R6:=rE6 l.prog w mg base "no words" (IJ X G aE6) (aZ FE6 U GR (FRi.binds (by trivial)) xa6) (FE6.binds (by trivial));have C:EI K cN:=⟨⟨pgN,hdN,poN,saN⟩,npN⟩;have M:LA l.prog w K mg base cN cR:=⟨⟨_,_,a2,iB FM2 C R1,(FM2.binds (by trivial))⟩,⟨_,_,a3,gu FM3 C R2 R4 FIN (FIN.binds (by trivial)) mIN OP,(FM3.binds (by trivial))⟩,⟨_,_,a4,fL FM4 C OP FPT (FPT.binds (by trivial)) mPT,(FM4.binds (by trivial))⟩,⟨_,_,mCP,FCP.kp,i5 FCP OP,(FCP.binds (by trivial))⟩⟩;have GSH:=j3 FSH FPI (kC (P:=l.prog) (w:=w) (base:=base) FPI nenumerate nsorted) (FPI.binds (by trivial)) mPI nlen nmin;have GPN:=fz FPN OP (jg FPO OP) (FPO.binds (by trivial)) mPO FPO.kp GSH (FSH.binds (by trivial)) mSH FSH.kp;have MD:ZR l.prog w K mg base cN cR:=⟨⟨_,_,a5,d6 FM5 C OP R2 FIN (FIN.binds (by trivial)) mIN FSU (kI FSU FRW (km FRW FIN (FIN.binds (by trivial)) mIN nall) (FRW.binds (by trivial)) mRW) (FSU.binds (by trivial)) mSU,(FM5.binds (by trivial))⟩,⟨_,_,a6,bb FM6 C M,(FM6.binds (by trivial))⟩,⟨_,_,a7,iI FM7 C M R3,(FM7.binds (by trivial))⟩,⟨_,_,a8,jU FM8 C M R5 OP,(FM8.binds (by trivial))⟩,⟨_,_,a9,gz FM9 C M,(FM9.binds (by trivial))⟩,⟨_,_,a10,Wm FM10 C M (YN FTT FTW (FTW.binds (by trivial)) mTW) (FTT.binds (by trivial)) mTT FTT.kp,(FM10.binds (by trivial))⟩,⟨_,_,a11,gN FM11 C (iu FPP OP) (FPP.binds (by trivial)) mPP FPP.kp,(FM11.binds (by trivial))⟩,⟨_,_,a12,(fZ FM12 C R6 OP GPN (FPN.binds (by trivial)) mPN FPN.kp).mono (by decide),(FM12.binds (by trivial))⟩⟩;have GAA:=jC FAA (iy FAD U (jn FDD C MD) (FDD.binds (by trivial)) mDD FDD.kp) (FAD.binds (by trivial)) mAD FAD.kp;have GNB:=cw FNB ⟨mkN,a1.at_,a1.fn,kcN⟩ (dB FM1 C) (FM1.binds (by trivial)) (IJ X G aN) GAA (FAA.binds (by trivial)) mAA FAA.kp;have GDe:=df (P:=l.prog) (w:=w) (base:=base) FsDeeds O FsPenned (bp FsPenned O FsDraw (FsDraw.binds (by trivial)) msDraw FsOdd (FsOdd.binds (by trivial)) msOdd) (FsPenned.binds (by trivial)) msPenned FsSought (FsSought.binds (by trivial)) msSought;have GAl:=lK (P:=l.prog) (w:=w) (base:=base) FsAl O FsWhole (FsWhole.binds (by trivial)) msWhole;have GAd:=fX (P:=l.prog) (w:=w) (base:=base) FsAdded O FsNamed (FsNamed.binds (by trivial)) msNamed;have GPi:=aE (P:=l.prog) (w:=w) (base:=base) FsPennedIn FsIsName (FsIsName.binds (by trivial)) msIsName;have GJo:=cI (P:=l.prog) (w:=w) (base:=base) FsJoined O FsTurned (FsTurned.binds (by trivial)) msTurned FsLed (FsLed.binds (by trivial)) msLed;have GSw:=eF (P:=l.prog) (w:=w) (base:=base) FsShown O FsNameOf (FsNameOf.binds (by trivial)) msNameOf;have GBa:=cG (P:=l.prog) (w:=w) (base:=base) FsBarred O FsIsName (FsIsName.binds (by trivial)) msIsName;have GCh:=aJ FsChanged O FsAdded GAd (FsAdded.binds (by trivial)) msAdded FsPennedIn GPi (FsPennedIn.binds (by trivial)) msPennedIn FsNamed (FsNamed.binds (by trivial)) msNamed FsLed (FsLed.binds (by trivial)) msLed FsJoined GJo (FsJoined.binds (by trivial)) msJoined FsTurned (FsTurned.binds (by trivial)) msTurned;have GTe:=bK FTE C GNB (FNB.binds (by trivial)) mNB FNB.kp a13 (gb FM13 C OP a10 (Wm FM10 C M (YN FTT FTW (FTW.binds (by trivial)) mTW) (FTT.binds (by trivial)) mTT FTT.kp) (FM10.binds (by trivial))) (FM13.binds (by trivial));have GTo:=iq FsTextOf FsShown GSw (FsShown.binds (by trivial)) msShown;have GTx:=cj FsTexts O nsorted FsTextOf GTo (FsTextOf.binds (by trivial)) msTextOf;have GPy:=bL FsPlayed FsBegun (FsBegun.binds (by trivial)) msBegun FsBarred GBa (FsBarred.binds (by trivial)) msBarred FsChanged GCh (FsChanged.binds (by trivial)) msChanged;exact jQ FL O FsAt (FsAt.binds (by trivial)) msAt FsDeeds GDe (FsDeeds.binds (by trivial)) msDeeds FsRoom (FsRoom.binds (by trivial)) msRoom FTE GTe (FTE.binds (by trivial)) mTE FsPlayed GPy (FsPlayed.binds (by trivial)) msPlayed FsAl GAl (FsAl.binds (by trivial)) msAl FsTexts GTx (FsTexts.binds (by trivial)) msTexts
end
theorem SS{v:Option (Option Value)}(h:NG v=true):v=some (some (.ref (hRf v))):=by
 unfold NG at h;split at h
 ·rfl
 ·cases h
section
variable{q:Str}{st:Stmt}
theorem PQ(e:LN K f q=LB x q st):(∃fd,Ab K x q st f fd)/\isFn K (.ref f)=true:=by
 unfold LN at e;split at e
 ·rename_i oc od d osl h;obtain⟨a1,a2,a3,a4,a5,a6,a7,a8,a9,a10,a11,a12,a13,a14,a15⟩:=d;simp only[LB,Option.some.injEq,KL,E2] at e;obtain⟨rfl,rfl,rfl,rfl,rfl,rfl,rfl,rfl,rfl,⟨c,k⟩,i⟩:=e;exact⟨⟨_,⟨_,_,_,_,_,_,_,_,_,rfl,h,c⟩,k⟩,i⟩
 ·cases e
theorem Y9(e:Pz K C=Pc C bm):∃(nm qq:Str)(N:Addr)(bs:List Value)(hd:Bool)(sn:List Str)(sub:List Value)(ab:Bool)(col:Option Bool)(dd:Option Addr)(k0 k1 k2 k3 k5:Option Value),
 K.lookup C=some (excClassObj nm qq C N bs bm hd sn sub ab col dd k0 k1 k2 k3 k5 "Exception.__new__"):=by
 unfold Pz at e;split at e
 ·rename_i c od d sl h;obtain⟨a1,a2,a3,a4,a5,a6,a7,a8,a9,a10,a11⟩:=d;obtain⟨sl⟩:=sl;simp only[Pc,Option.some.injEq,KL] at e;obtain⟨rfl,rfl,rfl,e⟩:=e;split at e
  ·cases Ah e;exact⟨_,_,_,_,_,_,_,_,_,_,_,_,_,_,_,h⟩
  ·cases e
 ·cases e
end
section
variable{R:Addr}
theorem Yt:∀{L:List (Str×Str×Stmt×Addr)},Ze K L=ZX R L->Sg K R (L.map fun z=>(z.1,z.2.1,z.2.2.1))
 |[],_=>Cm
 |(x,q,st,C)::L,e=>by obtain⟨e,r⟩:=Hf e;simp only[Zg,ZZ,KL] at e;obtain⟨a,z,e1,e2,e3,e4,e5,e6,i,g⟩:=e;obtain⟨_,_,_,_,_,_,_,_,_,_,_,_,_,_,_,z⟩:=Y9 z;obtain⟨⟨fd,F⟩,i'⟩:=PQ g;exact⟨⟨C,_,fd,a,WV z rfl e1 e2 e3 e4 e5,F,fun _ _ _ _ _ m G B=>ko m z rfl (SS i) i' e6 (WV z rfl e1 e2 e3 e4 e5) G B⟩,Yt r⟩
theorem Ym:∀{L:List (Str×Str×Stmt)},Zo K C L=Zh L->Sk K C L
 |[],_=>Cm
 |(x,q,st)::L,e=>by obtain⟨e,r⟩:=Hf e;obtain⟨i,g⟩:=KS e;obtain⟨⟨fd,F⟩,i'⟩:=PQ g;exact⟨⟨_,fd,⟨SS i,i',F.kp⟩,F⟩,Ym r⟩
theorem Se:∀{L:List (Str×Stmt)},S8 K L=Ta L->Mw K L
 |[],_=>Cm
 |(x,st)::L,e=>by obtain⟨e,r⟩:=Hf e;obtain⟨i,g⟩:=KS e;obtain⟨⟨fd,F⟩,i'⟩:=PQ g;exact⟨⟨_,fd,SS i,F⟩,Se r⟩
theorem Yv:∀{L:List Str},L.map (PySem.W.nsIn K mainGlobals)=L.map (fun _=>some none)->Pa K L
 |[],_=>Cm
 |_::_,e=>⟨(Hf e).1,Yv (Hf e).2⟩
end
section
open PySem.W
theorem nv{l:OpenLaw}{n:Nat}{q:Program}{loose:List Str}{d:DefRec}{sp:Frag->Sp}
 (hn:l.most=some n)(hn2:n<=sizeLine)(hdf:d.params.defaults=[])(hr:Br k callerA)
 (F:∀(w:World)(mg:Str->Option Value)(fa:Addr)(h:Heap)(K:Frag),Jo K=Ju->K.In h->h.Ns mainGlobals mg->mg d.name=some (.ref fa)->
  ∃fd:FuncData,(∀(s:Shared)(u:Value),BindsTo s fd ⟨[u],[]⟩ [(x,u)])/\∀base:Heap,K.In base->base.Ns mainGlobals mg->AU l.prog w K mg base CX k fa fd [x] (sp K))
 (hsp:∀(K:Frag)(H:Hp)(a:Addr)(ns:List Int),ns.length<=n->Sq H->AN K H a (ns.map V.int)->sp K [.ref a] H (fun v _=>v=.bl true) fun _ _ _=>False)
 (hCX:∀(H:Hp)(s:Shared)(e:Value)(s':Shared),CX [] H s (fun _ _ _=>False) e s'->False):
 WalkO q loose XP TH l.row.toRowW d [] (fun f vs=>PySem.call f vs):=by
 refine aH hn hdf fun w s₀ s₁ mg mb fa o pm cd doc a vs ns G Y ho hd hcd hmg hobj hints hlen hg=>?_;obtain⟨K,KX,g⟩:=Y;obtain⟨fd,hb,hF⟩:=F w mg fa _ K g KX G.T.g hmg;exact eL KX G.T.g G.T.b G.T.builtins G.T.nolimit hg hobj hints (BI hlen hn2) hr hF hb (fun H hO hS=>hsp K H a ns hlen hO hS) fun H e s'=>hCX H s₁ e s'
theorem n8{K:Frag}{l:OpenLaw}{fa:Addr}(g:Jo K=Ju)(X:K.In h)(G:h.Ns mainGlobals mg)(hfa:mg "law" =some (.ref fa)):
 ∃fd:FuncData,(∀(s:Shared)(v:Value),BindsTo s fd ⟨[v],[]⟩ [("_law_script",v)])/\∀base:Heap,K.In base->base.Ns mainGlobals mg->AU l.prog w K mg base Aa 11 fa fd ["_law_script"] (SV K):=by
 simp only[Jo,Ju,KL] at g;obtain⟨r,e,n,m,t,t2,z⟩:=g;simp only[ZT,ZO,KL] at r;obtain⟨aR,xR,rd,sp,fi⟩:=r;obtain⟨_,_,_,_,_,_,_,_,_,_,_,_,_,_,_,xR⟩:=Y9 xR;split at fi;case h_2=>cases fi
 rename_i f hfi;obtain⟨⟨_,⟨oc,od,kV,doc,pm,an,cdv,ct,osl,rfl,l,c⟩,k⟩,_⟩:=PQ fi;simp only[Zl,Zj,KL,E2] at n;obtain⟨aN,⟨⟨⟨⟨n1,n2⟩,n3⟩,n4⟩,n5⟩,sa,np⟩:=n;exact all_mk X G hfa aR xR rfl rd hfi sp l c k (Yt e) aN n1 n2 n3 sa n4 n5 np (Ym m) (Se t) (Se t2) (Yv z)
end
end L2
end
open PySem PySem.W PyProof.Rows
theorem PySem.Challenge.cw_pagenook_k09_texts_holds : PySem.Challenge.rw_pagenook_k09_texts.Holds := by
 exact L2.n9 fun d hn hd=>L2.nv (l:=PySem.Challenge.rw_pagenook_k09_texts) (n:=63) (k:=11) (x:="_law_script") (CX:=L2.Aa) (sp:=L2.SV) rfl (by decide) hd ⟨rfl,by decide,by decide⟩ (fun _ _ _ _ _ g X G m=>L2.n8 g X G (hn▸m)) (fun _ _ a ns hl _ hS=>⟨a,ns,rfl,hS,hl,fun _=>rfl⟩) fun _ _ _ _ z=>z
