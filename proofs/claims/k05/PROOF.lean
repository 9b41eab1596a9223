import PyProof.Rows.All
import Wide.All
import OpenK.AllK
import Wide.FinOn
import Lean
import PyProof.EqAt
import PyProof.EqKinds
import PyProof.TupleCall
import PyProof.ExcAttrAll.Exception
import PyProof.InstStoreFacts
import PyProof.Rows.SetFrom
import PyProof.SetKind
import KE.KSetInts
import KE.KSortTup
import KE.KDictList
import PySem.Challenge.RW_pagenook_k05_whole_renamed
set_option Elab.async false
set_option linter.all false
set_option maxRecDepth 100000
set_option maxHeartbeats 0
open Array renaming length_toList→Em,getElem?_toList→F7,toList_append→F9,getD_eq_getD_getElem?→Gm,toList_inj→Js,perm_iff_toList_perm→MF,toList_push→MS,toList_reverse→VJ,toList_extract→VL
open Bool renaming false_ne_true→CY,false_eq_true→DL,and_eq_true→Du,and_false→K5,true_eq_false→MP,false_and→MX,eq_iff_iff→OQ,not_true→RN,false_or→RO
open Int renaming toNat_natCast→Hj,emod_lt_of_pos→Qq,emod_nonneg→RC
open List renaming length_map→AL,getElem?_eq_getElem→Aq,map_cons→Av,getElem?_map→Ax,length_append→A7,mem_map→BI,map_append→BS,map_map→BV,getElem?_eq_some_iff→BX,mem_cons→Ba,append_assoc→Bb,mem_singleton→Bg,mem_append→Bh,length_take→Bl,sum_cons→B1,mem_of_getElem?→CK,length_cons→CP,size_toArray→Cb,take_length→Cj,getD_eq_getElem?_getD→Ct,getElem?_append_right→Cv,find?_cons→C4,append_nil→C5,getElem?_append_left→DC,length_singleton→DD,mem_cons_of_mem→DE,map_congr_left→DF,mem_cons_self→Di,take_append_drop→Dr,mem_append_right→EB,length_drop→EC,take_add_one→EO,getElem?_eq_none→El,take_of_length_le→Fi,getElem_mem→Fj,length_take_le'→F8,filter_cons_of_pos→Gn,length_filter_le→Gp,lookup_cons→Gq,filter_cons_of_neg→Hg,mem_of_mem_take→Hh,mem_append_left→Hi,mem_iff_getElem→IK,nodup_cons→IS,mem_filter→IT,any_cons→IV,perm_append_comm→Iq,not_mem_nil→Iy,mem_of_mem_drop→Jm,ext_getElem?→Jp,any_eq_true→Jq,all_eq_true→Jr,map_id→Jv,drop_eq_getElem_cons→Kv,drop_eq_nil_of_le→Kw,getElem?_drop→Kx,countP_cons→Ky,length_nil→K2,take_zero→K3,mem_range→K4,all_cons→K7,map_nil→LA,find?_cons_of_pos→MH,find?_cons_of_neg→MJ,cons_append→MV,nodup_nil→MW,pairwise_iff_getElem→N3,getElem?_eq_none_iff→N4,getElem?_set_self→N6,getElem?_set_ne→N9,map_eq_nil_iff→OB,pairwise_cons→OD,filter_append→OE,pairwise_map→OI,nodup_append→OJ,drop_zero→OS,map_take→OW,map_drop→OX,drop_append_of_le_length→Qa,length_eq_zero_iff→Qc,filterMap_cons→Qj,mem_filterMap→Qn,getElem?_take→Qo,contains_cons→Qp,length_range→Qx,find?_append→Qy,nil_append→RB,take_take→RG,extract_eq_drop_take→U0,pairwise_singleton→U4,head_eq_of_cons_eq→U5,length_pos_of_mem→U9,getElem?_toArray→VF,getElem?_of_mem→VH,getElem?_range→VO,set_cons_succ→VR,find?_eq_none→VS
open List.Perm renaming refl→OT,append_left→Qf,append_right→VA
open List.cons renaming inj→Gu
open Nat renaming le_refl→Ab,le_trans→BF,ne_of_lt→BM,zero_le→CH,lt_of_lt_of_le→C3,sub_self→ER,ne_of_gt→En,le_succ→Eo,le_of_lt→Fl,min_eq_left→K1,lt_succ_self→MU,lt_irrefl→MY,lt_succ_of_lt→OH,le_of_not_lt→OM,not_lt→Og,mul_le_mul_left→Qi
open Ne renaming symm→DG
open Option renaming bind_some→MT,map_eq_some_iff→N5,map_some→OO
open Option.some renaming inj→Ag
open Or renaming inl→AZ,inr→Cd
open Prod renaming ext→LR
open Prod.mk renaming injEq→K6,inj→LD
open PyProof.Rows renaming wpS_bind→Ak,wpS_pure→Ap,wpS_forRange→FA,wpS_get→Hw,wpS_modify→Jw,boot_sorted→LC,wpS_lift→LQ,split_weight→MZ,slot_tuple_getitem→Uy,callWith_type1→Uz
open PyProof.Rows.F renaming plain_set_update_loop→U6
open PySem renaming wpAny_bind→AK,wpAny_pure→Af,sizeLine_eq→A3,wpAny_mono→C6,boot_len→Dj,wpAny_holding→GB,strLen_append→Hn,wpAny_rule→Ho,wpAny_newObj_type→IL,codeAny_builtin→IQ,mem_of_lookup→Iu,wpAny_loadPart_at→Iw,call_meets→I8,wpAny_field→Ju,wpAny_passesOwn→Kz,codeAny_mono→K9,typeIs_str→LG,wpAny_isSubtype_exc→ML,wpAny_setField_rec→MN,wpAny_Call_Name_kw→MO,wpAny_truthy_bool→MQ,wpAny_setState_of→MR,wpAny_call→Mc,tupleKind_room_in1→OC,wpAny_call_entry→OL,wpAny_execs_nil→ON,wpAny_setField→OR,wpAny_standAt→OU,plainId_quiet→OV,call_meetsIn→OZ,wpAny_getItem_str_slice→Qb,post_val_or_str→RA,wpAny_newList→RM,codeAny_call_builtin→VG
open PySem.Around renaming under_plainId→MK
open PySem.Calls renaming callWith_builtin→Qd,spliced_cons→Qr,evalArgs_plain→VI,Constant_str→VU
open PySem.Code renaming quiet_builtin→OF
open PySem.F renaming plainAttrs_list→D9,type_list_append→Fg,slot_list_append→Fh,excBase_Exception→Ip,plainAttrs_str→Jl,called_set→Jn,plainAttrs_dict→MG,plain_extend_loop→N2,slot_dict_values→U1,slot_dict_items→U3,type_str_split→U7,slot_str_split→U8,type_str_join→VC,slot_str_join→VD,slot_dict_get→VE,args_str_split_2→VT,slot_dict_itemiterator_iter→bz
open PySem.Heap renaming lt_size→Ay,get?_push_of_some→BB,get?_push_size→Bz,get?_update_other→EA,size_push→Gr,get?_update_self→Ir,get?_update_ne→MM,size_after_update→N7,size_update→Q6
open PySem.Heap.SameBut renaming update→VP
open PySem.Paired renaming length→I0
open PySem.PassesOwn renaming never→ED
open PySem.Txt renaming slice_le→Oa
open PySem.W renaming kia_tup→Hk,kia_one→Hl,mg_of→IU,looks_findIn→N8,callWith_K0→Qh,kitx_list→Qv,kitx_dict→Qw,methodCall_KW→VB,plainGet_of→VM,looks_clsIn→VN,callWith_K→VQ
open True renaming intro→Cw
open PyProof.Rows renaming Keyed→cm,pendingOf→dA,arrOf→dq,SortSt→qU,failedOf→qe,seqObj→qg,elem'→qm,setPending→qz,envOfC→rK,AllBare→rO,reverseSlice'→rP,wpS_mono→rm,mirror→sR,get?_update_seq→sX,size_push'→si,mergeAt'→sj,subscriptTail→tK,listUpdate_at→tL,Constant_none→tM
open PySem renaming Value→AB,Addr→Ya,Shared→Yf,model→ax,wpAny→bt,starEach→dy,mainGlobals→g0,Stmt→hX,Expr→hY,Program→qV,compareOp→qW,FuncData→qX,Heap→qY,eval→qZ,World→qa,bootBuiltins→qc,attributeBase→qd,backTo→qf,cLine→qh,importedModules→qi,sysModules→qj,keywordEach→qk,unsupported→qp,treeTable→qr,scanBound→qt,rawInt→qu,pyNext→qv,codeAny→qw,Around→qy,sliceBounds→rA,binaryOp→rC,letOwnedTupleGo→rE,relabel→rH,backToKw→rL,excClassObj→rM,Keyword→rN,GenState→rR,holding→rS,assignEach→rT,valueAt→rW,tupleKind→rX,swapsWith→rY,getMethod→rg,getItem→rh,PlainAttrs→rj,wpAny_typeOf→rq,callerA→sD,Scope→sL,plainObj_wpAny_Assign_Attribute→sN,wpAny_askSetting→sO,setFlight→sQ,IsPart→sT,subscripted→sU,wpAny_updateSeq→sV,wpAny_ite_split→sW,codeAny_of_tree→sY,standAt→sZ,getAttr→sd,collect→sf,BindsTo→sg,isSubtype_type→sk,isInstance→sq,builtinsNs→sr,atKey→tF,assign→tG,NameKind→tH,wpAny_attempt→tJ
open PySem.W renaming findIn→qb,boot_heap→ql,keepIn→qo,emptyDict→q5,hasDictIn→rJ,behindTheImports→rQ,kitOne→rV,instObj→rZ,plainGet→r9,specialIn→sP,boot_drawn→tD
open PyProof.Rows renaming boot_sum→tZ
open PySem renaming Within→tQ,wpAt_of_wpAny→tV
open PySem.F renaming slot_dict_pop→tR,entry_dict_get→tS,args_dict_get_3→tU,plain_set_new→tW,slot_set_iter→tX,entry_extend_loop→tY,type_dict_values→tj,slot_list_count→tm,type_list_count→tu,type_dict_items→tw
open PySem.W renaming Frag→tN,nsIn→tO,Looks→tP
noncomputable section
namespace L2
open PySem PySem.Spec PyProof.Rows
open PySem.W (InitBack InstAt any_some bind_fn cellsFrom_some check_slot clsIn cls_value codeIn codeRec_of emptyDict eq_bytes findCls findIn findObj findObj_own fnOf get_value handedIn handedOut_of hasDictIn hideAll hideAll_get hideAll_none hideAll_size holds_open instObj isFn keepIn ki_setAt ki_setBack kitAny kitOne kitx_bool kitx_float kitx_int kitx_none kitx_own kitx_str kitx_tuple lookIn looks_find looks_mroIn make_core makesIn makes_of methodObj method_cls method_fn mg_none_of mroIn ne_bytes of_hideAll osa_eq osa_open plainGet plainOver readsIn set_plain specialIn takerIn takesIn typeIn)
abbrev AF:=@if_neg
abbrev AH:=@if_pos
abbrev BD:=@congrArg
abbrev BJ:=@decide_eq_false
abbrev BZ:=@decide_eq_true
abbrev Bs:=@if_false
abbrev CJ:=@if_true
abbrev DM:=@ite_congr
abbrev FC:=@beq_iff_eq
abbrev GC:=@getElem?_pos
abbrev IM:=@of_decide_eq_true
abbrev IP:=@beq_self_eq_true
abbrev Jo:=@bne_self_eq_false
abbrev J7:=@or_false
abbrev K0:=@beq_false_of_ne
abbrev K8:=@decide_false
abbrev LB:=@decide_true
abbrev OA:=@beq_eq_false_iff_ne
abbrev OG:=@decide_eq_true_eq
abbrev Ql:=@of_decide_eq_false
abbrev Qm:=@decide_eq_true_iff
abbrev U2:=@decide_eq_false_iff_not
local macro_rules|`(tactic|ac_rfl)=>`(tactic|first|decide+kernel|exact⟨rfl,rfl,rfl,by decide+kernel,rfl,by decide+kernel,by decide+kernel⟩)
noncomputable def inClass(s:hX)(j:Nat):hX:=match s with
 |.ClassDef _ _ _ body _ _ _ _ _ _ _=>body.getD j (.Pass ⟨0,0,0,0⟩)
 |_=>.Pass ⟨0,0,0,0⟩
noncomputable def JC(s:hX):Arguments:=match s with
 |.FunctionDef _ a _ _ _ _ _ _ _ _=>a
 |_=>{posonlyargs:=[],args:=[],vararg:=none,kwonlyargs:=[],kw_defaults:=[],kwarg:=none,defaults:=[]}
noncomputable def Fq(s:hX):List hX:=match s with
 |.FunctionDef _ _ b _ _ _ _ _ _ _=>b
 |_=>[]
noncomputable def Ao(s:hX):sL:=match s with
 |.FunctionDef _ _ _ _ _ _ sc _ _ _=>sc
 |_=>{kind:=.function,names:=[],isGenerator:=false,isCoroutine:=false}
noncomputable def top(i:Nat):hX:=PySem.Challenge.pw_pagenook_k05_whole_renamed.main.body.getD i (.Pass ⟨0,0,0,0⟩)
abbrev Jt:hX:=inClass (top 2) 0
abbrev RH:hX:=inClass (top 3) 0
abbrev RJ:hX:=inClass (top 4) 0
abbrev Q9:hX:=inClass (top 5) 0
abbrev RT:hX:=inClass (top 6) 0
abbrev RF:hX:=inClass (top 7) 0
abbrev RE:hX:=inClass (top 8) 0
abbrev VW:hX:=top 10
abbrev Vp:hX:=top 11
abbrev Q2:hX:=top 13
abbrev Q3:hX:=top 14
abbrev Oe:hX:=top 15
abbrev RR:hX:=top 16
abbrev WH:hX:=top 18
abbrev Vk:hX:=top 19
abbrev Vq:hX:=top 20
abbrev Oc:hX:=top 21
abbrev RU:hX:=top 22
abbrev Mb:hX:=top 24
abbrev RV:hX:=inClass (top 25) 0
abbrev Q1:hX:=inClass (top 25) 1
abbrev Qe:hX:=inClass (top 25) 2
abbrev Qg:hX:=inClass (top 25) 3
abbrev Qt:hX:=inClass (top 25) 4
abbrev Qk:hX:=inClass (top 25) 5
abbrev Qu:hX:=inClass (top 25) 6
abbrev Q8:hX:=inClass (top 25) 7
abbrev Qz:hX:=inClass (top 25) 8
abbrev RD:hX:=inClass (top 25) 9
abbrev Q5:hX:=inClass (top 25) 10
abbrev Qs:hX:=inClass (top 25) 11
abbrev Q4:hX:=inClass (top 25) 12
abbrev Rg:hX:=top 27
abbrev RI:hX:=top 28
abbrev RQ:hX:=top 29
abbrev RL:hX:=top 30
abbrev Rr:hX:=top 31
abbrev Sr:hX:=top 32
abbrev Po:hX:=top 34
abbrev Pj:hX:=top 35
abbrev ZK:hX:=top 36
abbrev QU:hX:=top 37
abbrev az:hX:=top 38
abbrev P2:hX:=top 39
abbrev PK:hX:=top 40
abbrev M0:hX:=top 41
abbrev TN:hX:=top 42
abbrev Mz:hX:=top 43
abbrev PY:hX:=top 44
abbrev NH:hX:=top 45
abbrev TB:hX:=top 46
abbrev NX:hX:=top 47
abbrev M5:hX:=top 48
abbrev Rn:hX:=top 49
abbrev PF:hX:=top 50
abbrev S9:hX:=top 51
abbrev SW:hX:=top 52
abbrev Sl:hX:=top 53
abbrev Sa:hX:=top 54
abbrev SK:hX:=top 55
abbrev Sg:hX:=top 56
abbrev TY:hX:=top 57
abbrev Ln:hX:=top 58
section
open PySem.W
noncomputable def hRf:Option (Option AB)->Ya
 |some (some (.ref a))=>a
 |_=>0
noncomputable def Nx:Option (Option AB)->Bool
 |some (some (.ref _))=>true
 |_=>false
abbrev bj:=Option (Str×Str×Arguments×FuncBody×sL×Ya×List (Str×Ya)×AB×Ya×Bool)
noncomputable def Ly(K:tN)(f:Ya)(q:Str):bj:=match K.lookup f with
 |some ⟨_,_,.func d,_⟩=>some (d.name,d.qualname,d.params,d.body,d.scope,d.globals,d.closure,d.defaults,d.builtins,codeIn K d.code q&&qo K (.ref f)&&isFn K (.ref f))
 |_=>none
def Lu(x q:Str)(st:hX):bj:=some (x,q,JC st,.stmts (Fq st),Ao st,g0,[],.none,sr,true)
noncomputable def QR(K:tN)(C:Ya):Option (AB×List AB×Bool×Option (Option AB)):=match K.lookup C with
 |some ⟨c,_,.cls d,sl⟩=>some (c,d.mro,d.hasDel,match sl.toList with|[_,_,_,_,k,_]=>some k|_=>none)
 |_=>none
noncomputable def QN(C:Ya)(bm:List AB):Option (AB×List AB×Bool×Option (Option AB)):=some (.type "type",.ref C::bm,false,some (some (.builtin "Exception.__new__")))
abbrev bo:List AB:=[.type "Exception",.type "BaseException",.type "object"]
def bg(K:tN)(x q:Str)(C:Ya):=(tO K g0 x,QR K C,rJ K C,qb K (.ref C) "answer",qb K (.ref C) "__setattr__",qb K (.ref C) "__getattribute__",
 qb K (.ref C) "__getattr__",qo K (.ref C),Nx (qb K (.ref C) "__init__"),Ly K (hRf (qb K (.ref C) "__init__")) q)
def bQ(q:Str)(st:hX)(R C:Ya):=(some (some (Value.ref C)),QN C (.ref R::bo),true,(some none:Option (Option AB)),some (some (Value.builtin "object.__setattr__")),some (some (Value.builtin "BaseException.__getattribute__")),
 (some none:Option (Option AB)),true,true,Lu "__init__" q st)
def bX(K:tN)(L:List (Str×Str×hX×Ya)):=L.map fun z=>bg K z.1 z.2.1 z.2.2.2
def bA(R:Ya)(L:List (Str×Str×hX×Ya)):=L.map fun z=>bQ z.2.1 z.2.2.1 R z.2.2.2
def bK(K:tN)(C:Ya)(L:List (Str×Str×hX)):=L.map fun z=>(Nx (qb K (.ref C) z.1),Ly K (hRf (qb K (.ref C) z.1)) z.2.1)
def bq(L:List (Str×Str×hX)):=L.map fun z=>(true,Lu z.1 z.2.1 z.2.2)
def Ud(K:tN)(L:List (Str×hX)):=L.map fun z=>(Nx (tO K g0 z.1),Ly K (hRf (tO K g0 z.1)) z.1)
def Uu(L:List (Str×hX)):=L.map fun z=>(true,Lu z.1 z.1 z.2)
def bH(K:tN)(R:Ya):=(tO K g0 "Refusal",QR K R,readsIn K R (.type "type"),sP K (.ref R) "__getattribute__",
 (match findCls K (.ref R) (.type "type") "__init__" with|some (.val (.ref f))=>Ly K f "Refusal.__init__" |_=>none))
def bx(st:hX)(R:Ya):=(some (some (Value.ref R)),QN R bo,true,some (some (Value.builtin "type.__getattribute__")),Lu "__init__" "Refusal.__init__" st)
noncomputable def bJ(K:tN)(C:Ya):=(tO K g0 "Nook",r9 K C Str.empty&&rJ K C&&plainOver K C&&makesIn K C&&qo K (.ref C),qb K (.ref C) "__setattr__",qb K (.ref C) "pages")
noncomputable def bU(C:Ya):=(some (some (Value.ref C)),true,some (some (Value.builtin "object.__setattr__")),(some none:Option (Option AB)))
noncomputable def Pt(h:qY):tN:=(List.range h.objs.size).filterMap fun a=>(h.get? a).map fun o=>(a,o)
def Us:List (Str×Str×hX×Ya):=[("NoPage","NoPage.__init__",RH,58),("NoName","NoName.__init__",RJ,77),("SamePage","SamePage.__init__",Q9,96),("Taken","Taken.__init__",RT,115),("NoPlace","NoPlace.__init__",RF,134),("NoWords","NoWords.__init__",RE,153)]
def Uk:List (Str×Str×hX):=[("__init__","Nook.__init__",RV),("need_page","Nook.need_page",Q1),("need_free_name","Nook.need_free_name",Qe),("point_all_on","Nook.point_all_on",Qg),("write_page","Nook.write_page",Qt),("rename_page","Nook.rename_page",Qk),("join_pages","Nook.join_pages",Qu),("cut_page","Nook.cut_page",Q8),("drop_page","Nook.drop_page",Qz),("text_of","Nook.text_of",RD),("back_from","Nook.back_from",Q5),("find_pages","Nook.find_pages",Qs),("all_texts","Nook.all_texts",Q4)]
def Uo:List (Str×hX):=[("law",Ln),("places_in_order",VW),("shortest",Vp),("count_pointers",Q2),("pages_pointing",Q3),("places_of",Oe),("pages_near",RR),("is_name",WH),("read_word",Vk),("split_up",Vq),("tell_word",Oc),("tell_text",RU),("point_on",Mb),("do_deed",Rg),("answer_deed",RI),("answer_all",RQ),("nook_behind",RL),("answers",Rr),("texts",Sr),("_law_room",Po)]
def UI:List (Str×hX):=[("_law_draw",Pj),("_law_whole",ZK),("_law_alike",az),("_law_odd_word",P2),("_law_penned",PK),("_law_sought",M0),("_law_deeds",TN),("_law_is_name",Mz),("_law_begun",PY),("_law_named",NH),("_law_added",TB),("_law_led",NX),("_law_turned",M5),("_law_penned_in",Rn),("_law_name_of",PF),("_law_shown",S9),("_law_barred",Sl),("_law_joined",Sa),("_law_changed",SK),("_law_played",Sg),("_law_at",QU),("_law_text_of",SW),("_law_texts",TY)]
noncomputable def bw:List Str:=["isinstance","list","tuple","str","int","bool","len","range","sum","sorted","set","enumerate","all","min"]
def Kb(K:Frag):=(bH K 38,bX K Us,bJ K 327,bK K 327 Uk,Ud K Uo,Ud K UI,bw.map (nsIn K g0))
def Kc:=(bx Jt 38,bA 38 Us,bU 327,bq Uk,Uu Uo,Uu UI,bw.map fun _=>(some none:Option (Option AB)))
def UZ(_:qa)(h:qY):Prop:=∃K:Frag,K.In h/\Kb K=Kc
abbrev DB:qV:=PySem.Challenge.pw_pagenook_k05_whole_renamed
noncomputable def F1:qV:=view DB ((List.range 59).filter fun i=> !([1,9,12,17,23,26,33]:List Nat).contains i)
noncomputable def hZ:Pos:=⟨0,0,0,0⟩
noncomputable def Lm:Env:={scope:=DB.main.scope,locals:=mainNs,globals:=mainNs,cells:=[],code:=.ref 13,frame:=some 14}
def hC:Code:=.body (rQ DB) Lm
noncomputable def hO(cls:AB)(d:Data)(sl:Array (Option AB)):Obj:={cls:=cls,data:=d,slots:=sl}
noncomputable def oX(P:Params):BT:=
 let n (o:Obj):=BT.node o .nil .nil
 .node (boot_o_0 P) (.node (boot_o_1 P) (.node (boot_o_3 P) (n (boot_o_7 P)) (n (hO (.type "tuple") (.seq #[] 0) #[]))) (.node (boot_o_5 P) (n (boot_o_9 P))
  (n (hO (.type "code") (.fields #[.str "<module>" 182,.str "<module>" 183,.str "/claim/cut.py" 184,.int 1 0,.int 0 0,.int 0 0,.int 0 0,.int 0 0,.ref 11,.bool false,.int 181 0,.ref 12,.none,.none,.none,.none,.int 185 0,.int 1 0,.str "/claim/cut.py" 186]) #[]))))
  (.node (boot_o_2 P) (.node (boot_o_4 P) (n (boot_o_8 P)) (n (hO .none (.fields #[]) #[]))) (.node (boot_o_6 P) (n (boot_o_10 P)) (n (hO (.type "frame") .plain #[some (.ref 13),some (.ref 3),some (.ref 3),none,some (.str "__main__" 164),none,some (.ref 0)]))))
noncomputable def hS(w:qa)(os:OsState):SharedT:=⟨oX w.params,15,(ql w.params).life,#[],tD,187,os⟩
noncomputable def Ij(w:qa)(os:OsState):Option (Flow×SharedT×Code×Pos):=Fast.tw10110043849684766642 Fast.tw14364793385576792824 DB w 11 (some (.ref 6)) 1 3702 (hS w os) (piecesOf (rQ DB) Lm hC hZ [topFrame hZ])
theorem oH(w:qa):(fun os=>(Ij w os).map fun z=>(z.1,z.2.2.1,staticsOk (qi DB.main.body) (ql w.params) z.2.1.abs.heap&&namesBound DB z.2.1.abs.heap&&gensDone z.2.1.abs&&laidKept (ql w.params) z.2.1.abs.heap))=fun _=>some (Flow.next,hC,true):=by kernel_rfl
theorem mj(w:qa):(fun os=>(Ij w os).map fun z=>Fast.tw4187177175401517315 F1 [] (qi DB.main.body) (fun s=>xlAt F1 [] s&&recOk [] s) true z.2.1.abs)=fun _=>some (openGood F1 []):=by kernel_rfl
theorem oP(w:qa):(fun os=>(Ij w os).map fun z=>Kb (Pt z.2.1.abs.heap))=fun _=>some Kc:=by kernel_rfl
theorem pB(w:qa):(fun os=>topGo qr DB w 11 (some (.ref 6)) 12 ⟨ql w.params,#[],tD,boot_toks,os⟩ (topStub DB))=fun os=>some ((hS w os).abs,⟨denote qr hC,hC,hZ,[topFrame hZ]⟩):=by kernel_rfl
theorem nL(w:qa):((ql w.params).isNs g0&&(#[]:Array rR).size==0,(ql w.params).objs.size,(ql w.params).nsMap g0 "__annotations__")=(true,11,some (.ref 6)):=by kernel_rfl
theorem nM:PySem.Challenge.rw_pagenook_k05_whole_renamed.wellSaid=true:=by ac_rfl
theorem pf(w:qa)(os:OsState):segRunT qr DB w 11 (some (.ref 6)) 1 3702 (hS w os) (piecesOf (rQ DB) Lm hC hZ [topFrame hZ])=Ij w os:=by unfold Ij;rw[<-Fast.te10110043849684766642,<-Fast.te14364793385576792824]
end
variable{w:qa}{os:OsState}
section
open PySem.W
theorem jo{s:SharedT}{q:Pos}(h:Ij w os=some (.next,s,hC,q)):
 topRun qr DB w 11 (some (.ref 6)) (12+(1+(3702+2))) ⟨ql w.params,#[],tD,boot_toks,os⟩ (topStub DB)=some s.abs:=by
 refine go_top (congrFun (pB w) os) (piece_block (s':=(hS w os).abs) (p':=hZ) (env:=Lm) (b:=rQ DB) rfl ?_);have k:=piece_app (env:=Lm) (rest:=[]) (segRun_of ((pf w os).trans h)) (piece_nil (env:=Lm) (N:=2) (r:=s.abs) rfl);rw[C5] at k;exact k
theorem qQ:opening DB=plainProg DB.main.scope.names:=by kernel_rfl
theorem pq(s:Yf):fenceModules? DB s=some s:=by kernel_rfl
theorem qM(w:qa):∃os,fencedOpening qr DB w 7528=some ⟨ql w.params,#[],tD,boot_toks,os⟩:=by obtain⟨⟨h,gs,d,k,os⟩,e,e'⟩:=N5.mp (boot_open qQ (N:=7528) (by decide) pq w);cases e';exact⟨os,e⟩
end
variable{ann:Option AB}{s:Yf}
section
open PySem.W
theorem qL{p:qV}{n₀ n N:Nat}{r:Yf}{t:Thread}(h:topRun qr p w n₀ ann n s t=some r)(k:n+(N-n)=N):topRun qr p w n₀ ann N s t=some r:=
 k▸topRun_mono (N-n) n s t r h
end
variable{α β:Type}
section
open PySem.W
theorem bN{o:Option α}{f:α->β}{z:α}{y:β}(e:o=some z)(r:o.map f=some y):f z=y:=by subst e;exact Ag r
theorem pP{p q:qV}{N n₀:Nat}{X:Yf->Bool}{Y:Yf->α}{y:α}{s₀ s₁:Yf}(e:fencedOpening qr p w N=some s₀)
 (z:(s₀.heap.isNs g0&&s₀.gens.size==0,s₀.heap.objs.size,s₀.heap.nsMap g0 "__annotations__")=(true,n₀,ann))(t:topRun qr p w n₀ ann N s₀ (topStub p)=some s₁)
 (g:(staticsOk (qi p.main.body) s₀.heap s₁.heap&&namesBound p s₁.heap&&gensDone s₁&&laidKept s₀.heap s₁.heap)=true)(r1:openSeen q [] (qi p.main.body) X true s₁=openGood q [])(r2:Y s₁=y):
 (openEnds qr p w N).map (fun s=>(openSeen q [] (qi p.main.body) X true s,Y s))=some (openGood q [],y):=by
 obtain⟨z1,z2,z3⟩:_/\_/\_:=by simpa only[K6] using z
 subst z2 z3;unfold openEnds;rw[e,MT];unfold topFrom;rw[z1];dsimp only;rw[t,MT,g];dsimp only;rw[OO,r1,r2]
theorem p8{s:SharedT}{q:Pos}(h:Ij w os=some (.next,s,hC,q)):openSeen F1 [] (qi DB.main.body) (fun s=>xlAt F1 [] s&&recOk [] s) true s.abs=openGood F1 []:=by rw[Fast.te4187177175401517315];have k:=bN h (congrFun (mj w) os);exact k
theorem qB{s:SharedT}{q:Pos}(h:Ij w os=some (.next,s,hC,q)):Kb (Pt s.abs.heap)=Kc:=
 have k:=bN h (congrFun (oP w) os)
 k
theorem px(w:qa)(os:OsState):∃s q,Ij w os=some (.next,s,hC,q)/\(staticsOk (qi DB.main.body) (ql w.params) s.abs.heap&&namesBound DB s.abs.heap&&gensDone s.abs&&laidKept (ql w.params) s.abs.heap)=true:=by obtain⟨⟨f,s,c,q⟩,er,r0⟩:=N5.mp (congrFun (oH w) os);obtain⟨e1,e2⟩:=LD r0;obtain⟨e3,e4⟩:=LD e2;dsimp only at e1 e3;subst e1 e3;exact⟨s,q,er,e4⟩
theorem mm:LeftO DB F1 [] (fun s=>xlAt F1 [] s&&recOk [] s) (fun s=>Kb (Pt s.heap)) (fun _=>Kc) 7528:=fun w=>
 have⟨os,e⟩:=qM w;have⟨_,_,er,g⟩:=px w os
 pP e (nL w) (qL (jo er) (by decide)) g (p8 er) (qB er)
theorem jK(h:qY):(Pt h).In h:=by
 intro a o e;have m:∀{l:List (Ya×Obj)},l.lookup a=some o->(a,o)∈l:=by
  intro l
  induction l with
  |nil=>intro z;cases z
  |cons p l ih=>
   intro z;obtain⟨b,u⟩:=p;rw[Gq] at z
   cases hb:a==b with
   |true=>rw[hb] at z;cases z;rw[FC.mp hb];exact Di
   |false=>rw[hb] at z;exact DE _ (ih z)
 obtain⟨b,_,q⟩:=Qn.mp (m e);obtain⟨u,hu,q⟩:=N5.mp q;cases q;exact hu
theorem qS(hc:∀d:DefRec,d.name="law" ->d.params.defaults=[]->WalkO F1 [] (XL F1 []) UZ PySem.Challenge.rw_pagenook_k05_whole_renamed.row.toRowW d [] (fun f vs=>PySem.call f vs)):PySem.Challenge.rw_pagenook_k05_whole_renamed.Holds:=by
 refine holds_law nM fun said=>?_;refine holds_open (q:=F1) (loose:=[]) (Xt:=fun s=>xlAt F1 [] s&&recOk [] s) (XP:=XL F1 []) (YP:=UZ) (N:=7528) mm (fun _ s e=>⟨_,jK s.heap,e⟩) (fun _ _ _ ⟨K,k,e⟩ q=>⟨K,fun a o z=>q a o (k a o z),e⟩)
  (fun s e=>xl_of s (Bool.and_eq_true_iff.mp e).1) XL.keeps (by rfl) (by rfl) (by rfl) (fun s e=>recFacts_of (Bool.and_eq_true_iff.mp e).2) (by rfl) said (by ac_rfl) ⟨rfl,rfl,rfl,rfl,rfl,by ac_rfl⟩ ?hw ?hc;case hw=>w_witness2
 case hc=>exact hc _ rfl rfl
end
abbrev Key:=Sum Int Str
noncomputable def JN:Key->AB->Bool
 |.inl k,v=>Value.isInt k v
 |.inr x,v=>Value.isStrOf x v
noncomputable def pH(w:qa):Key->Int
 |.inl k=>hashInt k
 |.inr x=>hashStr w x
theorem GF:∀{k:Key}{v:AB},JN k v=true->(∃i t,k=Sum.inl i/\v=Value.int i t)\/(∃x t,k=Sum.inr x/\v=Value.str x t)
 |.inl i,v,h=>by obtain⟨t,e⟩:=Value.isInt_shape (k:=i) (v:=v) h;exact .inl ⟨i,t,rfl,e⟩
 |.inr x,v,h=>by obtain⟨t,e⟩:=Value.isStrOf_shape (x:=x) (v:=v) h;exact .inr ⟨x,t,rfl,e⟩
theorem eU(i:Int)(t:Tok):JN (.inl i) (.int i t)=true:=by simp[JN,Value.isInt]
theorem fA(x:Str)(t:Tok):JN (.inr x) (.str x t)=true:=by simp[JN,Value.isStrOf]
theorem Yj(a b:Int):decide ((Sum.inl a:Key)=Sum.inl b)=(a==b):=by
 by_cases e:a=b
 ·subst e;simp
 ·have h:¬(Sum.inl a:Key)=Sum.inl b:=fun q=>e (Sum.inl.inj q);rw[BJ h];exact(OA.mpr e).symm
theorem Yx(a b:Str):decide ((Sum.inr a:Key)=Sum.inr b)=decide (a=b):=by
 by_cases e:a=b
 ·subst e;simp
 ·have h:¬(Sum.inr a:Key)=Sum.inr b:=fun q=>e (Sum.inr.inj q);rw[BJ h,BJ e]
theorem lz(a:Int)(b:Str):decide ((Sum.inl a:Key)=Sum.inr b)=false:=BJ (fun q=>nomatch q)
theorem lE(a:Str)(b:Int):decide ((Sum.inr a:Key)=Sum.inl b)=false:=BJ (fun q=>nomatch q)
def Cc(prog:qV)(w:qa):PySem.KeyKind prog w Key where
 is:=JN
 hash:=pH w
 inj:=fun v a b ha hb=>by
  rcases GF ha with⟨i,t,rfl,rfl⟩|⟨x,t,rfl,rfl⟩
  ·rcases GF hb with⟨j,u,rfl,e⟩|⟨y,u,rfl,e⟩
   ·injection e with e1 _;rw[e1]
   ·exact nomatch e
  ·rcases GF hb with⟨j,u,rfl,e⟩|⟨y,u,rfl,e⟩
   ·exact nomatch e
   ·injection e with e1 _;rw[e1]
 byValue:=fun k v h=>by rcases GF h with⟨i,t,rfl,rfl⟩|⟨x,t,rfl,rfl⟩<;>rfl
 pyHash:=fun hv h=>by
  rcases GF hv with⟨i,t,rfl,rfl⟩|⟨x,t,rfl,rfl⟩
  ·exact wpAny_pyHash_int h
  ·exact wpAny_pyHash_str h
 eqBool:=fun hu hv h=>by
  rcases GF hu with⟨i,t,rfl,rfl⟩|⟨x,t,rfl,rfl⟩
  ·rcases GF hv with⟨j,u,rfl,rfl⟩|⟨y,u,rfl,rfl⟩
   ·rw[Yj] at h;exact wpAny_eqBool_int h
   ·rw[lz] at h;exact SeqAt.EqAt.int_str i t y u _ _ _ _ h
  ·rcases GF hv with⟨j,u,rfl,rfl⟩|⟨y,u,rfl,rfl⟩
   ·rw[lE] at h;exact SeqAt.EqAt.str_int x t j u _ _ _ _ h
   ·rw[Yx] at h;exact wpAny_eqBool_str h
 «strs»:=fun k x t v h=>by
  rcases GF h with⟨i,u,rfl,e⟩|⟨y,u,rfl,e⟩
  ·exact nomatch e
  ·injection e with e1 _;subst e1;cases v<;>rfl
theorem cU(prog:qV)(w:qa)(i:Int)(t:Tok):(Cc prog w).is (.inl i) (.int i t)=true:=eU i t
theorem cV(prog:qV)(w:qa)(x:Str)(t:Tok):(Cc prog w).is (.inr x) (.str x t)=true:=fA x t
inductive V where
 |BA|bl (b:Bool)|int (i:Int)|str (x:Str)|F5 (b:Array UInt8)|Im (b:UInt64)|ref (a:Ya)|ty (n:String)
 deriving DecidableEq
def RelV:V->AB->Prop
 |.BA,u=>u=Value.none
 |.bl b,u=>u=Value.bool b
 |.int i,u=>∃t,u=Value.int i t
 |.str x,u=>∃t,u=Value.str x t
 |.F5 b,u=>∃t,u=Value.bytes b t
 |.Im b,u=>∃t,u=Value.float b t
 |.ref a,u=>u=Value.ref a
 |.ty n,u=>u=Value.type n
abbrev Vals:List V->List AB->Prop:=Paired RelV
theorem Vals.length{xs:List V}{us:List AB}(r:Vals xs us):xs.length=us.length:=I0 r
theorem Vals.get:∀{xs:List V}{us:List AB}{i:Nat}{x:V},Vals xs us->xs[i]? =some x->∃u,us[i]? =some u/\RelV x u
 |_,_,_,_,.nil,e=>by simp at e
 |_,_,0,_,.cons r _,e=>by simp at e;subst e;exact⟨_,rfl,r⟩
 |_,_,i+1,x,.cons _ t,e=>by obtain⟨u,h1,h2⟩:=Vals.get (i:=i) (x:=x) t (by simpa using e);exact⟨u,by simpa using h1,h2⟩
theorem Vals.set{x:V}{u:AB}(r:RelV x u):∀{xs:List V}{us:List AB}(i:Nat),Vals xs us->Vals (xs.set i x) (us.set i u)
 |_,_,_,.nil=>.nil
 |_,_,0,.cons _ t=>.cons r t
 |_,_,i+1,.cons q t=>.cons q (Vals.set r i t)
theorem Vals.append:∀{xs ys:List V}{us ws:List AB},Vals xs us->Vals ys ws->Vals (xs++ys) (us++ws)
 |_,_,_,_,.nil,s=>s
 |_,_,_,_,.cons r t,s=>.cons r (Vals.append t s)
theorem Vals.take:∀{xs:List V}{us:List AB}(n:Nat),Vals xs us->Vals (xs.take n) (us.take n)
 |_,_,0,_=>.nil
 |_,_,_+1,.nil=>.nil
 |_,_,n+1,.cons r t=>.cons r (Vals.take n t)
theorem Vals.drop:∀{xs:List V}{us:List AB}(n:Nat),Vals xs us->Vals (xs.drop n) (us.drop n)
 |_,_,0,r=>r
 |_,_,_+1,.nil=>.nil
 |_,_,n+1,.cons _ t=>Vals.drop n t
def De:Option V->Option AB->Prop
 |some v,some u=>RelV v u
 |none,none=>True
 |_,_=>False
def KV{κ:Type}:List (κ×V)->List (κ×AB)->Prop:=Paired fun(p:κ×V)(q:κ×AB)=>p.1=q.1/\RelV p.2 q.2
noncomputable def kV:Key->V
 |.inl i=>.int i
 |.inr x=>.str x
inductive HO where
 |lst (xs:List V)
 |tup (xs:List V)
 |dK (AA:List (Key×V))|dT (AA:List (List Key×V))
 |set (S:Int->Bool) (n:Nat)
 |ins (C dx:Ya) (fs:List (Str×V))
 |own (x:Ya)
 |xd (fs:List (Str×V))
 |met (f x:Ya)
 |Ks (lo hi:Int)
 |BR (o:Obj) (u:HO)
 |Je (ps:Array AB)
 |ext (φ:qY->Prop)
abbrev Hp:=Ya->Option HO
noncomputable def upd(H:Hp)(a:Ya)(o:HO):Hp:=fun b=>if b=a then some o else H b
variable{H:Hp}{a:Ya}
theorem AN{o:HO}:upd H a o a=some o:=by unfold upd;rw[AH rfl]
variable{b:Ya}
theorem AQ{o:HO}(h:b≠a):upd H a o b=H b:=by unfold upd;rw[AF h]
theorem KD{o u:HO}:upd (upd H a o) a u=upd H a u:=by funext b;unfold upd;split<;>rfl
theorem CZ{o u:HO}(h:H a=some o)(h':H b=some u)(d:o≠u):a≠b:=by intro e;subst e;rw[h] at h';exact d (Ag h')
theorem A2{o:HO}(h:H a=some o)(h':H b=none):a≠b:=by intro e;subst e;rw[h] at h';cases h'
section
variable(P:qV)(w:qa)
def BO(H:Hp)(h:qY)(a:Ya):HO->Prop
 |.lst xs=>xs.length<=sizeLine/\∃(AM:List AB)(n:Nat),Vals xs AM/\h.get? a=some {cls:=.type "list",data:=.seq AM.toArray n}
 |.tup xs=>xs.length<=sizeLine/\∃AM:List AB,Vals xs AM/\IsTup h a AM.toArray
 |.dK AA=>AA.length<=sizeLine/\(a==qj)=false/\∃vs,KV AA vs/\h.DictOf (Cc P w) a vs
 |.dT AA=>AA.length<=sizeLine/\(a==qj)=false/\∃xs:List (List Key×Ya×AB),
  Paired (fun(p:List Key×V)(q:List Key×Ya×AB)=>p.1=q.1/\H q.2.1=some (.tup (p.1.map kV))/\RelV p.2 q.2.2) AA xs/\
  ∃o es ep,h.get? a=some o/\o.ExactDict/\o.data=.dict es ep/\es.toList=xs.map (entryOfKey (rX (Cc P w)))/\(xs.map (·.1)).Nodup
 |.set S n=>h.SetOf (intKind P w) a S n
 |.ins C dx fs=>H dx=some (.own a)/\fs.length<=1000/\dx≠a/\h.get? a=some (rZ C dx)/\
  ∃mA,h.Ns1 dx mA/\(∀f,De (fs.lookup f) (mA f))/\tQ mA (fs.map (·.1))
 |.own _=>∃o,h.get? a=some o
 |.xd fs=>∃mA,h.Ns1 a mA/\∀f,De (fs.lookup f) (mA f)
 |.Ks lo hi=>∃t u v,h.get? a=some {cls:=.type "range",data:=.fields #[.int lo t,.int hi u,.int 1 v]}
 |.BR o u=>h.get? a=some o/\BO H h a u
 |.Je ps=>h.get? a=some {cls:=.none,data:=.fields ps}
 |.met f x=>h.get? a=some (methodObj (.ref f) (.ref x))
 |.ext φ=>φ h/\(∃o,h.get? a=some o)/\∀h1 h2:qY,φ h1->(∀o,h1.get? a=some o->h2.get? a=some o)->φ h2
def Bu(H:Hp)(h:qY):Prop:=∀a o,H a=some o->BO P w H h a o
end
variable{P:qV}{h:qY}
section
variable{o:HO}
theorem BO.lt(x:BO P w H h a o):a<h.objs.size:=by
 cases o with
 |lst xs=>obtain⟨_,_,_,_,e⟩:=x;exact Ay e
 |tup xs=>obtain⟨_,_,_,p⟩:=x;exact p.lt
 |dK AA=>obtain⟨_,_,_,_,o,_,_,e,_⟩:=x;exact Ay e
 |dT AA=>obtain⟨_,_,_,_,o,_,_,e,_⟩:=x;exact Ay e
 |set S n=>obtain⟨o,_,_,_,e,_⟩:=x;exact Ay e
 |ins C dx fs=>obtain⟨_,_,_,e,_⟩:=x;exact Ay e
 |own y=>obtain⟨_,e⟩:=x;exact Ay e
 |xd fs=>obtain⟨_,⟨_,_,_,e,_⟩,_⟩:=x;exact Ay e
 |Ks lo hi=>obtain⟨_,_,_,e⟩:=x;exact Ay e
 |BR ob u=>obtain⟨e,_⟩:=x;exact Ay e
 |Je ps=>exact Ay (show h.get? a=some _ from x)
 |met f y=>exact Ay (show h.get? a=some _ from x)
 |ext φ=>obtain⟨_,⟨_,e⟩,_⟩:=x;exact Ay e
theorem Paired.UL{α β:Type}{F G:α->β->Prop}:∀{l₁:List α}{l₂:List β},Paired F l₁ l₂->(∀a b,F a b->G a b)->Paired G l₁ l₂
 |_,_,.nil,_=>.nil
 |_,_,.cons r t,f=>.cons (f _ _ r) (Paired.UL t f)
end
variable{H':Hp}{h':qY}
section
variable{o:HO}
theorem BO.Ec(x:BO P w H h a o)(k:∀b u,(b=a\/H b=some (.own a))->h.get? b=some u->h'.get? b=some u)
 (ho:∀b,H b=some (.own a)->H' b=some (.own a))(ht:∀b xs,H b=some (.tup xs)->H' b=some (.tup xs)):BO P w H' h' a o:=by
 induction o with
 |lst xs=>obtain⟨z,AM,n,r,e⟩:=x;exact⟨z,AM,n,r,k _ _ (.inl rfl) e⟩
 |tup xs=>obtain⟨z,AM,r,ob,e,c⟩:=x;exact⟨z,AM,r,ob,k _ _ (.inl rfl) e,c⟩
 |dK AA=>obtain⟨z,y,vs,r,ob,es,ep,e,c⟩:=x;exact⟨z,y,vs,r,ob,es,ep,k _ _ (.inl rfl) e,c⟩
 |dT AA=>obtain⟨z,y,xs,r,ob,es,ep,e,c⟩:=x;exact⟨z,y,xs,Paired.UL r fun p q z=>⟨z.1,ht _ _ z.2.1,z.2.2⟩,ob,es,ep,k _ _ (.inl rfl) e,c⟩
 |set S n=>obtain⟨ob,es,ep,t,e,c⟩:=x;exact⟨ob,es,ep,t,k _ _ (.inl rfl) e,c⟩
 |ins C dx fs=>obtain⟨d,z,ne,e,mA,⟨od,es,ep,e2,c⟩,r⟩:=x;exact⟨ho _ d,z,ne,k _ _ (.inl rfl) e,mA,⟨od,es,ep,k _ _ (.inr d) e2,c⟩,r⟩
 |own y=>obtain⟨ob,e⟩:=x;exact⟨ob,k _ _ (.inl rfl) e⟩
 |xd fs=>obtain⟨mA,⟨od,es,ep,e,c⟩,r⟩:=x;exact⟨mA,⟨od,es,ep,k _ _ (.inl rfl) e,c⟩,r⟩
 |Ks lo hi=>obtain⟨t,u,v,e⟩:=x;exact⟨t,u,v,k _ _ (.inl rfl) e⟩
 |BR ob u ih=>obtain⟨e,q⟩:=x;exact⟨k _ _ (.inl rfl) e,ih q⟩
 |Je ps=>have e:h.get? a=some {cls:=.none,data:=.fields ps}:=x;show h'.get? a=some {cls:=.none,data:=.fields ps};exact k a _ (.inl rfl) e
 |met f y=>have e:h.get? a=some (methodObj (.ref f) (.ref y)):=x;show h'.get? a=some (methodObj (.ref f) (.ref y));exact k a _ (.inl rfl) e
 |ext φ=>obtain⟨p,⟨o,e⟩,st⟩:=x;exact⟨st _ _ p fun o q=>k _ _ (.inl rfl) q,⟨o,k _ _ (.inl rfl) e⟩,st⟩
theorem Bu.lt(x:Bu P w H h)(e:H a=some o):a<h.objs.size:=(x a o e).lt
theorem Bu.fresh(x:Bu P w H h)(e:h.objs.size<=a):H a=none:=by
 cases q:H a with
 |none=>rfl
 |some u=>exact absurd (C3 (x.lt q) e) (MY _)
theorem Bu.kept(x:Bu P w H h)(k:∀b u,h.get? b=some u->h'.get? b=some u):Bu P w H h':=fun a o e=>(x a o e).Ec (fun b u _ q=>k b u q) (fun _ q=>q) fun _ _ q=>q
theorem Bu.laid(x:Bu P w H h)(k:∀b u,h.get? b=some u->h'.get? b=some u)(hp:h.objs.size<=a)(new:BO P w (upd H a o) h' a o):Bu P w (upd H a o) h':=fun b u e=>by
 have hn:=x.fresh hp;by_cases hb:b=a
 ·subst hb;rw[AN] at e;cases e;exact new
 ·rw[AQ hb] at e;exact(x b u e).Ec (fun c v _ q=>k c v q) (fun c q=>by rw[AQ (A2 q hn)];exact q) fun c xs q=>by rw[AQ (A2 q hn)];exact q
end
def Rd(H:Hp)(a:Ya)(u:HO):Prop:=H a=some u\/∃o,H a=some (.BR o u)
theorem Rd.ok{u:HO}(r:Rd H a u)(x:Bu P w H h):BO P w H h a u:=by
 rcases r with r|⟨o,r⟩
 ·exact x a u r
 ·obtain⟨_,q⟩:=x a _ r;exact q
def N1:Option HO->Prop
 |some (.lst _)=>True
 |some (.dK _)=>True
 |some (.dT _)=>True
 |some (.set _ _)=>True
 |some (.ins _ _ _)=>True
 |some (.ext _)=>True
 |_=>False
section
variable{x e:Ya}{o':HO}
theorem Bu.write(ok:Bu P w H h)(mu:N1 (H x))(he:e=x\/H e=some (.own x))(k:∀b u,b≠e->h.get? b=some u->h'.get? b=some u)(heo:∃u,h'.get? e=some u)
 (new:BO P w (upd H x o') h' x o'):Bu P w (upd H x o') h':=fun b u q=>by
 have nown:∀c y,H c=some (.own y)->c≠x:=fun c y r z=>by subst z;rw[r] at mu;exact mu
 have ntup:∀c xs,H c=some (.tup xs)->c≠x:=fun c xs r z=>by subst z;rw[r] at mu;exact mu
 by_cases hb:b=x
 ·subst hb;rw[AN] at q;cases q;exact new
 ·rw[AQ hb] at q;by_cases hbe:b=e
  ·have q':H b=some (.own x):=by
    rcases he with z|z
    ·exact absurd (hbe.trans z) hb
    ·rw[hbe];exact z
   rw[q] at q';cases q';obtain⟨v,hv⟩:=heo;exact⟨v,by rw[hbe];exact hv⟩
  ·refine(ok b u q).Ec (fun c v hc r=>k c v ?_ r) (fun c r=>by rw[AQ (nown c b r)];exact r) fun c xs r=>by rw[AQ (ntup c xs r)];exact r
   rcases hc with rfl|hc
   ·exact hbe
   ·rintro rfl;rcases he with z|z
    ·exact nown c b hc z
    ·rw[hc] at z;cases z;exact hb rfl
end
structure Un(fs ex:List Ya)(H H':Hp)(h h':qY):Prop where
 keep:∀b o,h.get? b=some o->H b=none->b∉fs->b∉ex->h'.get? b=some o
 slot:∀b o,h.get? b=some o->H b=none->b∈fs->b∉ex->∃sl,h'.get? b=some {o with slots:=sl}
 free:∀b o,h.get? b=some o->H b=none->b∉ex->H' b=none
 there:∀b o,h.get? b=some o->b∉ex->∃o',h'.get? b=some o'
 E6:∀b xs,H b=some (.tup xs)->H' b=some (.tup xs)
 EL:∀b o u,H b=some (.BR o u)->H' b=some (.BR o u)
 E5:∀b ps,H b=some (.Je ps)->∃more,H' b=some (.Je (ps++more))
variable{H1:Hp}
section
variable{fs fs' ex ex':List Ya}{h1 h2:qY}{x e:Ya}{o:HO}
theorem Un.any(u:Un fs ex H H1 h h1){ob:Obj}(q:h.get? b=some ob)(n:H b=none)(hx:b∉ex):∃sl,h1.get? b=some {ob with slots:=sl}:=by
 by_cases hb:b∈fs
 ·exact u.slot b ob q n hb hx
 ·exact⟨ob.slots,u.keep b ob q n hb hx⟩
theorem Un.kept(k:∀b u,h.get? b=some u->h'.get? b=some u):Un fs ex H H h h':=
 ⟨fun b ob q _ _ _=>k b ob q,fun b ob q _ _ _=>⟨ob.slots,k b ob q⟩,fun _ _ _ n _=>n,fun b ob q _=>⟨ob,k b ob q⟩,fun _ _ q=>q,fun _ _ _ q=>q,fun _ ps q=>⟨#[],by rw[q];simp⟩⟩
theorem Un.refl:Un fs ex H H h h:=Un.kept fun _ _ q=>q
theorem Un.laid(k:∀b u,h.get? b=some u->h'.get? b=some u)(hp:h.objs.size<=a)(hn:H a=none):Un fs ex H (upd H a o) h h' where
 keep:=fun b u q _ _ _=>k b u q
 slot:=fun b u q _ _ _=>⟨u.slots,k b u q⟩
 free:=fun b u q n _=>by rw[AQ (BM (C3 (Ay q) hp))];exact n
 there:=fun b u q _=>⟨u,k b u q⟩
 E6:=fun b xs q=>by rw[AQ (A2 q hn)];exact q
 EL:=fun b u xs q=>by rw[AQ (A2 q hn)];exact q
 E5:=fun b ps q=>⟨#[],by rw[AQ (A2 q hn),q];simp⟩
theorem Un.write(mu:N1 (H x))(he:e=x\/H e=some (.own x))(k:∀b u,b≠e->h.get? b=some u->h'.get? b=some u)(heo:∃u,h'.get? e=some u):Un fs ex H (upd H x o) h h':=by
 have hx:∀b,H b=none->b≠x:=fun b n z=>by subst z;rw[n] at mu;exact mu
 have hb:∀b,H b=none->b≠e:=fun b n z=>by
  subst z;rcases he with r|r
  ·exact hx b n r
  ·rw[n] at r;cases r
 have hm:∀b u,H b=some u->¬N1 (some u)->b≠x:=fun b u q nm z=>by subst z;rw[q] at mu;exact nm mu
 refine⟨fun b u q n _ _=>k b u (hb b n) q,fun b u q n _ _=>⟨u.slots,k b u (hb b n) q⟩,fun b u q n _=>by rw[AQ (hx b n)];exact n,fun b u q _=>?_,
  fun b xs q=>by rw[AQ (hm b _ q fun z=>z)];exact q,fun b u xs q=>by rw[AQ (hm b _ q fun z=>z)];exact q,fun b ps q=>⟨#[],by rw[AQ (hm b _ q fun z=>z),q];simp⟩⟩;by_cases hbe:b=e
 ·subst hbe;exact heo
 ·exact⟨u,k b u hbe q⟩
end
noncomputable def QT(h:qY)(H:Hp):List Ya:=(List.range h.objs.size).filter fun a=>(H a).isSome
def Ig(h:qY)(H:Hp):qY:=hideAll h (QT h H)
theorem eZ(h:qY)(H:Hp):(Ig h H).objs.size=h.objs.size:=hideAll_size _ _
variable{o:Obj}
theorem iD(e:h.get? b=some o)(n:H b=none):(Ig h H).get? b=some o:=
 hideAll_get _ e fun hm=>by have q:(H b).isSome=true:=(IT.mp hm).2;rw[n] at q;simp at q
theorem ji(e:(Ig h H).get? b=some o):h.get? b=some o/\H b=none:=by
 have e':h.get? b=some o:=of_hideAll (QT h H) e;refine⟨e',?_⟩
 cases q:H b with
 |none=>rfl
 |some x=>have hm:b∈QT h H:=IT.mpr ⟨K4.mpr (Ay e'),by simp[q]⟩;have z:(Ig h H).get? b=none:=hideAll_none (QT h H) hm;rw[z] at e;cases e
structure Mod(K:tN)(mg:Str->Option AB)(base:qY):Prop where
 Nu:K.In base
 glob:base.Ns g0 mg
 blt:∃mb,base.Ns sr mb/\∀x:Str,x≠ "__name__" ->mb x=qc x
 nolimit:base.NoLimit
structure Cx where
 prog:qV
 w:qa
 K:tN
 mg:Str->Option AB
 base:qY
 A:qy
 N:List Str
 s₀:Yf
 H₀:Hp
 env:Env
 outer:List Env
 stack:List Env
 ex:List Ya
 fn:Str->Bool
 calm:Bool
 pn:List (Ya×Obj)
 xe:AB->Yf->Prop
noncomputable def Cr(l:List Env):List Ya:=l.filterMap (·.frame)
abbrev Cx.fs(X:Cx):List Ya:=Cr X.outer
def QP(sc:sL)(x:Str):Prop:=sc.names.lookup x=some .local\/sc.names.lookup x=some .cell\/sc.names.lookup x=some .free
def Loc(sc:sL)(x:Str):Prop:=sc.names.lookup x=some .local\/sc.names.lookup x=some .cell
def Look(env:Env)(h:qY)(m:Str->Option AB)(x:Str)(u:AB):Prop:=
 (env.kindOf x=some .local/\m x=some u)\/((env.kindOf x=some .cell\/env.kindOf x=some .free)/\∃c,env.cells.lookup x=some c/\h.IsCell c (some u))
structure Cx.Ok(X:Cx):Prop where
 mod:Mod X.K X.mg X.base
 kind:X.env.scope.kind=.function
 glob:X.env.globals=g0
 blt:X.env.builtins=sr
 above:X.s₀.heap.objs.size<=X.env.locals
 inj:∀x y c,X.env.cells.lookup x=some c->X.env.cells.lookup y=some c->x=y
 has:∀x,(X.env.kindOf x=some .cell\/X.env.kindOf x=some .free)->∃c,X.env.cells.lookup x=some c
 Ko:∀x c,X.fn x=true->X.env.cells.lookup x=some c->X.s₀.heap.objs.size<=c
 hd:X.calm=true->X.A.handled=none
 frames:X.A.frames=some X.stack
 Lx:X.stack=X.outer\/(X.stack=X.env::X.outer/\X.env.frame=some X.env.locals)
 QW:∀b∈X.ex,b≠X.env.locals/\∀x c,X.env.cells.lookup x=some c->c≠b
 bs:∀b o,X.base.get? b=some o->X.s₀.heap.get? b=some o/\X.H₀ b=none
 Gk:X.base.objs.size<=X.s₀.heap.objs.size
 Kg:∀b o,X.base.get? b=some o->b∉X.ex
 Kj:∀b∈X.ex,b∉X.fs
 E4:X.s₀.heap.FunFrames X.base X.outer
 IG:∀b∈X.fs,X.H₀ b=none
structure Inv(X:Cx)(pins:List (Ya×Obj))(σ:List (Option V))(H:Hp)(s:Yf):Prop where
 ok:X.Ok
 os:s.os=X.s₀.os
 bare:rO s.gens
 base:Un X.fs X.ex X.H₀ H X.s₀.heap s.heap
 loc:∃m,s.heap.Ns X.env.locals m/\∀(i:Nat)(x:Str)(v:V),X.N[i]? =some x->σ[i]? =some (some v)->QP X.env.scope x->∃u,RelV v u/\Look X.env s.heap m x u
 cell:∀x c,X.env.cells.lookup x=some c->∃v,s.heap.IsCell c v
 free:H X.env.locals=none
 DJ:∀x c,X.env.cells.lookup x=some c->H c=none
 pin:∀p∈X.pn++pins,s.heap.get? p.1=some p.2/\H p.1=none/\p.1≠X.env.locals/\p.1∉X.fs/\∀v,p.2.data≠.cell v
 hok:Bu X.prog X.w H s.heap
 len:σ.length=X.N.length
variable{X:Cx}
section
variable{σ:List (Option V)}
theorem Cx.Ok.pN(ok:X.Ok)(e:X.base.get? b=some o):b∉X.fs:=fun hb=>by have:=(ok.E4.mem hb).1;rw[e] at this;cases this
end
variable{pins:List (Ya×Obj)}
section
variable{σ:List (Option V)}
theorem Inv.bs(I:Inv X pins σ H s):∀b o,X.base.get? b=some o->s.heap.get? b=some o/\H b=none:=fun b o e=>⟨I.base.keep b o (I.ok.bs b o e).1 (I.ok.bs b o e).2 (I.ok.pN e) (I.ok.Kg b o e),I.base.free b o (I.ok.bs b o e).1 (I.ok.bs b o e).2 (I.ok.Kg b o e)⟩
theorem Inv.bk(I:Inv X pins σ H s):∀b o,X.base.get? b=some o->s.heap.get? b=some o:=fun b o e=>(I.bs b o e).1
theorem Inv.mod(I:Inv X pins σ H s):Mod X.K X.mg X.base:=I.ok.mod
theorem Inv.BQ(I:Inv X pins σ H s):X.K.In s.heap:=I.ok.mod.Nu.keeps I.bk
theorem Inv.fr(I:Inv X pins σ H s):∃m,Fr X.base X.env.locals s.heap m:=
 let⟨m,hn,_⟩:=I.loc
 ⟨m,hn,I.bk,BF I.ok.Gk I.ok.above⟩
theorem Inv.lt(I:Inv X pins σ H s):X.env.locals<s.heap.objs.size:=let⟨_,hn,_⟩:=I.loc;hn.lt
theorem Inv.sz(I:Inv X pins σ H s):X.s₀.heap.objs.size<=s.heap.objs.size:=BF I.ok.above (Fl I.lt)
theorem Inv.pM(I:Inv X pins σ H s)(h:s.heap.objs.size<=a):a∉X.fs:=fun hb=>by obtain⟨_,o,ho,_⟩:=I.ok.E4.mem hb;exact absurd (C3 (Ay ho) (BF I.sz h)) (MY _)
theorem Inv.Ji(I:Inv X pins σ H s):∀x c,X.env.cells.lookup x=some c->c≠X.env.locals:=fun x c e z=>by obtain⟨v,o,ho,hd⟩:=I.cell x c e;obtain⟨m,⟨o',es,ep,ho',hd',_⟩,_⟩:=I.loc;rw[z,ho'] at ho;cases ho;rw[hd'] at hd;cases hd
theorem Inv.E4(I:Inv X pins σ H s):s.heap.FunFrames X.base X.outer:=by
 have all:∀(l:List Env),(∀b∈Cr l,b∈X.fs)->X.s₀.heap.FunFrames X.base l->s.heap.FunFrames X.base l:=by
  intro l
  induction l with
  |nil=>intro _ _;trivial
  |cons env r ih=>intro hs hl;obtain⟨hk,⟨L,o,hf,hn,ho,hd⟩,hr⟩:=hl;have hL:L∈X.fs:=hs L (by unfold Cr;rw[Qj,hf];exact Di);obtain⟨sl,e⟩:=I.base.slot L o ho (I.ok.IG L hL) hL fun z=>I.ok.Kj L z hL;exact⟨hk,⟨L,_,hf,hn,e,hd⟩,ih (fun b hb=>hs b (by unfold Cr;rw[Qj,hf];exact DE _ hb)) hr⟩
 exact all X.outer (fun _ hb=>hb) I.ok.E4
theorem Inv.stack(I:Inv X pins σ H s):s.heap.FunFrames X.base X.stack:=by
 rcases I.ok.Lx with e|⟨e,hf⟩
 ·rw[e];exact I.E4
 ·rw[e];obtain⟨m,hn,_⟩:=I.loc;refine .cons (by rw[I.ok.kind];decide) hf hn ?_ I.E4;exact Heap.get?_none_of_le (BF I.ok.Gk I.ok.above)
theorem Inv.ND(I:Inv X pins σ H s):∀b∈Cr X.stack,b∈X.env.locals::X.fs:=fun b hb=>by
 rcases I.ok.Lx with e|⟨e,hf⟩
 ·rw[e] at hb;exact DE _ hb
 ·rw[e] at hb;unfold Cr at hb;rw[Qj,hf] at hb;exact hb
theorem Inv.PH(I:Inv X pins σ H s):∀b∈Cr X.stack,H b=none:=fun b hb=>by
 rcases Ba.mp (I.ND b hb) with e|hb
 ·rw[e];exact I.free
 ·obtain⟨_,o,ho,_⟩:=I.ok.E4.mem hb;exact I.base.free b o ho (I.ok.IG b hb) fun z=>I.ok.Kj b z hb
end
variable{g':Array rR}{t':Nat}{ch:List Ya}
section
variable{σ:List (Option V)}
theorem Inv.step{d':Drawn}(I:Inv X pins σ H s)
 (hch:∀b∈ch,(b∈X.ex\/X.s₀.heap.objs.size<=b)/\b≠X.env.locals/\(∀x c,X.env.cells.lookup x=some c->c≠b)/\∀p∈X.pn++pins,p.1≠b)
 (keep:∀b o,b≠X.env.locals->b∉X.fs->b∉ch->s.heap.get? b=some o->H b=none->h'.get? b=some o)
 (slot:∀b o,b≠X.env.locals->b∈X.fs->b∉ch->s.heap.get? b=some o->H b=none->∃sl,h'.get? b=some {o with slots:=sl})(free:∀b o,b∉ch->s.heap.get? b=some o->H b=none->H' b=none)
 (there:∀b o,b∉ch->s.heap.get? b=some o->∃o',h'.get? b=some o')
 (E6:∀b xs,H b=some (.tup xs)->H' b=some (.tup xs))(EL:∀b o u,H b=some (.BR o u)->H' b=some (.BR o u))(E5:∀b ps,H b=some (.Je ps)->∃more,H' b=some (.Je (ps++more)))
 (ns:∀m,s.heap.Ns X.env.locals m->h'.Ns X.env.locals m)(hok:Bu X.prog X.w H' h')(hg:rO g'):
 Inv X pins σ H' {s with heap:=h',gens:=g',drawn:=d',toks:=t'}:=by
 have neL:∀b o,X.s₀.heap.get? b=some o->b≠X.env.locals:=fun b o e=>BM (C3 (Ay e) I.ok.above);have neC:∀b o,X.s₀.heap.get? b=some o->b∉X.ex->b∉ch:=fun b o e hx hb=>by
  rcases(hch b hb).1 with z|z
  ·exact hx z
  ·exact absurd (C3 (Ay e) z) (MY _)
 have cellK:∀x c,X.env.cells.lookup x=some c->∀v,s.heap.IsCell c v->h'.IsCell c v:=fun x c e v ⟨o,ho,hd⟩=>by
  have nch:c∉ch:=fun z=>(hch c z).2.2.1 x c e rfl;by_cases hc:c∈X.fs
  ·obtain⟨sl,q⟩:=slot c o (I.Ji x c e) hc nch ho (I.DJ x c e);exact⟨_,q,hd⟩
  ·exact⟨o,keep c o (I.Ji x c e) hc nch ho (I.DJ x c e),hd⟩
 refine⟨I.ok,I.os,hg,⟨fun b o e n hb hx=>?_,fun b o e n hb hx=>?_,fun b o e n hx=>?_,fun b o e hx=>?_,fun b xs e=>E6 b xs (I.base.E6 b xs e),fun b o xs e=>EL b o xs (I.base.EL b o xs e),fun b ps e=>?_⟩,?_,fun x c e=>?_,?_,fun x c e=>?_,fun p hp=>?_,hok,I.len⟩
 ·exact keep b o (neL b o e) hb (neC b o e hx) (I.base.keep b o e n hb hx) (I.base.free b o e n hx)
 ·obtain⟨sl,e1⟩:=I.base.slot b o e n hb hx;obtain⟨sl',e2⟩:=slot b _ (neL b o e) hb (neC b o e hx) e1 (I.base.free b o e n hx);exact⟨sl',e2⟩
 ·obtain⟨o',e1⟩:=I.base.there b o e hx;exact free b o' (neC b o e hx) e1 (I.base.free b o e n hx)
 ·obtain⟨o',e1⟩:=I.base.there b o e hx;exact there b o' (neC b o e hx) e1
 ·obtain⟨m1,e1⟩:=I.base.E5 b ps e;obtain⟨m2,e2⟩:=E5 b _ e1;exact⟨m1++m2,by rw[e2,Array.append_assoc]⟩
 ·obtain⟨m,hn,hl⟩:=I.loc;refine⟨m,ns m hn,fun i x v e1 e2 e3=>?_⟩;obtain⟨u,r,l⟩:=hl i x v e1 e2 e3;refine⟨u,r,?_⟩;rcases l with l|⟨k,c,e,z⟩
  ·exact .inl l
  ·exact .inr ⟨k,c,e,cellK x c e _ z⟩
 ·obtain⟨v,z⟩:=I.cell x c e;exact⟨v,cellK x c e v z⟩
 ·obtain⟨m,⟨o,_,_,ho,_⟩,_⟩:=I.loc;exact free _ o (fun z=>(hch _ z).2.1 rfl) ho I.free
 ·obtain⟨v,o,ho,hd⟩:=I.cell x c e;exact free c o (fun z=>(hch c z).2.2.1 x c e rfl) ho (I.DJ x c e)
 ·obtain⟨e,n,ne,nf,d⟩:=I.pin p hp;have nch:p.1∉ch:=fun z=>(hch p.1 z).2.2.2 p hp rfl;exact⟨keep p.1 p.2 ne nf nch e n,free p.1 p.2 nch e n,ne,nf,d⟩
theorem Inv.un(I:Inv X pins σ H s)(u:Un X.fs [] H H' s.heap h')(hok:Bu X.prog X.w H' h'):Inv X pins σ H' {s with heap:=h',toks:=t'}:=by
 obtain⟨m,⟨o,es,ep,ho,r⟩,_⟩:=id I.loc;obtain⟨sl,hL⟩:=u.any ho I.free (by simp);exact I.step (g':=s.gens) (d':=s.drawn) (ch:=[]) (fun _ z=>nomatch z) (fun b o _ hb _ e n=>u.keep b o e n hb (by simp)) (fun b o _ hb _ e n=>u.slot b o e n hb (by simp)) (fun b o _ e n=>u.free b o e n (by simp)) (fun b o _ e=>u.there b o e (by simp)) u.E6 u.EL u.E5 (fun m' hm=>by obtain⟨o',es',ep',ho',r'⟩:=hm;rw[ho] at ho';cases ho';exact⟨_,es',ep',hL,r'⟩) hok I.bare
theorem Inv.call{d':Drawn}(I:Inv X pins σ H s)(u:Un (Cr X.stack) ch H H' s.heap h')(hok:Bu X.prog X.w H' h')(hg:rO g')
 (hch:∀b∈ch,(b∈X.ex\/X.s₀.heap.objs.size<=b)/\b≠X.env.locals/\(∀x c,X.env.cells.lookup x=some c->c≠b)/\∀p∈X.pn++pins,p.1≠b):
 Inv X pins σ H' {s with heap:=h',gens:=g',drawn:=d',toks:=t'}:=by
 obtain⟨m,⟨o,es,ep,ho,r⟩,_⟩:=id I.loc;obtain⟨sl,hL⟩:=u.any ho I.free fun z=>(hch _ z).2.1 rfl;exact I.step (ch:=ch) hch (fun b o hL hb hc e n=>u.keep b o e n (fun z=>(Ba.mp (I.ND b z)).elim hL hb) hc) (fun b o _ _ hc e n=>u.any e n hc) (fun b o hc e n=>u.free b o e n hc) (fun b o hc e=>u.there b o e hc) u.E6 u.EL u.E5 (fun m' hm=>by obtain⟨o',es',ep',ho',r'⟩:=hm;rw[ho] at ho';cases ho';exact⟨_,es',ep',hL,r'⟩) hok hg
theorem Inv.turned{it:Ya}(I:Inv X pins σ H s)(k:∀b o,b≠it->s.heap.get? b=some o->h'.get? b=some o)(hn:H it=none)(hL:it≠X.env.locals)
 (h1:it∈X.ex\/X.s₀.heap.objs.size<=it)(h2:∀x c,X.env.cells.lookup x=some c->c≠it)(h3:∀p∈X.pn++pins,p.1≠it):Inv X pins σ H {s with heap:=h',toks:=t'}:=by
 have nit:∀b u,H b=some u->b≠it:=fun b u e z=>by rw[z,hn] at e;cases e
 refine I.step (g':=s.gens) (d':=s.drawn) (ch:=[it]) (fun b hb=>?_) (fun b o _ _ hc e _=>k b o (fun z=>hc (by simp[z])) e) (fun b o _ _ hc e _=>⟨o.slots,k b o (fun z=>hc (by simp[z])) e⟩) (fun _ _ _ _ n=>n)
  (fun b o hc e=>⟨o,k b o (fun z=>hc (by simp[z])) e⟩) (fun _ _ e=>e) (fun _ _ _ e=>e) (fun b ps e=>⟨#[],by rw[e];simp⟩) (fun m hm=>?_) (fun b u e=>?_) I.bare
 ·have e:b=it:=by simpa using hb
  subst e;exact⟨h1,hL,h2,h3⟩
 ·obtain⟨o,es,ep,ho,r⟩:=hm;exact⟨o,es,ep,k _ o (DG hL) ho,r⟩
 ·refine(I.hok b u e).Ec (fun c v hc q=>k c v ?_ q) (fun _ q=>q) fun _ _ q=>q;rcases hc with z|z
  ·rw[z];exact nit b u e
  ·exact nit c _ z
theorem Inv.tok(I:Inv X pins σ H s)(t:Nat):Inv X pins σ H {s with toks:=t}:=I.un (h':=s.heap) (t':=t) Un.refl I.hok
theorem Inv.kept{t':Nat}(I:Inv X pins σ H s)(k:∀b u,s.heap.get? b=some u->h'.get? b=some u):Inv X pins σ H {s with heap:=h',toks:=t'}:=I.un (Un.kept k) (I.hok.kept k)
theorem Inv.laid{a:Ya}{o:HO}{t':Nat}(I:Inv X pins σ H s)(k:∀b u,s.heap.get? b=some u->h'.get? b=some u)(hp:s.heap.objs.size<=a)(new:BO X.prog X.w (upd H a o) h' a o):
 Inv X pins σ (upd H a o) {s with heap:=h',toks:=t'}:=I.un (Un.laid k hp (I.hok.fresh hp)) (I.hok.laid k hp new)
theorem Inv.write{x e:Ya}{o:HO}{t':Nat}(I:Inv X pins σ H s)(mu:N1 (H x))(he:e=x\/H e=some (.own x))(k:∀b u,b≠e->s.heap.get? b=some u->h'.get? b=some u)(heo:∃u,h'.get? e=some u)
 (new:BO X.prog X.w (upd H x o) h' x o):Inv X pins σ (upd H x o) {s with heap:=h',toks:=t'}:=I.un (Un.write mu he k heo) (I.hok.write mu he k heo new)
theorem Inv.weak{σ':List (Option V)}(I:Inv X pins σ H s)(hl:σ'.length=σ.length)(w:∀(i:Nat) v,σ'[i]? =some (some v)->σ[i]? =some (some v)):Inv X pins σ' H s:=
 ⟨I.ok,I.os,I.bare,I.base,let⟨m,hn,hl'⟩:=I.loc;⟨m,hn,fun i x v e1 e2 e3=>hl' i x v e1 (w i v e2) e3⟩,I.cell,I.free,I.DJ,I.pin,I.hok,hl.trans I.len⟩
theorem Inv.YY{pins':List (Ya×Obj)}(I:Inv X pins σ H s)(h:∀p∈pins',s.heap.get? p.1=some p.2/\H p.1=none/\p.1≠X.env.locals/\p.1∉X.fs/\∀v,p.2.data≠.cell v):Inv X pins' σ H s:=
 ⟨I.ok,I.os,I.bare,I.base,I.loc,I.cell,I.free,I.DJ,fun p hp=>(Bh.mp hp).elim (fun z=>I.pin p (Hi _ z)) (h p),I.hok,I.len⟩
end
variable{N:List Str}{i j:Nat}{x:Str}
section
variable{σ:List (Option V)}
theorem XA(hN:N.Nodup)(a:N[i]? =some x)(b:N[j]? =some x):i=j:=by obtain⟨h1,e1⟩:=BX.mp a;obtain⟨h2,e2⟩:=BX.mp b;exact(List.getElem_inj hN).mp (e1.trans e2.symm)
end
variable{M:Model}{A:qy}{E:AB->Yf->Prop}{v:V}{u:AB}
section
variable{σ:List (Option V)}
theorem WO{Q:Unit->Yf->Prop}(I:Inv X pins σ H s)(hN:X.N.Nodup)(hi:X.N[i]? =some x)(hx:Loc X.env.scope x)(r:RelV v u)
 (h:∀s',Inv X pins (σ.set i (some v)) H s'->(∃a,Heap.SameBut a s.heap s'.heap/\(a=X.env.locals\/X.env.cells.lookup x=some a))->Q () s')(hf:X.fn x=true\/X.env.scope.names.lookup x=some .local:=by first|exact .inl rfl|exact .inr rfl|assumption):bt M A (storeName X.env x u) Q E s:=by
 obtain⟨m,hn,hl⟩:=id I.loc;have hcls:(X.env.scope.kind==.class||(X.env.scope.kind==.module&&X.env.locals !=X.env.globals))=false:=by rw[I.ok.kind];rfl
 have hiσ:i<σ.length:=by rw[I.len];exact(BX.mp hi).1
 have Ji:=I.Ji;have tracked:∀{a:Ya}{h':qY},(∃o,s.heap.get? a=some o/\H a=none)->Heap.SameBut a s.heap h'->Bu X.prog X.w H h':=fun{a h'} ha hs b ob e=>by
  obtain⟨_,_,hfree⟩:=ha;refine(I.hok b ob e).Ec (fun c w' hc q=>(hs.2 c ?_).trans q) (fun _ q=>q) fun _ _ q=>q;rintro rfl;rcases hc with rfl|hc
  ·rw[hfree] at e;cases e
  ·rw[hfree] at hc;cases hc
 rcases hx with hk|hk
 ·refine wpAny_storeName_local hk hn (fun h' hn' hs=>?_) hcls;obtain⟨oL,_,_,hoL,_⟩:=id hn;refine h _ ⟨I.ok,I.os,I.bare,⟨fun b o e n hb hx=>?_,fun b o e n hb hx=>?_,I.base.free,fun b o e hx=>?_,I.base.E6,I.base.EL,I.base.E5⟩,⟨_,hn',fun j y v' e1 e2 e3=>?_⟩,fun y c e=>?_,I.free,I.DJ,fun p hp=>?_,tracked ⟨oL,hoL,I.free⟩ hs,by simpa using I.len⟩ ⟨_,hs,.inl rfl⟩
  ·exact(hs.2 b (BM (C3 (Ay e) I.ok.above))).trans (I.base.keep b o e n hb hx)
  ·obtain⟨sl,e1⟩:=I.base.slot b o e n hb hx;exact⟨sl,(hs.2 b (BM (C3 (Ay e) I.ok.above))).trans e1⟩
  ·obtain⟨o',e1⟩:=I.base.there b o e hx;exact⟨o',(hs.2 b (BM (C3 (Ay e) I.ok.above))).trans e1⟩
  ·by_cases hj:j=i
   ·subst hj;rw[hi] at e1;cases e1;rw[N6 hiσ] at e2;cases e2;exact⟨u,r,.inl ⟨hk,by simp⟩⟩
   ·rw[N9 (DG hj)] at e2;obtain⟨u',r',q⟩:=hl j y v' e1 e2 e3;refine⟨u',r',?_⟩;rcases q with⟨k,e⟩|⟨k,c,e,z⟩
    ·refine .inl ⟨k,?_⟩;have:y≠x:=fun e=>hj (XA hN e1 (e▸hi));simp[this,e]
    ·exact .inr ⟨k,c,e,z.sameBut hs (Ji y c e)⟩
  ·obtain⟨w',z⟩:=I.cell y c e;exact⟨w',z.sameBut hs (Ji y c e)⟩
  ·obtain⟨e,n,ne,nf,d⟩:=I.pin p hp;exact⟨(hs.2 p.1 ne).trans e,n,ne,nf,d⟩
 ·have hfn:X.fn x=true:=by
   rcases hf with z|z
   ·exact z
   ·rw[z] at hk;cases hk
  obtain⟨c,hc⟩:=I.ok.has x (.inl hk);obtain⟨w',z⟩:=I.cell x c hc;refine wpAny_storeName_cell I.ok.kind hk hc z (fun h' hc' hs=>?_);obtain⟨oc,hoc,hocd⟩:=id z;refine h {s with heap:=h'} ⟨I.ok,I.os,I.bare,⟨fun b o e n hb hx=>?_,fun b o e n hb hx=>?_,I.base.free,fun b o e hx=>?_,I.base.E6,I.base.EL,I.base.E5⟩,⟨m,hn.sameBut hs (DG (Ji x c hc)),fun j y v' e1 e2 e3=>?_⟩,fun y c' e=>?_,I.free,I.DJ,fun p hp=>?_,tracked ⟨oc,hoc,I.DJ x c hc⟩ hs,by simpa using I.len⟩ ⟨c,hs,.inr hc⟩
  ·exact(hs.2 b (BM (C3 (Ay e) (I.ok.Ko x c hfn hc)))).trans (I.base.keep b o e n hb hx)
  ·obtain⟨sl,e1⟩:=I.base.slot b o e n hb hx;exact⟨sl,(hs.2 b (BM (C3 (Ay e) (I.ok.Ko x c hfn hc)))).trans e1⟩
  ·obtain⟨o',e1⟩:=I.base.there b o e hx;exact⟨o',(hs.2 b (BM (C3 (Ay e) (I.ok.Ko x c hfn hc)))).trans e1⟩
  ·by_cases hj:j=i
   ·subst hj;rw[hi] at e1;cases e1;rw[N6 hiσ] at e2;cases e2;exact⟨u,r,.inr ⟨.inl hk,c,hc,hc'⟩⟩
   ·rw[N9 (DG hj)] at e2;obtain⟨u',r',q⟩:=hl j y v' e1 e2 e3;refine⟨u',r',?_⟩;rcases q with q|⟨k,c',e,z'⟩
    ·exact .inl q
    ·refine .inr ⟨k,c',e,z'.sameBut hs ?_⟩;rintro rfl;exact hj (XA hN e1 (I.ok.inj _ _ _ e hc▸hi))
  ·by_cases hcc:c'=c
   ·subst hcc;exact⟨_,hc'⟩
   ·obtain⟨w2,z2⟩:=I.cell y c' e;exact⟨w2,z2.sameBut hs hcc⟩
  ·obtain⟨e,n,ne,nf,d⟩:=I.pin p hp;refine⟨(hs.2 p.1 ?_).trans e,n,ne,nf,d⟩;intro q;rw[q,hoc] at e;have q':oc=p.2:=Ag e;exact d w' (by rw[<-q'];exact hocd)
theorem SI{Q:Unit->Yf->Prop}(I:Inv X pins σ H s)(hN:X.N.Nodup)(hi:X.N[i]? =some x)(hx:Loc X.env.scope x)(r:RelV v u)
 (h:∀s',Inv X pins (σ.set i (some v)) H s'->Q () s')(hf:X.fn x=true\/X.env.scope.names.lookup x=some .local:=by first|exact .inl rfl|exact .inr rfl|assumption):bt M A (storeName X.env x u) Q E s:=
 WO I hN hi hx r (fun s' I' _=>h s' I') hf
theorem Inv.Pk{s':Yf}(I:Inv X pins σ H s)(ho:s'.os=s.os)(u:Un (Cr X.stack) ch H H' s.heap s'.heap)(hok:Bu X.prog X.w H' s'.heap)(hg:rO s'.gens)
 (hch:∀b∈ch,(b∈X.ex\/X.s₀.heap.objs.size<=b)/\b≠X.env.locals/\(∀x c,X.env.cells.lookup x=some c->c≠b)/\∀p∈X.pn++pins,p.1≠b):Inv X pins σ H' s':=by
 obtain⟨h',g',d',t',o'⟩:=s';have e:o'=s.os:=ho;subst e;exact I.call (g':=g') (t':=t') (d':=d') u hok hg hch
end
abbrev XK:=AB->Option Ya->Hp->Prop
abbrev St:=List (Option V)
abbrev VK:=V->Hp->Prop
abbrev TE:=St->Hp->VK->Prop
abbrev TT:=St->Hp->(Bool->Hp->Prop)->Prop
abbrev TA:=St->Hp->(List V->Hp->Prop)->Prop
structure Ends where
 nx:St->Hp->Prop
 rt:VK
 bk:St->Hp->Prop:=fun _ _=>False
 ct:St->Hp->Prop:=fun _ _=>False
abbrev TS:=Ends->St->Hp->Prop
def EP(X:Cx)(pins:List (Ya×Obj))(σ:St)(Q:VK)(u:AB)(s':Yf):Prop:=∃v H',Inv X pins σ H' s'/\RelV v u/\Q v H'
def TP(X:Cx)(pins:List (Ya×Obj))(σ:St)(Q:Bool->Hp->Prop)(b:Bool)(s':Yf):Prop:=∃H',Inv X pins σ H' s'/\Q b H'
def AP(X:Cx)(pins:List (Ya×Obj))(σ:St)(Q:List V->Hp->Prop)(us:List AB)(s':Yf):Prop:=∃vs H',Inv X pins σ H' s'/\Vals vs us/\Q vs H'
def SP(X:Cx)(pins:List (Ya×Obj))(D:Ends)(f:Flow)(s':Yf):Prop:=
 match f with
 |.next=>∃σ' H',Inv X pins σ' H' s'/\D.nx σ' H'
 |.brk=>∃σ' H',Inv X pins σ' H' s'/\D.bk σ' H'
 |.cont=>∃σ' H',Inv X pins σ' H' s'/\D.ct σ' H'
 |.ret u=>∃v σ' H',Inv X pins σ' H' s'/\RelV v u/\D.rt v H'
def PE(X:Cx)(e:hY)(t:TE):Prop:=
 ∀(pins:List (Ya×Obj))(s:Yf)(σ:St)(H:Hp)(Q:VK),Inv X pins σ H s->t σ H Q->bt (ax X.prog X.w) X.A (qZ e X.env) (EP X pins σ Q) X.xe s
def PT(X:Cx)(e:hY)(t:TT):Prop:=
 ∀(pins:List (Ya×Obj))(s:Yf)(σ:St)(H:Hp)(Q:Bool->Hp->Prop),Inv X pins σ H s->t σ H Q->bt (ax X.prog X.w) X.A (isTrue e X.env (qZ e X.env)) (TP X pins σ Q) X.xe s
def PW(X:Cx)(e:hY)(t:TT):Prop:=
 ∀(whole:Sem AB)(pins:List (Ya×Obj))(s:Yf)(σ:St)(H:Hp)(Q:Bool->Hp->Prop),Inv X pins σ H s->t σ H Q->bt (ax X.prog X.w) X.A (isTrue e X.env whole) (TP X pins σ Q) X.xe s
variable{e:hY}
theorem PW.pt{t:TT}(h:PW X e t):PT X e t:=h _
def PA(X:Cx)(es:List hY)(t:TA):Prop:=
 ∀(pos:Pos)(pins:List (Ya×Obj))(s:Yf)(σ:St)(H:Hp)(Q:List V->Hp->Prop),Inv X pins σ H s->t σ H Q->bt (ax X.prog X.w) X.A (spliced (qf pos (dy es X.env))) (AP X pins σ Q) X.xe s
def PS(X:Cx)(st:hX)(t:TS):Prop:=
 ∀(pins:List (Ya×Obj))(s:Yf)(σ:St)(H:Hp)(D:Ends),Inv X pins σ H s->t D σ H->bt (ax X.prog X.w) X.A (exec st X.env) (SP X pins D) X.xe s
def Ei(X:Cx)(st:List hX)(t:TS):Prop:=
 ∀(pins:List (Ya×Obj))(s:Yf)(σ:St)(H:Hp)(D:Ends),Inv X pins σ H s->t D σ H->bt (ax X.prog X.w) X.A (execs st X.env) (SP X pins D) X.xe s
theorem Ad{t:Sem α}{Q Q':α->Yf->Prop}(h:bt M A t Q E s)(hQ:∀a s,Q a s->Q' a s):bt M A t Q' E s:=C6 h hQ fun _ _ x=>x
section
variable{a b:hY}{tb:TE}{tA tB':TT}{rest:List hY}
def Ee(i:Nat):TE:=fun σ H Q=>∃v,σ[i]? =some (some v)/\Q v H
def tC(v:V):TE:=fun _ H Q=>Q v H
end
variable{pos:Pos}
section
variable{a b:hY}{tb:TE}{tA tB':TT}{rest:List hY}
theorem Y4(hN:X.N[i]? =some x)(hv:QP X.env.scope x)(hd:(x==("__debug__" :Str))=false:=by decide)(hcd:(x==("__classdict__" :Str))=false:=by decide):PE X (.Name x pos) (Ee i):=by
 intro pins s σ H Q I h;obtain⟨v,e,h⟩:=h;obtain⟨m,hn,hl⟩:=I.loc;obtain⟨u,r,l⟩:=hl i x v hN e hv;have fin:EP X pins σ Q u s:=⟨v,H,I,r,h⟩;rcases l with⟨hk,hm⟩|⟨hk,c,hc,hcell⟩
 ·exact wpAny_Name (wpAny_loadName_local I.ok.kind hk hn hm fin) hd
 ·rcases hk with hk|hk
  ·exact wpAny_Name (wpAny_loadName_cell I.ok.kind hk hc hcell fin) hd
  ·exact wpAny_Name (wpAny_loadName_free I.ok.kind hk hc hcell fin hcd) hd
theorem Ac{X:Cx}{i j pos}:PE X (.Constant (.int i) j pos) (tC (.int i)):=fun _ _ _ H _ I h=>wpAny_Constant_int ⟨.int i,H,I.tok _,⟨_,rfl⟩,h⟩
theorem Ia{b j pos}:PE X (.Constant (.bool b) j pos) (tC (.bl b)):=fun _ _ _ H _ I h=>Constant_bool ⟨.bl b,H,I,rfl,h⟩
theorem kQ{j pos}:PE X (.Constant .none j pos) (tC .BA):=fun _ _ _ H _ I h=>tM ⟨.BA,H,I,rfl,h⟩
theorem AY{X:Cx}{x j pos}:PE X (.Constant (.str x) j pos) (tC (.str x)):=fun _ _ _ H _ I h=>VU ⟨.str x,H,I.tok _,⟨_,rfl⟩,h⟩
def Gl(X:Cx)(x:Str):Prop:=X.env.kindOf x=some .globalImplicit
end
variable{σ:St}{Q:AB->Yf->Prop}
section
variable{a b:hY}{tb:TE}{tA tB':TT}{rest:List hY}
theorem LV(I:Inv X pins σ H s)(hg:Gl X x)(hm:X.mg x=some u)(h:Q u s)
 (hd:(x==("__debug__" :Str))=false:=by decide):bt (ax X.prog X.w) X.A (qZ (.Name x pos) X.env) Q E s:=
 Calls.Name_function_global I.ok.kind hg (Calls.loadGlobal_global (by rw[I.ok.glob];exact I.mod.glob.keeps I.bk) hm h) hd
theorem NG(I:Inv X pins σ H s)(hg:Gl X x)(hm:X.mg x=none)(hv:qc x=some u)(h:Q u s)
 (hn:x≠ "__name__" :=by decide)(hd:(x==("__debug__" :Str))=false:=by decide):bt (ax X.prog X.w) X.A (qZ (.Name x pos) X.env) Q E s:=by
 obtain⟨mb,h1,h2⟩:=I.mod.blt;exact Calls.Name_function_global I.ok.kind hg (Calls.loadGlobal_builtin (by rw[I.ok.glob];exact I.mod.glob.keeps I.bk) hm (by rw[I.ok.blt];exact h1.keeps I.bk) ((h2 x hn).trans hv) h) hd
theorem Ft(hg:Gl X x)(hm:X.mg x=none)(hv:qc x=some u)(r:RelV v u)(hn:x≠ "__name__" :=by decide)(hd:(x==("__debug__" :Str))=false:=by decide):PE X (.Name x pos) (tC v):=
 fun _ _ _ H _ I h=>NG I hg hm hv ⟨v,H,I,r,h⟩ hn hd
def PC(X:Cx)(op:CmpOp)(a b:hY)(t:TE):Prop:=
 ∀(pins:List (Ya×Obj))(s:Yf)(σ:St)(H:Hp)(Q:VK),Inv X pins σ H s->t σ H Q->
  bt (ax X.prog X.w) X.A (qZ a X.env) (fun v s₁=>bt (ax X.prog X.w) X.A (qZ b X.env) (fun u s₂=>bt (ax X.prog X.w) X.A (qW op v u) (EP X pins σ Q) X.xe s₂) X.xe s₁) X.xe s
end
variable{op:CmpOp}
section
variable{a b:hY}{tb:TE}{tA tB':TT}{rest:List hY}
theorem iH(b:hY)(h:op≠.In)(h2:op≠.NotIn):behindInMarks op b=false:=by
 have e1:(op==CmpOp.In)=false:=by cases op<;>first|rfl|exact absurd rfl h
 have e2:(op==CmpOp.NotIn)=false:=by cases op<;>first|rfl|exact absurd rfl h2
 cases b<;>simp[behindInMarks,e1,e2]
end
variable{ta:TE}
section
variable{a b:hY}{tb:TE}{tA tB':TT}{rest:List hY}
def og(ta:TE):TE:=fun σ H Q=>ta σ H fun x H1=>Q (.bl (decide (x=.BA))) H1
def nX(ta:TE):TE:=fun σ H Q=>ta σ H fun x H1=>Q (.bl (!decide (x=.BA))) H1
theorem RelV.W0{x:V}{v:AB}(r:RelV x v):(v==Value.none)=decide (x=.BA):=by
 cases x with
 |BA=>cases r;rfl
 |bl _=>cases r;rfl
 |int _=>obtain⟨t,rfl⟩:=r;rfl
 |str _=>obtain⟨t,rfl⟩:=r;rfl
 |F5 _=>obtain⟨t,rfl⟩:=r;rfl
 |Im _=>obtain⟨t,rfl⟩:=r;rfl
 |ref _=>cases r;rfl
 |ty _=>cases r;rfl
theorem lC{j pos'}(ha:PE X a ta):PC X .Is a (.Constant .none j pos') (og ta):=by intro pins s σ H Q I h;refine Ad (ha pins s σ H _ I h) fun v s1 ⟨x,H1,I1,r1,q1⟩=>?_;exact tM (is_none_gen ⟨.bl _,H1,I1,by rw[r1.W0];rfl,q1⟩)
theorem jE{j pos'}(ha:PE X a ta):PC X .IsNot a (.Constant .none j pos') (nX ta):=by intro pins s σ H Q I h;refine Ad (ha pins s σ H _ I h) fun v s1 ⟨x,H1,I1,r1,q1⟩=>?_;exact tM (isnot_none_gen ⟨.bl _,H1,I1,by rw[r1.W0];rfl,q1⟩)
def tB(t:TE):TT:=fun σ H Q=>t σ H fun x H1=>∃c,x=.bl c/\Q c H1
theorem JM{t:TE}(h:PC X op a b t)(h1:behindInMarks op b=false:=by first|exact iH _ (by decide) (by decide)|rfl):PT X (.Compare a [op] [b] pos) (tB t):=by intro pins s σ H Q I hw;refine wpAny_isTrue_Compare1 (Ad (h pins s σ H _ I hw) fun v s1 h1=>Ad h1 fun u s2 h2=>Ad h2 fun c s3 ⟨x,H1,I1,r1,q1⟩=>?_) h1;obtain⟨d,rfl,q⟩:=q1;cases r1;exact MQ ⟨H1,I1,q⟩
theorem EG{t:TE}(h:PE X e t)(he:∀whole,isTrue e X.env whole=(do let v<-whole;sZ e.pos;rS [v] (truthy v)):=by intro _;rfl):PT X e (tB t):=by intro pins s σ H Q I hw;refine isTrue_plain (Ad (h pins s σ H _ I hw) fun v s1 ⟨x,H1,I1,r1,q1⟩=>?_) (he _);obtain⟨d,rfl,q⟩:=q1;cases r1;exact MQ ⟨H1,I1,q⟩
def UE(t u:TT):TT:=fun σ H Q=>t σ H fun c H1=>if c=true then u σ H1 Q else Q false H1
def qK(t u:TT):TT:=fun σ H Q=>t σ H fun c H1=>if c=true then Q true H1 else u σ H1 Q
def pd(t:TT):TT:=fun σ H Q=>t σ H fun c H1=>Q (!c) H1
theorem G9(ha:PT X a tA):PW X (.BoolOp .And [a] pos) tA:=by
 intro wh pins s σ H Q I h;refine isTrue_and (Ad (ha pins s σ H Q I h) fun c s1 e=>?_)
 cases c with
 |true=>exact isTrue_and_nil e
 |false=>exact e
theorem JG(ha:PT X a tA):PW X (.BoolOp .Or [a] pos) tA:=by
 intro wh pins s σ H Q I h;refine isTrue_or (Ad (ha pins s σ H Q I h) fun c s1 e=>?_)
 cases c with
 |false=>exact isTrue_or_nil e
 |true=>exact e
theorem FJ(ha:PT X a tA)(hb:PW X (.BoolOp .And (b::rest) pos) tB'):PW X (.BoolOp .And (a::b::rest) pos) (UE tA tB'):=by
 intro wh pins s σ H Q I h;refine isTrue_and (Ad (ha pins s σ H _ I h) fun c s1 ⟨H1,I1,q1⟩=>?_)
 cases c with
 |true=>exact hb wh pins s1 σ H1 Q I1 q1
 |false=>exact⟨H1,I1,q1⟩
theorem JT(ha:PT X a tA)(hb:PW X (.BoolOp .Or (b::rest) pos) tB'):PW X (.BoolOp .Or (a::b::rest) pos) (qK tA tB'):=by
 intro wh pins s σ H Q I h;refine isTrue_or (Ad (ha pins s σ H _ I h) fun c s1 ⟨H1,I1,q1⟩=>?_)
 cases c with
 |true=>exact⟨H1,I1,q1⟩
 |false=>exact hb wh pins s1 σ H1 Q I1 q1
theorem Hx(ha:PT X a tA):PT X (.UnaryOp .Not a pos) (pd tA):=by intro pins s σ H Q I h;exact isTrue_not (ha pins s σ H (fun c H1=>Q (!c) H1) I h)
def oK(ta tb:TE):TE:=fun σ H Q=>ta σ H fun x H1=>∃c,x=.bl c/\if c=true then tb σ H1 Q else Q (.bl false) H1
def oS(ta:TE):TE:=fun σ H Q=>ta σ H fun x H1=>∃c,x=.bl c/\Q (.bl (!c)) H1
theorem Pc{op}{t:TE}(h:PE X a t):PE X (.BoolOp op [a] pos) t:=fun pins s σ H Q I hw=>BoolOp_one (h pins s σ H Q I hw)
theorem PV(ha:PE X a ta)(hb:PE X (.BoolOp .And (b::rest) pos) tb):PE X (.BoolOp .And (a::b::rest) pos) (oK ta tb):=by
 intro pins s σ H Q I h;refine BoolOp_and (Ad (ha pins s σ H _ I h) fun v s1 ⟨x,H1,I1,r1,q1⟩=>?_);obtain⟨c,rfl,q1⟩:=q1;cases r1;refine MQ ?_
 cases c with
 |true=>exact hb pins s1 σ H1 Q I1 q1
 |false=>exact⟨.bl false,H1,I1,rfl,q1⟩
theorem kH(ha:PE X a ta):PE X (.UnaryOp .Not a pos) (oS ta):=by intro pins s σ H Q I h;refine UnaryOp_ (Ad (ha pins s σ H _ I h) fun v s1 ⟨x,H1,I1,r1,q1⟩=>?_);obtain⟨c,rfl,q1⟩:=q1;cases r1;exact not_of (MQ ⟨.bl (!c),H1,I1,rfl,q1⟩)
def pk(t:TT)(ta tb:TE):TE:=fun σ H Q=>t σ H fun c H1=>if c=true then ta σ H1 Q else tb σ H1 Q
end
variable{c:hY}
section
variable{a b:hY}{tb:TE}{tA tB':TT}{rest:List hY}
theorem ij(hc:PT X c tA)(ha:PE X a ta)(hb:PE X b tb):PE X (.IfExp c a b pos) (pk tA ta tb):=by
 intro pins s σ H Q I h;refine wpAny_IfExp (Ad (hc pins s σ H _ I h) fun d s1 ⟨H1,I1,q1⟩=>?_)
 cases d with
 |true=>exact ha pins s1 σ H1 Q I1 q1
 |false=>exact hb pins s1 σ H1 Q I1 q1
end
def AJ(K:tN)(H:Hp)(a:Ya)(xs:List V):Prop:=
 Rd H a (.lst xs)\/
  ∃(o:Obj)(AM:Array AB)(n:Nat),K.lookup a=some o/\o.cls=.type "list" /\o.dict=none/\o.data=.seq AM n/\AM.size<=sizeLine/\Vals xs AM.toList
def AV(K:tN)(H:Hp)(a:Ya)(xs:List V):Prop:=
 Rd H a (.tup xs)\/
  ∃(o:Obj)(AM:Array AB)(n:Nat),K.lookup a=some o/\o.cls=.type "tuple" /\o.data=.seq AM n/\AM.size<=sizeLine/\Vals xs AM.toList
noncomputable def o7:AB->Option V
 |.none=>some .BA
 |.bool b=>some (.bl b)
 |.int i _=>some (.int i)
 |.str x _=>some (.str x)
 |.bytes b _=>some (.F5 b)
 |.float b _=>some (.Im b)
 |.ref a=>some (.ref a)
 |.type n=>some (.ty n)
 |_=>none
theorem RelV.abs{x:V}(r:RelV x u):o7 u=some x:=by
 cases x with
 |BA=>cases r;rfl
 |bl _=>cases r;rfl
 |int _=>obtain⟨t,rfl⟩:=r;rfl
 |str _=>obtain⟨t,rfl⟩:=r;rfl
 |F5 _=>obtain⟨t,rfl⟩:=r;rfl
 |Im _=>obtain⟨t,rfl⟩:=r;rfl
 |ref _=>cases r;rfl
 |ty _=>cases r;rfl
theorem RelV.inj{x y:V}{u:AB}(r:RelV x u)(q:RelV y u):x=y:=Ag (r.abs.symm.trans q.abs)
theorem Vals.inj:∀{xs ys:List V}{us:List AB},Vals xs us->Vals ys us->xs=ys
 |_,_,_,.nil,.nil=>rfl
 |_,_,_,.cons r t,.cons r' t'=>by rw[r.inj r',Vals.inj t t']
variable{K:tN}
section
variable{xs:List V}
theorem AJ.of(h:H a=some (.lst xs)):AJ K H a xs:=.inl (.inl h)
theorem AV.of(h:H a=some (.tup xs)):AV K H a xs:=.inl (.inl h)
theorem Inv.list(I:Inv X pins σ H s)(h:AJ X.K H a xs):∃AM:List AB,Vals xs AM/\PlainL s.heap a AM.toArray/\xs.length<=sizeLine:=by
 rcases h with h|⟨o,AM,n,hk,hc,hd,hs,hz,r⟩
 ·obtain⟨z,AM,n,r,e⟩:=h.ok I.hok;exact⟨AM,r,⟨_,n,e,rfl,rfl,rfl⟩,z⟩
 ·refine⟨AM.toList,r,⟨o,n,I.BQ a o hk,hc,hd,by simpa using hs⟩,?_⟩;have e:=r.length;simp only[Em] at e
  lia
theorem Inv.tuple(I:Inv X pins σ H s)(h:AV X.K H a xs):∃AM:List AB,Vals xs AM/\IsTup s.heap a AM.toArray/\xs.length<=sizeLine:=by
 rcases h with h|⟨o,AM,n,hk,hc,hs,hz,r⟩
 ·obtain⟨z,AM,r,p⟩:=h.ok I.hok;exact⟨AM,r,p,z⟩
 ·refine⟨AM.toList,r,⟨o,I.BQ a o hk,hc,n,by simpa using hs⟩,?_⟩;have e:=r.length;simp only[Em] at e
  lia
end
variable{ys:List V}
section
variable{xs:List V}
theorem Inv.Xa(I:Inv X pins σ H s)(h:AJ X.K H a xs)(h':AJ X.K H a ys):xs=ys:=by
 obtain⟨AM,r,⟨o,n,e,_,_,d⟩,_⟩:=I.list h;obtain⟨its',r',⟨o',n',e',_,_,d'⟩,_⟩:=I.list h';rw[e] at e';cases e';rw[d] at d';injection d' with d1 _;have:AM=its':=by simpa using BD Array.toList d1
 subst this;exact r.inj r'
end
abbrev Cx.IE(X:Cx)(E:AB->Yf->Prop):Cx:={X with xe:=E}
abbrev Cx.QK(X:Cx):Cx:=X.IE fun _ _=>False
theorem Cx.Ok.IE(ok:X.Ok)(E:AB->Yf->Prop):(X.IE E).Ok:=
 ⟨ok.mod,ok.kind,ok.glob,ok.blt,ok.above,ok.inj,ok.has,ok.Ko,ok.hd,ok.frames,ok.Lx,ok.QW,ok.bs,ok.Gk,ok.Kg,ok.Kj,ok.E4,ok.IG⟩
theorem Cx.Ok.JK(ok:(X.IE E).Ok):X.Ok:=
 ⟨ok.mod,ok.kind,ok.glob,ok.blt,ok.above,ok.inj,ok.has,ok.Ko,ok.hd,ok.frames,ok.Lx,ok.QW,ok.bs,ok.Gk,ok.Kg,ok.Kj,ok.E4,ok.IG⟩
theorem Inv.IE(I:Inv X pins σ H s)(E:AB->Yf->Prop):Inv (X.IE E) pins σ H s:=⟨I.ok.IE E,I.os,I.bare,I.base,I.loc,I.cell,I.free,I.DJ,I.pin,I.hok,I.len⟩
theorem Inv.JK(I:Inv (X.IE E) pins σ H s):Inv X pins σ H s:=⟨I.ok.JK,I.os,I.bare,I.base,I.loc,I.cell,I.free,I.DJ,I.pin,I.hok,I.len⟩
theorem SP.JK{D:Ends}{f:Flow}{s':Yf}(h:SP (X.IE E) pins D f s'):SP X pins D f s':=by
 cases f with
 |next=>obtain⟨σ',H',I,q⟩:=h;exact⟨σ',H',I.JK,q⟩
 |brk=>obtain⟨σ',H',I,q⟩:=h;exact⟨σ',H',I.JK,q⟩
 |cont=>obtain⟨σ',H',I,q⟩:=h;exact⟨σ',H',I.JK,q⟩
 |ret u=>obtain⟨v,σ',H',I,r,q⟩:=h;exact⟨v,σ',H',I.JK,r,q⟩
theorem Ei.QK{st:List hX}{t:TS}(h:Ei X.QK st t):Ei X st t:=fun pins s σ H D I hw=>C6 (h pins s σ H D (I.IE _) hw) (fun _ _ q=>q.JK) fun _ _ z=>False.elim z
section
variable{st:hX}{rest:List hX}{t u:TS}
def KO:TS:=fun D σ H=>D.nx σ H
def JZ(t u:TS):TS:=fun D σ H=>t {D with nx:=u D} σ H
theorem BE:Ei X [] KO:=fun _ _ σ H _ I h=>ON ⟨σ,H,I,h⟩
theorem AU{X:Cx}{st:hX}{rest:List hX}{t:TS}{u:TS}(h1:PS X st t)(h2:Ei X rest u):Ei X (st::rest) (JZ t u):=by
 intro pins s σ H D I h;refine wpAny_execs_cons (Ad (h1 pins s σ H {D with nx:=u D} I h) fun f s1 q=>?_)
 cases f with
 |next=>obtain⟨σ',H',I',q⟩:=q;exact h2 pins s1 σ' H' D I' q
 |ret v=>exact q
 |brk=>exact q
 |cont=>exact q
theorem AS{X:Cx}{st:hX}{t:TS}(h1:PS X st t):Ei X [st] t:=by
 intro pins s σ H D I h;refine wpAny_execs_cons (Ad (h1 pins s σ H D I h) fun f s1 q=>?_)
 cases f with
 |next=>exact ON q
 |ret v=>exact q
 |brk=>exact q
 |cont=>exact q
theorem Inv.quiet(I:Inv X pins σ H s):interactive X.env=false:=by simp[interactive,I.ok.kind]
end
variable{te:TE}
section
variable{st:hX}{rest:List hX}{t u:TS}
def nU(te:TE):TS:=fun D σ H=>te σ H fun _ H1=>D.nx σ H1
theorem Bn(he:PE X e te)(hs:rY e none pos.line X.env=pure false:=by rfl):PS X (.Expr e pos) (nU te):=by intro pins s σ H D I h;exact wpAny_Expr_any (Ad (he pins s σ H _ I h) fun v s1 ⟨x,H1,I1,r1,q1⟩=>⟨σ,H1,I1,q1⟩) I.quiet hs
def Z6(te:TE):TS:=fun D σ H=>te σ H D.rt
theorem An{X:Cx}{e:hY}{te:TE}{pos:Pos}(he:PE X e te):PS X (.Return (some e) pos) (Z6 te):=by intro pins s σ H D I h;exact wpAny_Return_some (Ad (he pins s σ H _ I h) fun v s1 ⟨x,H1,I1,r1,q1⟩=>⟨x,σ,H1,I1,r1,q1⟩)
def HU(c:TT)(t u:TS):TS:=fun D σ H=>c σ H fun b H1=>if b=true then t D σ H1 else u D σ H1
theorem A1{a b:List hX}{tc:TT}(hc:PT X c tc)(ha:Ei X a t)(hb:Ei X b u):PS X (.If c a b pos) (HU tc t u):=by
 intro pins s σ H D I h;refine wpAny_If (Ad (hc pins s σ H _ I h) fun d s1 ⟨H1,I1,q1⟩=>?_)
 cases d with
 |true=>exact ha pins s1 σ H1 D I1 q1
 |false=>exact hb pins s1 σ H1 D I1 q1
end
abbrev TG:=V->St->Hp->(St->Hp->Prop)->Prop
abbrev Kl:=List V->St->Hp->(St->Hp->Prop)->Prop
def PG(X:Cx)(target:hY)(t:TG):Prop:=
 ∀(pins:List (Ya×Obj))(s:Yf)(σ:St)(H:Hp)(v:V)(u:AB)(Q:St->Hp->Prop),Inv X pins σ H s->RelV v u->t v σ H Q->
  bt (ax X.prog X.w) X.A (tG target X.env u) (fun _ s'=>∃σ' H',Inv X pins σ' H' s'/\Q σ' H') X.xe s
def QX(X:Cx)(ts:List hY)(t:Kl):Prop:=
 ∀(pins:List (Ya×Obj))(s:Yf)(σ:St)(H:Hp)(vs:List V)(us:List AB)(Q:St->Hp->Prop),Inv X pins σ H s->Vals vs us->t vs σ H Q->
  bt (ax X.prog X.w) X.A (assignInOrder ((rT ts X.env).map (·.2)) us) (fun _ s'=>∃σ' H',Inv X pins σ' H' s'/\Q σ' H') X.xe s
abbrev UA:=V->V->V->Hp->(Hp->Prop)->Prop
def Z8(X:Cx)(t:UA):Prop:=
 ∀(pins:List (Ya×Obj))(s:Yf)(σ:St)(H:Hp)(o i v:V)(ov iv u:AB)(Q:Hp->Prop),Inv X pins σ H s->RelV o ov->RelV i iv->RelV v u->t o i v H Q->
  bt (ax X.prog X.w) X.A (setItem ov iv u) (fun _ s'=>∃H',Inv X pins σ H' s'/\Q H') X.xe s
def Dy(i:Nat):TG:=fun v σ H Q=>Q (σ.set i (some v)) H
theorem Bc(hN:X.N.Nodup)(hi:X.N[i]? =some x)(hx:Loc X.env.scope x)(hf:X.fn x=true\/X.env.scope.names.lookup x=some .local:=by first|exact .inl rfl|exact .inr rfl|assumption):PG X (.Name x pos) (Dy i):=by intro pins s σ H v u Q I r h;exact wpAny_assign_Name (SI I hN hi hx r (fun s' I'=>⟨_,H,I',h⟩) hf)
noncomputable def UB:Kl:=fun vs σ H Q=>vs=[]/\Q σ H
noncomputable def Lj(t:TG)(u:Kl):Kl:=fun vs σ H Q=>∃v r,vs=v::r/\t v σ H fun σ' H'=>u r σ' H' Q
theorem LW:QX X [] UB:=by intro pins s σ H vs us Q I r h;obtain⟨e,h⟩:=h;subst e;cases r;exact assignInOrder_nil ⟨σ,H,I,h⟩
theorem Fn{es:List hY}{t:TG}{u:Kl}(h1:PG X e t)(h2:QX X es u)
 (hs:(rT (e::es) X.env).map (·.2)=tG e X.env::(rT es X.env).map (·.2):=by rfl):QX X (e::es) (Lj t u):=by
 intro pins s σ H vs us Q I r h;obtain⟨v,vr,e1,h⟩:=h;subst e1
 cases r with
 |cons r rr=>rw[hs];refine assignInOrder_cons (Ad (h1 pins s σ H _ _ _ I r h) fun _ s1 ⟨σ1,H1,I1,q1⟩=>?_);exact h2 pins s1 σ1 H1 _ _ Q I1 rr q1
def UN(K:tN)(n:Nat)(t:Kl):TG:=fun v σ H Q=>∃a xs,v=.ref a/\AV K H a xs/\xs.length=n/\t xs σ H Q
variable{k:Nat}
theorem Le{es:List hY}{t:Kl}{n:Nat}(hc:X.calm=true)(h:QX X es t)
 (hn:(rT es X.env).length=n:=by rfl)(hst:(rT es X.env).findIdx? (·.1)=none:=by rfl):PG X (.Tuple es k pos) (UN X.K n t):=by
 intro pins s σ H v u Q I r hw;obtain⟨a,xs,e1,hq,hl,hw⟩:=hw;subst e1;cases r;obtain⟨AM,rv,ht,hz⟩:=I.tuple hq;refine assign_Tuple_tuple (I.ok.hd hc) ht (by simp[hn,<-hl,rv.length]) hst fun h' hx=>?_;have I1:Inv X pins σ H {s with heap:=h'}:=I.kept (t':=s.toks) fun b o e=>hx b o (BM (Ay e)) e;exact h pins _ σ H xs _ Q I1 (by simpa using rv) hw
def oq(to ti:TE)(t:UA):TG:=fun v σ H Q=>to σ H fun o H1=>ti σ H1 fun i H2=>t o i v H2 fun H3=>Q σ H3
theorem TH{o i:hY}{to ti:TE}{t:UA}(ho:PE X o to)(hi:PE X i ti)(hs:Z8 X t)
 (ha:∀v,tG (.Subscript o i pos) X.env v=(do
  let ov<-rS [v] (qZ o X.env);let iv<-rS [v,ov] (qZ i X.env)
  sZ pos
  rS [v,ov,iv] (setItem ov iv v)
  release [v,ov,iv] []):=by intro _;rfl):PG X (.Subscript o i pos) (oq to ti t):=by
 intro pins s σ H v u Q I r h;rw[ha];refine AK (GB (Ad (ho pins s σ H _ I h) fun ov s1 ⟨x,H1,I1,r1,q1⟩=>?_));refine AK (GB (Ad (hi pins s1 σ H1 _ I1 q1) fun iv s2 ⟨y,H2,I2,r2,q2⟩=>?_));refine AK (OU (AK (GB (Ad (hs pins s2 σ H2 x y v ov iv u _ I2 r1 r2 r q2) fun _ s3 ⟨H3,I3,q3⟩=>?_))));exact wpAny_release ⟨σ,H3,I3,q3⟩
def QC(te:TE)(g:TG):TS:=fun D σ H=>te σ H fun x H1=>g x σ H1 D.nx
variable{tg:hY}{g:TG}
theorem TX(he:PE X e te)(hg:PG X tg g)(hs:swapsWithSole [tg] e pos.line X.env=pure false:=by rfl)(hw:swappedStores [tg] e X.env=pure none:=by rfl)
 (h1:(rT [tg] X.env).map (·.2)=[tG tg X.env]:=by rfl):PS X (.Assign [tg] e pos) (QC te g):=by
 intro pins s σ H D I h;refine wpAny_Assign_stores (Ad (he pins s σ H _ I h) fun v s1 ⟨x,H1,I1,r1,q1⟩=>?_) hs hw;rw[h1];exact Ad (hg pins s1 σ H1 x v _ I1 r1 q1) fun _ s2 q=>q
theorem Au{pos':Pos}(hN:X.N.Nodup)(hi:X.N[i]? =some x)(hx:Loc X.env.scope x)(he:PE X e te)(hs:rY e (some (.Name x pos')) pos.line X.env=pure false:=by rfl)(hf:X.fn x=true\/X.env.scope.names.lookup x=some .local:=by first|exact .inl rfl|exact .inr rfl|assumption):
 PS X (.Assign [.Name x pos'] e pos) (QC te (Dy i)):=by
 intro pins s σ H D I h;refine wpAny_Assign_Name (Ad (he pins s σ H _ I h) fun v s1 ⟨y,H1,I1,r1,q1⟩=>?_) hs;exact SI I1 hN hi hx r1 (fun s2 I2=>⟨_,H1,I2,q1⟩) hf
def lI(c:TT)(tb:TS):TS:=fun D σ H=>∃W:Nat->St->Hp->Prop,(∃m,W m σ H)/\∀m σ H,W m σ H->
 c σ H fun b H1=>if b=true then∃N:St->Hp->Prop,(∀σ' H',N σ' H'->∃m',m'<m/\W m' σ' H')/\tb {D with nx:=N,ct:=N,bk:=D.nx} σ H1 else D.nx σ H1
variable{body:List hX}{tb:TS}
theorem gr{tc:TT}(hp:PassesOwn (ax X.prog X.w) X.A X.env X.xe)(hc:PT X c tc)(hb:Ei X body tb):PS X (.While c body [] pos) (lI tc tb):=by
 intro pins s σ H D I h;obtain⟨W,⟨m0,w0⟩,turn⟩:=h;refine wpAny_While (codeAny_whileLoop (fun n s'=>∃σ' H',Inv X pins σ' H' s'/\W n σ' H') ?_ m0 ⟨σ,H,I,w0⟩);rintro n s1 ⟨σ1,H1,I1,w1⟩;refine Kz hp (Ad (hc pins s1 σ1 H1 _ I1 (turn n σ1 H1 w1)) fun b s2 ⟨H2,I2,q2⟩=>?_)
 cases b with
 |true=>
  obtain⟨N,hN,q2⟩:=q2;rw[AH rfl];refine Kz hp (Ad (hb pins s2 σ1 H2 _ I2 q2) fun f s3 q3=>?_)
  cases f with
  |next=>obtain⟨σ3,H3,I3,n3⟩:=q3;obtain⟨m',hm,w3⟩:=hN σ3 H3 n3;exact⟨m',hm,σ3,H3,I3,w3⟩
  |cont=>obtain⟨σ3,H3,I3,n3⟩:=q3;obtain⟨m',hm,w3⟩:=hN σ3 H3 n3;exact⟨m',hm,σ3,H3,I3,w3⟩
  |brk=>exact q3
  |ret v=>exact q3
 |false=>rw[AF CY];exact ON ⟨σ1,H2,I2,q2⟩
structure It where
 go:Nat->Hp->Prop
 Jb:Nat->Hp->V->Hp->Prop
 stop:Nat->Hp->Prop
def F0(X:Cx)(pins:List (Ya×Obj))(H:Hp)(b:Ya):Prop:=
 H b=none/\b≠X.env.locals/\b∉X.fs/\(b∈X.ex\/X.s₀.heap.objs.size<=b)/\(∀x c,X.env.cells.lookup x=some c->c≠b)/\∀p∈X.pn++pins,p.1≠b
theorem Inv.Kd(I:Inv X pins σ H s)(hb:s.heap.objs.size<=b)(hn:H' b=none):F0 X pins H' b:=by
 refine⟨hn,En (C3 I.lt hb),I.pM hb,.inr (BF I.sz hb),fun x c e z=>?_,fun p hp z=>?_⟩
 ·obtain⟨v,q⟩:=I.cell x c e;exact absurd (C3 q.lt (by rw[z];exact hb)) (MY _)
 ·exact absurd (C3 (Ay (I.pin p hp).1) (by rw[z];exact hb)) (MY _)
structure Turn(P:qV)(w:qa)(K:tN)(tg:hY)(J:It)(fp:List Ya)(it:Ya)(tn:Nat->qY->Prop):Prop where
 mem:it∈fp
 obj:∀i h,tn i h->∀b∈fp,∃o,h.get? b=some o/\∀v,o.data≠.cell v
 keep:∀i h h',tn i h->(∀b∈fp,∀o,h.get? b=some o->h'.get? b=some o)->tn i h'
 item:∀(X:Cx),X.prog=P->X.w=w->X.K=K->X.calm=true->∀(i:Nat)(pins:List (Ya×Obj))(s:Yf)(σ:St)(H:Hp)(E:AB->Yf->Prop),Inv X pins σ H s->(∀b∈fp,F0 X pins H b)->tn i s.heap->J.go i H->
  bt (ax P w) X.A (qv (.ref it)) (fun r s1=>∃u,r=some u/\
   bt (ax P w) X.A (rE tg (.ref it) u) (fun _ s2=>∃x H',Inv X pins σ H' s2/\RelV x u/\J.Jb i H x H'/\tn (i+1) s2.heap/\∀b∈fp,H' b=none) E s1) E s
 done:∀(X:Cx),X.prog=P->X.w=w->X.K=K->X.calm=true->∀(i:Nat)(pins:List (Ya×Obj))(s:Yf)(σ:St)(H:Hp)(E:AB->Yf->Prop),Inv X pins σ H s->(∀b∈fp,F0 X pins H b)->tn i s.heap->J.stop i H->
  bt (ax P w) X.A (qv (.ref it)) (fun r s1=>r=none/\Inv X pins σ H s1) E s
 self:∀(A:qy)(i:Nat)(s:Yf)(Q:AB->Yf->Prop)(E:AB->Yf->Prop),tn i s.heap->Q (.ref it) s->bt (ax P w) A (pyIter (.ref it)) Q E s
abbrev TI:=St->Hp->(It->Hp->Prop)->Prop
def bZ(X:Cx)(pins:List (Ya×Obj))(σ:St)(tg:hY)(R:It->Hp->Prop)(itv:AB)(s2:Yf):Prop:=
 ∃(it:Ya)(fp:List Ya)(tn:Nat->qY->Prop)(J:It)(H':Hp),itv=.ref it/\Inv X pins σ H' s2/\Turn X.prog X.w X.K tg J fp it tn/\tn 0 s2.heap/\(∀b∈fp,F0 X pins H' b)/\R J H'
def PI(X:Cx)(tg iter:hY)(wi:TI):Prop:=
 ∀(pins:List (Ya×Obj))(s:Yf)(σ:St)(H:Hp)(R:It->Hp->Prop),Inv X pins σ H s->wi σ H R->
  bt (ax X.prog X.w) X.A (qZ iter X.env) (fun v s1=>bt (ax X.prog X.w) X.A (pyIter v) (bZ X pins σ tg R) X.xe s1) X.xe s
variable{vs:Array AB}
theorem Pr{it:Ya}{n:String}{Q:Unit->Yf->Prop}(ho:s.heap.get? it=some o)(hc:o.cls=.type n)(hd:o.data=.fields vs)
 (hn:["enumerate","zip","dict_itemiterator","dict_reverseitemiterator","odict_iterator","itertools.zip_longest","itertools.pairwise"].contains n=false)(hQ:Q () s):bt M A (rE tg (.ref it) u) Q E s:=by
 unfold rE;cases tg<;>first
  |exact Af hQ
  |(cases u<;>first
   |exact Af hQ
   |(refine AK (wpAny_load ho ?_)
     rw[hc,hd];show bt M A (if(["enumerate","zip","dict_itemiterator","dict_reverseitemiterator","odict_iterator","itertools.zip_longest","itertools.pairwise"].contains n&&vs[0]? ==some (qu _))=true then _ else _) Q E s;rw[AF (by intro h;rw[hn,MX] at h;cases h)];exact Af hQ))
def HY(K:tN)(a:Ya):It:=
 ⟨fun i H=>∃xs x,AJ K H a xs/\xs[i]? =some x,fun i H x H'=>H'=H/\∀xs,AJ K H a xs->xs[i]? =some x,fun i H=>∃xs,AJ K H a xs/\xs.length<=i⟩
def L6(lo:Int)(n:Nat):It:=⟨fun i _=>i<n,fun i H x H'=>H'=H/\x=.int (lo+i),fun i _=>n<=i⟩
theorem fF(a it:Ya):Turn P w K tg (HY K a) [it] it (fun i h=>h.IsListIter it a i) where
 mem:=by simp
 obj:=fun i h st b hb=>by
  have e:b=it:=by simpa using hb
  subst e;obtain⟨o,e,c,d⟩:=st;exact⟨o,e,fun v z=>by rw[d] at z;cases z⟩
 keep:=fun i h h' st k=>st.at fun o e=>k it (by simp) o e
 item:=by intro X hP hw hK hc i pins s σ H E I hf st hg;subst hP hw hK;obtain⟨xs,x,hq,hx⟩:=hg;obtain⟨AM,rv,p,hz⟩:=I.list hq;obtain⟨u,hu,ru⟩:=rv.get hx;obtain⟨f0,f1,f2,f3,f4,f5⟩:=hf it (by simp);refine wpAny_pyNext_list_item st p.isList (x:=u) (by simpa using hu) fun h' st' sb=>?_;have I1:Inv X pins σ H {s with heap:=h'}:=I.turned (t':=s.toks) (fun b o hb e=>(sb.2 b hb).trans e) f0 f1 f3 f4 f5;obtain⟨o,e,c,d⟩:=id st';exact⟨u,rfl,Pr (s:={s with heap:=h'}) e c d (by decide) ⟨x,H,I1,ru,⟨rfl,fun ys hy=>by rw[I.Xa hy hq];exact hx⟩,st',fun b hb=>(hf b hb).1⟩⟩
 done:=by intro X hP hw hK hc i pins s σ H E I hf st hg;subst hP hw hK;obtain⟨xs,hq,hx⟩:=hg;obtain⟨AM,rv,p,hz⟩:=I.list hq;obtain⟨f0,f1,f2,f3,f4,f5⟩:=hf it (by simp);have hl:=rv.length;exact wpAny_pyNext_list_end (I.ok.hd hc) st p.isList (by simp;lia) fun h' eb=>⟨rfl,I.turned (t':=s.toks) (fun b o hb e=>eb b o hb e) f0 f1 f3 f4 f5⟩
 self:=fun _ _ _ _ _ st h=>wpAny_pyIter_listiter st h
theorem cu(it:Ya)(lo:Int)(n:Nat):Turn P w K tg (L6 lo n) [it] it (fun i h=>IsRangeIter h it (lo+(i:Nat)*1) ((n:Int)-(i:Nat)) 1) where
 mem:=by simp
 obj:=fun i h st b hb=>by
  have e:b=it:=by simpa using hb
  subst e;exact⟨_,st,fun v z=>by have z':Data.fields _=Data.cell v:=z;cases z'⟩
 keep:=fun i h h' st k=>k it (by simp) _ st
 item:=by intro X hP hw hK hc i pins s σ H E I hf st hg;subst hP hw hK;obtain⟨f0,f1,f2,f3,f4,f5⟩:=hf it (by simp);have W:=Walks.range (prog:=X.prog) (w:=X.w) (I.ok.hd hc) it lo 1 n;refine W.item i s _ _ hg st fun v h' tk hv st' kk=>?_;obtain⟨t,rfl⟩:=hv;have I1:Inv X pins σ H {s with heap:=h',toks:=tk}:=I.turned (fun b o hb e=>kk b o (by simpa using hb) e) f0 f1 f3 f4 f5;refine⟨_,rfl,Pr (s:={s with heap:=h',toks:=tk}) (n:="range_iterator") st' rfl rfl (by decide) ⟨.int (lo+i),H,I1,⟨t,?_⟩,⟨rfl,rfl⟩,st',fun b hb=>(hf b hb).1⟩⟩;rw[Int.mul_one]
 done:=by intro X hP hw hK hc i pins s σ H E I hf st hg;subst hP hw hK;obtain⟨f0,f1,f2,f3,f4,f5⟩:=hf it (by simp);exact wpAny_pyNext_range_end (I.ok.hd hc) st (by have:n<=i:=hg;lia) fun h' eb=>⟨rfl,I.turned (t':=s.toks) (fun b o hb e=>eb b o hb e) f0 f1 f3 f4 f5⟩
 self:=fun _ _ _ _ _ st h=>wpAny_pyIter_rangeiter st h
def KY(K:tN)(tl:TE):TI:=fun σ H R=>tl σ H fun x H1=>∃a,x=.ref a/\(∃xs,AJ K H1 a xs)/\R (HY K a) H1
theorem GN{l:hY}{tl:TE}(hl:PE X l tl):PI X tg l (KY X.K tl):=by
 intro pins s σ H R I h;refine Ad (hl pins s σ H _ I h) fun v s1 ⟨x,H1,I1,r1,q1⟩=>?_;obtain⟨a,e,⟨xs,hq⟩,q⟩:=q1;subst e;cases r1;obtain⟨AM,rv,p,hz⟩:=I1.list hq;refine wpAny_pyIter_list p.isList ?_;refine⟨s1.heap.objs.size,[s1.heap.objs.size],_,_,H1,rfl,I1.kept (t':=s1.toks) fun b o e=>BB _ e,fF a _,⟨_,Bz _ rfl,rfl,rfl⟩,fun b hb=>?_,q⟩;have e:b=s1.heap.objs.size:=by simpa using hb
 subst e;exact I1.Kd (Ab _) (I1.hok.fresh (Ab _))
theorem gu{R:It->Hp->Prop}{lo hi:Int}{t u v:Tok}{tk:Nat}(I:Inv X pins σ H s)(h1: -(2^62)<=lo)(h2:lo<2^62)(h3: -(2^62)<=hi)(h4:hi<2^62)
 (q:R (L6 lo (hi-lo).toNat) H):bt (ax X.prog X.w) X.A (pyIter (.ref s.heap.objs.size)) (bZ X pins σ tg R) E {s with heap:=s.heap.push {cls:=.type "range",data:=.fields #[.int lo t,.int hi u,.int 1 v]},toks:=tk}:=by
 refine wpAny_pyIter_range (IsRange.new ..) (small_one h1 h2 h3 h4) ?_;have I1:Inv X pins σ H {s with heap:=s.heap.push {cls:=.type "range",data:=.fields #[.int lo t,.int hi u,.int 1 v]},toks:=tk}:=I.kept fun b o e=>BB _ e;refine⟨(s.heap.push {cls:=.type "range",data:=.fields #[.int lo t,.int hi u,.int 1 v]}).objs.size,[(s.heap.push {cls:=.type "range",data:=.fields #[.int lo t,.int hi u,.int 1 v]}).objs.size],_,_,H,rfl,
  I1.kept (t':=tk) fun b o e=>BB _ e,cu _ lo (hi-lo).toNat,?_,fun b hb=>?_,q⟩
 ·have e1:lo+((0:Nat):Int)*1=lo:=by simp
  have e2:(((hi-lo).toNat:Nat):Int)-((0:Nat):Int)=Builtin.Range.rangeSize lo hi 1:=by rw[rangeSize_one];split<;>lia
  show IsRangeIter _ _ (lo+((0:Nat):Int)*1) ((((hi-lo).toNat:Nat):Int)-((0:Nat):Int)) 1;rw[e1,e2];exact Bz _ rfl
 ·have e:b=(s.heap.push {cls:=.type "range",data:=.fields #[.int lo t,.int hi u,.int 1 v]}).objs.size:=by simpa using hb
  subst e;exact I1.Kd (Ab _) (I1.hok.fresh (Ab _))
def nq(ta:TA):TI:=fun σ H R=>ta σ H fun vs H1=>∃j:Int,vs=[.int j]/\ -(2^62)<=j/\j<2^62/\R (L6 0 j.toNat) H1
variable{p:Pos}
theorem Rp{a:hY}{ta:TA}(hg:Gl X "range")(hm:X.mg "range" =none)(ha:PA X [a] ta)(hs:dy [a] X.env=[(false,qZ a X.env)]:=by rfl):PI X tg (.Call (.Name "range" p) [a] [] pos) (nq ta):=by
 intro pins s σ H R I h;refine Call_ (NG I hg hm boot_range (Uz (Ad (ha pos pins s σ H _ I h) fun us s1 ⟨vs,H1,I1,r1,q1⟩=>?_) hs rfl));obtain⟨j,e,q1,q2,q⟩:=q1;subst e
 cases r1 with
 |cons r rr=>cases rr;obtain⟨t,rfl⟩:=r;exact call_range_1 (gu I1 (by lia) (by lia) q1 q2 (by simpa using q))
def Nl(wi:TI)(g:TG)(tb:TS):TS:=fun D σ H=>wi σ H fun J H1=>∃W:Nat->Nat->St->Hp->Prop,(∃m,W 0 m σ H1)/\∀i m σ H,W i m σ H->
 (J.stop i H/\D.nx σ H)\/(J.go i H/\∃N:St->Hp->Prop,(∀σ' H',N σ' H'->∃m',m'<m/\W (i+1) m' σ' H')/\∀x H',J.Jb i H x H'->g x σ H' fun σ2 H2=>tb {D with nx:=N,ct:=N,bk:=D.nx} σ2 H2)
noncomputable def NL(fp:List Ya)(h:qY):List (Ya×Obj):=fp.filterMap fun b=>(h.get? b).map fun o=>(b,o)
variable{fp:List Ya}
theorem Of(hb:b∈fp)(e:h.get? b=some o):(b,o)∈NL fp h:=Qn.mpr ⟨b,hb,by rw[e];rfl⟩
theorem fU{p:Ya×Obj}(hp:p∈NL fp h):p.1∈fp/\h.get? p.1=some p.2:=by
 obtain⟨b,hb,e⟩:=Qn.mp hp
 cases q:h.get? b with
 |none=>rw[q] at e;cases e
 |some o=>rw[q] at e;have e':(b,o)=p:=Ag e;subst e';exact⟨hb,q⟩
theorem Inv.pinned(I:Inv X pins σ H s)(hf:∀b∈fp,F0 X pins H b)(ho:∀b∈fp,∃o,s.heap.get? b=some o/\∀v,o.data≠.cell v):Inv X (pins++NL fp s.heap) σ H s:=
 I.YY fun p hp=>(Bh.mp hp).elim (fun z=>I.pin p (EB _ z)) fun z=>by obtain⟨hb,e⟩:=fU z;obtain⟨f0,f1,f2,_⟩:=hf p.1 hb;obtain⟨o,e',d⟩:=ho p.1 hb;rw[e] at e';cases e';exact⟨e,f0,f1,f2,d⟩
theorem Inv.Ot{pl:List (Ya×Obj)}(I:Inv X (pins++pl) σ H s):Inv X pins σ H s:=I.YY fun p hp=>I.pin p (EB _ (Hi _ hp))
theorem EI{iter:hY}{wi:TI}(hp:PassesOwn (ax X.prog X.w) X.A X.env X.xe)(hc:X.calm=true)(hi:PI X tg iter wi)(hg:PG X tg g)(hb:Ei X body tb)
 (hs:∀x,foldedSetIterable iter X.env x=pure x:=by intro _;rfl):PS X (.For tg iter body [] pos) (Nl wi g tb):=by
 intro pins s σ H D I h;refine wpAny_For (Ad (hi pins s σ H _ I h) fun v s1 h1=>Ad h1 fun itv s2 h2=>?_) hs;obtain⟨it,fp,tn,J,H2,e,I2,T,st2,f2,W,⟨m0,w0⟩,turn⟩:=h2;subst e;have stat:∀{H':Hp},(∀b∈fp,H' b=none)->∀b∈fp,F0 X pins H' b:=fun hn b hb=>⟨hn b hb,(f2 b hb).2⟩;refine codeAny_forLoop_any (fun n s'=>∃i σ' H',Inv X pins σ' H' s'/\tn i s'.heap/\(∀b∈fp,H' b=none)/\W i n σ' H') ?_ m0 ⟨0,σ,H2,I2,st2,fun b hb=>(f2 b hb).1,w0⟩;rintro n s3 ⟨i,σ3,H3,I3,st3,fr3,w3⟩;rcases turn i n σ3 H3 w3 with⟨stop,qn⟩|⟨go,N,hN,step⟩
 ·refine Kz hp (Ad (T.done X rfl rfl rfl hc i pins s3 σ3 H3 X.xe I3 (stat fr3) st3 stop) fun r s4 ⟨hr,I4⟩=>?_);subst hr;exact ON ⟨σ3,H3,I4,qn⟩
 ·refine Kz hp (Ad (T.item X rfl rfl rfl hc i pins s3 σ3 H3 X.xe I3 (stat fr3) st3 go) fun r s4 ⟨u,hr,h4⟩=>?_);subst hr;refine Kz hp (Ad h4 fun _ s5 ⟨x,H5,I5,r5,y5,st5,fr5⟩=>?_);have I5':=I5.pinned (stat fr5) (T.obj _ _ st5);refine Kz hp (Ad (hg _ s5 σ3 H5 x u _ I5' r5 (step x H5 y5)) fun _ s6 ⟨σ6,H6,I6,q6⟩=>?_);refine Kz hp (Ad (hb _ s6 σ6 H6 _ I6 q6) fun f s7 q7=>?_);have again:∀{σ7:St}{H7:Hp},Inv X (pins++NL fp s5.heap) σ7 H7 s7->N σ7 H7->∃m,m<n/\∃i σ' H',Inv X pins σ' H' s7/\tn i s7.heap/\(∀b∈fp,H' b=none)/\W i m σ' H':=fun{σ7 H7} I7 n7=>by obtain⟨m',hm,w7⟩:=hN σ7 H7 n7;refine⟨m',hm,i+1,σ7,H7,I7.Ot,T.keep _ _ _ st5 fun b hb o e=>(I7.pin (b,o) (EB _ (EB _ (Of hb e)))).1,fun b hb=>?_,w7⟩;obtain⟨o,e,d⟩:=T.obj _ _ st5 b hb;exact(I7.pin (b,o) (EB _ (EB _ (Of hb e)))).2.1
  cases f with
  |next=>obtain⟨σ7,H7,I7,n7⟩:=q7;exact again I7 n7
  |cont=>obtain⟨σ7,H7,I7,n7⟩:=q7;exact again I7 n7
  |brk=>obtain⟨σ7,H7,I7,q7⟩:=q7;exact⟨σ7,H7,I7.Ot,q7⟩
  |ret v=>obtain⟨x7,σ7,H7,I7,r7,q7⟩:=q7;exact⟨x7,σ7,H7,I7.Ot,r7,q7⟩
theorem JA{xs:List V}{D:Ends}(Pv:Nat->St->Hp->Prop)(h0:Pv 0 σ H)(hl:∀i σ H,i<=xs.length->Pv i σ H->AJ K H a xs)
 (hs:∀i x σ H,xs[i]? =some x->Pv i σ H->g x σ H fun σ2 H2=>tb {D with nx:=Pv (i+1),ct:=Pv (i+1),bk:=D.nx} σ2 H2)(hd:∀σ H,Pv xs.length σ H->D.nx σ H):
 ∃W:Nat->Nat->St->Hp->Prop,(∃m,W 0 m σ H)/\∀i m σ H,W i m σ H->
  ((HY K a).stop i H/\D.nx σ H)\/((HY K a).go i H/\∃N:St->Hp->Prop,(∀σ' H',N σ' H'->∃m',m'<m/\W (i+1) m' σ' H')/\∀x H',(HY K a).Jb i H x H'->g x σ H' fun σ2 H2=>tb {D with nx:=N,ct:=N,bk:=D.nx} σ2 H2):=by
 refine⟨fun i m σ H=>m=xs.length-i/\i<=xs.length/\Pv i σ H,⟨xs.length,by simp,CH _,h0⟩,?_⟩;rintro i m σ H ⟨rfl,hi,p⟩;have q:=hl i σ H hi p;by_cases hlt:i<xs.length
 ·refine .inr ⟨⟨xs,xs[i],q,by simp[hlt]⟩,Pv (i+1),fun σ' H' p'=>⟨xs.length-(i+1),by lia,rfl,hlt,p'⟩,fun x H' y=>?_⟩;obtain⟨e,y⟩:=y;subst e;exact hs i x σ _ (y xs q) p
 ·have e:i=xs.length:=by lia
  subst e;exact .inl ⟨⟨xs,q,Ab _⟩,hd σ H p⟩
theorem Oi{lo:Int}{n:Nat}{D:Ends}(Pv:Nat->St->Hp->Prop)(h0:Pv 0 σ H)
 (hs:∀i σ H,i<n->Pv i σ H->g (.int (lo+i)) σ H fun σ2 H2=>tb {D with nx:=Pv (i+1),ct:=Pv (i+1),bk:=D.nx} σ2 H2)(hd:∀σ H,Pv n σ H->D.nx σ H):
 ∃W:Nat->Nat->St->Hp->Prop,(∃m,W 0 m σ H)/\∀i m σ H,W i m σ H->
  ((L6 lo n).stop i H/\D.nx σ H)\/((L6 lo n).go i H/\∃N:St->Hp->Prop,(∀σ' H',N σ' H'->∃m',m'<m/\W (i+1) m' σ' H')/\∀x H',(L6 lo n).Jb i H x H'->g x σ H' fun σ2 H2=>tb {D with nx:=N,ct:=N,bk:=D.nx} σ2 H2):=by
 refine⟨fun i m σ H=>m=n-i/\i<=n/\Pv i σ H,⟨n,by simp,CH _,h0⟩,?_⟩;rintro i m σ H ⟨rfl,hi,p⟩;by_cases hlt:i<n
 ·refine .inr ⟨hlt,Pv (i+1),fun σ' H' p'=>⟨n-(i+1),by lia,rfl,hlt,p'⟩,fun x H' y=>?_⟩;obtain⟨e,y⟩:=y;subst e y;exact hs i σ _ hlt p
 ·have e:i=n:=by lia
  subst e;exact .inl ⟨Ab _,hd σ H p⟩
abbrev R2:=V->V->Hp->VK->Prop
def Bv(X:Cx)(f:AB->AB->Sem AB)(r:R2):Prop:=
 ∀(pins:List (Ya×Obj))(s:Yf)(σ:St)(H:Hp)(x y:V)(v u:AB)(Q:VK),Inv X pins σ H s->RelV x v->RelV y u->r x y H Q->
  bt (ax X.prog X.w) X.A (f v u) (EP X pins σ Q) X.xe s
def Ua(X:Cx)(f:AB->Sem AB)(r:V->Hp->VK->Prop):Prop:=
 ∀(pins:List (Ya×Obj))(s:Yf)(σ:St)(H:Hp)(x:V)(v:AB)(Q:VK),Inv X pins σ H s->RelV x v->r x H Q->
  bt (ax X.prog X.w) X.A (f v) (EP X pins σ Q) X.xe s
def DH(X:Cx)(f:AB)(r:List V->Hp->VK->Prop):Prop:=
 ∀(pins:List (Ya×Obj))(s:Yf)(σ:St)(H:Hp)(xs:List V)(us:List AB)(Q:VK),Inv X pins σ H s->Vals xs us->r xs H Q->
  bt (ax X.prog X.w) X.A (call f us) (EP X pins σ Q) X.xe s
def FV(r:R2)(ta tb:TE):TE:=fun σ H Q=>ta σ H fun x H1=>tb σ H1 fun y H2=>r x y H2 Q
def qC(r:V->Hp->VK->Prop)(ta:TE):TE:=fun σ H Q=>ta σ H fun x H1=>r x H1 Q
def rI(C:Int->Int->Prop)(g:Int->Int->V):R2:=fun x y H Q=>∃i j,x=.int i/\y=.int j/\C i j/\Q (g i j) H
def Kr(g:Int->Int->V):R2:=fun x y H Q=>∃i j,x=.int i/\y=.int j/\Q (g i j) H
def rU(g:Int->V):V->Hp->VK->Prop:=fun x H Q=>∃i,x=.int i/\Q (g i) H
section
variable{a b:hY}{tb tc:TE}
theorem UK(ha:PE X a ta)(hb:PE X b tb){R:V->V->Hp->Prop}(I:Inv X pins σ H s)
 (h:ta σ H fun x H1=>tb σ H1 fun y H2=>R x y H2){f:AB->AB->Sem AB}
 (hf:∀v u s2 x y H2,Inv X pins σ H2 s2->RelV x v->RelV y u->R x y H2->bt (ax X.prog X.w) X.A (f v u) Q X.xe s2):
 bt (ax X.prog X.w) X.A (qZ a X.env) (fun v s₁=>bt (ax X.prog X.w) X.A (qZ b X.env) (fun u s₂=>bt (ax X.prog X.w) X.A (f v u) Q X.xe s₂) X.xe s₁) X.xe s:=by
 refine Ad (ha pins s σ H _ I h) fun v s1 ⟨x,H1,I1,r1,q1⟩=>?_;refine Ad (hb pins s1 σ H1 _ I1 q1) fun u s2 ⟨y,H2,I2,r2,q2⟩=>?_;exact hf v u s2 x y H2 I2 r1 r2 q2
theorem Ai{op:Operator}{r:R2}(ho:Bv X (rC op) r)(ha:PE X a ta)(hb:PE X b tb):PE X (.BinOp a op b pos) (FV r ta tb):=by intro pins s σ H Q I h;exact wpAny_BinOp (UK ha hb I h fun v u s2 x y H2 I2 rx ry q=>ho pins s2 σ H2 x y v u Q I2 rx ry q)
theorem Eb{op:UnaryOp}{r:V->Hp->VK->Prop}(ho:Ua X (unaryOp op) r)(ha:PE X a ta):PE X (.UnaryOp op a pos) (qC r ta):=by intro pins s σ H Q I h;exact UnaryOp_ (Ad (ha pins s σ H _ I h) fun v s1 ⟨x,H1,I1,r1,q1⟩=>ho pins s1 σ H1 x v Q I1 r1 q1)
theorem QO{f:AB->AB->Sem AB}{C:Int->Int->Prop}{g:Int->Int->Int}
 (rule:∀(i j:Int)(t u:Tok)(s:Yf)(Q:AB->Yf->Prop)(E:AB->Yf->Prop),C i j->Q (.int (g i j) s.toks) {s with toks:=s.toks+1}->bt (ax X.prog X.w) X.A (f (.int i t) (.int j u)) Q E s):
 Bv X f (rI C fun i j=>.int (g i j)):=by
 intro pins s σ H x y v u Q I rx ry h;obtain⟨i,j,rfl,rfl,hc,q⟩:=h;obtain⟨t,rfl⟩:=rx;obtain⟨t',rfl⟩:=ry;exact rule i j t t' s _ _ hc ⟨.int (g i j),H,I.tok _,⟨_,rfl⟩,q⟩
theorem aD{f:AB->AB->Sem AB}{g:Int->Int->Int}
 (rule:∀(i j:Int)(t u:Tok)(s:Yf)(Q:AB->Yf->Prop)(E:AB->Yf->Prop),Q (.int (g i j) s.toks) {s with toks:=s.toks+1}->bt (ax X.prog X.w) X.A (f (.int i t) (.int j u)) Q E s):
 Bv X f (Kr fun i j=>.int (g i j)):=by
 intro pins s σ H x y v u Q I rx ry h;obtain⟨i,j,rfl,rfl,q⟩:=h;obtain⟨t,rfl⟩:=rx;obtain⟨t',rfl⟩:=ry;exact rule i j t t' s _ _ ⟨.int (g i j),H,I.tok _,⟨_,rfl⟩,q⟩
theorem US{f:AB->AB->Sem AB}{g:Int->Int->Bool}
 (rule:∀(i j:Int)(t u:Tok)(s:Yf)(Q:AB->Yf->Prop)(E:AB->Yf->Prop),Q (.bool (g i j)) s->bt (ax X.prog X.w) X.A (f (.int i t) (.int j u)) Q E s):
 Bv X f (Kr fun i j=>.bl (g i j)):=by
 intro pins s σ H x y v u Q I rx ry h;obtain⟨i,j,rfl,rfl,q⟩:=h;obtain⟨t,rfl⟩:=rx;obtain⟨t',rfl⟩:=ry;exact rule i j t t' s _ _ ⟨.bl (g i j),H,I,rfl,q⟩
def pQ(i j:Int):Prop:=0<j/\j<1073741824
def o5(i j:Int):Prop:=0<=j/\j<=1000000/\i.natAbs<2^64
def UJ(i j:Int):Prop:=(-(2^64)<i/\i<2^64)\/(-(2^64)<j/\j<2^64)
theorem UJ.ok{i j:Int}(h:UJ i j):IntMulOk i j:=by
 rcases h with⟨h1,h2⟩|⟨h1,h2⟩
 ·exact .of_left (intBits_le_64 h1 h2)
 ·exact .of_right (intBits_le_64 h1 h2)
theorem DO:Bv X (rC .Add) (Kr fun i j=>.int (i+j)):=aD fun _ _ _ _ _ _ _ q=>add_int q
theorem TR:Bv X (rC .Sub) (Kr fun i j=>.int (i-j)):=aD fun _ _ _ _ _ _ _ q=>sub_int q
theorem Pf:Bv X (rC .Mult) (rI UJ fun i j=>.int (i*j)):=QO fun _ _ _ _ _ _ _ hc q=>mul_int q hc.ok
theorem KC:Bv X (rC .FloorDiv) (rI pQ fun i j=>.int (i/j)):=QO fun i j _ _ _ _ _ hc q=>by have h1:(0:Int)<j:=hc.1;have h2:j<1073741824:=hc.2;exact floordiv_int (by lia) (by rw[Int.fdiv_eq_ediv_of_nonneg i (by lia)];exact q) (.inl (PyProof.noPylong_small (by lia)))
theorem CB:Bv X (rC .Mod) (rI (fun _ j=>0<j) fun i j=>.int (i%j)):=QO fun i j _ _ _ _ _ hc q=>by have h1:(0:Int)<j:=hc;exact mod_int' (by lia) (by rw[Int.fmod_eq_emod_of_nonneg i (by lia)];exact q)
theorem S6:Bv X (rC .Pow) (rI o5 fun i j=>.int (i^j.toNat)):=QO fun _ _ _ _ _ _ _ hc q=>pow_int_small hc.1 hc.2.1 hc.2.2 q
theorem pj{f:AB->Sem AB}{g:Int->Int}
 (rule:∀(i:Int)(t:Tok)(s:Yf)(Q:AB->Yf->Prop)(E:AB->Yf->Prop),Q (.int (g i) s.toks) {s with toks:=s.toks+1}->bt (ax X.prog X.w) X.A (f (.int i t)) Q E s):
 Ua X f (rU fun i=>.int (g i)):=by
 intro pins s σ H x v Q I rx h;obtain⟨i,rfl,q⟩:=h;obtain⟨t,rfl⟩:=rx;exact rule i t s _ _ ⟨.int (g i),H,I.tok _,⟨_,rfl⟩,q⟩
theorem EY:Ua X (unaryOp .USub) (rU fun i=>.int (-i)):=pj fun _ _ _ _ _ q=>neg_int q
end
noncomputable def ao:V->V->Bool
 |.BA,.BA=>true|.BA,.int _=>true|.int _,.BA=>true|.BA,.bl _=>true|.bl _,.BA=>true|.BA,.str _=>true|.str _,.BA=>true
 |.int _,.int _=>true|.bl _,.bl _=>true|.str _,.str _=>true|.F5 _,.F5 _=>true
 |.int _,.str _=>true|.str _,.int _=>true|.bl _,.str _=>true|.str _,.bl _=>true
 |_,_=>false
def Lw:R2:=fun x y H Q=>ao x y=true/\Q (.bl (decide (x=y))) H
def bY:R2:=fun x y H Q=>ao x y=true/\Q (.bl (!decide (x=y))) H
theorem YW{i j:Int}:decide (V.int i=V.int j)=(i==j):=by rw[OQ];simp
theorem Yi{i j:Bool}:decide (V.bl i=V.bl j)=(i==j):=by rw[OQ];simp
theorem Xo{i j:Str}:decide (V.str i=V.str j)=(i==j):=by rw[OQ];simp
theorem X7{i j:Array UInt8}:decide (V.F5 i=V.F5 j)=(i.toList==j.toList):=by rw[OQ];cases i;cases j;simp
section
variable{a b:hY}{tb tc:TE}
theorem CC{Q:VK}{k k':Bool}(I:Inv X pins σ H s)(q:Q (.bl k) H)(e:k=k'):EP X pins σ Q (.bool k') s:=by subst e;exact⟨.bl k,H,I,rfl,q⟩
theorem BW:Bv X (qW .Eq) Lw:=by
 intro pins s σ H x y v u Q I rx ry h;obtain⟨hs,q⟩:=h
 cases x with
 |BA=>
  cases rx
  cases y with
  |BA=>cases ry;exact PySem.EqNone.eq_none_none (CC I q (by simp))
  |bl j=>cases ry;exact PySem.EqNone.eq_none_bool (CC I q (by simp))
  |int j=>obtain⟨t',rfl⟩:=ry;exact PySem.EqNone.eq_none_int (CC I q (by simp))
  |str j=>obtain⟨t',rfl⟩:=ry;exact PySem.EqNone.eq_none_str (CC I q (by simp))
  |_=>exact absurd (show false=true from hs) CY
 |bl i=>
  cases rx
  cases y with
  |BA=>cases ry;exact PySem.EqNone.eq_bool_none (CC I q (by simp))
  |bl j=>cases ry;exact eq_bool (CC I q Yi)
  |str j=>obtain⟨t',rfl⟩:=ry;exact PySem.EqMixed.eq_bool_str (CC I q (by simp))
  |_=>exact absurd (show false=true from hs) CY
 |int i=>
  obtain⟨t,rfl⟩:=rx
  cases y with
  |BA=>cases ry;exact PySem.EqNone.eq_int_none (CC I q (by simp))
  |int j=>obtain⟨t',rfl⟩:=ry;exact eq_int (CC I q YW)
  |str j=>obtain⟨t',rfl⟩:=ry;exact PySem.EqMixed.eq_int_str (CC I q (by simp))
  |_=>exact absurd (show false=true from hs) CY
 |str i=>
  obtain⟨t,rfl⟩:=rx
  cases y with
  |BA=>cases ry;exact PySem.EqNone.eq_str_none (CC I q (by simp))
  |bl j=>cases ry;exact PySem.EqMixed.eq_str_bool (CC I q (by simp))
  |int j=>obtain⟨t',rfl⟩:=ry;exact PySem.EqMixed.eq_str_int (CC I q (by simp))
  |str j=>obtain⟨t',rfl⟩:=ry;exact eq_str (CC I q Xo)
  |_=>exact absurd (show false=true from hs) CY
 |F5 i=>
  obtain⟨t,rfl⟩:=rx
  cases y with
  |F5 j=>obtain⟨t',rfl⟩:=ry;exact eq_bytes (CC I q X7)
  |_=>exact absurd (show false=true from hs) CY
 |_=>cases y<;>exact absurd (show false=true from hs) CY
theorem Fy:Bv X (qW .NotEq) bY:=by
 intro pins s σ H x y v u Q I rx ry h;obtain⟨hs,q⟩:=h
 cases x with
 |BA=>
  cases rx
  cases y with
  |BA=>cases ry;exact PySem.EqNone.ne_none_none (CC I q (by simp))
  |bl j=>cases ry;exact PySem.EqNone.ne_none_bool (CC I q (by simp))
  |int j=>obtain⟨t',rfl⟩:=ry;exact PySem.EqNone.ne_none_int (CC I q (by simp))
  |str j=>obtain⟨t',rfl⟩:=ry;exact PySem.EqNone.ne_none_str (CC I q (by simp))
  |_=>exact absurd (show false=true from hs) CY
 |bl i=>
  cases rx
  cases y with
  |BA=>cases ry;exact PySem.EqNone.ne_bool_none (CC I q (by simp))
  |bl j=>cases ry;exact ne_bool (CC I q (BD not Yi))
  |str j=>obtain⟨t',rfl⟩:=ry;exact PySem.EqMixed.ne_bool_str (CC I q (by simp))
  |_=>exact absurd (show false=true from hs) CY
 |int i=>
  obtain⟨t,rfl⟩:=rx
  cases y with
  |BA=>cases ry;exact PySem.EqNone.ne_int_none (CC I q (by simp))
  |int j=>obtain⟨t',rfl⟩:=ry;exact ne_int (CC I q (BD not YW))
  |str j=>obtain⟨t',rfl⟩:=ry;exact PySem.EqMixed.ne_int_str (CC I q (by simp))
  |_=>exact absurd (show false=true from hs) CY
 |str i=>
  obtain⟨t,rfl⟩:=rx
  cases y with
  |BA=>cases ry;exact PySem.EqNone.ne_str_none (CC I q (by simp))
  |bl j=>cases ry;exact PySem.EqMixed.ne_str_bool (CC I q (by simp))
  |int j=>obtain⟨t',rfl⟩:=ry;exact PySem.EqMixed.ne_str_int (CC I q (by simp))
  |str j=>obtain⟨t',rfl⟩:=ry;exact ne_str (CC I q (BD not Xo))
  |_=>exact absurd (show false=true from hs) CY
 |F5 i=>
  obtain⟨t,rfl⟩:=rx
  cases y with
  |F5 j=>obtain⟨t',rfl⟩:=ry;exact ne_bytes (CC I q (BD not X7))
  |_=>exact absurd (show false=true from hs) CY
 |_=>cases y<;>exact absurd (show false=true from hs) CY
theorem JQ:Bv X (qW .Lt) (Kr fun i j=>.bl (decide (i<j))):=US fun _ _ _ _ _ _ _ q=>lt_int q
theorem mv:Bv X (qW .LtE) (Kr fun i j=>.bl (decide (i<=j))):=US fun _ _ _ _ _ _ _ q=>le_int q
theorem Tv:Bv X (qW .Gt) (Kr fun i j=>.bl (decide (j<i))):=US fun _ _ _ _ _ _ _ q=>gt_int q
theorem fK:Bv X (qW .Lt) (fun x y H Q=>∃i j,x=.str i/\y=.str j/\Q (.bl (decide (i.cps.toList<j.cps.toList))) H):=by intro pins s σ H x y v u Q I rx ry h;obtain⟨i,j,rfl,rfl,q⟩:=h;obtain⟨t,rfl⟩:=rx;obtain⟨t',rfl⟩:=ry;exact lt_str (CC I q rfl)
theorem Ar(b:hY)(h:op≠.In:=by decide)(h2:op≠.NotIn:=by decide):behindInMarks op b=false:=by
 have e1:(op==CmpOp.In)=false:=by cases op<;>first|rfl|exact absurd rfl h
 have e2:(op==CmpOp.NotIn)=false:=by cases op<;>first|rfl|exact absurd rfl h2
 cases b<;>simp[behindInMarks,e1,e2]
theorem G0{r:R2}(ho:Bv X (qW op) r)(ha:PE X a ta)(hb:PE X b tb)(hm:behindInMarks op b=false):PE X (.Compare a [op] [b] pos) (FV r ta tb):=by intro pins s σ H Q I h;exact wpAny_Compare1 (UK ha hb I h fun v u s2 x y H2 I2 rx ry q=>ho pins s2 σ H2 x y v u Q I2 rx ry q) hm
def KP(t:TE):TT:=fun σ H Q=>t σ H fun x H'=>∃k,x=.bl k/\Q k H'
theorem Aw{r:R2}(ho:Bv X (qW op) r)(ha:PE X a ta)(hb:PE X b tb)(hm:behindInMarks op b=false):PT X (.Compare a [op] [b] pos) (KP (FV r ta tb)):=by
 intro pins s σ H Q I h;refine wpAny_isTrue_Compare1 (Ad (ha pins s σ H _ I h) fun v s1 ⟨x,H1,I1,r1,q1⟩=>Ad (hb pins s1 σ H1 _ I1 q1) fun u s2 ⟨y,H2,I2,r2,q2⟩=>Ad (ho pins s2 σ H2 x y v u _ I2 r1 r2 q2) fun c s3 ⟨z,H3,I3,r3,k,e,q3⟩=>?_) hm;subst e;cases r3;exact MQ ⟨H3,I3,q3⟩
def lj(r r':R2)(ta tb tc:TE):TE:=fun σ H Q=>ta σ H fun x H1=>tb σ H1 fun y H2=>r x y H2 fun z H3=>∃k,z=.bl k/\
 (if k=true then tc σ H3 fun w' H4=>r' y w' H4 Q else Q (.bl false) H3)
theorem iI{op':CmpOp}{r r':R2}(ho:Bv X (qW op) r)(ho':Bv X (qW op') r')(ha:PE X a ta)(hb:PE X b tb)(hc:PE X c tc)
 (hm:lastMarks [op,op'] [b,c]=false:=by with_unfolding_all rfl):PE X (.Compare a [op,op'] [b,c] pos) (lj r r' ta tb tc):=by
 intro pins s σ H Q I h;refine Compare_chain (Ad (ha pins s σ H _ I h) fun v s1 ⟨x,H1,I1,r1,q1⟩=>chain_link (Ad (hb pins s1 σ H1 _ I1 q1) fun u s2 ⟨y,H2,I2,r2,q2⟩=>Ad (ho pins s2 σ H2 x y v u _ I2 r1 r2 q2) fun d s3 ⟨z,H3,I3,r3,k,e,q3⟩=>?_)) hm;subst e;cases r3;refine MQ ?_
 cases k with
 |false=>exact ite_ff ⟨.bl false,H3,I3,rfl,q3⟩
 |true=>exact ite_tt (chain_last (Ad (hc pins s3 σ H3 _ I3 q3) fun w' s4 ⟨z',H4,I4,r4,q4⟩=>ho' pins s4 σ H4 y z' u w' Q I4 r2 r4 q4))
theorem NP:(sizeLine:Nat)<2^63:=by rw[A3];decide
theorem ET:Bv X (rC .Add) (fun x y H Q=>∃i j,x=.str i/\y=.str j/\i.length+j.length<=sizeLine/\Q (.str (i++j)) H):=by intro pins s σ H x y v u Q I rx ry h;obtain⟨i,j,rfl,rfl,hz,q⟩:=h;obtain⟨t,rfl⟩:=rx;obtain⟨t',rfl⟩:=ry;exact add_str (fun t' tk=>⟨.str (i++j),H,I.tok _,⟨_,rfl⟩,q⟩) hz
end
variable{us:List AB}
section
variable{a b:hY}{tb tc:TE}
theorem vals1{x:V}(r:Vals [x] us):∃u,us=[u]/\RelV x u:=by
 cases r with
 |cons r1 r2=>cases r2;exact⟨_,rfl,r1⟩
end
variable{y:V}
section
variable{a b:hY}{tb tc:TE}
theorem vals2{x:V}(r:Vals [x,y] us):∃u w',us=[u,w']/\RelV x u/\RelV y w':=by
 cases r with
 |cons r1 r2=>
  cases r2 with
  |cons r3 r4=>cases r4;exact⟨_,_,rfl,r1,r3⟩
theorem Jy:DH X (.type "int") (fun xs H Q=>(∃i,xs=[.int i]/\Q (.int i) H)\/∃k,xs=[.bl k]/\Q (.int (if k then 1 else 0)) H):=by
 intro pins s σ H xs us Q I r h;rcases h with⟨i,rfl,q⟩|⟨k,rfl,q⟩
 ·obtain⟨u,rfl,t,rfl⟩:=vals1 r;exact call_int_int ⟨.int i,H,I,⟨_,rfl⟩,q⟩
 ·obtain⟨u,rfl,r1⟩:=vals1 r;cases r1;exact call_int_bool ⟨.int (if k then 1 else 0),H,I.tok _,⟨_,rfl⟩,q⟩
end
structure Kf(h:qY)(x dx C:Ya)(mA:Str->Option AB):Prop where
 obj:h.get? x=some (rZ C dx)
 ns:h.Ns1 dx mA
 ne:dx≠x
variable{dx:Ya}{mA:Str->Option AB}
theorem WM(n:h.Ns1 dx mA):∃od,h.get? dx=some od/\∀name,lookIn name od=some (mA name):=by
 obtain⟨o,es,ep,ho,hd,hk,_,hm⟩:=n;refine⟨o,ho,fun name=>?_⟩;have e:=hm name;unfold nsFind findBy at e;rw[<-Array.find?_toList] at e;unfold lookIn;rw[hd];dsimp only;split
 ·rename_i y q;rw[q] at e;exact BD some e
 ·rename_i q;rw[q] at e;have a:es.toList.any (·.refKey)=false:=by rw[List.any_eq_false];intro y hy;obtain⟨z,t,hkey⟩:=hk y (Array.mem_toList_iff.mp hy);simp[DictEntry.refKey,hkey]
  have a':¬es.toList.any (·.refKey)=true:=by rw[a];exact CY
  rw[AF a'];exact BD some e
variable{C:Ya}
theorem Kf.look{x:Ya}(I:Kf h x dx C mA):∃od,InstAt h x (rZ C dx) C (some od)/\∀name,lookIn name od=some (mA name):=
 let⟨od,ho,hl⟩:=WM I.ns
 ⟨od,⟨I.obj,rfl,rfl,ho⟩,hl⟩
variable{prog:qV}{name:Str}
section
variable{x:Ya}{v:AB}
theorem get_map{expr:Bool}(X:K.In s.heap)(I:Kf s.heap x dx C mA)(hg:r9 K C name=true)(hh:rJ K C=true)
 (ha:qb K (.ref C) name=some none)(hv:mA name=some v)(hv':handedIn v=true)(h:Q v {s with toks:=s.toks+1}):
 bt (ax prog w) A (sd (.ref x) name expr) Q E s:=by
 obtain⟨od,J,hl⟩:=I.look;exact get_value X J (VM hg).1 (findObj_own hh ha rfl (by rw[hl,hv])) hv' h
end
variable{pl:Sem Bool}{f:Ya}
section
variable{x:Ya}{v:AB}
theorem gP{Q:AB×List AB->Yf->Prop}(X:K.In s.heap)(I:Kf s.heap x dx C mA)(hg:r9 K C name=true)
 (hf:qb K (.ref C) name=some (some (.ref f)))(ht:isFn K (.ref f)=true)(hv:mA name=none)(h:Q (.ref f,[.ref x]) s):
 bt (ax prog w) A (rg (.ref x) name pl) Q E s:=by
 obtain⟨od,J,hl⟩:=I.look;exact method_fn X J (VM hg).1 (VM hg).2 hf (FC.mp ht) (by show(lookIn name od).map (·.isSome)=some false;rw[hl,hv];rfl) h
theorem jS{ns:List Str}{Q:Unit->Yf->Prop}(X:K.In s.heap)(I:Kf s.heap x dx C mA)
 (hs:qb K (.ref C) "__setattr__" =some (some (.builtin "object.__setattr__")))(hp:plainOver K C=true)(ht:takerIn K C name=some none)(hh:rJ K C=true)
 (hw:tQ mA ns)(hsz:ns.length<=sizeLine)
 (h:∀h',Kf h' x dx C (fun y=>if y=name then some v else mA y)->Heap.SameBut dx s.heap h'->Q () {s with heap:=h',toks:=s.toks+2}):
 bt (ax prog w) A (setAttr (.ref x) name v) Q E s:=by
 obtain⟨od,J,hl⟩:=I.look;refine set_plain X J hs (osa_open (s:={s with toks:=s.toks+1}) (r:=none) X J hp ht fun b=>?_);obtain⟨cd,hc,hd'⟩:=any_some hh;have hx:s.heap.get? x=some ⟨.ref C,some dx,.plain,#[]⟩:=I.obj;refine AK (Af (AK (AK (wpAny_loadPart hx (AK (PySem.W.Looks.here (s:={s with toks:=s.toks+1}) (VN X hc) ?_))))));rw[hd'];refine Af (a:=some dx) (AK (Af (AK ?_)));refine wpAny_nsSet1 (s:={s with toks:=s.toks+1}) I.ns fun h' hn2 hs2=>?_;obtain⟨oD,esD,epD,hoD,hdD,hcD⟩:=hn2.count (PySem.Within.cons name v hw);refine AK (wpAny_lookBehind hoD (by rw[hdD];exact pastItsLine_dict (BF hcD (by rw[CP];lia))) ?_);exact Af (h _ ⟨(hs2.2 _ (DG I.ne)).trans I.obj,hn2,I.ne⟩ hs2)
end
variable{R:Result->Yf->Prop}{kw:List (Str×AB)}
section
variable{x:Ya}{v:AB}
theorem gG{vs:List AB}(X:K.In s.heap)(hm:makesIn K C=true)
 (hi:qb K (.ref C) "__init__" =some (some (.ref f)))(hf:typeIn K (.ref f)=some (.type "function"))
 (h:qw (ax prog w) (A.under (.builtin "type.__call__" ⟨.ref C::vs,kw⟩)) (.call (.ref f) ⟨.ref (s.heap.objs.size+1)::vs,kw⟩) (InitBack (s.heap.objs.size+1) R)
  {s with heap:=(s.heap.push q5).push (rZ C s.heap.objs.size)}):
 qw (ax prog w) A (.call (.ref C) ⟨vs,kw⟩) R s:=by
 obtain⟨hh,g,d,t,os⟩:=s;exact make_core (makes_of X hm) (N8 X hi) (fun self=>bind_fn X self hf) (.inl rfl) h
end
noncomputable def Eg(f:Str)(v:V):List (Str×V)->List (Str×V)
 |[]=>[(f,v)]
 |(g,x)::r=>if g=f then(g,v)::r else(g,x)::Eg f v r
theorem Vd(f g:Str)(v:V):∀fs:List (Str×V),(Eg f v fs).lookup g=if g=f then some v else fs.lookup g
 |[]=>by
  show List.lookup g [(f,v)]=_;by_cases h:g=f
  ·have hb:(g==f)=true:=FC.mpr h;simp only[List.lookup,hb,AH h]
  ·have hb:(g==f)=false:=OA.mpr h;simp only[List.lookup,hb,AF h]
 |(k,x)::r=>by
  have ih:=Vd f g v r;rw[show Eg f v ((k,x)::r)=(if k=f then(k,v)::r else(k,x)::Eg f v r) from rfl];by_cases hk:k=f
  ·rw[AH hk];by_cases h:g=k
   ·have hb:(g==k)=true:=FC.mpr h;simp only[List.lookup,hb,AH (h.trans hk)]
   ·have hb:(g==k)=false:=OA.mpr h;simp only[List.lookup,hb,AF (fun e:g=f=>h (e.trans hk.symm))]
  ·rw[AF hk];by_cases h:g=k
   ·have hb:(g==k)=true:=FC.mpr h;simp only[List.lookup,hb,AF (fun e:g=f=>hk (h.symm.trans e))]
   ·have hb:(g==k)=false:=OA.mpr h;simp only[List.lookup,hb];exact ih
theorem Rk(f:Str)(v:V):∀fs:List (Str×V),f∈(Eg f v fs).map (·.1)/\∀g,g∈fs.map (·.1)->g∈(Eg f v fs).map (·.1)
 |[]=>⟨by simp[Eg],fun g h=>by simp at h⟩
 |(k,x)::r=>by
  obtain⟨i1,i2⟩:=Rk f v r;rw[show Eg f v ((k,x)::r)=(if k=f then(k,v)::r else(k,x)::Eg f v r) from rfl];by_cases hk:k=f
  ·rw[AH hk];subst hk;exact⟨by simp,fun g h=>by simpa using h⟩
  ·rw[AF hk];refine⟨?_,fun g h=>?_⟩
   ·rw[Av];exact DE _ i1
   ·rw[Av] at h⊢;rcases Ba.mp h with e|e
    ·exact Ba.mpr (.inl e)
    ·exact DE _ (i2 g e)
theorem Vf(f:Str)(v:V):∀fs:List (Str×V),(Eg f v fs).length<=fs.length+1
 |[]=>by simp[Eg]
 |(k,x)::r=>by
  have ih:=Vf f v r;rw[show Eg f v ((k,x)::r)=(if k=f then(k,v)::r else(k,x)::Eg f v r) from rfl];by_cases hk:k=f
  ·rw[AH hk,CP,CP];lia
  ·rw[AF hk,CP,CP];lia
theorem De.some_of{o:Option AB}(r:De (some v) o):∃u,o=some u/\RelV v u:=by
 cases o with
 |none=>exact(show False from r).elim
 |some u=>exact⟨u,rfl,r⟩
theorem De.none_of{o:Option AB}(r:De none o):o=none:=by
 cases o with
 |none=>rfl
 |some u=>exact(show False from r).elim
theorem WW(r:RelV v u):handedIn u=true:=by
 cases v with
 |BA=>cases(show u=Value.none from r);rfl
 |bl b=>cases(show u=Value.bool b from r);rfl
 |int i=>obtain⟨t,e⟩:=(show∃t,u=Value.int i t from r);cases e;rfl
 |str x=>obtain⟨t,e⟩:=(show∃t,u=Value.str x t from r);cases e;rfl
 |F5 b=>obtain⟨t,e⟩:=(show∃t,u=Value.bytes b t from r);cases e;rfl
 |Im b=>obtain⟨t,e⟩:=(show∃t,u=Value.float b t from r);cases e;rfl
 |ref a=>cases(show u=Value.ref a from r);rfl
 |ty n=>cases(show u=Value.type n from r);rfl
section
variable{fs fs':List (Str×V)}
theorem NC(hok:Bu P w H h)(e:H a=some (.ins C dx fs)):∃mA,Kf h a dx C mA/\(∀f,De (fs.lookup f) (mA f))/\tQ mA (fs.map (·.1))/\fs.length<=1000/\H dx=some (.own a):=by obtain⟨d,z,ne,ob,mA,n,r,q⟩:=(show BO P w H h a (.ins C dx fs) from hok a _ e);exact⟨mA,⟨ob,n,ne⟩,r,q,z,d⟩
end
structure Hc(K:tN)(C:Ya):Prop where
 pg:r9 K C Str.empty=true
 hd:rJ K C=true
 po:plainOver K C=true
 sa:qb K (.ref C) "__setattr__" =some (some (.builtin "object.__setattr__"))
theorem Hc.get(c:Hc K C)(f:Str):r9 K C f=true:=c.pg
def KL(K:tN)(C:Ya)(f:Str):Prop:=qb K (.ref C) f=some none
theorem KL.mK{f:Str}(n:KL K C f):takerIn K C f=some none:=by unfold takerIn;rw[show qb K (.ref C) f=some none from n];rfl
structure Meth(K:tN)(C:Ya)(m:Str)(f:Ya):Prop where
 at_:qb K (.ref C) m=some (some (.ref f))
 fn:isFn K (.ref f)=true
 kp:qo K (.ref f)=true
section
variable{fs:List (Str×V)}{f:Str}
theorem dH{b:Bool}(I:Inv X pins σ H s)(e:H a=some (.ins C dx fs))(c:Hc X.K C)(n:KL X.K C f)(l:fs.lookup f=some v)
 (h:∀u s',Inv X pins σ H s'->RelV v u->Q u s'):bt (ax X.prog X.w) A (sd (.ref a) f b) Q E s:=by
 obtain⟨mA,O,r,_,_,_⟩:=NC I.hok e;obtain⟨u,hu,ru⟩:=De.some_of (v:=v) (o:=mA f) (by rw[<-l];exact r f);exact get_map I.BQ O (c.get f) c.hd n hu (WW ru) (h u _ (I.tok _) ru)
end
variable{m:Str}
section
variable{fs:List (Str×V)}{f:Str}
theorem Vz{g:Ya}{Q:AB×List AB->Yf->Prop}(I:Inv X pins σ H s)(e:H a=some (.ins C dx fs))(c:Hc X.K C)(k:Meth X.K C m g)(l:fs.lookup m=none)
 (h:Q (.ref g,[.ref a]) s):bt (ax X.prog X.w) A (rg (.ref a) m pl) Q E s:=by
 obtain⟨mA,O,r,_,_,_⟩:=NC I.hok e;have hn:mA m=none:=De.none_of (by rw[<-l];exact r m);exact gP I.BQ O (c.get m) k.at_ k.fn hn h
theorem de{Q:Unit->Yf->Prop}(I:Inv X pins σ H s)(e:H a=some (.ins C dx fs))(c:Hc X.K C)(n:KL X.K C f)(hl:fs.length<1000)(ry:RelV y u)
 (h:∀s',Inv X pins σ (upd H a (.ins C dx (Eg f y fs))) s'->Q () s'):bt (ax X.prog X.w) A (setAttr (.ref a) f u) Q E s:=by
 obtain⟨mA,O,r,wi,_,ho⟩:=NC I.hok e;have hz:(fs.map (·.1)).length<=sizeLine:=by rw[AL,A3];lia
 refine jS I.BQ O c.sa c.po n.mK c.hd wi hz fun h' O' sb=>h _ ?_;have hd:∃o,h'.get? dx=some o:=let⟨o,_,_,e',_⟩:=O'.ns;⟨o,e'⟩;refine I.write (x:=a) (e:=dx) (by rw[e];exact Cw) (.inr ho) (fun b q hb z=>(sb.2 b hb).trans z) hd ?_;refine⟨by rw[AQ O.ne];exact ho,?_,O.ne,O'.obj,_,O'.ns,fun g=>?_,fun g hg=>?_⟩
 ·have:=Vf f y fs;lia
 ·show De ((Eg f y fs).lookup g) (if g=f then some u else mA g);rw[Vd];by_cases q:g=f
  ·rw[AH q,AH q];exact ry
  ·rw[AF q,AF q];exact r g
 ·by_cases q:g=f
  ·rw[q];exact(Rk f y fs).1
  ·refine(Rk f y fs).2 g (wi g fun z=>hg ?_);show(if g=f then some u else mA g)=none;rw[AF q];exact z
theorem Inv.made(I:Inv X pins σ H s):Inv X pins σ (upd (upd H s.heap.objs.size (.own (s.heap.objs.size+1))) (s.heap.objs.size+1) (.ins C s.heap.objs.size []))
 {s with heap:=(s.heap.push q5).push (rZ C s.heap.objs.size)}:=by
 have e1:(s.heap.push q5).get? s.heap.objs.size=some q5:=Bz s.heap rfl;have e2:((s.heap.push q5).push (rZ C s.heap.objs.size)).get? (s.heap.objs.size+1)=some (rZ C s.heap.objs.size):=by
  have:=Bz (s.heap.push q5) (o:=rZ C s.heap.objs.size) rfl
  rwa [Gr] at this
 have e3:(s.heap.push q5).Ns s.heap.objs.size (fun _=>none):=⟨q5,#[],_,e1,rfl,(fun e he=>absurd he (by simp)),fun _=>rfl⟩;have I1:=I.laid (a:=s.heap.objs.size) (o:=.own (s.heap.objs.size+1)) (h':=s.heap.push q5) (t':=s.toks) (fun b u q=>BB _ q) (Ab _) ⟨_,e1⟩;refine I1.laid (a:=s.heap.objs.size+1) (o:=.ins C s.heap.objs.size []) (t':=s.toks) (fun b u q=>BB _ q) (Nat.le_of_eq (Gr _ _)) ?_;have ne:s.heap.objs.size≠s.heap.objs.size+1:=BM (MU _);refine⟨by rw[AQ ne,AN],CH _,ne,e2,fun _=>none,(Heap.Ns1.of_empty e3).at fun o q=>BB _ q,fun _=>Cw,fun y hy=>absurd rfl hy⟩
end
variable{env:Env}
section
variable{fs:List (Str×V)}{f:Str}
theorem YR{f:Str}(hb:qd e f env (qZ e env)=qZ e env)
 (h:bt (ax prog w) A (qZ e env) (fun o s₁=>bt (ax prog w) A (sd o f true) Q E s₁) E s):bt (ax prog w) A (qZ (.Attribute e f pos) env) Q E s:=
 Attribute_any_ h (by rw[arm_eval_Attribute,hb])
end
def o9(K:tN)(ta:TE)(f:Str):TE:=fun σ H Q=>ta σ H fun x H1=>∃a C dx fs v,x=.ref a/\H1 a=some (.ins C dx fs)/\Hc K C/\KL K C f/\fs.lookup f=some v/\Q v H1
def ph(K:tN)(ta tv:TE)(f:Str):TS:=fun D σ H=>tv σ H fun y H1=>ta σ H1 fun x H2=>∃a C dx fs,x=.ref a/\H2 a=some (.ins C dx fs)/\Hc K C/\KL K C f/\fs.length<1000/\
 D.nx σ (upd H2 a (.ins C dx (Eg f y fs)))
section
variable{o value:hY}{f:Str}{pos':Pos}{tv:TE}
theorem C0(he:PE X e ta)(hb:qd e f X.env (qZ e X.env)=qZ e X.env):PE X (.Attribute e f pos) (o9 X.K ta f):=by intro pins s σ H Q I h;refine YR hb (Ad (he pins s σ H _ I h) fun u s1 ⟨x,H1,I1,rx,a,C,dx,fs,v,ex,ea,c,n,l,q⟩=>?_);subst ex;obtain rfl:u=Value.ref a:=rx;exact dH I1 ea c n l fun u' s2 I2 ru=>⟨v,H1,I2,ru,q⟩
theorem kG(ha:PE X o ta)(hv:PE X value tv)(hs:rY value (some (.Attribute o f pos')) pos.line X.env=pure false):PS X (.Assign [.Attribute o f pos'] value pos) (ph X.K ta tv f):=by intro pins s σ H D I h;refine sN (Ad (hv pins s σ H _ I h) fun u s1 ⟨y,H1,I1,ry,q⟩=>Ad (ha pins s1 σ H1 _ I1 q) fun ov s2 ⟨x,H2,I2,rx,a,C,dx,fs,ex,ea,c,n,l,q2⟩=>?_) hs;subst ex;obtain rfl:ov=Value.ref a:=rx;exact de I2 ea c n l ry fun s3 I3=>⟨σ,_,I3,q2⟩
end
section
variable{c:AB}{b:Bool}
inductive Bj(K:tN)(H:Hp):V->AB->Prop where
 |BA:Bj K H .BA (.type "NoneType")
 |bl (x:Bool):Bj K H (.bl x) (.type "bool")
 |int (i:Int):Bj K H (.int i) (.type "int")
 |str (x:Str):Bj K H (.str x) (.type "str")
 |Im (x:UInt64):Bj K H (.Im x) (.type "float")
 |lst {a:Ya} {xs:List V} (e:H a=some (.lst xs)):Bj K H (.ref a) (.type "list")
 |BR {a:Ya} {o:Obj} {xs:List V} (e:H a=some (.BR o (.lst xs))):Bj K H (.ref a) (.type "list")
 |tup {a:Ya} {xs:List V} (e:H a=some (.tup xs)):Bj K H (.ref a) (.type "tuple")
 |dK {a:Ya} {AA:List (Key×V)} (e:H a=some (.dK AA)):Bj K H (.ref a) (.type "dict")
 |dT {a:Ya} {AA:List (List Key×V)} (e:H a=some (.dT AA)):Bj K H (.ref a) (.type "dict")
 |ins {a C dx:Ya} {fs:List (Str×V)} (e:H a=some (.ins C dx fs)) (cl:Hc K C) (ha:qb K (.ref C) "__class__" =some (some (.builtin "object.__class__")))
  (hn:sP K (.builtin "object.__class__") "__get__" =some (some (.builtin "getset_descriptor.__get__"))) (htk:takesIn K (.builtin "object.__class__")=some true)
  (hm:mroIn K C (.type "object")=some true):Bj K H (.ref a) (.ref C)
theorem d9{x:V}{t:AB}(I:Inv X pins σ H s)(rx:RelV x u)(ty:Bj X.K H x t)(e:rV X.K t c=some b)(h:∀tk,Q (.bool b) {s with toks:=tk}):
 bt (ax X.prog X.w) A (call (.builtin "isinstance") [u,c]) Q E s:=by
 cases ty with
 |BA=>cases(show u=Value.none from rx);exact Hl kitx_none I.BQ Cw e (fun z=>nomatch z) h
 |bl y=>cases(show u=Value.bool y from rx);exact Hl kitx_bool I.BQ Cw e (fun z=>nomatch z) h
 |int i=>obtain⟨t,q⟩:=(show∃t,u=Value.int i t from rx);cases q;exact Hl kitx_int I.BQ Cw e (fun z=>nomatch z) h
 |str y=>obtain⟨t,q⟩:=(show∃t,u=Value.str y t from rx);cases q;exact Hl kitx_str I.BQ Cw e (fun z=>nomatch z) h
 |Im y=>obtain⟨t,q⟩:=(show∃t,u=Value.float y t from rx);cases q;exact Hl kitx_float I.BQ Cw e (fun z=>nomatch z) h
 |@lst a xs ea=>cases(show u=Value.ref a from rx);obtain⟨_,_,n,_,h1⟩:=(show BO X.prog X.w H s.heap a (.lst xs) from I.hok a _ ea);exact Hl Qv I.BQ ⟨_,h1,rfl⟩ e (fun z=>nomatch z) h
 |@BR a ob xs ea=>cases(show u=Value.ref a from rx);obtain⟨_,_,_,n,_,h1⟩:=(show BO X.prog X.w H s.heap a (.BR ob (.lst xs)) from I.hok a _ ea);exact Hl Qv I.BQ ⟨_,h1,rfl⟩ e (fun z=>nomatch z) h
 |@tup a xs ea=>cases(show u=Value.ref a from rx);obtain⟨_,_,_,p⟩:=(show BO X.prog X.w H s.heap a (.tup xs) from I.hok a _ ea);obtain⟨o,h1,h2,_⟩:=p;exact Hl kitx_tuple I.BQ ⟨o,h1,h2⟩ e (fun z=>nomatch z) h
 |@dK a AA ea=>cases(show u=Value.ref a from rx);obtain⟨_,_,vs,_,p⟩:=(show BO X.prog X.w H s.heap a (.dK AA) from I.hok a _ ea);obtain⟨o,es,ep,h1,h2,_⟩:=p;exact Hl Qw I.BQ ⟨o,h1,h2.1⟩ e (fun z=>nomatch z) h
 |@dT a AA ea=>cases(show u=Value.ref a from rx);obtain⟨_,_,xs,_,o,es,ep,h1,h2,_⟩:=(show BO X.prog X.w H s.heap a (.dT AA) from I.hok a _ ea);exact Hl Qw I.BQ ⟨o,h1,h2.1⟩ e (fun z=>nomatch z) h
 |@ins a C dx fs ea cl ha hn htk hm=>cases(show u=Value.ref a from rx);obtain⟨mA,O,_⟩:=NC I.hok ea;obtain⟨od,J,_⟩:=O.look;exact Hl (kitx_own (cl.get _) cl.hd ha hn htk hm) I.BQ J e (fun z=>nomatch z) h
end
structure Bi(k:Nat)(A:qy):Prop where
 hd:A.handled=none
 dp:A.depth+3*k+5<recursionLimit
 un:A.units+16*k+200<qh
theorem Bi.mono(r:Bi k A)(h:j<=k):Bi j A:=⟨r.hd,by have:=r.dp;lia,by have:=r.un;lia⟩
theorem Bi.deeper(r:Bi (k+1) A)(env:Env):Bi k (A.deeper env):=
 ⟨r.hd,by have:=r.dp;show A.depth+1+3*k+5<_;lia,by have:=r.un;show A.units+3+16*k+200<_;lia⟩
theorem dE:(A.under (.builtin "type.__call__" ⟨.ref C::us,kw⟩)).depth=A.depth+1:=by first|rfl|simp[Around.under,Code.weight,Code.isCreation,Code.isGuard,Code.isCaller,Code.frames,Code.isFrame,guardIds]
theorem dS:(A.under (.builtin "type.__call__" ⟨.ref C::us,kw⟩)).units=A.units+1:=by first|rfl|simp[Around.under,Code.cUnits,Code.frames,Code.isFrame]
theorem Bi.make(r:Bi (k+1) A)(C:Ya)(us:List AB)(kw:List (Str×AB)):Bi k (A.under (.builtin "type.__call__" ⟨.ref C::us,kw⟩)):=
 ⟨r.hd,by have:=r.dp;rw[dE];lia,by have:=r.un;rw[dS];lia⟩
theorem Bi.depth(r:Bi k A):A.depth<recursionLimit:=by have:=r.dp;lia
theorem Bi.units(r:Bi k A):A.units+64<qh:=by have:=r.un;lia
theorem Bi.TJ(r:Bi k A):A.units<qh:=by have:=r.un;lia
def Kh:TA:=fun _ H Q=>Q [] H
def NV(ta:TE)(tr:TA):TA:=fun σ H Q=>ta σ H fun x H1=>tr σ H1 fun xs H2=>Q (x::xs) H2
section
variable{es:List hY}{t:TA}
theorem AI:PA X [] Kh:=fun _ _ _ _ H Q I h=>Calls.spliced_nil ⟨[],H,I,.nil,h⟩
theorem AE(ha:PE X e te)(hr:PA X es t)(hs:dy (e::es) X.env=(false,qZ e X.env)::dy es X.env:=by rfl):PA X (e::es) (NV te t):=by intro pos pins s σ H Q I h;rw[hs];show bt _ _ (spliced ((false,qZ e X.env)::qf pos (dy es X.env))) _ _ s;refine Qr (Ad (ha pins s σ H _ I h) fun u s1 ⟨x,H1,I1,r1,q1⟩=>?_);exact Ad (hr pos pins s1 σ H1 _ I1 q1) fun us s2 ⟨xs,H2,I2,r2,q2⟩=>⟨x::xs,H2,I2,.cons r1 r2,q2⟩
def pK(t:TA):TE:=fun σ H Q=>t σ H fun xs H1=>xs.length<=sizeLine/\∀p,H1 p=none->Q (.ref p) (upd H1 p (.tup xs))
def aF(t:TA):TE:=fun σ H Q=>t σ H fun xs H1=>xs.length<=sizeLine/\∀p,H1 p=none->Q (.ref p) (upd H1 p (.lst xs))
theorem CQ{X:Cx}{es:List hY}{t:TA}{pos:Pos}{x1}(h:PA X es t):PE X (.Tuple es x1 pos) (pK t):=by intro pins s σ H Q I hq;refine wpAny_Tuple_spliced (Ad (h pos pins s σ H _ I hq) fun us s1 ⟨xs,H1,I1,r,z,q⟩=>⟨by rw[<-r.length];exact z,?_⟩);have hf:H1 s1.heap.objs.size=none:=I1.hok.fresh (Ab _);refine⟨.ref s1.heap.objs.size,upd H1 s1.heap.objs.size (.tup xs),I1.laid (t':=s1.toks) (fun b u e=>BB _ e) (Ab _) ?_,rfl,q _ hf⟩;exact⟨z,us,r,⟨_,Bz _ rfl,rfl,_,rfl⟩⟩
theorem Bx(h:PA X es t):PE X (.List es pos) (aF t):=by intro pins s σ H Q I hq;refine wpAny_List_spliced (Ad (h pos pins s σ H _ I hq) fun us s1 ⟨xs,H1,I1,r,z,q⟩=>⟨by rw[<-r.length];exact z,?_⟩);have hf:H1 s1.heap.objs.size=none:=I1.hok.fresh (Ab _);refine⟨.ref s1.heap.objs.size,upd H1 s1.heap.objs.size (.lst xs),I1.laid (t':=s1.toks) (fun b u e=>BB _ e) (Ab _) ?_,rfl,q _ hf⟩;exact⟨z,us,0,r,Bz _ rfl⟩
end
abbrev Sp:=List V->Hp->VK->XK->Prop
abbrev Jg:=List Env->Hp->Yf->XK->AB->Yf->Prop
structure Ki(P:qV)(w:qa)(K:tN)(mg:Str->Option AB)(base:qY)(A:qy)(outer:List Env)(s:Yf)(H:Hp):Prop where
 frames:A.frames=some outer
 mod:Mod K mg base
 bs:∀b o,base.get? b=some o->s.heap.get? b=some o/\H b=none
 Gk:base.objs.size<=s.heap.objs.size
 E4:s.heap.FunFrames base outer
 IG:∀b∈Cr outer,H b=none
 hok:Bu P w H s.heap
 bare:rO s.gens
def CE(outer:List Env)(P:qV)(w:qa)(H:Hp)(s:Yf)(Q:VK)(u:AB)(s':Yf):Prop:=
 ∃v H',s'.os=s.os/\rO s'.gens/\Un (Cr outer) [] H H' s.heap s'.heap/\Bu P w H' s'.heap/\RelV v u/\Q v H'
def CR(CX:Jg)(outer:List Env)(P:qV)(w:qa)(H:Hp)(s:Yf)(Q:VK)(E:XK)(r:Result)(s':Yf):Prop:=
 match r with
 |.ok (.ret u)=>CE outer P w H s Q u s'
 |.ok _=>False
 |.error e=>CX outer H s E e s'
structure AW(P:qV)(w:qa)(K:tN)(mg:Str->Option AB)(base:qY)(CX:Jg)(k:Nat)(f:Ya)(fd:qX)(ps:List Str)(sp:Sp):Prop where
 len:∀vs H Q E,sp vs H Q E->vs.length=ps.length
 run:∀(A:qy)(outer:List Env)(s:Yf)(H:Hp)(args:Args)(us:List AB)(vs:List V)(Q:VK)(E:XK),Bi k A->Ki P w K mg base A outer s H->sg s fd args (ps.zip us)->Vals vs us->sp vs H Q E->
  qw (ax P w) A (.call (.ref f) args) (CR CX outer P w H s Q E) s
theorem AW.mono{P:qV}{w:qa}{K:tN}{mg:Str->Option AB}{base:qY}{CX:Jg}{j k:Nat}{f:Ya}{fd:qX}{ps:List Str}{sp:Sp}(F:AW P w K mg base CX j f fd ps sp)(h:j<=k):
 AW P w K mg base CX k f fd ps sp:=⟨F.len,fun A outer s H args us vs Q E hr=>F.run A outer s H args us vs Q E (hr.mono h)⟩
variable{mg:Str->Option AB}{base:qY}{outer:List Env}
theorem Ki.make(e:Ki P w K mg base A outer s H)(C:Ya)(us:List AB)(kw:List (Str×AB)):
 Ki P w K mg base (A.under (.builtin "type.__call__" ⟨.ref C::us,kw⟩)) outer s H:=⟨by first|exact e.frames|(simpa[Around.under,Code.envs,Code.isFrame,pushEnvs] using e.frames),e.mod,e.bs,e.Gk,e.E4,e.IG,e.hok,e.bare⟩
section
variable{s':Yf}
theorem Inv.T4(I:Inv X pins σ H s):Ki X.prog X.w X.K X.mg X.base X.A X.stack s H:=
 ⟨I.ok.frames,I.ok.mod,I.bs,BF I.ok.Gk I.sz,I.stack,I.PH,I.hok,I.bare⟩
theorem Inv.after{Q:VK}(I:Inv X pins σ H s)(h:CE X.stack X.prog X.w H s Q u s'):EP X pins σ Q u s':=by obtain⟨v,H',os,bare,un,hok,r,q⟩:=h;obtain⟨hh,g,d,t,os'⟩:=s';obtain rfl:os'=s.os:=os;exact⟨v,H',I.call (h':=hh) (g':=g) (d':=d) (t':=t) (ch:=[]) un hok bare (fun b z=>absurd z (by simp)),r,q⟩
end
def NT(sp:Sp)(dvs:List V)(E:XK)(t:TA):TE:=fun σ H Q=>t σ H fun vs H1=>sp (vs++dvs) H1 Q E
def Za(C:Ya)(m:Str)(sp:Sp)(dvs:List V)(E:XK)(ta:TE)(t:TA):TE:=fun σ H Q=>ta σ H fun x H1=>∃a dx fs,x=.ref a/\H1 a=some (.ins C dx fs)/\fs.lookup m=none/\
 t σ H1 fun vs H2=>sp (x::(vs++dvs)) H2 Q E
def nK(C:Ya)(sp:Sp)(dvs:List V)(E:XK)(t:TA):TE:=fun σ H Q=>t σ H fun vs H1=>∀x dx,H1 x=none->H1 dx=none->dx≠x->
 sp (.ref x::(vs++dvs)) (upd (upd H1 dx (.own x)) x (.ins C dx [])) (fun v H2=>v=.BA/\Q (.ref x) H2) E
def Binds(K:tN)(fd:qX)(ps:List Str)(ds:List AB):Prop:=
 ∀(s:Yf)(us:List AB),K.In s.heap->(us++ds).length=ps.length->sg s fd ⟨us,[]⟩ (ps.zip (us++ds))
variable{fd:qX}{ps:List Str}
theorem Binds.all(h:∀us:List AB,us.length=ps.length->bindArgs fd ⟨us,[]⟩=pure (ps.zip us)):Binds K fd ps []:=fun s us _ hl=>by rw[C5] at hl⊢;exact .of_eq (h us hl)
def Passes(CX:Jg)(X:Cx)(E:XK):Prop:=∀(pins:List (Ya×Obj))(σ:St)(H:Hp)(s:Yf)(e:AB)(s':Yf),Inv X pins σ H s->CX X.stack H s E e s'->X.xe e s'
variable{CX:Jg}{sp:Sp}
section
variable{dvs:List V}{ds:List AB}{E:XK}{o:hY}{es:List hY}{t:TA}
theorem NN{Q:VK}{vs:List V}(F:AW X.prog X.w X.K X.mg X.base CX k f fd ps sp)(hr:Bi k X.A)(hb:Binds X.K fd ps ds)(hd:Vals dvs ds)(hx:Passes CX X E)
 (I:Inv X pins σ H s)(r:Vals vs us)(h:sp (vs++dvs) H Q E):bt (ax X.prog X.w) X.A (call (.ref f) us) (EP X pins σ Q) X.xe s:=by
 have r2:Vals (vs++dvs) (us++ds):=r.append hd;have hl:(us++ds).length=ps.length:=by rw[<-r2.length];exact F.len _ _ _ _ h
 refine Mc (K9 (F.run X.A X.stack s H ⟨us,[]⟩ (us++ds) (vs++dvs) Q E hr I.T4 (hb s us I.BQ hl) r2 h) fun r s' hq=>?_)
 cases r with
 |error e=>exact hx pins σ H s e s' I hq
 |ok fl=>
  cases fl with
  |ret u=>exact I.after hq
  |next=>exact False.elim hq
  |brk=>exact False.elim hq
  |cont=>exact False.elim hq
theorem Ck(F:AW X.prog X.w X.K X.mg X.base CX k f fd ps sp)(hr:Bi k X.A)(hg:Gl X x)(hm:X.mg x=some (.ref f))(hk:qo X.K (.ref f)=true)(hb:Binds X.K fd ps ds)(hd:Vals dvs ds)(hx:Passes CX X E)
 (ha:PA X (e::es) t)(hdb:(x==("__debug__" :Str))=false:=by decide)(he:dy (e::es) X.env=(false,qZ e X.env)::dy es X.env:=by rfl)(hpl:(qf pos (dy es X.env)).any (·.1)=false:=by rfl):
 PE X (.Call (.Name x p) (e::es) [] pos) (NT sp dvs E t):=by
 intro pins s σ H Q I h;refine MO (LV I hg hm ?_ hdb);refine VQ (h₀:=X.base) I.ok.mod.Nu hk (Ad (ha pos pins s σ H _ I h) fun us s1 ⟨vs,H1,I1,r,q⟩=>⟨I1.BQ,?_⟩) he hpl;exact NN F hr hb hd hx I1 r q
theorem Xk(F:AW X.prog X.w X.K X.mg X.base CX k f fd ps sp)(hr:Bi k X.A)(hg:Gl X x)(hm:X.mg x=some (.ref f))(hk:qo X.K (.ref f)=true)(hb:Binds X.K fd ps ds)(hd:Vals dvs ds)(hx:Passes CX X E)
 (hdb:(x==("__debug__" :Str))=false:=by decide):PE X (.Call (.Name x p) [] [] pos) (NT sp dvs E Kh):=by
 intro pins s σ H Q I h;refine MO (LV I hg hm ?_ hdb);exact Qh I.BQ hk (NN (us:=[]) F hr hb hd hx I .nil h)
end
variable{apos:Pos}
section
variable{dvs:List V}{ds:List AB}{E:XK}{o:hY}{es:List hY}{t:TA}
theorem Dl(he:PE X o ta)(c:Hc X.K C)(hm:Meth X.K C m f)(F:AW X.prog X.w X.K X.mg X.base CX k f fd ps sp)(hr:Bi k X.A)(hb:Binds X.K fd ps ds)(hd:Vals dvs ds)(hx:Passes CX X E)(ha:PA X (e::es) t)
 (hst:dy (e::es) X.env=(false,qZ e X.env)::dy es X.env:=by rfl)(hpl:(qf pos (dy es X.env)).any (·.1)=false:=by rfl)
 (ht:qZ (.Call (.Attribute o m apos) (e::es) [] pos) X.env=(do
  let ov<-qZ o X.env
  sZ apos.atName
  let(f,first)<-rS [ov] (rg ov m pl)
  callWith pos f first (qf pos (dy (e::es) X.env)) (rL pos (qk [] X.env))):=by rfl):
 PE X (.Call (.Attribute o m apos) (e::es) [] pos) (Za C m sp dvs E ta t):=by
 intro pins s σ H Q I h;refine VB (pl:=pl) (Ad (he pins s σ H _ I h) fun u s1 ⟨x,H1,I1,rx,a,dx,fs,ex,ea,l,q⟩=>?_) ht;subst ex;obtain rfl:u=Value.ref a:=rx;refine Vz I1 ea c hm l ?_;refine VQ (first:=[.ref a]) (h₀:=X.base) I.ok.mod.Nu hm.kp (Ad (ha pos pins s1 σ H1 _ I1 q) fun us s2 ⟨vs,H2,I2,r,q2⟩=>⟨I2.BQ,?_⟩) hst hpl;exact NN (us:=.ref a::us) (vs:=.ref a::vs) F hr hb hd hx I2 (.cons rfl r) q2
theorem gI(he:PE X o ta)(c:Hc X.K C)(hm:Meth X.K C m f)(F:AW X.prog X.w X.K X.mg X.base CX k f fd ps sp)(hr:Bi k X.A)(hb:Binds X.K fd ps ds)(hd:Vals dvs ds)(hx:Passes CX X E)
 (ht:qZ (.Call (.Attribute o m apos) [] [] pos) X.env=(do
  let ov<-qZ o X.env
  sZ apos.atName
  let(f,first)<-rS [ov] (rg ov m pl)
  callWith pos f first (qf pos (dy [] X.env)) (rL pos (qk [] X.env))):=by rfl):
 PE X (.Call (.Attribute o m apos) [] [] pos) (Za C m sp dvs E ta Kh):=by
 intro pins s σ H Q I h;refine VB (pl:=pl) (Ad (he pins s σ H _ I h) fun u s1 ⟨x,H1,I1,rx,a,dx,fs,ex,ea,l,q⟩=>?_) ht;subst ex;obtain rfl:u=Value.ref a:=rx;refine Vz I1 ea c hm l ?_;exact Qh (first:=[.ref a]) I1.BQ hm.kp (NN (us:=[.ref a]) (vs:=[.ref a]) F hr hb hd hx I1 (.cons rfl .nil) q)
structure Mk(K:tN)(C f:Ya):Prop where
 makes:makesIn K C=true
 init:qb K (.ref C) "__init__" =some (some (.ref f))
 fn:isFn K (.ref f)=true
 kp:qo K (.ref C)=true
theorem ik{Q:VK}{vs:List V}(M:Mk X.K C f)(F:AW X.prog X.w X.K X.mg X.base CX k f fd ps sp)(hr:Bi (k+1) X.A)(hb:Binds X.K fd ps ds)(hd:Vals dvs ds)
 (hx:Passes CX X E)(I:Inv X pins σ H s)(r:Vals vs us)
 (h:∀x dx,H x=none->H dx=none->dx≠x->sp (.ref x::(vs++dvs)) (upd (upd H dx (.own x)) x (.ins C dx [])) (fun v H2=>v=.BA/\Q (.ref x) H2) E):
 bt (ax X.prog X.w) X.A (call (.ref C) us) (EP X pins σ Q) X.xe s:=by
 have hq:=h (s.heap.objs.size+1) s.heap.objs.size (I.hok.fresh (Eo _)) (I.hok.fresh (Ab _)) (BM (MU _));have I2:=Inv.made (C:=C) I;have r2:Vals (V.ref (s.heap.objs.size+1)::(vs++dvs)) (Value.ref (s.heap.objs.size+1)::(us++ds)):=.cons rfl (r.append hd);have hl:(Value.ref (s.heap.objs.size+1)::us++ds).length=ps.length:=by have e:=r2.length;rw[F.len _ _ _ _ hq] at e;exact e.symm
 refine Mc (gG (f:=f) I.BQ M.makes M.init (FC.mp M.fn) (K9 (F.run _ X.stack _ _ ⟨Value.ref (s.heap.objs.size+1)::us,[]⟩ (Value.ref (s.heap.objs.size+1)::(us++ds)) _ _ E (hr.make C us [])
  (I2.T4.make C us []) (hb _ (Value.ref (s.heap.objs.size+1)::us) I2.BQ hl) r2 hq) fun r s' hq'=>?_))
 cases r with
 |error e=>exact hx pins σ _ _ e s' I2 hq'
 |ok fl=>
  cases fl with
  |ret u=>obtain⟨v,H',I3,rv,ev,q3⟩:=I2.after hq';subst ev;exact⟨rv,⟨V.ref (s.heap.objs.size+1),H',I3,rfl,q3⟩⟩
  |next=>exact False.elim hq'
  |brk=>exact False.elim hq'
  |cont=>exact False.elim hq'
theorem XZ(M:Mk X.K C f)(F:AW X.prog X.w X.K X.mg X.base CX k f fd ps sp)(hr:Bi (k+1) X.A)(hg:Gl X x)(hm:X.mg x=some (.ref C))(hb:Binds X.K fd ps ds)(hd:Vals dvs ds)(hx:Passes CX X E)
 (hdb:(x==("__debug__" :Str))=false:=by decide):PE X (.Call (.Name x p) [] [] pos) (nK C sp dvs E Kh):=by
 intro pins s σ H Q I h;refine MO (LV I hg hm ?_ hdb);exact Qh I.BQ M.kp (ik (us:=[]) M F hr hb hd hx I .nil h)
end
structure Az(N P:List Str)(sc:sL):Prop where
 kind:sc.kind=.function
 co:sc.isCoroutine=false
 gen:sc.isGenerator=false
 nd:N.Nodup
 pre:N.take P.length=P
 par:∀x∈P,sc.names.lookup x=some .local\/sc.names.lookup x=some .cell
 lV:∀y∈sc.names,y.2≠.free
theorem WY{kindOf:Str->Option tH}{x:Str}:∀{binds:List (Str×AB)}{m:Str->Option AB},(∀v,(x,v)∉binds)->bindL kindOf binds m x=m x
 |[],_,_=>rfl
 |(n,v)::r,m,h=>by
  unfold bindL;rw[WY fun w hw=>h w (DE _ hw)];split
  ·have:x≠n:=by rintro rfl;exact h v Di
   simp[this]
  ·rfl
theorem WA{kindOf:Str->Option tH}{x:Str}:∀{binds:List (Str×AB)}{m:Str->Option AB},(∀v,(x,v)∉binds)->bindC kindOf binds m x=m x
 |[],_,_=>rfl
 |(n,v)::r,m,h=>by
  unfold bindC;rw[WA fun w hw=>h w (DE _ hw)];split
  ·rfl
  ·have:x≠n:=by rintro rfl;exact h v Di
   simp[this]
theorem V8{kindOf:Str->Option tH}{x:Str}{v:AB}:∀{P:List Str}{vs:List AB}{i:Nat}{m:Str->Option AB},P.Nodup->P[i]? =some x->vs[i]? =some v->kindOf x=some .local->
 bindL kindOf (P.zip vs) m x=some v
 |[],_,_,_,_,h,_,_=>by simp at h
 |_::_,[],_,_,_,_,h,_=>by simp at h
 |p::P,w::vs,0,m,nd,h1,h2,hk=>by simp at h1 h2;subst h1;subst h2;show bindL kindOf ((p,w)::P.zip vs) m p=_;unfold bindL;rw[WY fun v hv=>(IS.mp nd).1 (List.of_mem_zip hv).1,AH hk];simp
 |p::P,w::vs,i+1,m,nd,h1,h2,hk=>by show bindL kindOf ((p,w)::P.zip vs) m x=_;unfold bindL;exact V8 (i:=i) (IS.mp nd).2 (by simpa using h1) (by simpa using h2) hk
theorem WE{kindOf:Str->Option tH}{x:Str}{v:AB}:∀{P:List Str}{vs:List AB}{i:Nat}{m:Str->Option AB},P.Nodup->P[i]? =some x->vs[i]? =some v->kindOf x≠some .local->
 bindC kindOf (P.zip vs) m x=some v
 |[],_,_,_,_,h,_,_=>by simp at h
 |_::_,[],_,_,_,_,h,_=>by simp at h
 |p::P,w::vs,0,m,nd,h1,h2,hk=>by simp at h1 h2;subst h1;subst h2;show bindC kindOf ((p,w)::P.zip vs) m p=_;unfold bindC;rw[WA fun v hv=>(IS.mp nd).1 (List.of_mem_zip hv).1,AF hk];simp
 |p::P,w::vs,i+1,m,nd,h1,h2,hk=>by show bindC kindOf ((p,w)::P.zip vs) m x=_;unfold bindC;exact WE (i:=i) (IS.mp nd).2 (by simpa using h1) (by simpa using h2) hk
noncomputable def start(N:List Str)(vs:List V):St:=vs.map some++List.replicate (N.length-vs.length) none
noncomputable def Ja(CX:Jg)(P:qV)(w:qa)(K:tN)(mg:Str->Option AB)(base:qY)(N:List Str)(qual:Str)(scope:sL)(f:Ya)(cd:AB)(A:qy)(outer:List Env)(s:Yf)(H:Hp)(E:XK):Cx where
 prog:=P
 w:=w
 K:=K
 mg:=mg
 base:=base
 A:=A.deeper (rK qual scope s.heap.objs.size f cd)
 N:=N
 s₀:=s
 H₀:=H
 env:=rK qual scope s.heap.objs.size f cd
 outer:=outer
 stack:=rK qual scope s.heap.objs.size f cd::outer
 ex:=[]
 calm:=true
 fn:=fun _=>true
 pn:=[]
 xe:=fun e s'=>bt (ax P w) (A.deeper (rK qual scope s.heap.objs.size f cd)) (leaving (rK qual scope s.heap.objs.size f cd) e) (fun _ s''=>CX outer H s E e s'') (fun e' s''=>CX outer H s E e' s'') s'
theorem Wt{sc:sL}{n:Nat}(h:sc.names.lookup x=some .cell):∃c,(cellsFrom n sc.names []).lookup x=some c:=by have q:=cellsFrom_some sc.names n [] (.inl h);exact Option.isSome_iff_exists.mp q
variable{qual:Str}{scope:sL}{cd:AB}
theorem eJ{s1:Yf}{E:XK}{vs:List V}
 (S:Az N ps scope)(hd:A.handled=none)(e0:Ki P w K mg base A outer s H)(hl:vs.length=ps.length)(r:Vals vs us)
 (x:InCallC s s.heap.objs.size (bindL (rK qual scope s.heap.objs.size f cd).kindOf (ps.zip us) fun _=>none) (cellsFrom (s.heap.objs.size+1) scope.names []) (bindC (rK qual scope s.heap.objs.size f cd).kindOf (ps.zip us) fun _=>none) s1):
 Inv (Ja CX P w K mg base N qual scope f cd A outer s H E) [] (start N vs) H s1:=by
 have hpl:ps.length<=N.length:=by have:=BD List.length S.pre;rw[Bl] at this;lia
 obtain⟨h1,tk,rfl,hk⟩:=x.done;have Jc:∀b:Ya,b∉(Ja CX P w K mg base N qual scope f cd A outer s H E).ex:=fun b z=>absurd (show b∈([]:List Ya) from z) (by simp);refine⟨⟨e0.mod,S.kind,rfl,rfl,Ab _,fun y z c h1 h2=>?_,fun y hy=>?_,fun y c _ h=>?_,fun _=>hd,Around.frames_deeper e0.frames,.inr ⟨rfl,rfl⟩,fun b z=>absurd z (Jc b),e0.bs,e0.Gk,fun b _ _=>Jc b,fun b z=>absurd z (Jc b),e0.E4,e0.IG⟩,
  rfl,e0.bare,Un.kept hk,⟨_,x.toInCall.ns,fun i y v h1 h2 h3=>?_⟩,fun y c h=>⟨_,x.cell y c h⟩,e0.hok.fresh (Ab _),fun y c h=>?_,fun p hp=>absurd (show p∈([]:List (Ya×Obj)) from hp) (by simp),e0.hok.kept hk,?_⟩
 ·exact name_of_addr x.apart (Iu h1) (Iu h2)
 ·have hy:scope.names.lookup y=some .cell\/scope.names.lookup y=some .free:=hy;rcases hy with hy|hy
  ·exact Wt hy
  ·exact absurd rfl (S.lV _ (Iu hy))
 ·exact Fl (x.above y c (Iu h))
 ·have hi:i<vs.length:=by
   unfold start at h2;by_cases hi:i<vs.length
   ·exact hi
   ·rw[Cv (by simpa using hi)] at h2;rw[List.getElem?_replicate] at h2;split at h2<;>cases h2
  have ha:vs[i]? =some v:=by
   unfold start at h2;rw[DC (by simpa using hi),Ax] at h2
   cases e:vs[i]?with
   |none=>rw[e] at h2;cases h2
   |some a=>rw[e] at h2;cases h2;rfl
  obtain⟨u,hu,rv⟩:=r.get ha;have hp:ps[i]? =some y:=by rw[<-S.pre,List.getElem?_take_of_lt (by lia)];exact h1
  have ndP:ps.Nodup:=by rw[<-S.pre];exact S.nd.sublist (List.take_sublist _ _)
  refine⟨u,rv,?_⟩;rcases S.par y (CK hp) with k|k
  ·exact .inl ⟨k,V8 ndP hp hu k⟩
  ·obtain⟨c,e⟩:=Wt (n:=s.heap.objs.size+1) k;refine .inr ⟨.inl k,c,e,?_⟩;have q:=x.cell y c e;rw[WE ndP hp hu (by show scope.names.lookup y≠_;rw[k];decide)] at q;exact q
 ·exact e0.hok.fresh (Fl (x.above y c (Iu h)))
 ·unfold start;show _=N.length;rw[A7,AL,List.length_replicate]
  lia
variable{od:Option Ya}{osl:Array (Option AB)}
theorem Zq{params:Arguments}{dV kV doc pm cdv ct oc:AB}{an:Option Ya}
 (lk:K.lookup f=some ⟨oc,od,.func (fnOf name qual params body scope dV kV doc pm an cdv ct),osl⟩)(hcd:codeIn K cdv qual=true)(S:Az N ps scope)
 (len:∀vs H Q E,sp vs H Q E->vs.length=ps.length)
 (hbody:∀(A:qy)(outer:List Env)(s:Yf)(H:Hp)(vs:List V)(Q:VK)(E:XK),Bi k (A.deeper (rK qual scope s.heap.objs.size f cdv))->sp vs H Q E->
  ∃t,Ei (Ja CX P w K mg base N qual scope f cdv A outer s H E) body t/\t {nx:=fun _ H'=>Q .BA H',rt:=Q} (start N vs) H):
 AW P w K mg base CX (k+1) f (fnOf name qual params body scope dV kV doc pm an cdv ct) ps sp:=by
 refine⟨len,fun A outer s H args us vs Q E hr e0 hb r hsp=>?_⟩;have hl:=len _ _ _ _ hsp;have KX:K.In s.heap:=e0.mod.Nu.keeps fun b o e=>(e0.bs b o e).1;have lim:s.heap.NoLimit:=e0.mod.nolimit.keeps fun b o e=>(e0.bs b o e).1;have hkind:∀y∈ps.zip us,scope.names.lookup y.1=some .local\/(scope.names.lookup y.1=some .cell/\((cellsFrom (s.heap.objs.size+1) scope.names []).lookup y.1).isSome=true):=fun⟨n,v⟩ hy=>by
  rcases S.par n (List.of_mem_zip hy).1 with q|q
  ·exact .inl q
  ·exact .inr ⟨q,cellsFrom_some _ _ _ (.inl q)⟩
 refine codeAny_call_function hr.depth (KX _ _ lk) rfl S.co S.gen rfl (codeRec_of KX hcd) (hb _ _ _ _ ?_);refine wpAny_newFunctionEnv_cells S.kind hkind fun env he s1 x=>?_;subst he;refine⟨lim.keeps x.toInCall.keep,codeAny_func ?_⟩;obtain⟨t,ht,hq⟩:=hbody A outer s H vs Q E (hr.deeper _) hsp;have I:Inv (Ja CX P w K mg base N qual scope f cdv A outer s H E) [] (start N vs) H s1:=eJ S hr.hd e0 hl r x;refine C6 (ht [] s1 (start N vs) H _ I hq) (fun fl s' hs=>?_) fun e s' hs=>hs;have fin:∀{σ':St}{H':Hp}{v:V}{u:AB},Inv (Ja CX P w K mg base N qual scope f cdv A outer s H E) [] σ' H' s'->RelV v u->Q v H'->CE outer P w H s Q u s':=
  fun{σ' H' v u} J rv q=>⟨v,H',J.os,J.bare,J.base,J.hok,rv,q⟩
 cases fl with
 |ret u=>obtain⟨v,σ',H',J,rv,q⟩:=hs;exact fin J rv q
 |next=>obtain⟨σ',H',J,q⟩:=hs;exact fin (v:=V.BA) (u:=Value.none) J rfl q
 |brk=>obtain⟨_,_,_,q⟩:=hs;exact False.elim q
 |cont=>obtain⟨_,_,_,q⟩:=hs;exact False.elim q
section
variable{es:List hY}{t:TA}{id:String}{r:List V->Hp->VK->Prop}
def QM(r:List V->Hp->VK->Prop)(t:TA):TE:=fun σ H Q=>t σ H fun vs H1=>r vs H1 Q
theorem BY(hc:DH X (.builtin id) r)(hg:Gl X x)(hm:X.mg x=none)(hv:qc x=some (.builtin id))(ha:PA X (e::es) t)(hn:x≠ "__name__" :=by decide)(hdb:(x==("__debug__" :Str))=false:=by decide)
 (he:dy (e::es) X.env=(false,qZ e X.env)::dy es X.env:=by rfl)(hpl:(qf pos (dy es X.env)).any (·.1)=false:=by rfl):PE X (.Call (.Name x p) (e::es) [] pos) (QM r t):=by
 intro pins s σ H Q I h;refine MO (NG I hg hm hv ?_ hn hdb);exact PyProof.Rows.callWith_builtin1 (Ad (ha pos pins s σ H _ I h) fun us s1 ⟨vs,H1,I1,r1,q1⟩=>hc pins s1 σ H1 vs us Q I1 r1 q1) he hpl
end
variable{T:String}
section
variable{es:List hY}{t:TA}{id:String}{r:List V->Hp->VK->Prop}
theorem EE(hc:DH X (.type T) r)(hg:Gl X x)(hm:X.mg x=none)(hv:qc x=some (.type T))(ha:PA X (e::es) t)(hn:x≠ "__name__" :=by decide)(hdb:(x==("__debug__" :Str))=false:=by decide)
 (he:dy (e::es) X.env=(false,qZ e X.env)::dy es X.env:=by rfl)(hpl:(qf pos (dy es X.env)).any (·.1)=false:=by rfl):PE X (.Call (.Name x p) (e::es) [] pos) (QM r t):=by
 intro pins s σ H Q I h;refine MO (NG I hg hm hv ?_ hn hdb);exact Uz (Ad (ha pos pins s σ H _ I h) fun us s1 ⟨vs,H1,I1,r1,q1⟩=>hc pins s1 σ H1 vs us Q I1 r1 q1) he hpl
end
noncomputable def BC(n d:Nat):Option Int->Nat
 |none=>d
 |some v=>if v<0 then(v+(n:Int)).toNat else min v.toNat n
theorem iM(n d:Nat):BC n d none=d:=rfl
theorem SQ(n d k:Nat):BC n d (some (k:Int))=min k n:=by show(if(k:Int)<0 then((k:Int)+(n:Int)).toNat else min (k:Int).toNat n)=min k n;rw[AF (by lia),Hj]
theorem lU(n d:Nat)(hd:d<=n)(o:Option Int):BC n d o<=n:=by
 cases o with
 |none=>exact hd
 |some v=>
  show(if v<0 then(v+(n:Int)).toNat else min v.toNat n)<=n;by_cases hv:v<0
  ·rw[AH hv];lia
  ·rw[AF hv];exact Nat.min_le_right _ _
theorem X0(v:Int)(n d:Nat):(if v<0 then max (v+(n:Int)) 0 else min v (n:Int))=((BC n d (some v):Nat):Int):=by
 show(if v<0 then max (v+(n:Int)) 0 else min v (n:Int))=(((if v<0 then(v+(n:Int)).toNat else min v.toNat n):Nat):Int);by_cases hv:v<0
 ·simp only[AH hv];lia
 ·simp only[AF hv];lia
theorem cv(lo hi:Option Int)(n:Nat):Builtin.Slice.sliceAdjust lo hi 1 (n:Int)=(((BC n 0 lo:Nat):Int),((BC n n hi:Nat):Int)):=by
 have h1:¬((1:Int)<0):=by lia
 unfold Builtin.Slice.sliceAdjust;simp only[h1,Bs];refine LR ?_ ?_
 ·cases lo with
  |none=>rfl
  |some v=>exact X0 v n 0
 ·cases hi with
  |none=>rfl
  |some v=>exact X0 v n n
theorem dY(i j:Nat):Builtin.Slice.slicePlaces (i:Int) (j:Int) 1=j-i:=by
 unfold Builtin.Slice.slicePlaces;have h1:(1:Int)>0:=by lia
 simp only[h1,CJ,Int.ediv_one];split<;>lia
theorem Vv{v:AB}{o:Option Int}{Q:Option Int->Yf->Prop}(p:sT v o)(h:Q o s):bt (ax prog w) A (Builtin.Slice.slicePartIndex v) Q E s:=by
 cases p with
 |none=>exact slicePart_none h
 |int i t=>exact slicePart_int h
theorem cD{sl:Ya}{vl vu:AB}{lo hi:Option Int}{n:Nat}{Q:Int×Int×Nat->Yf->Prop}(hs:s.heap.IsSliceOf sl vl vu .none)(pl:sT vl lo)(pu:sT vu hi)
 (h:Q (((BC n 0 lo:Nat):Int),1,BC n n hi-BC n 0 lo) s):bt (ax prog w) A (Builtin.Slice.sliceApplied (.ref sl) (pure (n:Int))) Q E s:=by
 obtain⟨os,hos,hcs,hds⟩:=id hs;unfold Builtin.Slice.sliceApplied Builtin.Slice.sliceFields;refine AK (AK (Ju hos hds (x:=vl) rfl (AK (Ju hos hds (x:=vu) rfl (AK (Ju hos hds (x:=.none) rfl (Af ?_)))))));refine AK (slicePart_none ?_);show bt _ _ (if((1:Int)==0)=true then _ else _) _ _ s;rw[AF (by decide)];refine AK (Vv pl (AK (Vv pu (AK (Af ?_)))));show bt _ _ (match Builtin.Slice.sliceAdjust lo hi 1 (n:Int) with|(lo,hi)=>pure (lo,(1:Int),Builtin.Slice.slicePlaces lo hi 1)) _ _ s;rw[cv lo hi n];show bt _ _ (pure (((BC n 0 lo:Nat):Int),(1:Int),Builtin.Slice.slicePlaces ((BC n 0 lo:Nat):Int) ((BC n n hi:Nat):Int) 1)) _ _ s;rw[dY];exact Af h
theorem gY(xs:Array AB)(i k:Nat):((List.range k).filterMap fun(m:Nat)=>xs[((i:Int)+(m:Int)*1).toNat]?).toArray=((xs.toList.drop i).take k).toArray:=by
 have e:(fun(m:Nat)=>xs[((i:Int)+(m:Int)*1).toNat]?)=fun m=>xs[i+m]? :=by
  funext m;have:((i:Int)+(m:Int)*1).toNat=i+m:=by lia
  rw[this]
 rw[e];have:=pick_run xs i k;rw[List.filterMap_map] at this;have e2:((fun x=>xs[x]?)∘fun x=>i+x)=fun m=>xs[i+m]? :=rfl;rw[e2] at this;rw[this]
theorem b9{t sl:Ya}{items:Array AB}{vl vu:AB}{lo hi:Option Int}(ht:IsTup s.heap t items)(hs:s.heap.IsSliceOf sl vl vu .none)(pl:sT vl lo)(pu:sT vu hi)
 (hw:¬(BC items.size 0 lo=0/\BC items.size items.size hi=items.size))
 (h:Q (.ref s.heap.objs.size) {s with heap:=s.heap.push {cls:=.type "tuple",data:=.seq ((items.toList.drop (BC items.size 0 lo)).take (BC items.size items.size hi-BC items.size 0 lo)).toArray}})
 (hsz:items.size<=sizeLine):bt (ax prog w) A (rh (.ref t) (.ref sl)) Q E s:=by
 have htake:sizeOk (.seq ((items.toList.drop (BC items.size 0 lo)).take (BC items.size items.size hi-BC items.size 0 lo)).toArray):=by
  show((items.toList.drop (BC items.size 0 lo)).take (BC items.size items.size hi-BC items.size 0 lo)).toArray.size<=sizeLine;rw[Cb,Bl,EC,Em]
  lia
 have hj:BC items.size items.size hi<=items.size:=lU _ _ (Ab _) hi;obtain⟨os,hos,hcs,hds⟩:=id hs;have hTs:s.TypeIs (.ref sl) "slice" :=⟨os,hos,hcs⟩;unfold rh;try with_reducible refine GB ?_
 first|refine AK (Af ?_)|skip
 refine AK (wpAny_sequenceKey ht.typeIs (by decide) ?_);refine AK (wpAny_callSpecial?_slot (name:=Str.ofString "__getitem__") ht.typeIs Uy
  (OL Uy ht.typeIs entry_tuple_getitem ?_ (args_tuple_getitem _ _)));show bt _ _ (Builtin.Tuple.tupleItemsOf (.ref t)>>=_) _ _ s;refine AK (tupleItemsOf_ ht ?_);refine AK (rq hTs ?_);rw[AH (by decide)];refine AK (cD hs pl pu ?_);have hno:¬((((BC items.size 0 lo:Nat):Int)==0&&(1:Int)==1&&(BC items.size items.size hi-BC items.size 0 lo)==items.size)=true):=by
  intro q;rw[Du,Du] at q;have q1:((BC items.size 0 lo:Nat):Int)=0:=eq_of_beq q.1.1;have q2:BC items.size items.size hi-BC items.size 0 lo=items.size:=eq_of_beq q.2;exact hw ⟨by lia,by lia⟩
 show bt _ _ (if(((BC items.size 0 lo:Nat):Int)==0&&(1:Int)==1&&(BC items.size items.size hi-BC items.size 0 lo)==items.size)=true then _ else _) _ _ s;rw[AF hno,gY];first
  |exact AK (m:=Builtin.Tuple.tupleExact _) (IL (Af ⟨_,rfl,Af h⟩) htake)
  |exact AK (m:=Builtin.Tuple.tupleExact _) (IL (AK (Af (Af ⟨_,rfl,Af h⟩))) htake)
  |exact AK (AK (m:=Builtin.Tuple.tupleExact _) (IL (Af (Af ⟨_,rfl,Af h⟩)) htake))
  |exact AK (AK (m:=Builtin.Tuple.tupleExact _) (IL (Af ⟨_,rfl,Af h⟩) htake))
abbrev TO:=St->Hp->(Option Int->Hp->Prop)->Prop
def PO(X:Cx)(e:Option hY)(t:TO):Prop:=
 ∀(pins:List (Ya×Obj))(s:Yf)(σ:St)(H:Hp)(Q:Option Int->Hp->Prop),Inv X pins σ H s->t σ H Q->
  bt (ax X.prog X.w) X.A (evalPart e X.env) (fun u s'=>∃o H',Inv X pins σ H' s'/\sT u o/\Q o H') X.xe s
def iu:TO:=fun _ H Q=>Q none H
def mZ(t:TE):TO:=fun σ H Q=>t σ H fun x H1=>∃i,x=.int i/\Q (some i) H1
section
variable{lo hi:Option hY}{tl th:TO}{p2:Pos}
theorem KG:PO X none iu:=by intro pins s σ H Q I h;rw[evalPart_none];exact Af ⟨none,H,I,.none,h⟩
theorem Dk(h:PE X e te):PO X (some e) (mZ te):=by intro pins s σ H Q I hw;rw[evalPart_some];refine Ad (h pins s σ H _ I hw) fun u s1 ⟨x,H1,I1,r1,q1⟩=>?_;obtain⟨i,rfl,q⟩:=q1;obtain⟨t,rfl⟩:=r1;exact⟨some i,H1,I1,.int i t,q⟩
def L3(X:Cx)(r:V->Option Int->Option Int->Hp->VK->Prop):Prop:=
 ∀(pins:List (Ya×Obj))(s:Yf)(σ:St)(H:Hp)(x:V)(v vl vu:AB)(lo hi:Option Int)(sl:Ya)(Q:VK),Inv X pins σ H s->RelV x v->s.heap.IsSliceOf sl vl vu .none->sT vl lo->sT vu hi->r x lo hi H Q->
  ∃T id,typeLookup (.type T) "__getitem__" =pure (some (.builtin id))/\s.TypeIs v T/\bt (ax X.prog X.w) X.A (rh v (.ref sl)) (EP X pins σ Q) X.xe s
def qG(r:V->Option Int->Option Int->Hp->VK->Prop)(te:TE)(tl th:TO):TE:=fun σ H Q=>te σ H fun x H1=>tl σ H1 fun l H2=>th σ H2 fun u H3=>r x l u H3 Q
theorem Fo{r:V->Option Int->Option Int->Hp->VK->Prop}(hr:L3 X r)(he:PE X e te)(hl:PO X lo tl)(hu:PO X hi th):PE X (.Subscript e (.Slice lo hi none p2) pos) (qG r te tl th):=by intro pins s σ H Q I h;refine Subscript_ (Ad (he pins s σ H _ I h) fun v s1 ⟨x,H1,I1,r1,q1⟩=>?_);refine wpAny_Slice (Ad (hl pins s1 σ H1 _ I1 q1) fun vl s2 ⟨l,H2,I2,pl,q2⟩=>Ad (hu pins s2 σ H2 _ I2 q2) fun vu s3 ⟨u,H3,I3,pu,q3⟩=>?_);rw[evalPart_none];refine Af ?_;have I4:Inv X pins σ H3 {s3 with heap:=s3.heap.push {cls:=.type "slice",data:=.fields #[vl,vu,.none]}}:=I3.kept (t':=s3.toks) fun b ob q=>BB _ q;obtain⟨T,id,hT,ht,hg⟩:=hr pins {s3 with heap:=s3.heap.push {cls:=.type "slice",data:=.fields #[vl,vu,.none]}} σ H3 x v vl vu l u s3.heap.objs.size Q I4 r1 (Heap.IsSliceOf.new ..) pl pu q3;show bt (ax X.prog X.w) X.A (tK e (.Slice lo hi none p2) v (.ref s3.heap.objs.size)) (EP X pins σ Q) X.xe {s3 with heap:=s3.heap.push {cls:=.type "slice",data:=.fields #[vl,vu,.none]}};exact tail_any (ops:=[.ref s3.heap.objs.size,v]) ht hT hg (by with_unfolding_all rfl)
def DQ(xs:List V)(lo hi:Option Int):List V:=(xs.drop (BC xs.length 0 lo)).take (BC xs.length xs.length hi-BC xs.length 0 lo)
theorem Vi(xs:List V)(lo hi:Option Int):(DQ xs lo hi).length<=xs.length:=by
 unfold DQ;rw[Bl,EC]
 lia
def aG(K:tN):V->Option Int->Option Int->Hp->VK->Prop:=fun x lo hi H Q=>∃a xs,x=.ref a/\AV K H a xs/\
 ¬(BC xs.length 0 lo=0/\BC xs.length xs.length hi=xs.length)/\∀p,H p=none->Q (.ref p) (upd H p (.tup (DQ xs lo hi)))
theorem lB:L3 X (aG X.K):=by
 intro pins s σ H x v vl vu lo hi sl Q I rx hs pl pu h;obtain⟨a,xs,rfl,hx,hw,q⟩:=h;cases rx;obtain⟨AM,r,ht,hz⟩:=I.tuple hx;have hlen:AM.toArray.size=xs.length:=by rw[Cb];exact r.length.symm
 refine⟨"tuple",_,Uy.lookup,ht.typeIs,?_⟩;refine b9 ht hs pl pu (by rw[hlen];exact hw) ?_ (by rw[hlen];exact hz);rw[hlen];refine⟨.ref s.heap.objs.size,_,I.laid (t':=s.toks) (o:=.tup (DQ xs lo hi)) (fun b ob q=>BB _ q) (Ab _) ?_,rfl,q _ (I.hok.fresh (Ab _))⟩;exact⟨BF (Vi xs lo hi) hz,_,(r.drop (BC xs.length 0 lo)).take (BC xs.length xs.length hi-BC xs.length 0 lo),IsTup.new _ _⟩
end
noncomputable def Kq(n:Nat)(i:Int):Option Nat:=if 0<=i then(if i<n then some i.toNat else none) else if-(n:Int)<=i then some (i+n).toNat else none
def Fe{α:Type}(xs:List α)(i:Int):Option α:=(Kq xs.length i).bind fun j=>xs[j]?
theorem YH{n:Nat}{i:Int}(h:Kq n i=some j):seqIndex? i n=some j/\j<n/\ -(n:Int)<=i/\i<n:=by
 unfold Kq at h;by_cases h0:0<=i
 ·rw[AH h0] at h;by_cases h1:i<n
  ·rw[AH h1] at h;have e:i.toNat=j:=Ag h;exact⟨by rw[seqIndex_of h0 h1,e],by lia,by lia,h1⟩
  ·rw[AF h1] at h;cases h
 ·rw[AF h0] at h;by_cases h1: -(n:Int)<=i
  ·rw[AH h1] at h;have e:(i+n).toNat=j:=Ag h;exact⟨by rw[seqIndex_neg (by lia) h1,e],by lia,h1,by lia⟩
  ·rw[AF h1] at h;cases h
theorem Sk{xs:List α}{i:Int}{v:α}(h:Fe xs i=some v):∃j,seqIndex? i xs.length=some j/\xs[j]? =some v/\j<xs.length/\ -(xs.length:Int)<=i/\i<xs.length:=by
 unfold Fe at h
 cases e:Kq xs.length i with
 |none=>rw[e] at h;cases h
 |some j=>rw[e] at h;obtain⟨h1,h2,h3,h4⟩:=YH e;exact⟨j,h1,h,h2,h3,h4⟩
theorem Bw{xs:List α}{v:α}(h:xs[j]? =some v):Fe xs (j:Int)=some v:=by
 have hj:j<xs.length:=(BX.mp h).1;have e:Kq xs.length (j:Int)=some j:=by unfold Kq;rw[AH (by lia),AH (by lia)];simp
 unfold Fe;rw[e];exact h
def jB(b:hY):Prop:=∀o i,sU b false o i=operate [o,i] (rh o i)
def He(X:Cx)(r:R2):Prop:=
 ∀(value slice:hY)(pins:List (Ya×Obj))(s:Yf)(σ:St)(H:Hp)(x y:V)(v u:AB)(Q:VK),Inv X pins σ H s->RelV x v->RelV y u->r x y H Q->
  sU slice false v u=operate [v,u] (rh v u)->bt (ax X.prog X.w) X.A (tK value slice v u) (EP X pins σ Q) X.xe s
def Np(X:Cx)(id:String)(r:V->List V->Hp->VK->Prop):Prop:=
 ∀(pins:List (Ya×Obj))(s:Yf)(σ:St)(H:Hp)(x:V)(xs:List V)(v:AB)(us:List AB)(Q:VK),Inv X pins σ H s->RelV x v->Vals xs us->r x xs H Q->
  bt (ax X.prog X.w) X.A (call (.builtin id) (v::us)) (EP X pins σ Q) X.xe s
variable{r:V->List V->Hp->VK->Prop}
section
variable{a b:hY}{tb:TE}{o:hY}{es:List hY}{to:TE}{t:TA}{id:String}
theorem He.or{r r':R2}(h:He X r)(h':He X r'):He X (fun x y H Q=>r x y H Q\/r' x y H Q):=by
 intro value slice pins s σ H x y v u Q I rx ry q hs;rcases q with q|q
 ·exact h value slice pins s σ H x y v u Q I rx ry q hs
 ·exact h' value slice pins s σ H x y v u Q I rx ry q hs
theorem Bt{r:R2}(hr:He X r)(ha:PE X a ta)(hb:PE X b tb)(hs:jB b):PE X (.Subscript a b pos) (FV r ta tb):=by intro pins s σ H Q I h;exact Subscript_ (UK ha hb I h fun v u s2 x y H2 I2 rx ry q=>hr a b pins s2 σ H2 x y v u Q I2 rx ry q (hs _ _))
def QD(K:tN):R2:=fun x y H Q=>∃p xs i v,x=.ref p/\y=.int i/\AJ K H p xs/\Fe xs i=some v/\Q v H
def Lo(K:tN):R2:=fun x y H Q=>∃p xs i v,x=.ref p/\y=.int i/\AV K H p xs/\Fe xs i=some v/\Q v H
def aK:R2:=fun x y H Q=>∃z i c,x=.str z/\y=.int i/\z.length<=sizeLine/\Fe z.cps.toList i=some c/\Q (.str ⟨#[c]⟩) H
theorem X6:He X (QD X.K):=by
 intro value slice pins s σ H x y v u Q I rx ry h hs;obtain⟨p,xs,i,z,rfl,rfl,hq,he,q⟩:=h;cases rx;obtain⟨t,rfl⟩:=ry;obtain⟨AM,r,pl,hz⟩:=I.list hq;obtain⟨j,h1,h2,h3,h4,h5⟩:=Sk he;obtain⟨w,ew,rw'⟩:=r.get h2;have hl:=r.length;have hn:=NP;have fin:EP X pins σ Q w s:=⟨z,H,I,rw',q⟩;by_cases h0:0<=i
 ·have hj:i.toNat=j:=by rw[seqIndex_of h0 h5] at h1;exact Ag h1
  exact item_listR pl.isList h0 (by lia) (by rw[hj];simpa using ew) fin hs
 ·have hj:(i+(AM.toArray.size:Int)).toNat=j:=by rw[seqIndex_neg (by lia) h4] at h1;rw[Cb,<-hl];exact Ag h1
  exact subscriptTail_builtinR (x:=w) pl.isList.typeIs slot_list_getitem.lookup
   (wpAny_getItem_list_neg (Q:=fun r s'=>r=w/\EP X pins σ Q r s') pl.isList (by lia) (by rw[Cb]<;>lia) (by lia) (by rw[hj];simpa using ew) ⟨rfl,fin⟩) hs
theorem lh:He X (Lo X.K):=by
 intro value slice pins s σ H x y v u Q I rx ry h hs;obtain⟨p,xs,i,z,rfl,rfl,hq,he,q⟩:=h;cases rx;obtain⟨t,rfl⟩:=ry;obtain⟨AM,r,pl,hz⟩:=I.tuple hq;obtain⟨j,h1,h2,h3,h4,h5⟩:=Sk he;obtain⟨w,ew,rw'⟩:=r.get h2;have hl:=r.length;have hn:=NP;have fin:EP X pins σ Q w s:=⟨z,H,I,rw',q⟩;exact subscriptTail_builtinR (x:=w) pl.typeIs slot_tuple_getitem.lookup
  (getItem_tuple (j:=j) (Q:=fun r s'=>r=w/\EP X pins σ Q r s') pl (by lia) (by lia) (by rw[Cb,<-hl];exact h1) (by simpa using ew) ⟨rfl,fin⟩) hs
theorem PZ:He X aK:=by
 intro value slice pins s σ H x y v u Q I rx ry h hs;obtain⟨z,i,c,rfl,rfl,hz,he,q⟩:=h;obtain⟨t,rfl⟩:=rx;obtain⟨t',rfl⟩:=ry;obtain⟨j,h1,h2,h3,h4,h5⟩:=Sk he;have hl:z.cps.toList.length=z.length:=by simp[Str.length]
 rw[hl] at h1 h4 h5;have hn:=NP;exact tail_any (LG s z t) slot_str_getitem.lookup (getItem_str (c:=c) (by have e1:decide (i< -(2^63:Int))=false:=BJ (by lia);have e2:decide (i>=2^63)=false:=BJ (by lia);rw[e1,e2,Bool.or_false]) (by rw[h1];simpa using h2) ⟨.str ⟨#[c]⟩,H,I.tok _,⟨_,rfl⟩,q⟩) hs
def qO(K:tN):R2:=fun x y H Q=>QD K x y H Q\/Lo K x y H Q\/aK x y H Q
theorem cq(AM:List AB)(n j:Nat)(u:AB):Obj.mapSeq (·.setIfInBounds j u) {cls:=.type "list",data:=.seq AM.toArray n}={cls:=.type "list",data:=.seq (AM.set j u).toArray n}:=by simp[Obj.mapSeq]
theorem Inv.lst{X:Cx}{pins:List (Ya×Obj)}{σ:St}{H:Hp}{s:Yf}{p:Ya}{xs:List V}(I:Inv X pins σ H s)(h:H p=some (.lst xs)):
 ∃(AM:List AB)(n:Nat),Vals xs AM/\s.heap.get? p=some {cls:=.type "list",data:=.seq AM.toArray n}/\xs.length<=sizeLine:=by
 obtain⟨z,AM,n,r,e⟩:=I.hok p _ h;exact⟨AM,n,r,e,z⟩
end
variable{AM:List AB}
section
variable{a b:hY}{tb:TE}{o:hY}{es:List hY}{to:TE}{t:TA}{id:String}
theorem Inv.kK{p:Ya}{xs:List V}{its':List AB}{n n':Nat}{f:Obj->Obj}(I:Inv X pins σ H s)(h:H p=some (.lst xs))
 (ho:s.heap.get? p=some {cls:=.type "list",data:=.seq AM.toArray n})(hf:f {cls:=.type "list",data:=.seq AM.toArray n}={cls:=.type "list",data:=.seq its'.toArray n'})(r:Vals ys its')(hz:ys.length<=sizeLine)(t:Nat):
 Inv X pins σ (upd H p (.lst ys)) {s with heap:=s.heap.update p f,toks:=t}:=by
 have e:(s.heap.update p f).get? p=some {cls:=.type "list",data:=.seq its'.toArray n'}:=by rw[Ir f ho (by rw[hf]<;>rfl),hf]
 refine I.write (x:=p) (e:=p) (by rw[h];trivial) (.inl rfl) (fun b u hb q=>(EA _ _ (DG hb)).trans q) ⟨_,e⟩ ?_;exact⟨hz,its',n',r,e⟩
def mV:V->V->V->Hp->(Hp->Prop)->Prop:=fun o i v H Q=>∃p xs k j,o=.ref p/\i=.int k/\H p=some (.lst xs)/\Kq xs.length k=some j/\Q (upd H p (.lst (xs.set j v)))
theorem set_list:Z8 X mV:=by
 intro pins s σ H o i v ov iv u Q I ro ri rv h;obtain⟨p,xs,k,j,rfl,rfl,hp,hj,q⟩:=h;cases ro;obtain⟨t,rfl⟩:=ri;obtain⟨AM,n,r,ho,hz⟩:=I.lst hp;obtain⟨h1,h2,h3,h4⟩:=YH hj;have hl:=r.length;have hn:=NP;have I':Inv X pins σ (upd H p (.lst (xs.set j v))) {s with heap:=s.heap.update p (Obj.mapSeq (·.setIfInBounds j u))}:=
  I.kK hp ho (cq AM n j u) (r.set rv j) (by rw[List.length_set];exact hz) s.toks;by_cases h0:0<=k
 ·have hk:k.toNat=j:=by rw[seqIndex_of h0 h4] at h1;exact Ag h1
  exact ki_setAt ho h0 (by lia) (by rw[Cb,<-hl];exact h4) (by rw[hk];exact⟨_,I',q⟩)
 ·have hk:(k+(AM.toArray.size:Int)).toNat=j:=by rw[seqIndex_neg (by lia) h3] at h1;rw[Cb,<-hl];exact Ag h1
  exact ki_setBack ho (by lia) (by rw[Cb,<-hl];exact h3) (by lia) (by rw[hk];exact⟨_,I',q⟩)
theorem cS(lo hi:Option Int)(n:Nat):(rA lo hi none n).1=((BC n 0 lo:Nat):Int)/\(rA lo hi none n).2.1=((BC n n hi:Nat):Int)/\(rA lo hi none n).2.2=1:=by
 refine⟨?_,?_,rfl⟩
 ·cases lo with
  |none=>simp[rA,BC]
  |some i=>
   simp only[rA,BC,Option.getD_none,show(1:Int)>0 by decide,CJ];by_cases h:i<0
   ·simp only[h,CJ]<;>lia
   ·simp only[h,Bs]<;>lia
 ·cases hi with
  |none=>simp[rA,BC]
  |some i=>
   simp only[rA,BC,Option.getD_none,show(1:Int)>0 by decide,CJ];by_cases h:i<0
   ·simp only[h,CJ]<;>lia
   ·simp only[h,Bs]<;>lia
theorem cI(AM:List AB)(lo hi:Option Int):slicePick AM.toArray lo hi none=((AM.drop (BC AM.length 0 lo)).take (BC AM.length AM.length hi-BC AM.length 0 lo)).toArray:=by obtain⟨h1,h2,h3⟩:=cS lo hi AM.toArray.size;unfold slicePick;rw[h1,h2,h3];simp only[sliceRange_one,pick_run,Cb]<;>rfl
def ah(K:tN):V->Option Int->Option Int->Hp->VK->Prop:=fun x lo hi H Q=>∃a xs,x=.ref a/\AJ K H a xs/\∀p,H p=none->Q (.ref p) (upd H p (.lst (DQ xs lo hi)))
theorem O2:L3 X (ah X.K):=by intro pins s σ H x v vl vu lo hi sl Q I rx hs pl pu h;obtain⟨a,xs,rfl,hx,q⟩:=h;cases rx;obtain⟨AM,r,ht,hz⟩:=I.list hx;have hlen:=r.length;refine⟨"list",_,slot_list_getitem.lookup,ht.isList.typeIs,?_⟩;refine wpAny_getItem_list_slice ht.isList hs pl pu .none (by simp) ?_ (by rw[Cb]<;>lia);rw[cI,<-hlen];refine⟨.ref s.heap.objs.size,_,I.laid (t':=s.toks) (o:=.lst (DQ xs lo hi)) (fun b ob q=>BB _ q) (Ab _) ?_,rfl,q _ (I.hok.fresh (Ab _))⟩;exact⟨BF (Vi xs lo hi) hz,_,0,(r.drop (BC xs.length 0 lo)).take (BC xs.length xs.length hi-BC xs.length 0 lo),Bz _ rfl⟩
noncomputable def IC:V->Bool
 |.BA=>true
 |.bl _=>true
 |.int _=>true
 |.str _=>true
 |_=>false
noncomputable def Jk:V->V->Bool
 |.BA,.BA=>true
 |.bl a,.bl b=>a==b
 |.bl a,.int b=>(if a then 1 else 0)==b
 |.int a,.bl b=>a==(if b then 1 else 0)
 |.int a,.int b=>a==b
 |.str a,.str b=>a==b
 |_,_=>false
theorem kA{x:V}{v:AB}(ry:RelV y u)(rx:RelV x v)(fy:IC y=true)(fx:IC x=true):SeqAt.EqAt A s u v (Jk y x):=by
 cases y with
 |BA=>
  cases ry
  cases x with
  |BA=>cases rx;exact SeqAt.EqAt.same _
  |bl b=>cases rx;exact SeqAt.EqAt.none_bool b
  |int b=>obtain⟨t,rfl⟩:=rx;exact SeqAt.EqAt.none_int b t
  |str b=>obtain⟨t,rfl⟩:=rx;exact SeqAt.EqAt.none_str b t
  |_=>exact absurd (show false=true from fx) CY
 |bl a=>
  cases ry
  cases x with
  |BA=>cases rx;exact SeqAt.EqAt.bool_none a
  |bl b=>cases rx;exact SeqAt.EqAt.bool_bool a b
  |int b=>obtain⟨t,rfl⟩:=rx;exact SeqAt.EqAt.bool_int a b t
  |str b=>obtain⟨t,rfl⟩:=rx;exact SeqAt.EqAt.bool_str a b t
  |_=>exact absurd (show false=true from fx) CY
 |int a=>
  obtain⟨t',rfl⟩:=ry
  cases x with
  |BA=>cases rx;exact SeqAt.EqAt.int_none a t'
  |bl b=>cases rx;exact SeqAt.EqAt.int_bool a t' b
  |int b=>obtain⟨t,rfl⟩:=rx;exact SeqAt.EqAt.int_int a t' b t
  |str b=>obtain⟨t,rfl⟩:=rx;exact SeqAt.EqAt.int_str a t' b t
  |_=>exact absurd (show false=true from fx) CY
 |str a=>
  obtain⟨t',rfl⟩:=ry
  cases x with
  |BA=>cases rx;exact SeqAt.EqAt.str_none a t'
  |bl b=>cases rx;exact SeqAt.EqAt.str_bool a t' b
  |int b=>obtain⟨t,rfl⟩:=rx;exact SeqAt.EqAt.str_int a t' b t
  |str b=>obtain⟨t,rfl⟩:=rx;exact SeqAt.EqAt.str_str a t' b t
  |_=>exact absurd (show false=true from fx) CY
 |_=>exact absurd (show false=true from fy) CY
def D8(x:V)(u:AB):Bool:=match u with
 |.none=>Jk .BA x
 |.bool b=>Jk (.bl b) x
 |.int i _=>Jk (.int i) x
 |.str z _=>Jk (.str z) x
 |_=>false
theorem TV{x:V}(r:RelV y u)(f:IC y=true):D8 x u=Jk y x:=by
 cases y with
 |BA=>cases r;rfl
 |bl b=>cases r;rfl
 |int i=>obtain⟨t,rfl⟩:=r;rfl
 |str z=>obtain⟨t,rfl⟩:=r;rfl
 |_=>exact absurd (show false=true from f) CY
theorem M9{x:V}:∀{xs:List V}{us:List AB},Vals xs us->xs.all IC=true->us.any (D8 x)=xs.any fun y=>Jk y x
 |_,_,.nil,_=>rfl
 |y::xs,u::us,.cons r t,f=>by rw[K7,Du] at f;rw[IV,IV,TV r f.1,M9 t f.2]
theorem LL{A:qy}{s:Yf}{x:V}{v:AB}(rx:RelV x v)(fx:IC x=true):∀{xs:List V}{us:List AB},Vals xs us->xs.all IC=true->∀u∈us,SeqAt.EqAt A s u v (D8 x u)
 |_,_,.nil,_=>fun u hu=>by cases hu
 |y::xs,u::us,.cons r t,f=>fun u' hu=>by
  rw[K7,Du] at f;rcases Ba.mp hu with rfl|hu
  ·rw[TV r f.1];exact kA r rx f.1 fx
  ·exact LL rx fx t f.2 u' hu
def Gf(x:V)(xs:List V):Bool:=xs.any fun y=>Jk y x
def Ug(K:tN)(neg:Bool):R2:=fun x y H Q=>∃p xs,y=.ref p/\(AJ K H p xs\/AV K H p xs)/\IC x=true/\xs.all IC=true/\Q (.bl (if neg then !Gf x xs else Gf x xs)) H
theorem fb:Bv X (qW .In) (Ug X.K false):=by
 intro pins s σ H x y v u Q I rx ry h;obtain⟨p,xs,rfl,hq,fx,fs,q⟩:=h;cases ry;rcases hq with hq|hq
 ·obtain⟨AM,r,pl,hz⟩:=I.list hq;refine SeqAt.in_listAt (D8 x) pl.isList (fun w hw=>LL rx fx r fs w (by simpa using hw)) ⟨.bl _,H,I,rfl,?_⟩;rw[show AM.toArray.any (D8 x)=AM.any (D8 x) by simp,M9 r fs];exact q
 ·obtain⟨AM,r,pl,hz⟩:=I.tuple hq;refine SeqAt.in_tupleAt (D8 x) pl (fun w hw=>LL rx fx r fs w (by simpa using hw)) ⟨.bl _,H,I,rfl,?_⟩;rw[show AM.toArray.any (D8 x)=AM.any (D8 x) by simp,M9 r fs];exact q
theorem cO:Bv X (qW .NotIn) (Ug X.K true):=by
 intro pins s σ H x y v u Q I rx ry h;obtain⟨p,xs,rfl,hq,fx,fs,q⟩:=h;cases ry;rcases hq with hq|hq
 ·obtain⟨AM,r,pl,hz⟩:=I.list hq;refine SeqAt.notIn_listAt (D8 x) pl.isList (fun w hw=>LL rx fx r fs w (by simpa using hw)) ⟨.bl _,H,I,rfl,?_⟩;rw[show AM.toArray.any (D8 x)=AM.any (D8 x) by simp,M9 r fs];exact q
 ·obtain⟨AM,r,pl,hz⟩:=I.tuple hq;refine SeqAt.notIn_tupleAt (D8 x) pl (fun w hw=>LL rx fx r fs w (by simpa using hw)) ⟨.bl _,H,I,rfl,?_⟩;rw[show AM.toArray.any (D8 x)=AM.any (D8 x) by simp,M9 r fs];exact q
theorem IW:DH X (.builtin "len") (fun xs H Q=>∃p ys,xs=[.ref p]/\(AJ X.K H p ys\/AV X.K H p ys)/\Q (.int ys.length) H):=by
 intro pins s σ H xs us Q I r h;obtain⟨p,ys,rfl,hq,q⟩:=h;obtain⟨u,rfl,rx⟩:=vals1 r;cases rx;have hn:=NP;rcases hq with hq|hq
 ·obtain⟨AM,r',pl,hz⟩:=I.list hq;have hlen:=r'.length;exact Calls.call_len_list pl.isList (by simp only[Cb]<;>lia) ⟨.int ys.length,H,I.tok _,⟨s.toks+1,by rw[Cb,hlen]⟩,q⟩
 ·obtain⟨AM,r',pl,hz⟩:=I.tuple hq;have hlen:=r'.length;exact len_tuple pl (by simp only[Cb]<;>lia) ⟨.int ys.length,H,I.tok _,⟨s.toks+1,by rw[Cb,hlen]⟩,q⟩
theorem cK:DH X (.type "list") (fun xs H Q=>∃p ys,xs=[.ref p]/\(AJ X.K H p ys\/AV X.K H p ys)/\∀l,H l=none->Q (.ref l) (upd H l (.lst ys))):=by
 intro pins s σ H xs us Q I r h;obtain⟨p,ys,rfl,hq,q⟩:=h;obtain⟨u,rfl,rx⟩:=vals1 r;cases rx;have fin:∀(AM:List AB),Vals ys AM->ys.length<=sizeLine->∀(h':qY)(c':Nat),(∀b o',s.heap.get? b=some o'->h'.get? b=some o')->
  h'.get? s.heap.objs.size=some {cls:=.type "list",dict:=none,data:=.seq AM.toArray c',slots:= #[]}->EP X pins σ Q (.ref s.heap.objs.size) {s with heap:=h'}:=fun AM r' hz h' c' kp e=>
  ⟨.ref s.heap.objs.size,_,I.laid (t':=s.toks) kp (Ab _) (show BO X.prog X.w _ h' _ (.lst ys) from⟨hz,AM,c',r',e⟩),rfl,q _ (I.hok.fresh (Ab _))⟩;rcases hq with hq|hq
 ·obtain⟨AM,r',pl,hz⟩:=I.list hq;have hlen:=r'.length;obtain⟨o,ho,hc,n,hd⟩:=pl.isList;exact call_list_seq p (.inl rfl) ho hc hd (fun h' c' kp e=>fin AM r' hz h' c' kp e) (by simp only[Cb]<;>lia)
 ·obtain⟨AM,r',pl,hz⟩:=I.tuple hq;have hlen:=r'.length;obtain⟨o,ho,hc,n,hd⟩:=pl;exact call_list_seq p (.inr rfl) ho hc hd (fun h' c' kp e=>fin AM r' hz h' c' kp e) (by simp only[Cb]<;>lia)
def Nw(K:tN)(T:String)(x:V)(H:Hp):Prop:=match x with
 |.str _=>T="str"
 |.int _=>T="int"
 |.ref p=>(T="list" /\∃xs,AJ K H p xs)\/(T="tuple" /\∃o,K.lookup p=some o/\o.cls=.type "tuple" /\o.dict=none)\/
  (T="dict" /\((∃AA,H p=some (.dK AA))\/∃AA,H p=some (.dT AA)))\/(T="set" /\∃S n,H p=some (.set S n))
 |_=>False
theorem ZA{x:V}{v:AB}(I:Inv X pins σ H s)(r:RelV x v)(ty:Nw X.K T x H):
 s.TypeIs v T/\∀a,v=.ref a->∃ob,s.heap.get? a=some ob/\ob.dict=none:=by
 cases x with
 |str z=>obtain⟨t,rfl⟩:=r;cases(show T="str" from ty);exact⟨LG s z t,fun _ e=>nomatch e⟩
 |int i=>obtain⟨t,rfl⟩:=r;cases(show T="int" from ty);exact⟨typeIs_int s i t,fun _ e=>nomatch e⟩
 |ref p=>
  cases r;rcases ty with⟨rfl,xs,hq⟩|⟨rfl,o,hk,hc,hd⟩|⟨rfl,hk⟩|⟨rfl,S,n,hk⟩
  ·obtain⟨AM,_,pl,_⟩:=I.list hq;refine⟨pl.isList.typeIs,fun a e=>?_⟩;cases e;obtain⟨o,n,e,c,hd,_⟩:=pl;exact⟨o,e,hd⟩
  ·refine⟨⟨o,I.BQ p o hk,hc⟩,fun a e=>?_⟩;cases e;exact⟨o,I.BQ _ o hk,hd⟩
  ·have z:∃o,s.heap.get? p=some o/\o.ExactDict:=by
    rcases hk with⟨AA,hk⟩|⟨AA,hk⟩
    ·obtain⟨_,_,_,_,o,_,_,e,ex,_⟩:=I.hok p _ hk;exact⟨o,e,ex⟩
    ·obtain⟨_,_,_,_,o,_,_,e,ex,_⟩:=I.hok p _ hk;exact⟨o,e,ex⟩
   obtain⟨o,e,ex⟩:=z;refine⟨⟨o,e,ex.1⟩,fun a e2=>?_⟩;cases e2;exact⟨o,e,ex.2.1⟩
  ·obtain⟨o,_,_,_,e,ex,_⟩:=I.hok p _ hk;refine⟨⟨o,e,ex.1⟩,fun a e2=>?_⟩;cases e2;exact⟨o,e,ex.2.1⟩
 |_=>exact False.elim ty
def af(K:tN)(T:String)(r:V->List V->Hp->VK->Prop)(to:TE):TE:=fun σ H Q=>to σ H fun x H1=>Nw K T x H1/\r x [] H1 Q
def UU(K:tN)(T:String)(r:V->List V->Hp->VK->Prop)(to:TE)(t:TA):TE:=fun σ H Q=>to σ H fun x H1=>Nw K T x H1/\t σ H1 fun xs H2=>r x xs H2 Q
end
variable{cpos:Pos}
section
variable{a b:hY}{tb:TE}{o:hY}{es:List hY}{to:TE}{t:TA}{id:String}
theorem NF(pa:rj T)(slot:Slot T name id)(hty:typeOf (.builtin id)=pure (.type "method_descriptor"))(hm:Np X id r)(ho:PE X o to)
 (hbase:qd o name X.env (qZ o X.env)=qZ o X.env:=by rfl)(hline:(apos.endLine==cpos.line)=true:=by rfl):PE X (.Call (.Attribute o name apos) [] [] cpos) (af X.K T r to):=by
 intro pins s σ H Q I h;refine wpAny_Call_method0_late hbase hline (Ad (ho pins s σ H _ I h) fun v s1 ⟨x,H1,I1,r1,ty,q1⟩=>?_);obtain⟨h1,h2⟩:=ZA I1 r1 ty;exact⟨T,id,pa,slot,hty,h1,h2,Qd rfl (PySem.evalArgs_none (hm pins s1 σ H1 x [] v [] Q I1 r1 .nil q1))⟩
theorem JS(pa:rj T)(slot:Slot T name id)(hty:typeOf (.builtin id)=pure (.type "method_descriptor"))(hm:Np X id r)(ho:PE X o to)(ha:PA X (e::es) t)
 (hbase:qd o name X.env (qZ o X.env)=qZ o X.env:=by rfl)
 (hfew:((qf cpos (dy (e::es) X.env)).all (fun x=> !x.1)&&(rL cpos (qk [] X.env)).all (fun x=>x.1.isSome)
  &&decide ((e::es).length+([]:List rN).length+(if([]:List rN).isEmpty then 0 else 1)<30))=true:=by rfl)
 (hline:(apos.endLine==cpos.line)=true:=by rfl)(hs:dy (e::es) X.env=(false,qZ e X.env)::dy es X.env:=by rfl)(hplain:(qf cpos (dy es X.env)).any (·.1)=false:=by rfl):
 PE X (.Call (.Attribute o name apos) (e::es) [] cpos) (UU X.K T r to t):=by
 intro pins s σ H Q I h;refine wpAny_Call_method_late hbase hfew hline rfl (Ad (ho pins s σ H _ I h) fun v s1 ⟨x,H1,I1,r1,ty,q1⟩=>?_);obtain⟨h1,h2⟩:=ZA I1 r1 ty;refine⟨T,id,pa,slot,hty,h1,h2,?_⟩;have hA:=ha cpos pins s1 σ H1 _ I1 q1;rw[hs] at hA⊢;refine Qd (by show(false||(qf cpos (dy es X.env)).any (·.1))=false;rw[hplain]<;>rfl) (VI ?_);exact Ad hA fun us s2 ⟨vs,H2,I2,r2,q2⟩=>hm pins s2 σ H2 x vs v us Q I2 r1 r2 q2
end
def Ha(X:Cx)(id:String)(r:V->List V->Hp->VK->Prop):Prop:=
 ∀(pins:List (Ya×Obj))(s:Yf)(σ:St)(H:Hp)(x:V)(xs:List V)(v:AB)(us:List AB)(Q:VK),Inv X pins σ H s->RelV x v->Vals xs us->r x xs H Q->
  bt (ax X.prog X.w) X.A (call (.builtin id) (v::us)) (EP X pins σ Q) X.xe s
theorem Vals.one{x:V}(h:Vals [x] us):∃u,us=[u]/\RelV x u:=by
 cases h with
 |cons r t=>cases t;exact⟨_,rfl,r⟩
theorem Vals.two{x:V}(h:Vals [x,y] us):∃u v,us=[u,v]/\RelV x u/\RelV y v:=by
 cases h with
 |cons r t=>obtain⟨_,rfl,q⟩:=Vals.one t;exact⟨_,_,rfl,r,q⟩
theorem Vals.zero:∀{us:List AB},Vals [] us->us=[]
 |_,.nil=>rfl
theorem Vals.dropLast{xs:List V}(h:Vals xs us):Vals xs.dropLast us.dropLast:=by
 induction h with
 |nil=>exact .nil
 |cons r t ih=>
  cases t with
  |nil=>exact .nil
  |cons q t'=>exact .cons r ih
theorem dP(l:List α):l.eraseIdx (l.length-1)=l.dropLast:=by
 induction l with
 |nil=>rfl
 |cons a r ih=>
  cases r with
  |nil=>rfl
  |cons b r=>
   have e:(a::b::r).length-1=((b::r).length-1)+1:=by
    have h1:(a::b::r).length=r.length+2:=rfl;have h2:(b::r).length=r.length+1:=rfl
    lia
   rw[e,List.eraseIdx_cons_succ,ih];all_goals rfl
section
variable{l:Ya}{xs zs:List V}
theorem Inv.T3{its':List AB}{n:Nat}{f:Array AB->Array AB}(I:Inv X pins σ H s)(hH:H l=some (.lst xs))
 (e:s.heap.get? l=some {cls:=.type "list",data:=.seq AM.toArray n})(hf:f AM.toArray=its'.toArray)(hv:Vals ys its')(hz:ys.length<=sizeLine):
 Inv X pins σ (upd H l (.lst ys)) {s with heap:=s.heap.update l (Obj.mapSeq f),toks:=t'}:=by
 have q:=PySem.IsL.update e f;rw[hf] at q;refine I.write (x:=l) (e:=l) (by rw[hH];exact trivial) (.inl rfl) (fun b' u hb hu=>(EA s.heap (Obj.mapSeq f) (DG hb)).trans hu) ⟨_,q⟩ ?_;exact⟨hz,its',_,hv,q⟩
theorem Inv.UG(I:Inv X pins σ H s)(hv:Vals ys AM)(hz:ys.length<=sizeLine):
 Inv X pins σ (upd H s.heap.objs.size (.lst ys)) {s with heap:=s.heap.push {cls:=.type "list",data:=.seq AM.toArray},toks:=t'}:=
 I.laid (fun _ _ q=>BB _ q) (Ab _) ⟨hz,AM,0,hv,Bz _ rfl⟩
theorem Inv.fresh(I:Inv X pins σ H s):H s.heap.objs.size=none:=I.hok.fresh (Ab _)
theorem Inv.JX(I:Inv X pins σ H s)(hH:H l=some (.lst xs)):xs.length<=sizeLine/\∃(AM:List AB)(n:Nat),Vals xs AM/\xs.length=AM.length/\s.heap.get? l=some {cls:=.type "list",data:=.seq AM.toArray n}:=by obtain⟨z,AM,n,r,e⟩:=I.hok l _ hH;exact⟨z,AM,n,r,r.length,e⟩
theorem iU{n:Nat}(h:n<=sizeLine):Builtin.List.listTooLong n=false:=by unfold Builtin.List.listTooLong;exact BJ (by lia)
end
def jZ:V->List V->Hp->VK->Prop:=fun x vs H Q=>∃l xs y,x=.ref l/\vs=[y]/\H l=some (.lst xs)/\xs.length<sizeLine/\Q .BA (upd H l (.lst (xs++[y])))
theorem Ep:Ha X "list.append" jZ:=by
 intro pins s σ H x vs v us Q I rx rv h;obtain⟨l,xs,y,rfl,rfl,hH,hz,q⟩:=h;cases rx;obtain⟨u,rfl,ru⟩:=rv.one;obtain⟨z,AM,n,r,hl,e⟩:=I.JX hH;refine I8 F.slot_list_append ⟨_,e,rfl⟩ F.entry_list_append (F.args_list_append_2 _ _) (PySem.list_append l AM.toArray n u (by rw[Cb];lia)) ⟨e,?_⟩;refine⟨.BA,_,I.T3 (its':=AM++[u]) hH e (by simp) (r.append (.cons ru .nil)) ?_,rfl,q⟩;rw[A7,DD]
 lia
def je:V->List V->Hp->VK->Prop:=fun x vs H Q=>∃l b xs zs,x=.ref l/\vs=[.ref b]/\H l=some (.lst xs)/\H b=some (.lst zs)/\xs.length+zs.length<=sizeLine/\Q .BA (upd H l (.lst (xs++zs)))
theorem fq:Ha X "list.extend" je:=by
 intro pins s σ H x vs v us Q I rx rv h;obtain⟨l,b,xs,zs,rfl,rfl,hH,hB,hz,q⟩:=h;cases rx;obtain⟨u,rfl,ru⟩:=rv.one;cases ru;obtain⟨z,AM,n,r,hl,e⟩:=I.JX hH;obtain⟨z2,its2,n2,r2,hl2,e2⟩:=I.JX hB;have hsz:AM.toArray.size+its2.toArray.size<=sizeLine:=by rw[Cb,Cb];lia
 have hlong:¬(!AM.toArray.isEmpty&&Builtin.List.listTooLong (AM.toArray.size+its2.toArray.size))=true:=by rw[iU hsz,K5];exact CY
 refine I8 F.slot_list_extend ⟨_,e,rfl⟩ F.entry_list_extend (F.args_list_extend_2 _ _)
  (AutoSeq1.list_extend_list_list_0 l AM.toArray n b its2.toArray n2 hlong (by rw[Cb];lia) (by lia)) ⟨e,e2,?_⟩;refine⟨.BA,_,I.T3 (its':=AM++its2) hH e (by simp) (r.append r2) ?_,rfl,q⟩;rw[A7]
 lia
def pZ:V->List V->Hp->VK->Prop:=fun x vs H Q=>∃l xs y,x=.ref l/\vs=[]/\H l=some (.lst xs)/\xs[xs.length-1]? =some y/\Q y (upd H l (.lst xs.dropLast))
theorem lD:Ha X "list.pop" pZ:=by
 intro pins s σ H x vs v us Q I rx rv h;obtain⟨l,xs,y,rfl,rfl,hH,hy,q⟩:=h;cases rx;have hus:=rv.zero;subst hus;obtain⟨z,AM,n,r,hl,e⟩:=I.JX hH;obtain⟨u,hu,ru⟩:=r.get hy;have hy':AM.toArray[AM.toArray.size-1]? =some u:=by show AM.toArray[AM.length-1]? =some u;rw[<-F7,<-hl];exact hu
 refine I8 F.slot_list_pop ⟨_,e,rfl⟩ F.entry_list_pop (F.args_list_pop_1 _) (MeetsSeq.list_pop_last l AM.toArray n u hy' (by rw[Cb];lia)) ⟨e,?_⟩;refine⟨y,_,I.T3 (its':=AM.dropLast) hH e ?_ r.dropLast ?_,ru,q⟩
 ·show AM.toArray.eraseIdxIfInBounds (AM.toArray.size-1)=AM.dropLast.toArray;rw[Cb,List.eraseIdxIfInBounds_toArray,dP]
 ·rw[List.length_dropLast]
  lia
def pG:R2:=fun x y H Q=>∃l b xs zs,x=.ref l/\y=.ref b/\H l=some (.lst xs)/\H b=some (.lst zs)/\xs.length+zs.length<=sizeLine/\∀p,H p=none->Q (.ref p) (upd H p (.lst (xs++zs)))
theorem JL:Bv X (rC .Add) pG:=by
 intro pins s σ H x y v u Q I rx ry h;obtain⟨l,b,xs,zs,rfl,rfl,hH,hB,hz,q⟩:=h;cases rx;cases ry;obtain⟨z,AM,n,r,hl,e⟩:=I.JX hH;obtain⟨z2,its2,n2,r2,hl2,e2⟩:=I.JX hB;refine PySem.P.add_list e e2 ?_ (by rw[Cb,Cb];lia);have ea:AM.toArray++its2.toArray=(AM++its2).toArray:=by simp
 rw[ea];exact⟨.ref _,_,I.UG (t':=s.toks) (r.append r2) (by rw[A7];lia),rfl,q _ I.fresh⟩
section
open PySem.W PySem.Calls
theorem cF{P:Params}:∀(ns:List Int)(vs:List AB),WellAll P h vs (ns.map WData.int)->IntsAre vs ns:=by
 intro ns
 induction ns with
 |nil=>intro vs w;rw[LA] at w;cases w;exact .nil
 |cons n ns ih=>
  intro vs w;rw[Av] at w
  cases w with
  |cons a b=>cases a;exact .cons _ _ (ih _ b)
theorem eI{l:OpenLaw}{n:Nat}(hn:l.most=some n){P:Params}{args:List WData}{vals:List AB}
 (hpre:l.row.toRowW.claim.pre args=true)(hwl:WellAll P h vals args):
 ∃a vs ns,vals=[Value.ref a]/\args=[WData.list (ns.map WData.int)]/\h.get? a=some {cls:=.type "list",data:=.seq vs.toArray}/\IntsAre vs ns/\ns.length<=n:=by
 have hsh:WShape.hasAll [] args [.list .int]=true:=(pre_splitW hpre).1;have hc:l.pre.holds [] {args:=args}=true:=(pre_splitW hpre).2;obtain⟨d,r,rfl,h1,h2⟩:=hasAllW_cons hsh;obtain rfl:=hasAllW_nil h2;obtain⟨xs,rfl,h3⟩:=hasW_list h1;obtain⟨ns,rfl⟩:=items_int h3;have hlen:ns.length<=n:=by
  unfold OpenLaw.pre at hc;have h4:(WTm.not (.lt (.lit (.int (n:Int))) (.len (.arg 0)))).holds [] {args:=[.list (ns.map .int)]}=true:=by have h4:=(holds_andW hc).1;rw[hn] at h4;exact h4
  have h5:=condW_of h4 (w_not (w_lt w_lit (w_len_list (w_arg rfl))));rw[AL] at h5;refine OM fun q=>?_;have q':(n:Int)<((ns.length:Nat):Int):=by lia
  first
   |(rw[BZ q'] at h5;exact absurd h5 (by decide))
   |(simp at h5;lia)
 cases hwl with
 |cons w1 w2=>
  cases w2
  cases w1 with
  |list ho hall=>exact⟨_,_,ns,rfl,rfl,ho,cF ns _ hall,hlen⟩
theorem eh(l:OpenLaw)(args:List WData):l.row.toRowW.claim.post args (.bool true) args=true:=
 postW_of (r:=l.row.toRowW) (X:=(true==true))
  (show WShape.has [] (.bool true) .bool=true by first|rfl|decide|simp[WShape.has,WShape.arms,WShape.armsAll])
  (show(WTm.eq .res (.lit (.bool true))).value [] {args:=args,res:=some (.bool true),after:=args}=some (.bool (true==true)) from w_eq_bool (w_res rfl) w_lit) rfl
end
variable{XP:(Str->Option AB)->qY->Prop}
section
open PySem.W PySem.Calls
theorem cf{l:OpenLaw}{n:Nat}{q:qV}{loose:List Str}{YP:qa->qY->Prop}{d:DefRec}
 (hn:l.most=some n)(hdf:d.params.defaults=[])
 (call:∀(w:qa)(s₀ s₁:Yf)(mg mb:Str->Option AB)(fa:Ya)(o:Obj)(pm cd doc:AB)(a:Ya)(vs:List AB)(ns:List Int),
  Ground q loose [] XP w s₀ mg mb s₁.heap->YP w s₁.heap->
  s₁.heap.get? fa=some o->o.data=.func (docDef d.name d.params d.body d.scope pm cd doc)->s₁.heap.CodeRec cd d.name->mg d.name=some (.ref fa)->
  s₁.heap.get? a=some {cls:=.type "list",data:=.seq vs.toArray}->IntsAre vs ns->ns.length<=n->s₁.gens= #[]->
  qw (ax l.prog w) sD (.call (.ref fa) ⟨[.ref a],[]⟩) (fun r s'=>r=.ok (.ret (.bool true))/\OldK s₁.heap s'.heap/\s'.os=s₁.os/\rO s'.gens) s₁):
 WalkO q loose XP YP l.row.toRowW d [] (fun f vs=>PySem.call f vs):=by
 intro w s₀ s₁ mg mb G Y fa o pm cd doc dV kV ho hd hcd hD hmg hg args vals as hpre hlay hrd hwl hlo;obtain rfl:dV=.none:=Dflts.none hD hdf;obtain rfl:kV=.none:=Dflts.noKw hD;obtain⟨a,vs,ns,rfl,rfl,hobj,hints,hlen⟩:=eI hn hpre hwl;refine enter_call (K9 (call w s₀ s₁ mg mb fa o pm cd doc a vs ns G Y ho (fd_plain hd) hcd hmg hobj hints hlen hg) fun r s' hq=>?_);obtain⟨rfl,h2,h3,h4⟩:=hq;exact⟨.inl ⟨.bool true,.bool true,[],rfl,fun _=>rfl,.bool true,eh l _,fun _=>⟨List.Pairwise.nil,fun _ hm=>(nomatch hm)⟩⟩,h2,h3,h4⟩
end
theorem V0:∀{vs:List AB}{ns:List Int},IntsAre vs ns->Vals (ns.map V.int) vs
 |_,_,.nil=>.nil
 |_,_,.cons n t h=>.cons ⟨t,rfl⟩ (V0 h)
def UM(H:Hp):Prop:=∀b,H b=none\/∃o xs,H b=some (.BR o (.lst xs))
variable{ns:List Int}
theorem iK{mb:Str->Option AB}{fa:Ya}{s₁:Yf}{vs:List AB}
 (KX:K.In s₁.heap)(hns:s₁.heap.Ns g0 mg)(hb:s₁.heap.Ns sr mb)(hbb:∀x:Str,x≠ "__name__" ->mb x=qc x)(hlim:s₁.heap.NoLimit)(hg:s₁.gens= #[])
 (ha:s₁.heap.get? a=some {cls:=.type "list",data:=.seq vs.toArray})(hi:IntsAre vs ns)(hl:ns.length<=sizeLine)(hr:Bi k sD)
 (F:∀base:qY,K.In base->base.Ns g0 mg->AW P w K mg base CX k fa fd [x] sp)(hbind:∀(s:Yf)(u:AB),sg s fd ⟨[u],[]⟩ [(x,u)])
 (hsp:∀H:Hp,UM H->AJ K H a (ns.map V.int)->sp [.ref a] H (fun v _=>v=.bl true) fun _ _ _=>False)
 (hCX:∀H e s',CX [] H s₁ (fun _ _ _=>False) e s'->False):
 qw (ax P w) sD (.call (.ref fa) ⟨[.ref a],[]⟩) (fun r s'=>r=.ok (.ret (.bool true))/\OldK s₁.heap s'.heap/\s'.os=s₁.os/\rO s'.gens) s₁:=by
 have rv:=V0 hi;have lenV:=hi.length;have core:∀H:Hp,UM H->AJ K H a (ns.map V.int)->Bu P w H s₁.heap->(∀b,H b≠none->b=a)->(H a≠none->K.lookup a=none)->
  qw (ax P w) sD (.call (.ref fa) ⟨[.ref a],[]⟩) (fun r s'=>r=.ok (.ret (.bool true))/\OldK s₁.heap s'.heap/\s'.os=s₁.os/\rO s'.gens) s₁:=by
  intro H hO hS hok hA hK;have base_of:∀{b:Ya}{o:Obj},s₁.heap.get? b=some o->H b=none->(Ig s₁.heap H).get? b=some o:=fun e n=>iD e n;have Jc:∀{b:Ya}{o:Obj}{es:Array DictEntry}{ep:Nat},s₁.heap.get? b=some o->o.data=.dict es ep->H b=none:=fun{b o es ep} e d=>by
   cases q:H b with
   |none=>rfl
   |some u=>have e':b=a:=hA b (by rw[q];simp);subst e';rw[ha] at e;cases e;have d':Data.seq vs.toArray _=Data.dict es ep:=d;cases d'
  have nsK:∀{b:Ya}{m:Str->Option AB},s₁.heap.Ns b m->(Ig s₁.heap H).Ns b m:=fun{b m} ⟨o,es,ep,e,d,r⟩=>⟨o,es,ep,base_of e (Jc e d),d,r⟩;have hKb:K.In (Ig s₁.heap H):=fun b o e=>base_of (KX b o e) (by
   cases q:H b with
   |none=>rfl
   |some u=>have e':b=a:=hA b (by rw[q];simp);subst e';rw[hK (by rw[q];simp)] at e;cases e);have hM:Mod K mg (Ig s₁.heap H):=⟨hKb,nsK hns,⟨mb,nsK hb,hbb⟩,let⟨mc,h1,h2⟩:=hlim;⟨mc,nsK h1,h2⟩⟩;have e0:Ki P w K mg (Ig s₁.heap H) sD [] s₁ H:=⟨rfl,hM,fun b o e=>ji e,Nat.le_of_eq (eZ _ _),trivial,fun b hb=>absurd (show b∈([]:List Ya) from hb) (by simp),hok,.of_eq hg⟩;refine K9 ((F _ hKb (nsK hns)).run sD [] s₁ H ⟨[.ref a],[]⟩ [.ref a] [.ref a] _ _ hr e0 (hbind s₁ (.ref a)) (.cons rfl .nil) (hsp H hO hS)) fun r s' h=>?_
  cases r with
  |error e=>exact(hCX H e s' h).elim
  |ok fl=>
   cases fl with
   |next=>exact False.elim h
   |brk=>exact False.elim h
   |cont=>exact False.elim h
   |ret u=>
    obtain⟨v,H',os,bare,un,hok',r',q⟩:=h;have q':v=.bl true:=q;subst q';obtain rfl:u=Value.bool true:=r';refine⟨rfl,OldK.of_keep fun b o e=>?_,os,bare⟩
    cases q:H b with
    |none=>exact un.keep b o e q (by intro z;exact absurd (show b∈([]:List Ya) from z) (by simp)) (by simp)
    |some u=>
     rcases hO b with z|⟨ob,xs,z⟩
     ·rw[q] at z;cases z
     ·have z2:=un.EL b ob _ z;obtain⟨e1,_⟩:=hok b _ z;obtain⟨e2,_⟩:=hok' b _ z2;rw[e] at e1;cases e1;exact e2
 cases hk:K.lookup a with
 |some o=>have e:=KX a o hk;rw[ha] at e;cases e;refine core (fun _=>none) (fun _=>.inl rfl) (.inr ⟨_,vs.toArray,_,hk,rfl,rfl,rfl,by rw[Cb,lenV];exact hl,by simpa using rv⟩) (fun b u z=>by have z':(none:Option HO)=some u:=z;cases z') (fun b z=>absurd rfl z) fun z=>absurd rfl z
 |none=>
  refine core (fun b=>if b=a then some (.BR {cls:=.type "list",data:=.seq vs.toArray} (.lst (ns.map V.int))) else none) (fun b=>?_) (.inl (.inr ⟨{cls:=.type "list",data:=.seq vs.toArray},AH rfl⟩)) (fun b u z=>?_) (fun b z=>?_) fun _=>hk
  ·by_cases hb:b=a
   ·exact .inr ⟨_,_,AH hb⟩
   ·exact .inl (AF hb)
  ·by_cases hb:b=a
   ·have z':=(AH hb).symm.trans z;cases z';subst hb;exact⟨ha,by rw[AL];exact hl,vs,_,rv,ha⟩
   ·have z':=(AF hb).symm.trans z;cases z'
  ·by_cases hb:b=a
   ·exact hb
   ·exact absurd (AF hb) z
abbrev Ah:Jg:=fun _ _ _ _ _ _=>False
abbrev E0:XK:=fun _ _ _=>False
theorem A8:Passes Ah X E0:=fun _ _ _ _ _ _ _ h=>h.elim
structure Aj(K:tN)(x qual:Str)(st:hX)(f:Ya)(fd:qX):Prop where
 ex:∃(oc:AB)(od:Option Ya)(kV doc pm:AB)(an:Option Ya)(cdv ct:AB)(osl:Array (Option AB)),
  fd=fnOf x qual (JC st) (Fq st) (Ao st) .none kV doc pm an cdv ct/\K.lookup f=some ⟨oc,od,.func fd,osl⟩/\codeIn K cdv qual=true
 kp:qo K (.ref f)=true
theorem Aj.ok{st:hX}(F:Aj K x qual st f fd)(S:Az N ps (Ao st))(len:∀vs H Q E,sp vs H Q E->vs.length=ps.length)
 (hbody:∀(cdv:AB)(A:qy)(outer:List Env)(s:Yf)(H:Hp)(vs:List V)(Q:VK)(E:XK),Bi k (A.deeper (rK qual (Ao st) s.heap.objs.size f cdv))->sp vs H Q E->
  ∃t,Ei (Ja Ah P w K mg base N qual (Ao st) f cdv A outer s H E).QK (Fq st) t/\t {nx:=fun _ H'=>Q .BA H',rt:=Q} (start N vs) H):AW P w K mg base Ah (k+1) f fd ps sp:=by
 obtain⟨oc,od,kV,doc,pm,an,cdv,ct,osl,rfl,lk,hcd⟩:=F.ex;refine Zq lk hcd S len fun A outer s H vs Q E hr hsp=>?_;obtain⟨t,h,q⟩:=hbody cdv A outer s H vs Q E hr hsp;exact⟨t,h.QK,q⟩
theorem Aj.binds{st:hX}(F:Aj K x qual st f fd)
 (h:∀(kV doc pm:AB)(an:Option Ya)(cdv ct:AB)(us:List AB),us.length=ps.length->bindArgs (fnOf x qual (JC st) (Fq st) (Ao st) .none kV doc pm an cdv ct) ⟨us,[]⟩=pure (ps.zip us)):Binds K fd ps []:=by
 obtain⟨oc,od,kV,doc,pm,an,cdv,ct,osl,rfl,lk,hcd⟩:=F.ex;exact .all (h kV doc pm an cdv ct)
theorem lX{st:hX}{oc:AB}{an:Option Ya}{kV doc pm cdv ct:AB}(l:K.lookup f=some ⟨oc,od,.func (fnOf x qual (JC st) (Fq st) (Ao st) .none kV doc pm an cdv ct),osl⟩)
 (c:codeIn K cdv qual=true)(k:qo K (.ref f)=true):Aj K x qual st f (fnOf x qual (JC st) (Fq st) (Ao st) .none kV doc pm an cdv ct):=⟨⟨oc,od,kV,doc,pm,an,cdv,ct,osl,rfl,l,c⟩,k⟩
theorem Cm(hr:Bi k A):A.units+1<qh:=Nat.lt_of_le_of_lt (Nat.add_le_add_left (by decide:1<=64) _) hr.units
theorem pv(i:Nat)(hN:X.N[i]? =some x:=by rfl)(hv:QP X.env.scope x:=by first|exact AZ rfl|exact Cd (AZ rfl)|exact Cd (Cd rfl))(hd:(x==("__debug__" :Str))=false:=by decide)
 (hcd:(x==("__classdict__" :Str))=false:=by decide):PE X (.Name x pos) (Ee i):=Y4 hN hv hd hcd
variable{B:Prop}
theorem BK{A:Prop}(h:B):if false=true then A else B:=by rw[AF CY];exact h
theorem Bm{A:Prop}(h:A):if true=true then A else B:=by rw[AH rfl];exact h
theorem FR{c A:Prop}[Decidable c](h1:c->A)(h2:¬c->B):if c then A else B:=by
 by_cases h:c
 ·rw[AH h];exact h1 h
 ·rw[AF h];exact h2 h
theorem EZ{c A:Prop}[Decidable c](hc:c)(h:B):if(!decide c)=true then A else B:=by rw[BZ hc];exact BK h
def AO(H H':Hp):Prop:=∀b o,H b=some o->H' b=some o
theorem AO.refl(H:Hp):AO H H:=fun _ _ h=>h
variable{H2:Hp}
theorem AO.trans(a:AO H H1)(b:AO H1 H2):AO H H2:=fun c o h=>b c o (a c o h)
theorem AO.free(e:AO H H'){l:Ya}(h:H' l=Option.none):H l=Option.none:=by
 cases q:H l with
 |none=>rfl
 |some o=>rw[e l o q] at h;cases h
theorem AO.seq{xs:List V}(e:AO H H')(h:AJ K H a xs):AJ K H' a xs:=by
 rcases h with(h|⟨o,h⟩)|h
 ·exact .inl (.inl (e _ _ h))
 ·exact .inl (.inr ⟨o,e _ _ h⟩)
 ·exact .inr h
section
variable{κ:Type}[DecidableEq κ]
noncomputable def Bk(AA:List (κ×V))(k:κ):Option V:=(AA.find? fun kv=>decide (kv.1=k)).map (·.2)
noncomputable def putK(AA:List (κ×V))(k:κ)(v:V):List (κ×V):=
 if(AA.any fun kv=>decide (kv.1=k))=true then AA.map (fun kv=>if kv.1=k then(kv.1,v) else kv) else AA++[(k,v)]
noncomputable def JU(AA:List (κ×V))(k:κ):List (κ×V):=AA.filter fun kv=>decide (kv.1≠k)
theorem GG{p:κ×V}{r:List (κ×V)}{k:κ}(e:p.1=k):Bk (p::r) k=some p.2:=by simp[Bk,C4,e]
theorem GH{p:κ×V}{r:List (κ×V)}{k:κ}(e:¬p.1=k):Bk (p::r) k=Bk r k:=by simp[Bk,C4,e]
theorem Oy(k:κ):∀AA:List (κ×V),(AA.any fun kv=>decide (kv.1=k))=(Bk AA k).isSome
 |[]=>rfl
 |p::r=>by
  rw[IV];by_cases e:p.1=k
  ·simp only[GG e,BZ e,Bool.true_or,Option.isSome_some]
  ·rw[GH e,BJ e,RO];exact Oy k r
theorem XN(k j:κ)(y:V):∀AA:List (κ×V),Bk (AA.map fun kv=>if kv.1=k then(kv.1,y) else kv) j=(Bk AA j).map fun x=>if j=k then y else x
 |[]=>rfl
 |p::r=>by
  have ih:=XN k j y r;rw[Av];by_cases h:p.1=k
  ·rw[AH h];by_cases e:p.1=j
   ·rw[GG (p:=(p.1,y)) e,GG e,OO,AH (e.symm.trans h)]
   ·rw[GH (p:=(p.1,y)) e,GH e,ih]
  ·rw[AF h];by_cases e:p.1=j
   ·rw[GG (p:=p) e,GG e,OO,AF (fun z=>h (e.trans z))]
   ·rw[GH (p:=p) e,GH e,ih]
theorem Wg(k j:κ)(y:V):∀AA:List (κ×V),Bk AA k=none->Bk (AA++[(k,y)]) j=if j=k then some y else Bk AA j
 |[],_=>by
  by_cases e:k=j
  ·rw[AH e.symm];exact GG (p:=(k,y)) e
  ·rw[AF (fun z=>e z.symm)];exact GH (p:=(k,y)) e
 |p::r,hn=>by
  rw[MV];have hk:¬p.1=k:=fun z=>by rw[GG z] at hn;cases hn
  rw[GH hk] at hn;have ih:=Wg k j y r hn;by_cases e:p.1=j
  ·rw[GG e,GG e,AF (fun z=>hk (e.trans z))]
  ·rw[GH e,GH e,ih]
theorem iJ(AA:List (κ×V))(k j:κ)(y:V):Bk (putK AA k y) j=if j=k then some y else Bk AA j:=by
 unfold putK;by_cases a:(AA.any fun kv=>decide (kv.1=k))=true
 ·rw[AH a,XN];rw[Oy] at a;by_cases e:j=k
  ·obtain⟨x,hx⟩:=Option.isSome_iff_exists.mp a;rw[AH e,e,hx,OO,AH rfl]
  ·rw[AF e]
   cases Bk AA j with
   |none=>rfl
   |some x=>rw[OO,AF e]
 ·rw[AF a];refine Wg k j y AA ?_;rw[Oy] at a
  cases q:Bk AA k with
  |none=>rfl
  |some x=>rw[q] at a;exact(a rfl).elim
theorem Od(AA:List (κ×V))(k:κ)(v:V):(putK AA k v).length<=AA.length+1:=by
 unfold putK;split
 ·rw[AL];lia
 ·rw[A7,CP,K2];lia
theorem De.Mn{o:Option V}{u:Option AB}(r:De o u):o.isSome=u.isSome:=by
 cases o with
 |none=>cases u with
  |none=>rfl
  |some _=>exact(show False from r).elim
 |some _=>cases u with
  |none=>exact(show False from r).elim
  |some _=>rfl
theorem De.getD{o:Option V}{u:Option AB}{d:V}{d':AB}(r:De o u)(rd:RelV d d'):RelV (o.getD d) (u.getD d'):=by
 cases o with
 |none=>cases u with
  |none=>exact rd
  |some _=>exact(show False from r).elim
 |some _=>cases u with
  |none=>exact(show False from r).elim
  |some _=>exact r
theorem KV.val{AA:List (κ×V)}{vs:List (κ×AB)}(r:KV AA vs)(k:κ):De (Bk AA k) (rW vs k):=by
 unfold KV at r
 induction r with
 |nil=>exact Cw
 |@cons p q ps qs h t ih=>
  obtain⟨h1,h2⟩:=h;by_cases e:p.1=k
  ·have e':q.1=k:=h1.symm.trans e;have b:rW (q::qs) k=some q.2:=by simp[rW,C4,e']
   rw[GG e,b];exact h2
  ·have e':¬q.1=k:=fun z=>e (h1.trans z);have b:rW (q::qs) k=rW qs k:=by simp[rW,C4,e']
   rw[GH e,b];exact ih
theorem KV.any{AA:List (κ×V)}{vs:List (κ×AB)}(r:KV AA vs)(k:κ):(AA.any fun kv=>decide (kv.1=k))=vs.any fun kv=>decide (kv.1=k):=by
 unfold KV at r
 induction r with
 |nil=>rfl
 |cons h t ih=>rw[IV,IV,ih,h.1]
theorem KV.T9{AA:List (κ×V)}{vs:List (κ×AB)}(r:KV AA vs)(k:κ)(ry:RelV y u):
 KV (AA.map fun kv=>if kv.1=k then(kv.1,y) else kv) (vs.map fun kv=>if kv.1=k then(kv.1,u) else kv):=by
 unfold KV at r⊢
 induction r with
 |nil=>exact .nil
 |@cons p q ps qs h t ih=>
  rw[Av,Av];refine .cons ?_ ih;obtain⟨h1,h2⟩:=h;by_cases e:p.1=k
  ·rw[AH e,AH (h1.symm.trans e)];exact⟨h1,ry⟩
  ·rw[AF e,AF (fun z=>e (h1.trans z))];exact⟨h1,h2⟩
theorem KV.put{AA:List (κ×V)}{vs:List (κ×AB)}(r:KV AA vs)(k:κ)(ry:RelV y u):KV (putK AA k y) (stored vs k u):=by
 unfold putK stored;rw[r.any k];by_cases e:(vs.any fun kv=>decide (kv.1=k))=true
 ·rw[AH e,AH e];exact r.T9 k ry
 ·rw[AF e,AF e];exact Paired.snoc r ⟨rfl,ry⟩
theorem KV.drop{AA:List (κ×V)}{vs:List (κ×AB)}(r:KV AA vs)(k:κ):KV (JU AA k) (without vs k):=by
 unfold KV at r⊢;unfold JU without
 induction r with
 |nil=>exact .nil
 |@cons p q ps qs h t ih=>
  obtain⟨h1,h2⟩:=h;rw[List.filter_cons,List.filter_cons];by_cases e:p.1=k
  ·have a:¬decide (p.1≠k)=true:=by simp[e]
   have b:¬decide (q.1≠k)=true:=by simp[h1.symm.trans e]
   rw[AF a,AF b];exact ih
  ·have e':¬q.1=k:=fun z=>e (h1.trans z);have a:decide (p.1≠k)=true:=by simp[e]
   have b:decide (q.1≠k)=true:=by simp[e']
   rw[AH a,AH b];exact .cons ⟨h1,h2⟩ ih
theorem KV.keys{AA:List (κ×V)}{vs:List (κ×AB)}(r:KV AA vs):AA.map (·.1)=vs.map (·.1):=by
 unfold KV at r
 induction r with
 |nil=>rfl
 |cons h t ih=>rw[Av,Av,ih,h.1]
theorem KV.length{AA:List (κ×V)}{vs:List (κ×AB)}(r:KV AA vs):AA.length=vs.length:=I0 r
theorem gJ(AA:List (κ×V))(k:κ):(JU AA k).length<=AA.length:=Gp _ _
end
theorem JV{k:Key}(r:RelV (kV k) u):(Cc P w).is k u=true:=by
 cases k with
 |inl i=>obtain⟨t,e⟩:=(show∃t,u=Value.int i t from r);subst e;exact cU P w i t
 |inr x=>obtain⟨t,e⟩:=(show∃t,u=Value.str x t from r);subst e;exact cV P w x t
theorem kF{a b:Key}(e:kV a=kV b):a=b:=by
 cases a with
 |inl i=>cases b with
  |inl j=>have e':V.int i=V.int j:=e;injection e' with e';rw[e']
  |inr y=>exact nomatch (show V.int i=V.str y from e)
 |inr x=>cases b with
  |inl j=>exact nomatch (show V.str x=V.int j from e)
  |inr y=>have e':V.str x=V.str y:=e;injection e' with e';rw[e']
theorem Xz:∀{a b:List Key},a.map kV=b.map kV->a=b
 |[],[],_=>rfl
 |[],_::_,e=>by simp at e
 |_::_,[],e=>by simp at e
 |x::xs,y::ys,e=>by rw[Av,Av] at e;injection e with e1 e2;rw[kF e1,Xz e2]
theorem WI{P:qV}{w:qa}:∀{ks:List Key}{us:List AB},Vals (ks.map kV) us->ItemsAre (Cc P w) ks us
 |[],_,r=>by rw[LA] at r;cases r;exact .nil
 |k::ks,_,r=>by
  rw[Av] at r
  cases r with
  |cons h t=>exact .cons (JV h) (WI t)
abbrev KT(H:Hp):List (List Key×V)->List (List Key×Ya×AB)->Prop:=Paired fun p q=>p.1=q.1/\H q.2.1=some (.tup (p.1.map kV))/\RelV p.2 q.2.2
theorem KT.val{AA:List (List Key×V)}{xs:List (List Key×Ya×AB)}(r:KT H AA xs)(k:List Key):De (Bk AA k) ((tF xs k).map (·.2)):=by
 induction r with
 |nil=>exact Cw
 |@cons p q ps qs h t ih=>
  obtain⟨h1,_,h2⟩:=h;by_cases e:p.1=k
  ·have e':q.1=k:=h1.symm.trans e;have b:tF (q::qs) k=some q.2:=by simp[tF,C4,e']
   rw[GG e,b];exact h2
  ·have e':¬q.1=k:=fun z=>e (h1.trans z);have b:tF (q::qs) k=tF qs k:=by simp[tF,C4,e']
   rw[GH e,b];exact ih
theorem KT.T9{AA:List (List Key×V)}{xs:List (List Key×Ya×AB)}(r:KT H AA xs)(k:List Key)(ry:RelV y u):
 KT H (AA.map fun kv=>if kv.1=k then(kv.1,y) else kv) (xs.map (putAt k u)):=by
 induction r with
 |nil=>exact .nil
 |@cons p q ps qs h t ih=>
  rw[Av,Av];refine .cons ?_ ih;obtain⟨h1,h2,h3⟩:=h;unfold putAt;by_cases e:p.1=k
  ·rw[AH e,AH (h1.symm.trans e)];exact⟨h1,h2,ry⟩
  ·rw[AF e,AF (fun z=>e (h1.trans z))];exact⟨h1,h2,h3⟩
theorem KT.put{AA:List (List Key×V)}{xs:List (List Key×Ya×AB)}(r:KT H AA xs)(k:List Key)(hb:H b=some (.tup (k.map kV)))(ry:RelV y u):
 KT H (putK AA k y) (storedH xs k b u):=by
 have e:(AA.any fun kv=>decide (kv.1=k))=(tF xs k).isSome:=by rw[Oy,(r.val k).Mn,Option.isSome_map]
 unfold putK storedH;rw[e];by_cases q:(tF xs k).isSome=true
 ·rw[AH q,AH q];exact r.T9 k ry
 ·rw[AF q,AF q];exact Paired.snoc r ⟨rfl,hb,ry⟩
theorem KT.keeps{AA:List (List Key×V)}{xs:List (List Key×Ya×AB)}(r:KT H AA xs)(ht:∀b ys,H b=some (.tup ys)->H' b=some (.tup ys)):KT H' AA xs:=
 Paired.UL r fun _ _ z=>⟨z.1,ht _ _ z.2.1,z.2.2⟩
theorem Zi{u:HO}(ok:Bu P w H h)(e:Rd H a u):BO P w H h a u:=e.ok ok
variable{AA:List (Key×V)}
theorem JR(ok:Bu P w H h)(e:Rd H a (.dK AA)):AA.length<=sizeLine/\(a==qj)=false/\∃vs,KV AA vs/\h.DictOf (Cc P w) a vs:=
 show BO P w H h a (.dK AA) from Zi ok e
theorem JW(ok:Bu P w H h)(e:H a=some (.dK AA)):AA.length<=sizeLine/\(a==qj)=false/\∃vs,KV AA vs/\h.DictOf (Cc P w) a vs:=JR ok (.inl e)
theorem Lh{ks:List Key}(ok:Bu P w H h)(e:H a=some (.tup (ks.map kV))):(rX (Cc P w)).is h ks a:=by obtain⟨_,AM,r,o,h1,h2,n,h3⟩:=(show BO P w H h a (.tup (ks.map kV)) from ok a _ e);exact⟨o,AM.toArray,n,h1,h2,h3,by simpa using WI r⟩
theorem KR{AA:List (List Key×V)}(ok:Bu P w H h)(e:Rd H a (.dT AA)):AA.length<=sizeLine/\(a==qj)=false/\
 ∃xs,KT H AA xs/\h.DictOfH (rX (Cc P w)) a xs:=by
 obtain⟨z,y,xs,r,o,es,ep,h1,h2,h3,h4,h5⟩:=(show BO P w H h a (.dT AA) from Zi ok e);refine⟨z,y,xs,r,o,es,ep,h1,h2,h3,h4,fun x hx=>?_,h5⟩;have all:∀{l:List (List Key×V)}{m:List (List Key×Ya×AB)},KT H l m->∀x∈m,(rX (Cc P w)).is h x.1 x.2.1:=by
  intro l m q
  induction q with
  |nil=>intro x hx;exact nomatch hx
  |@cons p q ps qs hq t ih=>
   intro x hx;rcases Ba.mp hx with e|hx
   ·subst e;exact Lh ok (by rw[<-hq.1];exact hq.2.1)
   ·exact ih x hx
 exact all r x hx
theorem oU{AA:List (List Key×V)}(ok:Bu P w H h)(e:H a=some (.dT AA)):AA.length<=sizeLine/\(a==qj)=false/\
 ∃xs,KT H AA xs/\h.DictOfH (rX (Cc P w)) a xs:=KR ok (.inl e)
def BP(H:Hp)(a:Ya)(y:V)(r:Option V):Prop:=
 (∃AA k,Rd H a (.dK AA)/\y=kV k/\r=Bk AA k)\/∃AA k b,Rd H a (.dT AA)/\y=.ref b/\H b=some (.tup (k.map kV))/\r=Bk AA k
def Dc(H:Hp)(a:Ya)(y v:V)(H':Hp):Prop:=
 (∃AA k,H a=some (.dK AA)/\y=kV k/\AA.length<sizeLine/\H'=upd H a (.dK (putK AA k v)))\/
 ∃AA k b,H a=some (.dT AA)/\y=.ref b/\H b=some (.tup (k.map kV))/\AA.length<sizeLine/\H'=upd H a (.dT (putK AA k v))
theorem BP.kq{k:Key}(e:H a=some (.dK AA)):BP H a (kV k) (Bk AA k):=.inl ⟨AA,k,.inl e,rfl,rfl⟩
theorem BP.tq{AA:List (List Key×V)}{k:List Key}(e:H a=some (.dT AA))(eb:H b=some (.tup (k.map kV))):BP H a (.ref b) (Bk AA k):=.inr ⟨AA,k,b,.inl e,rfl,eb,rfl⟩
theorem Dc.kq{k:Key}(e:H a=some (.dK AA))(hl:AA.length<sizeLine):Dc H a (kV k) v (upd H a (.dK (putK AA k v))):=.inl ⟨AA,k,e,rfl,hl,rfl⟩
theorem Dc.tq{AA:List (List Key×V)}{k:List Key}(e:H a=some (.dT AA))(eb:H b=some (.tup (k.map kV)))(hl:AA.length<sizeLine):
 Dc H a (.ref b) v (upd H a (.dT (putK AA k v))):=.inr ⟨AA,k,b,e,rfl,eb,hl,rfl⟩
section
variable{r:AB}{o:Option V}
theorem Inv.big(I:Inv X pins σ H s):qj<s.heap.objs.size:=by have h:g0<s.heap.objs.size:=(I.mod.glob.keeps I.bk).lt;exact Nat.lt_trans (by decide) h
theorem eG(hu:A.units+1<qh)(I:Inv X pins σ H s)(g:BP H a y (some v))(ry:RelV y u)(h:∀w' s',Inv X pins σ H s'->RelV v w'->Q w' s'):
 bt (ax X.prog X.w) A (rh (.ref a) u) Q E s:=by
 rcases g with⟨AA,k,e,ey,l⟩|⟨AA,k,b,e,ey,eb,l⟩
 ·subst ey;obtain⟨z,hd,vs,rel,dd⟩:=JR I.hok e;obtain⟨w',hw,rw'⟩:=De.some_of (v:=v) (o:=rW vs k) (by rw[l];exact rel.val k);exact wpAny_getItem_of (JV ry) dd.mapOf hw (h w' _ (I.tok _) rw')
 ·subst ey;cases(show u=Value.ref b from ry);obtain⟨z,hd,xs,rel,dd⟩:=KR I.hok e;obtain⟨w',hw,rw'⟩:=De.some_of (v:=v) (o:=(tF xs k).map (·.2)) (by rw[l];exact rel.val k);obtain⟨p,hp,hp2⟩:=N5.mp hw;refine wpAny_getItem_heap (OC hu) (Lh I.hok eb) dd hp ?_;rw[hp2];exact h w' _ (I.tok _) rw'
theorem pV(hu:A.units+1<qh)(I:Inv X pins σ H s)(g:BP H a y o)(ry:RelV y u)(h:∀s',Inv X pins σ H s'->Q (.bool o.isSome) s'):
 bt (ax X.prog X.w) A (qW .In u (.ref a)) Q E s:=by
 rcases g with⟨AA,k,e,ey,l⟩|⟨AA,k,b,e,ey,eb,l⟩
 ·subst ey;obtain⟨z,hd,vs,rel,dd⟩:=JR I.hok e;refine wpAny_in_of (JV ry) hd dd.mapOf ?_;rw[<-(rel.val k).Mn,<-l];exact h _ (I.tok _)
 ·subst ey;cases(show u=Value.ref b from ry);obtain⟨z,hd,xs,rel,dd⟩:=KR I.hok e;refine wpAny_in_heap (OC hu) (Lh I.hok eb) hd dd ?_;have q:=(rel.val k).Mn;rw[Option.isSome_map] at q;rw[<-q,<-l];exact h _ (I.tok _)
theorem jd(hu:A.units+1<qh)(I:Inv X pins σ H s)(g:BP H a y o)(ry:RelV y u)(h:∀s',Inv X pins σ H s'->Q (.bool (!o.isSome)) s'):
 bt (ax X.prog X.w) A (qW .NotIn u (.ref a)) Q E s:=by
 rcases g with⟨AA,k,e,ey,l⟩|⟨AA,k,b,e,ey,eb,l⟩
 ·subst ey;obtain⟨z,hd,vs,rel,dd⟩:=JR I.hok e;refine wpAny_notIn_of (JV ry) hd dd.mapOf ?_;rw[<-(rel.val k).Mn,<-l];exact h _ (I.tok _)
 ·subst ey;cases(show u=Value.ref b from ry);obtain⟨z,hd,xs,rel,dd⟩:=KR I.hok e;refine wpAny_notIn_heap (OC hu) (Lh I.hok eb) hd dd ?_;have q:=(rel.val k).Mn;rw[Option.isSome_map] at q;rw[<-q,<-l];exact h _ (I.tok _)
theorem O8{ob:HO}(I:Inv X pins σ H s)(mu:N1 (H a))(hs:Heap.SameBut a s.heap h')(he:∃q,h'.get? a=some q)(new:BO X.prog X.w (upd H a ob) h' a ob):
 Inv X pins σ (upd H a ob) {s with heap:=h',toks:=t'}:=
 I.write (x:=a) (e:=a) mu (.inl rfl) (fun b q hb z=>(hs.2 b hb).trans z) he new
theorem TM{vs:List (Key×AB)}(z:AA.length<=sizeLine)(hd:(a==qj)=false)(rel:KV AA vs)(dd:h'.DictOf (Cc P w) a vs):
 BO P w H' h' a (.dK AA):=⟨z,hd,vs,rel,dd⟩
theorem fh{Q:Unit->Yf->Prop}(hu:A.units+1<qh)(I:Inv X pins σ H s)(g:Dc H a y v H')(ry:RelV y u)(rv:RelV v r)(h:∀s',Inv X pins σ H' s'->Q () s'):
 bt (ax X.prog X.w) A (setItem (.ref a) u r) Q E s:=by
 rcases g with⟨AA,k,e,ey,l,eH⟩|⟨AA,k,b,e,ey,eb,l,eH⟩
 ·subst ey eH;obtain⟨z,hd,vs,rel,dd⟩:=JW I.hok e;have hz:vs.length<=sizeLine:=by rw[<-rel.length];exact z
  have hl:(putK AA k v).length<=sizeLine:=by have:=Od AA k v;lia
  refine wpAny_setItem_pairs (hsz:=hz) (JV ry) dd fun h' dd' hs=>h _ ?_;have he:∃q,h'.get? a=some q:=let⟨q,_,_,hq,_⟩:=dd';⟨q,hq⟩;exact O8 I (by rw[e];exact Cw) hs he (TM hl hd (rel.put k rv) dd')
 ·subst ey eH;cases(show u=Value.ref b from ry);obtain⟨z,hd,xs,rel,dd⟩:=oU I.hok e;have hz:xs.length<=sizeLine:=by rw[<-I0 rel];exact z
  have hl:(putK AA k v).length<=sizeLine:=by have:=Od AA k v;lia
  refine wpAny_setItem_heap (hsz:=hz) (OC hu) (Lh I.hok eb) dd fun h' dd' hs=>h _ ?_;obtain⟨q,es,ep,hq,h2,h3,h4,_,h5⟩:=dd';refine O8 I (by rw[e];exact Cw) hs ⟨q,hq⟩ ⟨hl,hd,_,(rel.put k eb rv).keeps fun c ys ec=>?_,q,es,ep,hq,h2,h3,h4,h5⟩;rw[AQ (CZ ec e (fun z=>nomatch z))];exact ec
end
section
variable{k:Key}
theorem oG{more:List AB}(I:Inv X pins σ H s)(e:H a=some (.dK AA))(ry:RelV (kV k) u)(l:Bk AA k=some v)(hm:more=[]\/∃x,more=[x])
 (h:∀w' s',Inv X pins σ (upd H a (.dK (JU AA k))) s'->RelV v w'->Q w' s'):bt (ax X.prog X.w) A (call (.builtin "dict.pop") (.ref a::u::more)) Q E s:=by
 obtain⟨z,hd,vs,rel,dd⟩:=JW I.hok e;obtain⟨w',hw,rw'⟩:=De.some_of (v:=v) (o:=rW vs k) (by rw[<-l];exact rel.val k);have hp:(keyPart u).isSome=true:=by
  cases k with
  |inl i=>obtain⟨t,q⟩:=(show∃t,u=Value.int i t from ry);subst q;rfl
  |inr x=>obtain⟨t,q⟩:=(show∃t,u=Value.str x t from ry);subst q;rfl
 have ha:argsOk "dict.pop" ⟨.ref a::u::more,[]⟩:=by
  rcases hm with q|⟨x,q⟩
  ·subst q;exact PySem.F.args_dict_pop_2 _ _
  ·subst q;exact PySem.F.args_dict_pop_3 _ _ _
 refine OZ tR dd.typeIs PySem.F.entry_dict_pop ha (meets_dict_pop_there (Cc X.prog X.w) a (JV ry) more hm hp)
  ⟨vs,w',dd,by rw[<-rel.length];exact z,hw,fun h' dd' hs=>h w' _ ?_ rw'⟩;have he:∃q,h'.get? a=some q:=let⟨q,_,_,hq,_⟩:=dd';⟨q,hq⟩;exact O8 I (by rw[e];exact Cw) hs he (TM (BF (gJ AA k) z) hd (rel.drop k) dd')
theorem oO(I:Inv X pins σ H s)(e:Rd H a (.dK AA))(h:∀t s',Inv X pins σ H s'->Q (.int AA.length t) s'):bt (ax X.prog X.w) A (call (.builtin "len") [.ref a]) Q E s:=by obtain⟨z,hd,vs,rel,dd⟩:=JR I.hok e;refine call_len_dict hd dd (by rw[<-rel.length];rw[A3] at z;lia) ?_;rw[<-rel.length];exact h _ _ (I.tok _)
end
def aU(i:hY):Prop:=∀ov iv,sU i false ov iv=operate [ov,iv] (rh ov iv)
theorem jx{value slice:hY}{id:String}
 (hl:typeLookup (.type T) "__getitem__" =pure (some (.builtin id)))(hs:aU slice)
 (h:bt (ax prog w) A (qZ value env) (fun o s₁=>bt (ax prog w) A (qZ slice env) (fun i s₂=>s₂.TypeIs o T/\bt (ax prog w) A (rh o i) Q E s₂) E s₁) E s):
 bt (ax prog w) A (qZ (.Subscript value slice pos) env) Q E s:=by
 refine Subscript_ (C6 h (fun o s₁ h₁=>C6 h₁ (fun i s₂ h₂=>?_) fun _ _ x=>x) fun _ _ x=>x);obtain⟨hT,h₂⟩:=h₂;unfold tK;refine AK ?_;rw[getitemInPython_of_ne hT.not_modules];refine AK (wpAny_specialOf hT hl ?_);have fin:bt (ax prog w) A (sU slice false o i) (fun r s₃=>bt (ax prog w) A (letTemporaryGo value o r>>=fun _=>pure r) Q E s₃) E s₂:=by rw[hs o i];exact wpAny_operating (C6 h₂ (fun r s₃ h₃=>AK (wpAny_letTemporaryGo (Af h₃))) fun _ _ x=>x)
 first
  |exact Af (AK fin)
  |exact AK (Af (AK fin))
  |exact AK fin
theorem cX{o:Option V}(I:Inv X pins σ H s)(g:BP H a y o):s.TypeIs (.ref a) "dict" :=by
 rcases g with⟨AA,k,e,_,_⟩|⟨AA,k,b,e,_,_,_⟩
 ·obtain⟨_,_,vs,_,dd⟩:=JR I.hok e;exact dd.typeIs
 ·obtain⟨_,_,xs,_,dd⟩:=KR I.hok e;exact dd.typeIs
def JO(td ty:TE):TE:=fun σ H Q=>td σ H fun x H1=>ty σ H1 fun y H2=>∃a v,x=.ref a/\BP H2 a y (some v)/\Q v H2
def pR(ty td:TE):TE:=fun σ H Q=>ty σ H fun y H1=>td σ H1 fun x H2=>∃a o,x=.ref a/\BP H2 a y o/\Q (.bl o.isSome) H2
def jf(ty td:TE):TE:=fun σ H Q=>ty σ H fun y H1=>td σ H1 fun x H2=>∃a o,x=.ref a/\BP H2 a y o/\Q (.bl (!o.isSome)) H2
def oF(td ty tv:TE):TS:=fun D σ H=>tv σ H fun v H1=>td σ H1 fun x H2=>ty σ H2 fun y H3=>∃a H4,x=.ref a/\Dc H3 a y v H4/\D.nx σ H4
section
variable{o i value:hY}{pos':Pos}{td ty tv:TE}
theorem Dm(hu:X.A.units+1<qh)(ho:PE X o td)(hi:PE X i ty)(hs:aU i):PE X (.Subscript o i pos) (JO td ty):=by intro pins s σ H Q I h;refine jx PySem.F.slot_dict_getitem.lookup hs (Ad (ho pins s σ H _ I h) fun u s1 ⟨x,H1,I1,rx,q1⟩=>Ad (hi pins s1 σ H1 _ I1 q1) fun iv s2 ⟨y,H2,I2,ry,a,v,ex,g,q2⟩=>?_);subst ex;obtain rfl:u=Value.ref a:=rx;exact⟨cX I2 g,eG hu I2 g ry fun w' s3 I3 rw'=>⟨v,H2,I3,rw',q2⟩⟩
theorem ZN(hu:X.A.units+1<qh)(hi:PE X i ty)(ho:PE X o td):PC X .In i o (pR ty td):=by intro pins s σ H Q I h;refine Ad (hi pins s σ H _ I h) fun iv s1 ⟨y,H1,I1,ry,q1⟩=>Ad (ho pins s1 σ H1 _ I1 q1) fun u s2 ⟨x,H2,I2,rx,a,ov,ex,g,q2⟩=>?_;subst ex;obtain rfl:u=Value.ref a:=rx;exact pV hu I2 g ry fun s3 I3=>⟨.bl ov.isSome,H2,I3,rfl,q2⟩
theorem Oo(hu:X.A.units+1<qh)(hi:PE X i ty)(ho:PE X o td):PC X .NotIn i o (jf ty td):=by intro pins s σ H Q I h;refine Ad (hi pins s σ H _ I h) fun iv s1 ⟨y,H1,I1,ry,q1⟩=>Ad (ho pins s1 σ H1 _ I1 q1) fun u s2 ⟨x,H2,I2,rx,a,ov,ex,g,q2⟩=>?_;subst ex;obtain rfl:u=Value.ref a:=rx;exact jd hu I2 g ry fun s3 I3=>⟨.bl (!ov.isSome),H2,I3,rfl,q2⟩
theorem FE(hu:X.A.units+1<qh)(ho:PE X o td)(hi:PE X i ty)(hv:PE X value tv)(hs:rY value (some (.Subscript o i pos')) pos.line X.env=pure false):
 PS X (.Assign [.Subscript o i pos'] value pos) (oF td ty tv):=by
 intro pins s σ H D I h;refine wpAny_Assign_Subscript (Ad (hv pins s σ H _ I h) fun r s1 ⟨v,H1,I1,rv,q1⟩=>Ad (ho pins s1 σ H1 _ I1 q1) fun u s2 ⟨x,H2,I2,rx,q2⟩=>Ad (hi pins s2 σ H2 _ I2 q2) fun iv s3 ⟨y,H3,I3,ry,a,H4,ex,g,q3⟩=>?_) hs;subst ex;obtain rfl:u=Value.ref a:=rx;exact fh hu I3 g ry rv fun s4 I4=>⟨σ,H4,I4,q3⟩
end
theorem Ws(h:qY)(hb:qj<h.objs.size):BO P w H (h.push {cls:=.type "dict",data:=.dict #[]}) h.objs.size (.dK []):=
 ⟨CH _,OA.mpr (DG (BM hb)),[],.nil,Heap.DictOf.new h⟩
def kB:TE:=fun _ H Q=>∀p,H p=none->Q (.ref p) (upd H p (.dK []))
theorem Ow{X:Cx}{pos:Pos}:PE X (.Dict [] [] pos) kB:=fun pins s σ H Q I h=>wpAny_Dict_empty ⟨.ref s.heap.objs.size,_,I.laid (a:=s.heap.objs.size) (o:=.dK []) (t':=s.toks) (fun _ _ q=>BB _ q) (Ab _) (Ws s.heap I.big),rfl,h _ (I.hok.fresh (Ab _))⟩
def Ta:List (TE×TE)->St->Hp->(List (V×V)->Hp->Prop)->Prop
 |[],_,H,Q=>Q [] H
 |(tk,tv)::r,σ,H,Q=>tk σ H fun x H1=>tv σ H1 fun y H2=>Ta r σ H2 fun ps H3=>Q ((x,y)::ps) H3
abbrev VV:List (V×V)->List (AB×AB)->Prop:=Paired fun p q=>RelV p.1 q.1/\RelV p.2 q.2
def N0(X:Cx)(pos:Pos)(keys:List (Option hY))(values:List hY)(trs:List (TE×TE)):Prop:=
 ∀(pins:List (Ya×Obj))(s:Yf)(σ:St)(H:Hp)(Q:List (V×V)->Hp->Prop),Inv X pins σ H s->Ta trs σ H Q->
  bt (ax X.prog X.w) X.A (evalPairs (pairTrees keys values X.env pos)) (fun vs s'=>∃ps H',Inv X pins σ H' s'/\VV ps vs/\Q ps H') X.xe s
theorem jv{X:Cx}{pos:Pos}:N0 X pos [] [] []:=fun pins s σ H Q I h=>pairTrees_nil_walk ⟨[],H,I,.nil,h⟩
theorem SO{X:Cx}{pos:Pos}{k v:hY}{ks:List (Option hY)}{vs:List hY}{tk tv:TE}{trs:List (TE×TE)}(hk:PE X k tk)(hv:PE X v tv)(hr:N0 X pos ks vs trs):
 N0 X pos (some k::ks) (v::vs) ((tk,tv)::trs):=fun pins s σ H Q I h=>
 pairTrees_cons_walk (Ad (hk pins s σ H _ I h) fun u s1 ⟨x,H1,I1,rx,q1⟩=>Ad (hv pins s1 σ H1 _ I1 q1) fun w2 s2 ⟨y,H2,I2,ry,q2⟩=>Ad (hr pins s2 σ H2 _ I2 q2) fun ws s3 ⟨ps,H3,I3,rel,q3⟩=>⟨(x,y)::ps,H3,I3,.cons ⟨rx,ry⟩ rel,q3⟩)
def NO(AA more:List (Key×V)):List (Key×V):=more.foldl (fun acc kv=>putK acc kv.1 kv.2) AA
theorem KV.merge:∀{more:List (Key×V)}{rs:List (Key×AB)}{AA:List (Key×V)}{vs:List (Key×AB)},KV more rs->KV AA vs->KV (NO AA more) (merged vs rs):=by
 intro more rs AA vs r;unfold KV at r
 induction r generalizing AA vs with
 |nil=>intro q;exact q
 |@cons p q ps qs h t ih=>
  intro r0;have e:KV (putK AA p.1 p.2) (stored vs q.1 q.2):=by have:=r0.put p.1 h.2;rw[<-h.1];exact this
  exact ih e
theorem VZ:∀(more AA:List (Key×V)),(NO AA more).length<=AA.length+more.length
 |[],AA=>by show AA.length<=AA.length+0;lia
 |p::r,AA=>by have h1:=VZ r (putK AA p.1 p.2);have h2:=Od AA p.1 p.2;show(NO (putK AA p.1 p.2) r).length<=_;rw[CP];lia
theorem Vx{P:qV}{w:qa}:∀{AA:List (Key×V)}{ws:List (AB×AB)},VV (AA.map fun kv=>(kV kv.1,kv.2)) ws->∃rs,Carries (Cc P w) ws rs/\KV AA rs
 |[],_,r=>by rw[LA] at r;cases r;exact⟨[],Cw,.nil⟩
 |p::AA,_,r=>by
  rw[Av] at r
  cases r with
  |@cons a b as bs h t=>obtain⟨rs,c,q⟩:=Vx (P:=P) (w:=w) t;obtain⟨b1,b2⟩:=b;exact⟨(p.1,b2)::rs,⟨JV h.1,rfl,c⟩,.cons ⟨rfl,h.2⟩ q⟩
def ZV(trs:List (TE×TE)):TE:=fun σ H Q=>∀p,H p=none->Ta trs σ (upd H p (.dK [])) fun ps H2=>H2 p=some (.dK [])/\∃AA:List (Key×V),ps=AA.map (fun kv=>(kV kv.1,kv.2))/\AA.length<=15/\Q (.ref p) (upd H2 p (.dK (NO [] AA)))
theorem jw{X:Cx}{pos:Pos}{keys:List (Option hY)}{values:List hY}{trs:List (TE×TE)}(h:N0 X pos keys values trs)(hall:keys.all (·.isSome)=true)(hl:keys.length=values.length)(h0:keys≠[])
 (h15:keys.length<=15):PE X (.Dict keys values pos) (ZV trs):=by
 intro pins s σ H Q I q;have hn:=I.hok.fresh (Ab s.heap.objs.size);have I1:=I.laid (a:=s.heap.objs.size) (o:=.dK []) (h':=s.heap.push {cls:=.type "dict",data:=.dict #[]}) (t':=s.toks) (fun _ _ q=>BB _ q) (Ab _) (Ws s.heap I.big);refine wpAny_Dict_walk (knd:=Cc X.prog X.w) hall hl h0 h15 (Ad (h pins _ σ _ _ I1 (q _ hn)) fun ws s2 ⟨ps,H2,I2,rel,e,AA,ep,lk,q2⟩=>?_);subst ep;obtain⟨rs,c,rk⟩:=Vx (P:=X.prog) (w:=X.w) rel;obtain⟨z,hd,vs0,r0,dd⟩:=JW I2.hok e;cases r0;refine⟨rs,c,dd,fun h' dd' hs=>⟨.ref s.heap.objs.size,_,?_,rfl,q2⟩⟩;have hz:(NO [] AA).length<=sizeLine:=by have h1:=VZ AA [];rw[K2] at h1;rw[A3];lia
 have he:∃q,h'.get? s.heap.objs.size=some q:=let⟨q,_,_,hq,_⟩:=dd';⟨q,hq⟩;exact O8 I2 (by rw[e];exact Cw) hs he (TM hz hd (rk.merge .nil) dd')
structure M1(X:Cx)(o:hY)(m:Str)(apos:Pos)(e:hY)(cpos:Pos):Prop where
 base:qd o m X.env (qZ o X.env)=qZ o X.env
 Cg:((qf cpos (dy [e] X.env)).all (fun x=> !x.1)&&(rL cpos (qk [] X.env)).all (fun x=>x.1.isSome)
  &&decide (([e]:List hY).length+([]:List rN).length+(if([]:List rN).isEmpty then 0 else 1)<30))=true
 line:(apos.endLine==cpos.line)=true
 trees:qf cpos (dy [e] X.env)=[(false,qZ e X.env)]
structure M2(X:Cx)(o:hY)(m:Str)(apos:Pos)(e f:hY)(cpos:Pos):Prop where
 base:qd o m X.env (qZ o X.env)=qZ o X.env
 Cg:((qf cpos (dy [e,f] X.env)).all (fun x=> !x.1)&&(rL cpos (qk [] X.env)).all (fun x=>x.1.isSome)
  &&decide (([e,f]:List hY).length+([]:List rN).length+(if([]:List rN).isEmpty then 0 else 1)<30))=true
 line:(apos.endLine==cpos.line)=true
 trees:qf cpos (dy [e,f] X.env)=[(false,qZ e X.env),(false,qZ f X.env)]
def Uq(H:Hp)(a:Ya):Prop:=(∃AA,Rd H a (.dK AA))\/∃AA,Rd H a (.dT AA)
theorem ZI(I:Inv X pins σ H s)(d:Uq H a):
 s.TypeIs (.ref a) "dict" /\(∀b,Value.ref a=.ref b->∃ob,s.heap.get? b=some ob/\ob.dict=none)/\(a==qj)=false:=by
 rcases d with⟨AA,e⟩|⟨AA,e⟩
 ·obtain⟨_,hd,vs,_,dd⟩:=JR I.hok e;refine⟨dd.typeIs,fun b q=>?_,hd⟩;cases q;obtain⟨ob,_,_,h1,h2,_⟩:=dd;exact⟨ob,h1,h2.2.1⟩
 ·obtain⟨_,hd,xs,_,dd⟩:=KR I.hok e;refine⟨dd.typeIs,fun b q=>?_,hd⟩;cases q;obtain⟨ob,_,_,h1,h2,_⟩:=dd;exact⟨ob,h1,h2.2.1⟩
section
variable{d:V}{r:AB}{o:Option V}
theorem kN(hu:A.units+1<qh)(I:Inv X pins σ H s)(g:BP H a y o)(ry:RelV y u)(rd:RelV d r)(h:∀w' s',Inv X pins σ H s'->RelV (o.getD d) w'->Q w' s'):
 bt (ax X.prog X.w) A (call (.builtin "dict.get") [.ref a,u,r]) Q E s:=by
 rcases g with⟨AA,k,e,ey,l⟩|⟨AA,k,b,e,ey,eb,l⟩
 ·subst ey;obtain⟨z,hd,vs,rel,dd⟩:=JR I.hok e;refine OZ VE dd.typeIs tS (tU _ _ _) (meets_dict_get_default (Cc X.prog X.w) a (JV ry) hd r) ⟨_,dd.mapOf,h _ _ (I.tok _) ?_⟩;rw[l];exact(rel.val k).getD rd
 ·subst ey;cases(show u=Value.ref b from ry);obtain⟨z,hd,xs,rel,dd⟩:=KR I.hok e;refine OZ VE dd.typeIs tS (tU _ _ _) (meetsH_dict_get_default (rX (Cc X.prog X.w)) a b hd r) ⟨OC hu,k,xs,Lh I.hok eb,dd,h _ _ (I.tok _) ?_⟩;rw[l];exact(rel.val k).getD rd
end
def lY(td ty tx:TE):TE:=fun σ H Q=>td σ H fun x H1=>∃a,x=.ref a/\Uq H1 a/\ty σ H1 fun y H2=>tx σ H2 fun z H3=>∃o,BP H3 a y o/\Q (o.getD z) H3
def mF(td ty:TE):TE:=fun σ H Q=>td σ H fun x H1=>∃a,x=.ref a/\Uq H1 a/\ty σ H1 fun y H2=>∃AA k v,H2 a=some (.dK AA)/\y=kV k/\Bk AA k=some v/\Q v (upd H2 a (.dK (JU AA k)))
section
variable{o f:hY}{td ty tx:TE}
theorem gB(hu:X.A.units+1<qh)(ho:PE X o td)(he:PE X e ty)(hf:PE X f tx)(m:M2 X o "get" apos e f cpos):PE X (.Call (.Attribute o "get" apos) [e,f] [] cpos) (lY td ty tx):=by
 intro pins s σ H Q I h;refine wpAny_Call_method m.base m.Cg m.line MG VE PySem.F.type_dict_get (Ad (ho pins s σ H _ I h) fun u s1 ⟨x,H1,I1,rx,a,ex,d,q1⟩=>?_);subst ex;obtain rfl:u=Value.ref a:=rx;obtain⟨t1,t2,_⟩:=ZI I1 d;refine⟨t1,t2,?_⟩;rw[m.trees];refine Qd rfl (VI (Qr (Ad (he pins s1 σ H1 _ I1 q1) fun iv s2 ⟨y,H2,I2,ry,q2⟩=>Qr (Ad (hf pins s2 σ H2 _ I2 q2) fun fv s3 ⟨z,H3,I3,rz,ov,g,q3⟩=>Calls.spliced_nil ?_))));exact kN hu I3 g ry rz fun w' s4 I4 rw'=>⟨_,H3,I4,rw',q3⟩
theorem JB(ho:PE X o td)(he:PE X e ty)(m:M1 X o "pop" apos e cpos):PE X (.Call (.Attribute o "pop" apos) [e] [] cpos) (mF td ty):=by intro pins s σ H Q I h;refine wpAny_Call_method m.base m.Cg m.line MG tR PySem.F.type_dict_pop (Ad (ho pins s σ H _ I h) fun u s1 ⟨x,H1,I1,rx,a,ex,d,q1⟩=>?_);subst ex;obtain rfl:u=Value.ref a:=rx;obtain⟨t1,t2,_⟩:=ZI I1 d;refine⟨t1,t2,?_⟩;rw[m.trees];refine Qd rfl (VI (Qr (Ad (he pins s1 σ H1 _ I1 q1) fun iv s2 ⟨y,H2,I2,ry,AA,k,v,ea,ey,l,q2⟩=>Calls.spliced_nil ?_)));subst ey;exact oG I2 ea ry l (.inl rfl) fun w' s3 I3 rw'=>⟨v,_,I3,rw',q2⟩
end
section
variable{C:List α->Prop}{l:List α}
theorem len0(h:C [])(e:l.length=0):C l:=by
 cases l with
 |nil=>exact h
 |cons=>cases e
theorem P1{n:Nat}(h:∀a (r:List α),r.length=n->C (a::r))(e:l.length=n+1):C l:=by
 cases l with
 |nil=>cases e
 |cons a r=>exact h a r (Nat.succ.inj e)
theorem E8(h:∀a,C [a])(e:l.length=1):C l:=P1 (fun a _=>len0 (C:=fun r=>C (a::r)) (h a)) e
theorem Lp(h:∀a b,C [a,b])(e:l.length=2):C l:=P1 (fun a _=>E8 (C:=fun r=>C (a::r)) (h a)) e
theorem T5(h:∀a b c,C [a,b,c])(e:l.length=3):C l:=P1 (fun a _=>Lp (C:=fun r=>C (a::r)) (h a)) e
theorem aQ(h:∀a b c d,C [a,b,c,d])(e:l.length=4):C l:=P1 (fun a _=>T5 (C:=fun r=>C (a::r)) (h a)) e
theorem nI(h:C [])(h1:∀a,C [a])(e:l.length<2):C l:=by
 cases l with
 |nil=>exact h
 |cons a r=>exact len0 (C:=fun r=>C (a::r)) (h1 a) (Nat.lt_one_iff.mp (Nat.lt_of_succ_lt_succ e))
theorem oe(h:C [])(l:List α)(e:l.length=0):C l:=len0 h e
theorem all1(h:∀a,C [a])(l:List α)(e:l.length=1):C l:=E8 h e
theorem all2(h:∀a b,C [a,b])(l:List α)(e:l.length=2):C l:=Lp h e
theorem pJ(h:∀a b c,C [a,b,c])(l:List α)(e:l.length=3):C l:=T5 h e
theorem pU(h:∀a b c d,C [a,b,c,d])(l:List α)(e:l.length=4):C l:=aQ h e
end
variable{ifs:List hY}
theorem cc{elt target iter:hY}{it acc:AB}(J:Nat->Yf->Prop)
 (turn:∀n s,J n s->bt (ax prog w) A (qv it) (fun r s1=>match r with
  |none=>R (.ok .next) s1
  |some v=>bt (ax prog w) A (rE target it v) (fun _ s1'=>bt (ax prog w) A (tG target env v) (fun _ s2=>
   bt (ax prog w) A (forIn ifs true fun c r=>if r=true then do let ok<-isTrue c env (qZ c env);pure (ForInStep.yield ok) else pure (ForInStep.yield r)) (fun ok s3=>
    if ok=true then bt (ax prog w) A (qZ elt env) (fun x s4=>bt (ax prog w) A (call (.builtin "list.append") [acc,x]) (fun _ s5=>∃m,m<n/\J m s5) (fun _ _=>False) s4) (fun _ _=>False) s3
    else∃m,m<n/\J m s3) (fun _ _=>False) s2) (fun _ _=>False) s1') (fun _ _=>False) s1) (fun _ _=>False) s)
 (n:Nat)(h:J n s):qw (ax prog w) A (.compLoop (.ListComp elt [⟨target,iter,ifs,0⟩] scope pos) 0 it acc env) R s:=by
 refine codeAny_loop rfl J (fun n s hJ=>?_) n h;show bt (ax prog w) A ((compTurn (.ListComp elt [⟨target,iter,ifs,0⟩] scope pos) 0 it acc env).onRaise (fun x=>do noteFrame x env;theTreesLotGoes x)) _ _ s;refine wpAny_noted ?_;rw[compTurn_list];refine AK (OU (AK (C6 (turn n s hJ) (fun r s1 h1=>?_) fun _ _ q=>q.elim)))
 cases r with
 |none=>exact Af h1
 |some v=>
  refine AK (C6 h1 (fun _ s1' h1'=>?_) fun _ _ q=>q.elim);refine AK (C6 h1' (fun _ s2 h2=>?_) fun _ _ q=>q.elim);refine AK (C6 h2 (fun ok s3 h3=>?_) fun _ _ q=>q.elim)
  cases ok with
  |false=>exact Af ⟨rfl,h3⟩
  |true=>refine AK (AK (C6 h3 (fun x s4 h4=>?_) fun _ _ q=>q.elim));refine AK (C6 h4 (fun _ s5 h5=>?_) fun _ _ q=>q.elim);exact Af (Af ⟨rfl,h5⟩)
noncomputable def D4(ix:List Nat)(σ:St):St:=ix.map fun j=>(σ[j]?).join
noncomputable def EH(X:Cx)(Nc:List Str)(scope:sL)(cl:List (Str×Ya))(C:Ya)(s₀:Yf)(H₀:Hp)(fp:List Ya)(pins:List (Ya×Obj)):Cx:=
 {X with N:=Nc,s₀:=s₀,H₀:=H₀,env:=compEnvC scope cl C X.env,outer:=X.stack,stack:=X.stack,ex:=fp,fn:=fun _=>false,pn:=X.pn++pins,xe:=fun _ _=>False}
structure KH(X:Cx)(ts cap:List Str)(ix:List Nat)(scope:sL)(cl:List (Str×Ya)):Prop where
 calm:X.calm=true
 pD:closureFor scope X.env=pure cl
 cell:∀y∈scope.names,y.2≠.cell
 kind:scope.kind=.function
 names:∀y∈scope.names,y.2=.local->scope.names.lookup y.1=some .local
 sub:∀y c,cl.lookup y=some c->X.env.cells.lookup y=some c
 has:∀y,((rH scope X.env).names.lookup y=some .cell\/(rH scope X.env).names.lookup y=some .free)->∃c,cl.lookup y=some c
 len:ix.length=cap.length
 p7:∀(i:Nat)(y:Str)(j:Nat),cap[i]? =some y->ix[i]? =some j->X.N[j]? =some y
 UX:∀y∈cap,QP X.env.scope y/\X.env.kindOf y≠some .local/\((rH scope X.env).names.lookup y=some .cell\/(rH scope X.env).names.lookup y=some .free)
def Io(ts:List Str)(ix:List Nat)(σ:St)(σ2:St):Prop:=∃a:St,a.length=ts.length/\σ2=a++D4 ix σ
def Lk(ts:List Str)(ix:List Nat)(σ:St)(J:It)(g:TG)(ti:TT)(te:TE)(D:Ya)(Q:VK)(H1:Hp):Prop:=∃W:Nat->Nat->Hp->Prop,(∃m,W 0 m (upd H1 D (.lst [])))/\∀i m H,W i m H->
 (J.stop i H/\Q (.ref D) H)\/(J.go i H/\∃N:Hp->Prop,(∀H',N H'->∃m',m'<m/\W (i+1) m' H')/\∀x H',J.Jb i H x H'->g x (ts.map (fun _=>none)++D4 ix σ) H' fun σ2 H2=>Io ts ix σ σ2/\ti σ2 H2 fun b H3=>if b=true then te σ2 H3 fun y H4=>∃ys,H4 D=some (.lst ys)/\ys.length<sizeLine/\N (upd H4 D (.lst (ys++[y]))) else N H3)
def To(ts:List Str)(ix:List Nat)(wi:TI)(g:TG)(ti:TT)(te:TE):TE:=fun σ H Q=>wi σ H fun J H1=>∀D,H1 D=none->Lk ts ix σ J g ti te D Q H1
variable{ts:List Str}{ix:List Nat}{ti:TT}{D:Ya}
theorem Fm{xs:List V}{Q:VK}(Pv:Nat->Hp->Prop)(h0:Pv 0 (upd H1 D (.lst [])))(hl:∀i H,i<=xs.length->Pv i H->AJ K H a xs)
 (hs:∀i x H,xs[i]? =some x->Pv i H->g x (ts.map (fun _=>none)++D4 ix σ) H fun σ2 H2=>Io ts ix σ σ2/\ti σ2 H2 fun b H3=>if b=true then te σ2 H3 fun y H4=>∃ys,H4 D=some (.lst ys)/\ys.length<sizeLine/\Pv (i+1) (upd H4 D (.lst (ys++[y]))) else Pv (i+1) H3)
 (hd:∀H,Pv xs.length H->Q (.ref D) H):Lk ts ix σ (HY K a) g ti te D Q H1:=by
 refine⟨fun i m H=>m=xs.length-i/\i<=xs.length/\Pv i H,⟨xs.length,by simp,CH _,h0⟩,?_⟩;rintro i m H ⟨rfl,hi,p⟩;have q:=hl i H hi p;by_cases hlt:i<xs.length
 ·refine .inr ⟨⟨xs,xs[i],q,by simp[hlt]⟩,Pv (i+1),fun H' p'=>⟨xs.length-(i+1),by lia,rfl,hlt,p'⟩,fun x H' y=>?_⟩;obtain⟨e,y⟩:=y;subst e;exact hs i x _ (y xs q) p
 ·obtain rfl:i=xs.length:=by lia
  exact .inl ⟨⟨xs,q,Ab _⟩,hd H p⟩
theorem E3:Io [x] ix σ ((([x]:List Str).map (fun _=>(none:Option V))++D4 ix σ).set 0 (some v)):=⟨[some v],rfl,rfl⟩
def Nt(X:Cx)(ifs:List hY)(ti:TT):Prop:=
 ∀(pins:List (Ya×Obj))(s:Yf)(σ:St)(H:Hp)(Q:Bool->Hp->Prop),Inv X pins σ H s->ti σ H Q->
  bt (ax X.prog X.w) X.A (forIn ifs true fun c r=>if r=true then do let ok<-isTrue c X.env (qZ c X.env);pure (ForInStep.yield ok) else pure (ForInStep.yield r)) (TP X pins σ Q) X.xe s
def pC:TT:=fun _ H Q=>Q true H
theorem FG:Nt X [] pC:=fun _ _ _ H _ I h=>wpAny_tests_nil ⟨H,I,h⟩
theorem O4{t:TT}(h:PT X c t):Nt X [c] t:=fun pins s σ H Q I q=>wpAny_tests_one (h pins s σ H Q I q)
section
variable{cap:List Str}{cl:List (Str×Ya)}
theorem iV(h:(D4 ix σ)[i]? =some (some v)):∃j,ix[i]? =some j/\σ[j]? =some (some v):=by
 unfold D4 at h;rw[Ax] at h
 cases e:ix[i]?with
 |none=>rw[e] at h;cases h
 |some j=>
  rw[e] at h;have h':(σ[j]?).join=some v:=Ag h;refine⟨j,rfl,?_⟩
  cases e2:σ[j]?with
  |none=>rw[e2] at h';cases h'
  |some o=>rw[e2] at h';have h2:o=some v:=h';rw[h2]
theorem Inv.block{tk:Nat}(ok:KH X ts cap ix scope cl)(I:Inv X pins σ H s)(hf:∀b∈fp,F0 X pins H b)(hfs:∀b∈fp,b<s.heap.objs.size)
 (hn:h'.Ns s.heap.objs.size (fun _=>none))(hk:∀b o,s.heap.get? b=some o->h'.get? b=some o):
 Inv (EH X (ts++cap) scope cl s.heap.objs.size s H fp pins) [] (ts.map (fun _=>none)++D4 ix σ) H {s with heap:=h',toks:=tk}:=by
 have nC:∀y c,cl.lookup y=some c->c<s.heap.objs.size:=fun y c e=>by obtain⟨v,z⟩:=I.cell y c (ok.sub y c e);exact z.lt
 refine⟨⟨I.ok.mod,?_,I.ok.glob,I.ok.blt,Ab _,?_,?_,?_,I.ok.hd,I.ok.frames,.inl rfl,?_,?_,?_,?_,?_,I.stack,I.PH⟩,rfl,I.bare,Un.kept hk,⟨_,hn,?_⟩,?_,I.hok.fresh (Ab _),?_,?_,I.hok.kept hk,?_⟩
 ·exact ok.kind
 ·exact fun x y c h1 h2=>I.ok.inj x y c (ok.sub x c h1) (ok.sub y c h2)
 ·exact fun y hy=>ok.has y hy
 ·exact fun y c hy=>absurd hy (by simp[EH])
 ·intro b hb;exact⟨BM (hfs b hb),fun y c e=>(hf b hb).2.2.2.2.1 y c (ok.sub y c e)⟩
 ·exact fun b o e=>I.bs b o e
 ·exact BF I.ok.Gk I.sz
 ·intro b o e hb;rcases(hf b hb).2.2.2.1 with z|z
  ·exact I.ok.Kg b o e z
  ·exact absurd (C3 (Ay e) (BF I.ok.Gk z)) (MY _)
 ·intro b hb hz;rcases Ba.mp (I.ND b hz) with z|z
  ·exact(hf b hb).2.1 z
  ·exact(hf b hb).2.2.1 z
 ·intro i x v e1 e2 e3;have e1':(ts++cap)[i]? =some x:=e1;by_cases hi:i<ts.length
  ·rw[DC (by simpa using hi),Ax] at e2
   cases e:ts[i]?with
   |none=>rw[e] at e2;cases e2
   |some y=>rw[e] at e2;cases e2
  ·rw[Cv (by simpa using hi),AL] at e2;rw[Cv (by lia)] at e1';obtain⟨j,hj,hv⟩:=iV e2;have hm:x∈cap:=CK e1';obtain⟨m,hnm,hl⟩:=I.loc;obtain⟨UX,nl,fr⟩:=ok.UX x hm;obtain⟨u,r,l⟩:=hl j x v (ok.p7 _ x j e1' hj) hv UX;refine⟨u,r,?_⟩;rcases l with⟨k,_⟩|⟨_,c,hc,z⟩
   ·exact absurd k nl
   ·obtain⟨c',hc'⟩:=ok.has x fr;have e:=ok.sub x c' hc';rw[hc] at e;cases e;obtain⟨o,ho,hd⟩:=z;exact .inr ⟨fr,c,hc',o,hk c o ho,hd⟩
 ·intro x c e;obtain⟨v,o,ho,hd⟩:=I.cell x c (ok.sub x c e);exact⟨v,o,hk c o ho,hd⟩
 ·intro x c e;exact I.DJ x c (ok.sub x c e)
 ·intro p hp;have hp':p∈X.pn++pins:=by simpa[EH] using hp
  obtain⟨e,n,ne,nf,d⟩:=I.pin p hp';refine⟨hk _ _ e,n,BM (Ay e),fun hz=>?_,d⟩;rcases Ba.mp (I.ND p.1 hz) with z|z
  ·exact ne z
  ·exact nf z
 ·show(ts.map (fun _=>none)++D4 ix σ).length=(ts++cap).length;rw[A7,AL,A7];unfold D4;rw[AL,ok.len]
theorem Inv.YK{Nc:List Str}{σc:St}{s':Yf}{h'':qY}{pc:List (Ya×Obj)}(I:Inv X pins σ H s)(hf:∀b∈fp,F0 X pins H b)
 (B:Inv (EH X Nc scope cl s.heap.objs.size s H fp pins) pc σc H' s')(hs:Heap.SameBut s.heap.objs.size s'.heap h''):Inv X pins σ H' {s' with heap:=h''}:=by
 have e1:(EH X Nc scope cl s.heap.objs.size s H fp pins).fs=Cr X.stack:=rfl;have B0:Un (Cr X.stack) fp H H' s.heap s'.heap:=B.base;have nz:∀b o,s.heap.get? b=some o->b≠s.heap.objs.size:=fun b o e=>BM (Ay e);have fr:H' s.heap.objs.size=none:=B.free;refine I.Pk (ch:=fp) (s':={s' with heap:=h''}) (show s'.os=s.os from B.os) ⟨fun b o e n hb hx=>?_,fun b o e n hb hx=>?_,B0.free,fun b o e hx=>?_,B0.E6,B0.EL,B0.E5⟩ (fun b u e=>?_) B.bare (fun b hb=>?_)
 ·exact(hs.2 b (nz b o e)).trans (B0.keep b o e n hb hx)
 ·obtain⟨sl,q⟩:=B0.slot b o e n hb hx;exact⟨sl,(hs.2 b (nz b o e)).trans q⟩
 ·obtain⟨o',q⟩:=B0.there b o e hx;exact⟨o',(hs.2 b (nz b o e)).trans q⟩
 ·refine(B.hok b u e).Ec (fun c v hc q=>(hs.2 c ?_).trans q) (fun _ q=>q) fun _ _ q=>q;rcases hc with z|z
  ·subst z;exact fun z=>by rw[z,fr] at e;cases e
  ·exact fun z'=>by rw[z',fr] at z;cases z
 ·obtain⟨_,f1,_,f3,f4,f5⟩:=hf b hb;exact⟨f3,f1,f4,f5⟩
end
variable{use:Option (AB->Sem Unit)}
section
variable{cap:List Str}{cl:List (Str×Ya)}
theorem V9{elt iter:hY}{pos2:Pos}{wi:TI}{R:AB->Yf->Prop}{Q:VK}(ok:KH X ts cap ix scope cl)(hi:PI X tg iter wi)
 (hg:∀C s₀ H₀ fp pins,PG (EH X (ts++cap) scope cl C s₀ H₀ fp pins) tg g)(ht:∀C s₀ H₀ fp pins,Nt (EH X (ts++cap) scope cl C s₀ H₀ fp pins) ifs ti)
 (he:∀C s₀ H₀ fp pins,PE (EH X (ts++cap) scope cl C s₀ H₀ fp pins) elt te)(hs:∀x,foldedSetIterable iter X.env x=pure x)(I:Inv X pins σ H s)(h:To ts ix wi g ti te σ H Q)
 (fin:∀(D:Ya)(H3 H4:Hp)(s3 s5:Yf)(fp:List Ya),Inv X pins σ H3 s3->(∀b∈fp,F0 X pins H3 b)->Inv (EH X (ts++cap) scope cl s3.heap.objs.size s3 H3 fp pins) [] (ts.map (fun _=>none)++D4 ix σ) H4 s5->Q (.ref D) H4->
  compPost (ax X.prog X.w) X.A X.xe use R (.ref D) s3.heap.objs.size (.ok .next) s5):
 bt (ax X.prog X.w) X.A (comprehension (.ListComp elt [⟨tg,iter,ifs,0⟩] scope pos) scope X.env pos2 (newList []) false (qZ iter X.env) use) R X.xe s:=by
 refine wpAny_comprehension_free (use:=use) rfl hs ok.pD ok.kind ok.names (Ad (hi pins s σ H _ I h) fun v s1 h1=>Ad h1 fun itv s2 h2=>?_);obtain⟨it,fp,tn,J,H2,e,I2,T,st2,f2,hW⟩:=h2;subst e;refine IL (wpAny_newFunctionEnv ok.cell (by intro y hy;simp at hy) (fun h1 hns hsb=>?_) ok.kind);dsimp only at hns hsb⊢;have nD:H2 s2.heap.objs.size=none:=I2.hok.fresh (Ab _);obtain⟨W,⟨m0,w0⟩,turn⟩:=hW s2.heap.objs.size nD;have I3:=I2.UG (t':=s2.toks) (ys:=[]) (AM:=[]) .nil (CH _);have hfs2:∀b∈fp,b<s2.heap.objs.size:=fun b hb=>by obtain⟨o,e,_⟩:=T.obj _ _ st2 b hb;exact Ay e
 have hf3:∀b∈fp,F0 X pins (upd H2 s2.heap.objs.size (.lst [])) b:=fun b hb=>⟨by rw[AQ (BM (hfs2 b hb))];exact(f2 b hb).1,(f2 b hb).2⟩;generalize hs3:({s2 with heap:=s2.heap.push {cls:=.type "list",data:=.seq ([]:List AB).toArray},toks:=s2.toks}:Yf)=s3 at I3;have es3:s3.heap=s2.heap.push {cls:=.type "list",data:=.seq ([]:List AB).toArray}:=by rw[<-hs3]
 have ets:s3.toks=s2.toks:=by rw[<-hs3]
 have sz3:s3.heap.objs.size=s2.heap.objs.size+1:=by rw[es3,Gr]
 have k3:∀b o,s2.heap.get? b=some o->s3.heap.get? b=some o:=fun b o e=>by rw[es3];exact BB _ e
 have hk1:∀b o,s3.heap.get? b=some o->h1.get? b=some o:=fun b o e=>by have q:=hsb.2 b (by rw[<-es3];exact BM (Ay e));rw[q];rw[<-es3];exact BB _ e
 have hC:(s2.heap.push {cls:=.type "list",data:=.seq ([]:List AB).toArray}).objs.size=s3.heap.objs.size:=by rw[es3]
 have B:Inv (EH X (ts++cap) scope cl s3.heap.objs.size s3 (upd H2 s2.heap.objs.size (.lst [])) fp pins) [] (ts.map (fun _=>none)++D4 ix σ) (upd H2 s2.heap.objs.size (.lst [])) {s3 with heap:=h1,toks:=s2.toks}:=
  I3.block ok hf3 (fun b hb=>C3 (hfs2 b hb) (by rw[sz3];exact Eo _)) (by rw[<-hC];exact hns) hk1;let Xc:=EH X (ts++cap) scope cl s3.heap.objs.size s3 (upd H2 s2.heap.objs.size (.lst [])) fp pins;have stat:∀{H':Hp},(∀b∈fp,H' b=none)->∀b∈fp,F0 Xc [] H' b:=fun{H'} hn b hb=>by
  obtain⟨_,f1,f2',f3,f4,f5⟩:=f2 b hb;refine⟨hn b hb,?_,fun hz=>?_,.inl hb,fun x c e=>f4 x c (ok.sub x c e),fun p hp=>?_⟩
  ·have hlt:b<s3.heap.objs.size:=C3 (hfs2 b hb) (by rw[sz3];exact Eo _);exact BM hlt
  ·rcases Ba.mp (I2.ND b hz) with z|z
   ·exact f1 z
   ·exact f2' z
  ·have hp':p∈X.pn++pins:=by
    have hp2:p∈(X.pn++pins)++[]:=hp
    rwa [C5] at hp2
   exact f5 p hp'
 have st1:tn 0 h1:=T.keep 0 s2.heap h1 st2 fun b hb o e=>hk1 b o (k3 b o e);have loop:∀st:Yf,st={s3 with heap:=h1,toks:=s2.toks}->
  qw (ax X.prog X.w) X.A (.compLoop (.ListComp elt [⟨tg,iter,ifs,0⟩] scope pos) 0 (.ref it) (.ref s2.heap.objs.size) (compEnvC scope cl s3.heap.objs.size X.env)) (compPost (ax X.prog X.w) X.A X.xe use R (.ref s2.heap.objs.size) s3.heap.objs.size) st:=by
  rintro st rfl;refine cc (fun n s'=>∃i H',Inv Xc [] (ts.map (fun _=>none)++D4 ix σ) H' s'/\tn i s'.heap/\(∀b∈fp,H' b=none)/\W i n H') ?_ m0 ⟨0,_,B,st1,fun b hb=>(hf3 b hb).1,w0⟩;rintro n s4 ⟨i,H4,B4,st4,fr4,w4⟩;rcases turn i n H4 w4 with⟨stop,q⟩|⟨go,N,hN,step⟩
  ·refine Ad (T.done Xc rfl rfl rfl ok.calm i [] s4 _ H4 _ B4 (stat fr4) st4 stop) fun r s5 ⟨hr,B5⟩=>?_;subst hr;exact fin _ _ H4 s3 s5 fp I3 hf3 B5 q
  ·refine Ad (T.item Xc rfl rfl rfl ok.calm i [] s4 _ H4 (fun _ _=>False) B4 (stat fr4) st4 go) fun r s5 ⟨u,hr,h5⟩=>?_;subst hr;refine Ad h5 fun _ s6 ⟨x,H6,B6,r6,y6,st6,fr6⟩=>?_;have B6':=B6.pinned (stat fr6) (T.obj _ _ st6);refine Ad (hg _ _ _ _ _ _ s6 _ H6 x u _ B6' r6 (step x H6 y6)) fun _ s7 ⟨σ7,H7,B7,tg7,q7⟩=>?_;refine Ad (ht _ _ _ _ _ _ s7 σ7 H7 _ B7 q7) fun b s8 ⟨H8,B8,q8⟩=>?_;have again:∀{H9:Hp}{s9:Yf},Inv Xc ([]++NL fp s6.heap) σ7 H9 s9->N H9->
    ∃m,m<n/\∃i H',Inv Xc [] (ts.map (fun _=>none)++D4 ix σ) H' s9/\tn i s9.heap/\(∀b∈fp,H' b=none)/\W i m H':=fun{H9 s9} B9 hm=>by
    obtain⟨m',lt,w9⟩:=hN _ hm;obtain⟨a,la,e7⟩:=tg7;subst e7;refine⟨m',lt,i+1,H9,(B9.Ot).weak ?_ ?_,T.keep _ _ _ st6 fun b hb o e=>(B9.pin (b,o) (EB _ (EB _ (Of hb e)))).1,fun b hb=>?_,w9⟩
    ·rw[A7,A7,AL,la]
    ·intro j v e;by_cases hj:j<ts.length
     ·rw[DC (by simpa using hj),Ax] at e
      cases e2:ts[j]?with
      |none=>rw[e2] at e;cases e
      |some y=>rw[e2] at e;cases e
     ·rw[Cv (by simpa using hj),AL] at e;rw[Cv (by lia),la];exact e
    ·obtain⟨o,e,d⟩:=T.obj _ _ st6 b hb;exact(B9.pin (b,o) (EB _ (EB _ (Of hb e)))).2.1
   cases b with
   |false=>exact again B8 (by simpa using q8)
   |true=>
    have q8':te σ7 H8 fun y H4=>∃ys,H4 s2.heap.objs.size=some (.lst ys)/\ys.length<sizeLine/\N (upd H4 s2.heap.objs.size (.lst (ys++[y]))):=by simpa using q8
    refine Ad (he _ _ _ _ _ _ s8 σ7 H8 _ B8 q8') fun y s9 ⟨yv,H9,B9,ry,ys,hD,hl,q9⟩=>?_;exact Ad (Ep _ s9 σ7 H9 (.ref s2.heap.objs.size) [yv] (.ref s2.heap.objs.size) [y] (fun _ H'=>N H') B9 rfl (.cons ry .nil) ⟨_,ys,yv,rfl,rfl,hD,hl,q9⟩) fun _ s10 ⟨_,H10,B10,_,q10⟩=>again B10 q10
 have est:({s2 with heap:=h1,toks:=s2.toks+([]:List (Str×AB)).length}:Yf)={s3 with heap:=h1,toks:=s2.toks}:=by rw[<-hs3];rfl
 have L:=loop _ est;rw[<-hC] at L;exact codeAny_compStart_list L (T.self X.A 0 _ _ _ st1 L)
theorem Es{elt iter:hY}{wi:TI}(ok:KH X ts cap ix scope cl)(hi:PI X tg iter wi)
 (hg:∀C s₀ H₀ fp pins,PG (EH X (ts++cap) scope cl C s₀ H₀ fp pins) tg g)(ht:∀C s₀ H₀ fp pins,Nt (EH X (ts++cap) scope cl C s₀ H₀ fp pins) ifs ti)
 (he:∀C s₀ H₀ fp pins,PE (EH X (ts++cap) scope cl C s₀ H₀ fp pins) elt te)(hs:∀x,foldedSetIterable iter X.env x=pure x:=by intro _;rfl):
 PE X (.ListComp elt [⟨tg,iter,ifs,0⟩] scope pos) (To ts ix wi g ti te):=by
 intro pins s σ H Q I h;rw[eval_ListComp];refine V9 (use:=none) (Q:=Q) ok hi hg ht he hs I h fun D H3 H4 s3 s5 fp I3 hf3 B5 q=>?_;obtain⟨m,hnm,_⟩:=B5.loc;exact⟨m,hnm,fun h' hsb'=>⟨.ref D,H4,I3.YK hf3 B5 hsb',rfl,q⟩⟩
theorem Sn{y:Str}{elt iter:hY}{spos py:Pos}{wi:TI}(ok:KH X ts cap ix scope cl)(hN:X.N.Nodup)(hy:X.N[i]? =some y)(hl:X.env.scope.names.lookup y=some .local)(hi:PI X tg iter wi)
 (hg:∀C s₀ H₀ fp pins,PG (EH X (ts++cap) scope cl C s₀ H₀ fp pins) tg g)(ht:∀C s₀ H₀ fp pins,Nt (EH X (ts++cap) scope cl C s₀ H₀ fp pins) ifs ti)
 (he:∀C s₀ H₀ fp pins,PE (EH X (ts++cap) scope cl C s₀ H₀ fp pins) elt te)(hs:∀x,foldedSetIterable iter X.env x=pure x:=by intro _;rfl)
 (hsw:rY (.ListComp elt [⟨tg,iter,ifs,0⟩] scope pos) (some (.Name y py)) spos.line X.env=pure true:=by rfl):
 PS X (.Assign [.Name y py] (.ListComp elt [⟨tg,iter,ifs,0⟩] scope pos) spos) (QC (To ts ix wi g ti te) (Dy i)):=by
 intro pins s σ H D I h;rw[exec_Assign_Name_used _ _ _ _ hsw];refine AK (OU (AK ?_));show bt _ X.A (do let _<-comprehension (.ListComp elt [⟨tg,iter,ifs,0⟩] scope pos) scope X.env _ (newList []) false (qZ iter X.env) (some (tG (.Name y py) X.env))) _ _ s;refine AK (C6 (V9 (R:=fun _ s'=>SP X pins D .next s') (Q:=fun x H1=>Dy i x σ H1 D.nx) ok hi hg ht he hs I h fun D' H3 H4 s3 s5 fp I3 hf3 B5 q=>?_) (fun _ s' hq=>Af (Af hq)) fun _ _ e=>e);have I5:Inv X pins σ H4 s5:=I3.YK hf3 B5 (Heap.SameBut.refl ..);obtain⟨m,hnm,_⟩:=B5.loc;have hC:s3.heap.objs.size<s5.heap.objs.size:=hnm.lt;show bt _ X.A (tG (.Name y py) X.env (.ref D')) _ _ s5;refine wpAny_assign_Name (WO I5 hN hy (.inl hl) (v:=.ref D') rfl (fun s' I' hb=>?_) (.inr hl));obtain⟨a,sb,ha⟩:=hb;have ea:a≠s3.heap.objs.size:=by
  rcases ha with e|e
  ·rw[e];exact BM I3.lt
  ·obtain⟨v,z⟩:=I3.cell y a e;exact BM z.lt
 refine⟨m,hnm.sameBut sb (DG ea),fun h' hs'=>?_⟩;refine⟨_,H4,I'.turned (t':=s'.toks) (it:=s3.heap.objs.size) (fun b o hb e=>(hs'.2 b hb).trans e) B5.free (En I3.lt) (.inr I3.sz) (fun x c e=>?_) (fun p hp=>?_),q⟩
 ·obtain⟨v,z⟩:=I3.cell x c e;exact BM z.lt
 ·exact BM (Ay (I3.pin p hp).1)
end
def QH(z:Str):It:=⟨fun i _=>i<z.cps.size,fun i H v H'=>H'=H/\∃c,z.cps[i]? =some c/\v=.str ⟨#[c]⟩,fun i _=>z.cps.size<=i⟩
theorem Wz(it:Ya)(ty:String)(z:Str)(t:Tok)(hty:ty="str_ascii_iterator" \/ty="str_iterator"):
 Turn P w K tg (QH z) [it] it (fun i h=>h.IsStrIter it ty z t i) where
 mem:=by simp
 obj:=fun i h st b hb=>by
  obtain rfl:b=it:=by simpa using hb
  obtain⟨o,e,c,d⟩:=st;exact⟨o,e,fun v q=>by rw[d] at q;cases q⟩
 keep:=fun i h h' st k=>by obtain⟨o,e,r⟩:=st;exact⟨o,k it (by simp) o e,r⟩
 item:=by
  intro X hP hw hK hc i pins s σ H E I hf st hg;subst hP hw hK;obtain⟨f0,f1,f2,f3,f4,f5⟩:=hf it (by simp);have hi:i<z.cps.size:=hg;have fin:∀(c:Nat)(u:Tok)(h':qY)(tk:Nat),z.cps[i]? =some c->h'.IsStrIter it ty z t (i+1)->(∀b o,b≠it->s.heap.get? b=some o->h'.get? b=some o)->
   ∃v,some (Value.str ⟨#[c]⟩ u)=some v/\bt (ax X.prog X.w) X.A (rE tg (.ref it) v) (fun _ s2=>∃x H',Inv X pins σ H' s2/\RelV x v/\(QH z).Jb i H x H'/\s2.heap.IsStrIter it ty z t (i+1)/\∀b∈[it],H' b=none) E {s with heap:=h',toks:=tk}:=by
   intro c u h' tk hc st' kk;have I1:Inv X pins σ H {s with heap:=h',toks:=tk}:=I.turned (fun b o hb e=>kk b o hb e) f0 f1 f3 f4 f5;obtain⟨o,e,ec,d⟩:=id st';refine⟨_,rfl,Pr (s:={s with heap:=h',toks:=tk}) (n:=ty) e ec d ?_ ⟨.str ⟨#[c]⟩,H,I1,⟨u,rfl⟩,⟨rfl,c,hc,rfl⟩,st',fun b hb=>(hf b hb).1⟩⟩;rcases hty with e|e<;>subst e<;>decide
  rcases hty with e|e
  ·subst e;have W:=Walks.strAscii (prog:=X.prog) (w:=X.w) (I.ok.hd hc) it z t;refine W.item i s _ _ hi st fun v h' tk hv st' kk=>?_;obtain⟨c,u,hc',rfl⟩:=hv;exact fin c u h' tk hc' st' fun b o hb e=>kk b o (by simpa using hb) e
  ·subst e;have W:=Walks.strWide (prog:=X.prog) (w:=X.w) (I.ok.hd hc) it z t;refine W.item i s _ _ hi st fun v h' tk hv st' kk=>?_;obtain⟨c,u,hc',rfl⟩:=hv;exact fin c u h' tk hc' st' fun b o hb e=>kk b o (by simpa using hb) e
 done:=by
  intro X hP hw hK hc i pins s σ H E I hf st hg;subst hP hw hK;obtain⟨f0,f1,f2,f3,f4,f5⟩:=hf it (by simp);have hi:z.cps[i]? =none:=by have:z.cps.size<=i:=hg;simp only[Array.getElem?_eq_none_iff];exact this
  rcases hty with e|e
  ·subst e;exact wpAny_pyNext_ascii_end (I.ok.hd hc) st hi fun h' eb=>⟨rfl,I.turned (t':=s.toks) (fun b o hb e=>eb b o hb e) f0 f1 f3 f4 f5⟩
  ·subst e;exact wpAny_pyNext_wide_end (I.ok.hd hc) st hi fun h' eb=>⟨rfl,I.turned (t':=s.toks) (fun b o hb e=>eb b o hb e) f0 f1 f3 f4 f5⟩
 self:=fun _ _ _ _ _ st h=>by
  rcases hty with e|e
  ·subst e;exact wpAny_pyIter_striter_ascii st h
  ·subst e;exact wpAny_pyIter_striter_wide st h
def pE(tl:TE):TI:=fun σ H R=>tl σ H fun x H1=>∃z,x=.str z/\R (QH z) H1
theorem ZL{l:hY}{tl:TE}(hl:PE X l tl):PI X tg l (pE tl):=by
 intro pins s σ H R I h;refine Ad (hl pins s σ H _ I h) fun v s1 ⟨x,H1,I1,r1,q1⟩=>?_;obtain⟨z,e,q⟩:=q1;subst e;obtain⟨t,rfl⟩:=r1;have fp:∀b∈[s1.heap.objs.size],F0 X pins H1 b:=fun b hb=>by
  obtain rfl:b=s1.heap.objs.size:=by simpa using hb
  exact I1.Kd (Ab _) (I1.hok.fresh (Ab _))
 cases ha:z.cps.all (·<128)
 ·exact wpAny_pyIter_wide ha ⟨s1.heap.objs.size,[s1.heap.objs.size],_,_,H1,rfl,I1.kept (t':=s1.toks) fun b o e=>BB _ e,Wz _ "str_iterator" z t (.inr rfl),⟨_,Bz _ rfl,rfl,rfl⟩,fp,q⟩
 ·exact wpAny_pyIter_ascii ha ⟨s1.heap.objs.size,[s1.heap.objs.size],_,_,H1,rfl,I1.kept (t':=s1.toks) fun b o e=>BB _ e,Wz _ "str_ascii_iterator" z t (.inl rfl),⟨_,Bz _ rfl,rfl,rfl⟩,fp,q⟩
theorem WD:Bv X (qW .LtE) (fun x y H Q=>∃i j,x=.str i/\y=.str j/\Q (.bl (!decide (j.cps.toList<i.cps.toList))) H):=by intro pins s σ H x y v u Q I rx ry h;obtain⟨i,j,rfl,rfl,q⟩:=h;obtain⟨t,rfl⟩:=rx;obtain⟨t',rfl⟩:=ry;exact P.le_str (CC I q rfl)
theorem Vm:Bv X (rC .Mult) (fun x y H Q=>∃z k,x=.str z/\y=.int k/\MulOk z k/\Q (.str (Txt.mul z k)) H):=by intro pins s σ H x y v u Q I rx ry h;obtain⟨z,k,rfl,rfl,hm,q⟩:=h;obtain⟨t,rfl⟩:=rx;obtain⟨t',rfl⟩:=ry;exact SB.mul hm fun t'' k'=>⟨.str _,H,I.tok _,⟨_,rfl⟩,q⟩
def Zv(f:Str->Str->Bool):V->List V->Hp->VK->Prop:=fun x vs H Q=>∃z y,x=.str z/\vs=[.str y]/\Q (.bl (f z y)) H
theorem du:Ha X "str.startswith" (Zv Txt.startswith):=by intro pins s σ H x vs v us Q I rx rv h;obtain⟨z,y,rfl,rfl,q⟩:=h;obtain⟨t,rfl⟩:=rx;obtain⟨u,rfl,ru⟩:=rv.one;obtain⟨t',rfl⟩:=ru;exact SC.startswith ⟨.bl _,H,I,rfl,q⟩
theorem ir:Ha X "str.endswith" (Zv Txt.endswith):=by intro pins s σ H x vs v us Q I rx rv h;obtain⟨z,y,rfl,rfl,q⟩:=h;obtain⟨t,rfl⟩:=rx;obtain⟨u,rfl,ru⟩:=rv.one;obtain⟨t',rfl⟩:=ru;exact SC.endswith ⟨.bl _,H,I,rfl,q⟩
theorem WT:∀l:List (Str×Tok),Vals (l.map fun p=>V.str p.1) (strValues l)
 |[]=>.nil
 |p::r=>.cons ⟨p.2,rfl⟩ (WT r)
def kc:V->List V->Hp->VK->Prop:=fun x vs H Q=>∃z y,x=.str z/\vs=[.str y]/\(y.length==0)=false/\z.length+2<=sizeLine/\∀D,H D=none->Q (.ref D) (upd H D (.lst ((Txt.split z y).map V.str)))
theorem SG:Ha X "str.split" kc:=by
 intro pins s σ H x vs v us Q I rx rv h;obtain⟨z,y,rfl,rfl,hy,hz,q⟩:=h;obtain⟨t,rfl⟩:=rx;obtain⟨u,rfl,ru⟩:=rv.one;obtain⟨t',rfl⟩:=ru;have hcut:(Txt.split z y).length<=sizeLine:=by
  have hy1:1<=y.length:=by
   rcases Nat.eq_zero_or_pos y.length with e|e
   ·rw[e] at hy;cases hy
   ·exact e
  have:=MZ z y hy1
  lia
 have fin:∀(l:List (Str×Tok))(tk:Nat),l.map (·.1)=Txt.split z y->EP X pins σ Q (.ref s.heap.objs.size) {s with heap:=s.heap.push {cls:=.type "list",data:=.seq (strValues l).toArray},toks:=tk}:=fun l tk e=>by
  have el:(l.map fun p=>V.str p.1)=(Txt.split z y).map V.str:=by rw[<-e,BV];rfl
  have hl:(l.map fun p=>V.str p.1).length<=sizeLine:=by rw[el,AL];exact hcut
  refine⟨.ref s.heap.objs.size,_,I.UG (t':=tk) (WT l) hl,rfl,?_⟩;rw[el];exact q _ I.fresh
 have hn:(Builtin.Str.partsBetween z (Builtin.Str.occurrences z y 0 z.length (z.length+1)) y.length).length<=sizeLine:=by have e1:=StrLaws.occ_length_le z y 0 z.length (z.length+1);rw[length_partsBetween];lia
 by_cases h1:(decide (z.length<y.length)||decide (Builtin.Str.strKind z<Builtin.Str.strKind y))=true
 ·refine I8 F.slot_str_split (LG _ _ _) F.entry_str_split (VT _ _) (meets_str_split_cannot_occur z y t t' h1) ?_;exact fin [(z,t)] s.toks (by unfold Txt.split;rw[AH h1];rfl)
 ·by_cases h2:(Builtin.Str.occurrences z y 0 z.length (z.length+1)).isEmpty=true
  ·refine I8 F.slot_str_split (LG _ _ _) F.entry_str_split (VT _ _) (meets_str_split_not_found z y t t' (by simpa using h1) hy h2) ?_;exact fin [(z,t)] s.toks (by unfold Txt.split;rw[AF h1,AH h2];rfl)
  ·refine I8 F.slot_str_split (LG _ _ _) F.entry_str_split (VT _ _) (meets_str_split_sep z y t t' (by simpa using h1) hy (by simpa using h2) (by lia) hn) ?_;have:=fin (numbered s.toks (Builtin.Str.partsBetween z (Builtin.Str.occurrences z y 0 z.length (z.length+1)) y.length)) (s.toks+(Builtin.Str.partsBetween z (Builtin.Str.occurrences z y 0 z.length (z.length+1)) y.length).length)
    (by rw[numbered_texts];unfold Txt.split;rw[AF h1,AF h2]);rw[<-strsFrom_eq] at this;exact this
def oh:V->Option Int->Option Int->Hp->VK->Prop:=fun x lo hi H Q=>∃z,x=.str z/\z.length<=sizeLine/\Q (.str (Txt.slice z lo hi)) H
theorem Lf:L3 X oh:=by
 intro pins s σ H x v vl vu lo hi sl Q I rx hs pl pu h;obtain⟨z,rfl,hz,q⟩:=h;obtain⟨t,rfl⟩:=rx;refine⟨"str",_,F.slot_str_getitem.lookup,LG _ _ _,?_⟩;have fin:∀t' k,EP X pins σ Q (.str (Txt.slice z lo hi) t') {s with toks:=k}:=fun t' k=>⟨.str _,H,I.tok _,⟨_,rfl⟩,q⟩;have le:=BF (Oa z lo hi) hz
 cases pl with
 |none=>
  cases pu with
  |none=>exact Qb (l:=none) (u:=none) (st:=none) hs rfl (RA ⟨le,fin⟩)
  |int j uj=>exact Qb (l:=none) (u:=some (j,uj)) (st:=none) hs rfl (RA ⟨le,fin⟩)
 |int i ui=>
  cases pu with
  |none=>exact Qb (l:=some (i,ui)) (u:=none) (st:=none) hs rfl (RA ⟨le,fin⟩)
  |int j uj=>exact Qb (l:=some (i,ui)) (u:=some (j,uj)) (st:=none) hs rfl (RA ⟨le,fin⟩)
theorem d7(hu:X.A.units<qh):Bv X (qW .NotEq) (fun x y H Q=>∃a b xs,x=.ref a/\y=.ref b/\AJ X.K H a xs/\AJ X.K H b []/\Q (.bl (!xs.isEmpty)) H):=by
 intro pins s σ H x y v u Q I rx ry h;obtain⟨a,b,xs,rfl,rfl,ha,hb,q⟩:=h;cases rx;cases ry;obtain⟨AM,r,pl,hz⟩:=I.list ha;obtain⟨its2,r2,pl2,hz2⟩:=I.list hb;cases r2;have hl:=r.length
 cases xs with
 |nil=>cases r;refine SeqAt.RcNeAt.lists (e:=fun _=>true) pl.isList pl2.isList rfl hu (fun j h1=>absurd h1 (by simp)) _ _ _ _ ?_;exact⟨.bl false,H,I,rfl,q⟩
 |cons x xs=>refine SeqAt.RcNeAt.lists_lengths pl.isList pl2.isList ?_ hu _ _ _ _ ⟨.bl true,H,I,rfl,q⟩;cases r;simp
theorem fE(hu:X.A.units<qh):Bv X (qW .Eq) (fun x y H Q=>∃a b xs,x=.ref a/\y=.ref b/\AJ X.K H a xs/\AJ X.K H b []/\Q (.bl xs.isEmpty) H):=by
 intro pins s σ H x y v u Q I rx ry h;obtain⟨a,b,xs,rfl,rfl,ha,hb,q⟩:=h;cases rx;cases ry;obtain⟨AM,r,pl,hz⟩:=I.list ha;obtain⟨its2,r2,pl2,hz2⟩:=I.list hb;cases r2;have hl:=r.length
 cases xs with
 |nil=>cases r;refine SeqAt.eq_listAt (e:=fun _=>true) pl.isList pl2.isList rfl hu (fun j h1=>absurd h1 (by simp)) ?_;exact⟨.bl true,H,I,rfl,q⟩
 |cons x xs=>refine SeqAt.eq_list_lengthsAt pl.isList pl2.isList ?_ hu ⟨.bl false,H,I,rfl,q⟩;cases r;simp
theorem fz:DH X (.builtin "isinstance") (fun xs H Q=>∃x c t b,xs=[x,.ty c]/\Bj X.K H x t/\rV X.K t (.type c)=some b/\Q (.bl b) H):=by intro pins s σ H xs us Q I r h;obtain⟨x,c,t,b,rfl,ty,e,q⟩:=h;obtain⟨u,w',rfl,rx,rc⟩:=vals2 r;cases rc;exact d9 I rx ty e fun tk=>⟨.bl b,H,I.tok _,rfl,q⟩
theorem XJ:∀{cs:List String}{us:List AB},Vals (cs.map V.ty) us->us=cs.map Value.type
 |[],_,.nil=>rfl
 |_::_,_,.cons r t=>by rw[Av,<-XJ t];cases r;rfl
theorem fk:DH X (.builtin "isinstance") (fun xs H Q=>∃(x:V)(p:Ya)(cs:List String)(t:AB)(b:Bool),xs=[x,.ref p]/\H p=some (.tup (cs.map V.ty))/\Bj X.K H x t/\kitAny X.K t (cs.map Value.type)=some b/\Q (.bl b) H):=by
 intro pins s σ H xs us Q I r h;obtain⟨x,p,cs,t,b,rfl,hp,ty,e,q⟩:=h;obtain⟨u,w',rfl,rx,rc⟩:=vals2 r;cases rc;obtain⟨_,AM,rv,o,h1,h2,n,h3⟩:=(show BO X.prog X.w H s.heap p (.tup (cs.map V.ty)) from I.hok p _ hp);have ei:=XJ rv;subst ei;obtain⟨oc,od,oda,osl⟩:=o;simp only at h2 h3;subst h2 h3;have fin:∀tk,EP X pins σ Q (.bool b) {s with toks:=tk}:=fun tk=>⟨.bl b,H,I.tok _,rfl,q⟩
 cases ty with
 |BA=>cases(show u=Value.none from rx);exact Hk kitx_none I.BQ Cw h1 e (fun z=>nomatch z) fin
 |bl y=>cases(show u=Value.bool y from rx);exact Hk kitx_bool I.BQ Cw h1 e (fun z=>nomatch z) fin
 |int i=>obtain⟨t,q⟩:=(show∃t,u=Value.int i t from rx);cases q;exact Hk kitx_int I.BQ Cw h1 e (fun z=>nomatch z) fin
 |str y=>obtain⟨t,q⟩:=(show∃t,u=Value.str y t from rx);cases q;exact Hk kitx_str I.BQ Cw h1 e (fun z=>nomatch z) fin
 |Im y=>obtain⟨t,q⟩:=(show∃t,u=Value.float y t from rx);cases q;exact Hk kitx_float I.BQ Cw h1 e (fun z=>nomatch z) fin
 |@lst a xs ea=>cases(show u=Value.ref a from rx);obtain⟨_,_,n,_,g1⟩:=(show BO X.prog X.w H s.heap a (.lst xs) from I.hok a _ ea);exact Hk Qv I.BQ ⟨_,g1,rfl⟩ h1 e (fun z=>nomatch z) fin
 |@BR a ob xs ea=>cases(show u=Value.ref a from rx);obtain⟨_,_,_,n,_,g1⟩:=(show BO X.prog X.w H s.heap a (.BR ob (.lst xs)) from I.hok a _ ea);exact Hk Qv I.BQ ⟨_,g1,rfl⟩ h1 e (fun z=>nomatch z) fin
 |@tup a xs ea=>cases(show u=Value.ref a from rx);obtain⟨_,_,_,p⟩:=(show BO X.prog X.w H s.heap a (.tup xs) from I.hok a _ ea);obtain⟨o,g1,g2,_⟩:=p;exact Hk kitx_tuple I.BQ ⟨o,g1,g2⟩ h1 e (fun z=>nomatch z) fin
 |@dK a AA ea=>cases(show u=Value.ref a from rx);obtain⟨_,_,vs,_,p⟩:=(show BO X.prog X.w H s.heap a (.dK AA) from I.hok a _ ea);obtain⟨o,es,ep,g1,g2,_⟩:=p;exact Hk Qw I.BQ ⟨o,g1,g2.1⟩ h1 e (fun z=>nomatch z) fin
 |@dT a AA ea=>cases(show u=Value.ref a from rx);obtain⟨_,_,xs,_,o,es,ep,g1,g2,_⟩:=(show BO X.prog X.w H s.heap a (.dT AA) from I.hok a _ ea);exact Hk Qw I.BQ ⟨o,g1,g2.1⟩ h1 e (fun z=>nomatch z) fin
 |@ins a C dx fs ea cl ha hn htk hm=>cases(show u=Value.ref a from rx);obtain⟨mA,O,_⟩:=NC I.hok ea;obtain⟨od,J,_⟩:=O.look;exact Hk (kitx_own (cl.get _) cl.hd ha hn htk hm) I.BQ J h1 e (fun z=>nomatch z) fin
theorem all_range(bs:List Bool):∀n:Nat,n=bs.length->(List.range n).all (fun i=>bs.getD i true)=bs.all id:=by
 rintro n rfl;rw[OQ,Jr,Jr];constructor
 ·intro h b hb;obtain⟨i,hi,e⟩:=IK.mp hb;have:=h i (K4.mpr hi);rw[Ct,Aq hi] at this;rw[<-e];exact this
 ·intro h i hi;have hi':=K4.mp hi;rw[Ct,Aq hi'];exact h _ (Fj hi')
theorem gj(hc:X.calm=true):DH X (.builtin "all") (fun xs H Q=>∃(p:Ya)(bs:List Bool),xs=[.ref p]/\AJ X.K H p (bs.map V.bl)/\Q (.bl (bs.all id)) H):=by
 intro pins s σ H xs us Q I r h;obtain⟨p,bs,rfl,hq,q⟩:=h;obtain⟨u,rfl,rx⟩:=vals1 r;cases rx;obtain⟨AM,rv,pl,hz⟩:=I.list hq;have hlen:=rv.length;obtain⟨o,ho,hoc,n,hod⟩:=id pl.isList;have ne:p≠s.heap.objs.size:=BM (Ay ho);have hh:X.A.in1.handled=none:=I.ok.hd hc;have tr:TruthOf X.prog X.w X.A.in1 (fun i v=>AM.toArray[i]? =some v) (fun i=>bs.getD i true):=by
  intro i v s' Q' E' hv hQ;have hv':AM[i]? =some v:=by simpa using hv
  have hi:i<AM.length:=(BX.mp hv').1;rw[AL] at hlen;have hb:bs[i]? =some bs[i]:=Aq (by lia);obtain⟨u',hu',ru⟩:=rv.get (i:=i) (x:=.bl bs[i]) (by rw[Ax,hb];rfl);rw[hv'] at hu';cases hu';cases ru;have hQ':Q' (bs.getD i true) s':=hQ;rw[Ct,hb] at hQ';exact Af hQ'
 refine call_all_walk (wpAny_pyIter_list pl.isList ?_);refine⟨s.heap.objs.size,[s.heap.objs.size,p],[s.heap.objs.size],AM.toArray.size,fun i v=>AM.toArray[i]? =some v,fun i h=>h.IsListIter s.heap.objs.size p i/\h.IsList p AM.toArray,fun i=>bs.getD i true,rfl,Walks.list hh _ p ne AM.toArray,
  ⟨⟨_,Bz _ rfl,rfl,rfl⟩,⟨o,BB _ ho,hoc,n,hod⟩⟩,tr,fun h' tk kk=>?_⟩;rw[all_range bs AM.toArray.size (by rw[AL] at hlen;simp[hlen])];exact⟨.bl _,H,I.kept (fun b ob e=>kk b ob (by simpa using BM (Ay e)) (BB _ e)),rfl,q⟩
section
variable{xs:List V}
theorem Fz(h:AJ [] H a xs):AJ K H a xs:=h.elim .inl fun⟨_,_,_,e,_⟩=>nomatch e
theorem Lq(h:AV [] H a xs):AV K H a xs:=h.elim .inl fun⟨_,_,_,e,_⟩=>nomatch e
theorem Co:He X (QD []):=fun _ _ _ _ _ _ _ _ _ _ _ I r r' ⟨p,xs,i,v,a,b,q,c⟩=>X6 _ _ _ _ _ _ _ _ _ _ _ I r r' ⟨p,xs,i,v,a,b,Fz q,c⟩
theorem Py:He X (Lo []):=fun _ _ _ _ _ _ _ _ _ _ _ I r r' ⟨p,xs,i,v,a,b,q,c⟩=>lh _ _ _ _ _ _ _ _ _ _ _ I r r' ⟨p,xs,i,v,a,b,Lq q,c⟩
theorem A9{a:hY}{i:Int}{j}(ha:PE X a ta):PE X (.Subscript a (.Constant (.int i) j p) pos) (FV (Lo []) ta (tC (.int i))):=Bt Py ha Ac fun _ _=>rfl
theorem Gb{a:hY}{i:Int}{j}(ha:PE X a ta):PE X (.Subscript a (.Constant (.int i) j p) pos) (FV (QD []) ta (tC (.int i))):=Bt Co ha Ac fun _ _=>rfl
theorem Bi.mn(r:Bi k A)(h:j<=k:=by lia):Bi j A:=r.mono h
theorem o4:L3 X (aG []):=fun _ _ _ _ _ _ _ _ _ _ _ _ I r a b c ⟨p,xs,e,q,z⟩=>lB _ _ _ _ _ _ _ _ _ _ _ _ I r a b c ⟨p,xs,e,Lq q,z⟩
theorem T8:L3 X (ah []):=fun _ _ _ _ _ _ _ _ _ _ _ _ I r a b c ⟨p,xs,e,q,z⟩=>O2 _ _ _ _ _ _ _ _ _ _ _ _ I r a b c ⟨p,xs,e,Fz q,z⟩
theorem HQ:DH X (.builtin "len") (fun xs H Q=>∃p ys,xs=[.ref p]/\(AJ [] H p ys\/AV [] H p ys)/\Q (.int ys.length) H):=
 fun _ _ _ _ _ _ _ I r ⟨p,ys,e,q,z⟩=>IW _ _ _ _ _ _ _ I r ⟨p,ys,e,q.imp Fz Lq,z⟩
theorem aC:Bv X (qW .In) (Ug [] false):=fun _ _ _ _ _ _ _ _ _ I r r' ⟨p,xs,e,q,z⟩=>fb _ _ _ _ _ _ _ _ _ I r r' ⟨p,xs,e,q.imp Fz Lq,z⟩
theorem pI(hu:X.A.units<qh):Bv X (qW .Eq) (fun x y H Q=>∃a b xs,x=.ref a/\y=.ref b/\AJ [] H a xs/\AJ [] H b []/\Q (.bl xs.isEmpty) H):=
 fun _ _ _ _ _ _ _ _ _ I r r' ⟨p,b,xs,e,e',q,q',z⟩=>fE hu _ _ _ _ _ _ _ _ _ I r r' ⟨p,b,xs,e,e',Fz q,Fz q',z⟩
theorem Z7{x:V}(h:Nw [] T x H):Nw K T x H:=by
 cases x;case ref p=>exact h.imp (fun⟨e,xs,q⟩=>⟨e,xs,Fz q⟩) (·.imp (fun⟨_,_,e,_⟩=>nomatch e) id)
 all_goals exact h
def ba(t:TE):TE:=fun σ H Q=>∃Q0:VK,t σ H Q0/\∀v H1,Q0 v H1->Q v H1
theorem PE.mc{t:TE}(h:PE X e t):PE X e (ba t):=fun pins s σ H Q I ⟨Q0,z,m⟩=>Ad (h pins s σ H Q0 I z) fun _ _ ⟨v,H1,i,r,q⟩=>⟨v,H1,i,r,m _ _ q⟩
end
section
variable{o:hY}{es:List hY}{to:TE}{t:TA}{id:String}
theorem D7(pa:rj T)(slot:Slot T name id)(hty:typeOf (.builtin id)=pure (.type "method_descriptor"))(hm:Np X id r)(ho:PE X o to)(ha:PA X (e::es) t)
 (hbase:qd o name X.env (qZ o X.env)=qZ o X.env:=by rfl)
 (hfew:((qf cpos (dy (e::es) X.env)).all (fun x=> !x.1)&&(rL cpos (qk [] X.env)).all (fun x=>x.1.isSome)
  &&decide ((e::es).length+([]:List rN).length+(if([]:List rN).isEmpty then 0 else 1)<30))=true:=by rfl)
 (hline:(apos.endLine==cpos.line)=true:=by rfl)(hs:dy (e::es) X.env=(false,qZ e X.env)::dy es X.env:=by rfl)(hplain:(qf cpos (dy es X.env)).any (·.1)=false:=by rfl):
 PE X (.Call (.Attribute o name apos) (e::es) [] cpos) (UU [] T r to t):=
 fun pins s σ H Q I h=>JS pa slot hty hm ho.mc ha hbase hfew hline hs hplain pins s σ H Q I ⟨_,h,fun _ _ ⟨y,z⟩=>⟨Z7 y,z⟩⟩
end
theorem nY{it:Ya}{tn:Nat->qY->Prop}(T:Turn P w K tg (HY K a) fp it tn):Turn P w K tg (HY [] a) fp it tn where
 mem:=T.mem
 obj:=T.obj
 keep:=T.keep
 item:=fun X a1 a2 a3 a4 i pins s σ H E I f t ⟨xs,x,q,e⟩=>C6 (T.item X a1 a2 a3 a4 i pins s σ H E I f t ⟨xs,x,Fz q,e⟩) (fun r s1 ⟨u,hu,z⟩=>⟨u,hu,C6 z (fun _ s2 ⟨x,H',I',rx,⟨e,y⟩,z⟩=>⟨x,H',I',rx,⟨e,fun xs q=>y xs (Fz q)⟩,z⟩) fun _ _ z=>z⟩) fun _ _ z=>z
 done:=fun X a1 a2 a3 a4 i pins s σ H E I f t ⟨xs,q,e⟩=>T.done X a1 a2 a3 a4 i pins s σ H E I f t ⟨xs,Fz q,e⟩
 self:=T.self
theorem FQ{l:hY}{tl:TE}(hl:PE X l tl):PI X tg l (KY [] tl):=fun pins s σ H R I h=>
 Ad (GN (tg:=tg) hl.mc pins s σ H (fun J H1=>∃a,J=HY X.K a/\R (HY [] a) H1) I (show KY X.K (ba tl) σ H _ from⟨_,h,fun _ _ ⟨a,e,⟨xs,q⟩,z⟩=>⟨a,e,⟨xs,Fz q⟩,⟨a,rfl,z⟩⟩⟩)) fun _ _ z=>Ad z fun _ _ ⟨it,fp,tn,_,H',e,i,T,t0,f,a,ej,z⟩=>⟨it,fp,tn,HY [] a,H',e,i,nY (ej▸T),t0,f,z⟩
structure Hv(P:qV)(w:qa)(K:tN)(mg:Str->Option AB)(base:qY)(x:Str)(k:Nat)(ps:List Str)(sp:Sp):Prop where
 ex:∃f fd,AW P w K mg base Ah k f fd ps sp/\Binds K fd ps []/\mg x=some (.ref f)/\qo K (.ref f)=true
section
variable{E:XK}{es:List hY}{t:TA}
theorem Ca(h:Hv X.prog X.w X.K X.mg X.base x k ps sp)(hr:Bi k X.A)(hg:Gl X x)(hx:Passes Ah X E)(ha:PA X (e::es) t)(hdb:(x==("__debug__" :Str))=false:=by decide)
 (he:dy (e::es) X.env=(false,qZ e X.env)::dy es X.env:=by rfl)(hpl:(qf pos (dy es X.env)).any (·.1)=false:=by rfl):PE X (.Call (.Name x p) (e::es) [] pos) (NT sp [] E t):=by
 obtain⟨_,_,G,b,m,k⟩:=h.ex;exact Ck G hr hg m k b .nil hx ha hdb he hpl
end
inductive Dt where
 |bl (b:Bool)|int (i:Int)|str (x:Str)|lst (xs:List Dt)|tup (xs:List Dt)
mutual
noncomputable def Dt.sz:Dt->Nat
 |.lst xs=>1+Dt.Cs xs
 |.tup xs=>1+Dt.Cs xs
 |_=>1
noncomputable def Dt.Cs:List Dt->Nat
 |[]=>0
 |d::r=>d.sz+Dt.Cs r
end
theorem Dt.Yn:∀d:Dt,1<=d.sz
 |.lst _=>by unfold Dt.sz;lia
 |.tup _=>by unfold Dt.sz;lia
 |.bl _=>by unfold Dt.sz;lia
 |.int _=>by unfold Dt.sz;lia
 |.str _=>by unfold Dt.sz;lia
theorem Dt.PU:∀a b:List Dt,Dt.Cs (a++b)=Dt.Cs a+Dt.Cs b
 |[],b=>by rw[RB];simp[Dt.Cs]
 |d::r,b=>by rw[MV];simp only[Dt.Cs];rw[Dt.PU r b];lia
theorem Dt.KA:∀a:List Dt,a.length<=Dt.Cs a
 |[]=>by simp
 |d::r=>by
  have h1:=d.Yn;have h2:=Dt.KA r;simp only[Dt.Cs,CP]
  lia
inductive Rep(H:Hp):Dt->V->Prop where
 |bl (b:Bool):Rep H (.bl b) (.bl b)
 |int (i:Int):Rep H (.int i) (.int i)
 |str (x:Str):Rep H (.str x) (.str x)
 |lst {ds:List Dt} {a:Ya} {xs:List V} (h:H a=some (.lst xs)) (hl:ds.length=xs.length) (r:∀(i:Nat) d x,ds[i]? =some d->xs[i]? =some x->Rep H d x):Rep H (.lst ds) (.ref a)
 |tup {ds:List Dt} {a:Ya} {xs:List V} (h:H a=some (.tup xs)) (hl:ds.length=xs.length) (r:∀(i:Nat) d x,ds[i]? =some d->xs[i]? =some x->Rep H d x):Rep H (.tup ds) (.ref a)
theorem Rep.same(s:AO H H'){d:Dt}{x:V}(r:Rep H d x):Rep H' d x:=by
 induction r with
 |bl b=>exact .bl b
 |int i=>exact .int i
 |str x=>exact .str x
 |lst h hl _ ih=>exact .lst (s _ _ h) hl ih
 |tup h hl _ ih=>exact .tup (s _ _ h) hl ih
theorem Aa{o:HO}(h:H a=none):AO H (upd H a o):=fun b u e=>by rw[AQ (A2 e h)];exact e
theorem AO.upd{o:HO}(s:AO H H')(h:H a=none):AO H (upd H' a o):=fun b u e=>by rw[AQ (A2 e h)];exact s b u e
theorem HK{c A:Prop}[Decidable c](hc:¬c)(h:A):if(!decide c)=true then A else B:=by rw[BJ hc];exact Bm h
theorem CG{c A:Prop}[Decidable c](hc:c)(h:A):if decide c=true then A else B:=by rw[BZ hc];exact Bm h
theorem CT{c A:Prop}[Decidable c](hc:¬c)(h:B):if decide c=true then A else B:=by rw[BJ hc];exact BK h
theorem J2(hc:X.calm=true)(hk:scope.kind=.function)(h:scope.names.all (fun p=>p.2 !=.cell&&p.2 !=.free)=true)
 (hn:∀y∈scope.names,y.2=.local->scope.names.lookup y.1=some .local):KH X ts [] [] scope []:=by
 have hall:∀y∈scope.names,y.2≠.cell/\y.2≠.free:=fun y hy=>by have:=Jr.mp h y hy;simpa using this
 have er:rH scope X.env=scope:=by
  unfold rH;have:(scope.names.map fun(p:Str×tH)=>if(p.2==NameKind.free&&X.env.scope.kind==.function&&X.env.kindOf p.1==some .cell)=true then(p.1,NameKind.cell) else(p.1,p.2))=scope.names:=by
   refine map_eq_self fun y hy=>?_;have e:(y.2==NameKind.free)=false:=by simpa using(hall y hy).2
   rw[e];rfl
  exact BD (fun n=>{scope with names:=n}) this
 refine⟨hc,closureFor_none fun y hy=>(hall y hy).2,fun y hy=>(hall y hy).1,hk,hn,fun y c e=>(nomatch e),fun y hy=>?_,rfl,fun i y j e=>absurd e (by simp),fun y hy=>absurd hy (by simp)⟩;rw[er] at hy;rcases hy with hy|hy
 ·exact absurd rfl (hall _ (Iu hy)).1
 ·exact absurd rfl (hall _ (Iu hy)).2
variable{z:Str}
theorem XF{Q:VK}(Pv:Nat->Hp->Prop)(h0:Pv 0 (upd H1 D (.lst [])))
 (hs:∀i c H,z.cps.toList[i]? =some c->Pv i H->g (.str ⟨#[c]⟩) (ts.map (fun _=>none)++D4 ix σ) H fun σ2 H2=>Io ts ix σ σ2/\ti σ2 H2 fun b H3=>if b=true then te σ2 H3 fun y H4=>∃ys,H4 D=some (.lst ys)/\ys.length<sizeLine/\Pv (i+1) (upd H4 D (.lst (ys++[y]))) else Pv (i+1) H3)
 (hd:∀H,Pv z.cps.toList.length H->Q (.ref D) H):Lk ts ix σ (QH z) g ti te D Q H1:=by
 have el:z.cps.toList.length=z.cps.size:=by simp
 rw[el] at hd;refine⟨fun i m H=>m=z.cps.size-i/\i<=z.cps.size/\Pv i H,⟨z.cps.size,by simp,CH _,h0⟩,?_⟩;rintro i m H ⟨rfl,hi,p⟩;by_cases hlt:i<z.cps.size
 ·refine .inr ⟨hlt,Pv (i+1),fun H' p'=>⟨z.cps.size-(i+1),by lia,rfl,hlt,p'⟩,fun x H' y=>?_⟩;obtain⟨e,c,hc,ex⟩:=y;subst e ex;exact hs i c _ (by simpa using hc) p
 ·obtain rfl:i=z.cps.size:=by lia
  exact .inl ⟨Ab _,hd H p⟩
theorem FY:([x]++[]:List Str).Nodup:=by simp
noncomputable def Ex(H:Hp)(D:Ya):Hp:=fun b=>if b=D then none else H b
theorem Ex.upd{o:HO}:Ex (upd H D o) D=Ex H D:=by
 funext b;unfold Ex;by_cases e:b=D
 ·rw[AH e,AH e]
 ·rw[AF e,AF e,AQ e]
theorem Ex.sub:AO (Ex H D) H:=fun b o e=>by
 unfold Ex at e;by_cases z:b=D
 ·rw[AH z] at e;cases e
 ·rw[AF z] at e;exact e
theorem Ex.mono(s:AO H H'):AO (Ex H D) (Ex H' D):=fun b o e=>by
 unfold Ex at e⊢;by_cases z:b=D
 ·rw[AH z] at e;cases e
 ·rw[AF z] at e⊢;exact s b o e
theorem Ex.at{o:HO}(h:H b=some o)(n:b≠D):Ex H D b=some o:=by unfold Ex;rw[AF n];exact h
theorem Ex.of_none(s:AO H H')(h:H D=none):AO H (Ex H' D):=fun b o e=>by unfold Ex;rw[AF (A2 e h)];exact s b o e
def Ae(H:Hp)(ds:List Dt)(xs:List V):Prop:=ds.length=xs.length/\∀(i:Nat) d x,ds[i]? =some d->xs[i]? =some x->Rep H d x
theorem Ae.nil:Ae H [] []:=⟨rfl,fun i d x e=>by simp at e⟩
theorem Ae.same{H H':Hp}(s:AO H H'){ds:List Dt}{xs:List V}(r:Ae H ds xs):Ae H' ds xs:=⟨r.1,fun i d x h1 h2=>(r.2 i d x h1 h2).same s⟩
variable{ds:List Dt}
theorem Ae.snoc{xs:List V}{d:Dt}{x:V}(r:Ae H ds xs)(q:Rep H d x):Ae H (ds++[d]) (xs++[x]):=by
 obtain⟨hl,r⟩:=r;refine⟨by rw[A7,A7,hl];rfl,fun i d' x' h1 h2=>?_⟩;by_cases hi:i<ds.length
 ·rw[DC hi] at h1;rw[DC (by lia)] at h2;exact r i d' x' h1 h2
 ·have DA:i<(ds++[d]).length:=(BX.mp h1).1;rw[A7,DD] at DA;obtain rfl:i=ds.length:=by lia
  rw[Cv (Ab _),ER] at h1;rw[Cv (by lia),<-hl,ER] at h2;simp at h1 h2;subst h1 h2;exact q
theorem Rep.Fc{xs:List V}(h:H a=some (.lst xs))(r:Ae H ds xs):Rep H (.lst ds) (.ref a):=.lst h r.1 r.2
theorem Rep.Km{xs:List V}(h:H a=some (.tup xs))(r:Ae H ds xs):Rep H (.tup ds) (.ref a):=.tup h r.1 r.2
noncomputable def P4:hY->Option Str
 |.Constant (.str x) _ _=>some x
 |_=>none
def KS:List hY->Option (List Str)
 |[]=>some []
 |c::r=>(P4 c).bind fun x=>(KS r).map (x::·)
theorem j9(h:P4 c=some x):∃k p,c=.Constant (.str x) k p:=by
 cases c;case Constant c k p=>
  cases c;case str y=>cases h;exact⟨_,_,rfl⟩
  all_goals cases h
 all_goals cases h
def Zm(xs:List Str):TA:=fun _ H Q=>Q (xs.map V.str) H
theorem Sq{X:Cx}:∀{es:List hY}{xs:List Str},KS es=some xs->PA X es (Zm xs)
 |[],xs,h=>by have e:xs=[]:=(Ag h).symm;subst e;exact AI
 |c::r,xs,h=>by
  have h':(P4 c).bind (fun x=>(KS r).map (x::·))=some xs:=h
  cases ec:P4 c with
  |none=>rw[ec] at h';cases h'
  |some x=>
   cases e:KS r with
   |none=>rw[ec,e] at h';cases h'
   |some ys=>rw[ec,e] at h';have e2:xs=x::ys:=(Ag h').symm;subst e2;obtain⟨_,_,rfl⟩:=j9 ec;exact AE AY (Sq e)
theorem jH{X:Cx}(i:Nat)(es:List hY)(xs:List Str)(h:KS es=some xs)(x:Str)(p pos pos':Pos)(hN:X.N.Nodup)(hi:X.N[i]? =some x)(hx:Loc X.env.scope x)(hf:X.fn x=true):
 PS X (.Assign [.Name x pos'] (.List es p) pos) (QC (aF (Zm xs)) (Dy i)):=Au hN hi hx (Bx (@Sq X es xs h)) rfl (.inl hf)
theorem Hq{y:Str}{c:Ya}(hc:X.calm=true)(hk:scope.kind=.function)(h:scope.names.all (fun p=>p.2 !=.cell&&(p.2 !=.free||p.1==y))=true)
 (hn:∀z∈scope.names,z.2=.local->scope.names.lookup z.1=some .local)(hcl:closureFor scope X.env=pure [(y,c)])(hce:X.env.cells.lookup y=some c)(hx:X.env.kindOf y=some .cell)(hj:X.N[j]? =some y)
 (hr:(rH scope X.env).names.lookup y=some .cell):KH X ts [y] [j] scope [(y,c)]:=by
 have hall:∀z∈scope.names,z.2≠.cell/\(z.2=.free->z.1=y):=fun z hz=>by have:=Jr.mp h z hz;simp only[Du,Bool.or_eq_true,bne_iff_ne,FC] at this;exact⟨this.1,fun e=>this.2.elim (fun q=>absurd e q) id⟩
 have rel:∀z k,(rH scope X.env).names.lookup z=some k->(k=.cell\/k=.free)->z=y:=fun z k hz hk'=>by
  have hm:=Iu hz;obtain⟨q,hq,e⟩:=BI.mp (show(z,k)∈scope.names.map _ from hm);obtain⟨n,kq⟩:=q;have hq':=hall (n,kq) hq;by_cases hf:kq=.free
  ·have e1:n=y:=hq'.2 hf;have e2:n=z:=by have:=BD Prod.fst e;revert this;dsimp only;split<;>exact id
   rw[<-e2,e1]
  ·have e3:(n,kq)=(z,k):=by
    rw[<-e];dsimp only;rw[AF (by
     intro zz;have:(kq==NameKind.free)=true:=by simp only[Du] at zz;exact zz.1.1
     exact hf (by simpa using this))]
   have e4:kq=k:=BD Prod.snd e3;rcases hk' with z1|z1
   ·exact absurd (e4.trans z1) hq'.1
   ·exact absurd (e4.trans z1) hf
 refine⟨hc,hcl,fun z hz=>(hall z hz).1,hk,hn,fun z a e=>?_,fun z hz=>?_,rfl,fun i z k e1 e2=>?_,fun z hz=>?_⟩
 ·by_cases hzy:z=y
  ·rw[hzy] at e⊢;rw[Gq,IP] at e;rw[<-Ag e];exact hce
  ·rw[Gq,K0 hzy] at e;cases e
 ·have e:z=y:=hz.elim (fun q=>rel z _ q (.inl rfl)) fun q=>rel z _ q (.inr rfl);rw[e];exact⟨c,by rw[Gq,IP]⟩
 ·cases i with
  |zero=>
   have e3:z=y:=by simpa using e1.symm
   have e4:k=j:=by simpa using e2.symm
   rw[e3,e4];exact hj
  |succ i=>simp at e1
 ·have e:z=y:=Bg.mp hz;rw[e];exact⟨.inr (.inl hx),(by rw[hx];intro q;cases q),.inl hr⟩
theorem Gi{y:Str}(h:x≠y):([x]++[y]:List Str).Nodup:=by simp[h]
theorem ZG(a:String)(h:a="list" \/a="tuple"):kitAny K (.type a) (["list","tuple"].map Value.type)=some true:=by rcases h with e|e<;>subst e<;>kernel_rfl
theorem Sv(a:String)(h:a="str" \/a="int" \/a="bool"):kitAny K (.type a) (["list","tuple"].map Value.type)=some false:=by rcases h with e|e|e<;>subst e<;>kernel_rfl
theorem Ht(a:String):rV K (.type a) (.type a)=some true:=by unfold rV;rw[AH (by simp)]
theorem Zw:rV K (.type "list") (.type "tuple")=some false:=by kernel_rfl
theorem Zx:rV K (.type "tuple") (.type "list")=some false:=by kernel_rfl
theorem nV:rV K (.type "int") (.type "str")=some false:=by kernel_rfl
theorem ni:rV K (.type "bool") (.type "str")=some false:=by kernel_rfl
theorem ZX:rV K (.type "int") (.type "bool")=some false:=by kernel_rfl
theorem GV:qc "isinstance" =some (.builtin "isinstance"):=by ac_rfl
theorem Fs:qc "list" =some (.type "list"):=by ac_rfl
theorem Rx:qc "tuple" =some (.type "tuple"):=by ac_rfl
theorem Ys:qc "str" =some (.type "str"):=by ac_rfl
theorem JJ:qc "int" =some (.type "int"):=by ac_rfl
theorem Sx:qc "bool" =some (.type "bool"):=by ac_rfl
structure Own(mg:Str->Option AB):Prop where
 Gh:mg "isinstance" =none
 lst:mg "list" =none
 tup:mg "tuple" =none
 str:mg "str" =none
 int:mg "int" =none
 bl:mg "bool" =none
 len:mg "len" =none
 Ks:mg "range" =none
def EN(H H':Hp)(ds:List Dt)(ps:List Ya):Prop:=ds.length=ps.length/\∀(i:Nat) d p,ds[i]? =some d->ps[i]? =some p->∃x y,H' p=some (.tup [x,y])/\Rep H d x/\Rep H d y
theorem EN.same{ps:List Ya}(k:∀b xs,H1 b=some (.tup xs)->H2 b=some (.tup xs))(s:EN H H1 ds ps):EN H H2 ds ps:=
 ⟨s.1,fun i d p h1 h2=>let⟨x,y,a,b,c⟩:=s.2 i d p h1 h2;⟨x,y,k _ _ a,b,c⟩⟩
theorem EN.snoc{ps:List Ya}{d:Dt}{p:Ya}{x:V}(s:EN H H1 ds ps)(h:H1 p=some (.tup [x,y]))(rx:Rep H d x)(ry:Rep H d y):EN H H1 (ds++[d]) (ps++[p]):=by
 obtain⟨hl,r⟩:=s;refine⟨by rw[A7,A7,hl];rfl,fun i d' x' h1 h2=>?_⟩;by_cases hi:i<ds.length
 ·rw[DC hi] at h1;rw[DC (by lia)] at h2;exact r i d' x' h1 h2
 ·have DA:i<(ds++[d]).length:=(BX.mp h1).1;rw[A7,DD] at DA;obtain rfl:i=ds.length:=by lia
  rw[Cv (Ab _),ER] at h1;rw[Cv (by lia),<-hl,ER] at h2;simp at h1 h2;subst h1 h2;exact⟨x,y,h,rx,ry⟩
theorem EN.lA{ps:List Ya}{p:Ya}(s:EN H H1 ds (ps++[p])):∃ds' d x y,ds=ds'++[d]/\EN H H1 ds' ps/\H1 p=some (.tup [x,y])/\Rep H d x/\Rep H d y:=by
 obtain⟨hl,r⟩:=s;rcases List.eq_nil_or_concat ds with e|⟨ds',d,e⟩
 ·subst e;simp at hl
 ·rw[List.concat_eq_append] at e;subst e;have hl':ds'.length=ps.length:=by simpa using hl
  obtain⟨x,y,a,b,c⟩:=r ds'.length d p (by simp) (by rw[hl'];simp);refine⟨ds',d,x,y,rfl,⟨hl',fun i d1 p1 h1 h2=>r i d1 p1 ?_ ?_⟩,a,b,c⟩
  ·rw[DC (BX.mp h1).1];exact h1
  ·rw[DC (BX.mp h2).1];exact h2
theorem Inv.V6{xs:List V}(I:Inv X pins σ H s)(hf:∀b∈fp,F0 X pins H b)
 (k:∀b o,b∉fp->s.heap.get? b=some o->h'.get? b=some o)(th:∀b∈fp,∃o,h'.get? b=some o)(rv:Vals xs us)(hz:xs.length<=sizeLine)(ht:IsTup h' s.heap.objs.size us.toArray):
 Inv X pins σ (upd H s.heap.objs.size (.tup xs)) {s with heap:=h',toks:=t'}:=by
 have hn:H s.heap.objs.size=none:=I.hok.fresh (Ab _);have nt:∀b o,s.heap.get? b=some o->b≠s.heap.objs.size:=fun b o e=>BM (Ay e);have tf:∀b u,H b=some u->b∉fp:=fun b u e z=>by rw[(hf b z).1] at e;cases e
 have tn:∀b u,H b=some u->b≠s.heap.objs.size:=fun b u e z=>by rw[z,hn] at e;cases e
 refine I.step (g':=s.gens) (d':=s.drawn) (ch:=fp) (fun b hb=>?_) (fun b o _ _ hc e _=>k b o hc e) (fun b o _ _ hc e _=>⟨o.slots,k b o hc e⟩) (fun b o _ e n=>by rw[AQ (nt b o e)];exact n)
  (fun b o hc e=>⟨o,k b o hc e⟩) (fun b ys e=>by rw[AQ (tn _ _ e)];exact e) (fun b o u e=>by rw[AQ (tn _ _ e)];exact e) (fun b ps e=>⟨#[],by rw[AQ (tn _ _ e),e];simp⟩) (fun m hm=>?_) (fun b u e=>?_) I.bare
 ·obtain⟨_,f1,_,f3,f4,f5⟩:=hf b hb;exact⟨f3,f1,f4,f5⟩
 ·obtain⟨o,es,ep,ho,r⟩:=hm;exact⟨o,es,ep,k _ o (fun z=>(hf _ z).2.1 rfl) ho,r⟩
 ·by_cases hb:b=s.heap.objs.size
  ·subst hb;rw[AN] at e;cases e;exact⟨hz,us,rv,ht⟩
  ·rw[AQ hb] at e;refine(I.hok b u e).Ec (fun c v hc q=>k c v ?_ q) (fun c q=>?_) fun c ys q=>?_
   ·rcases hc with z|z
    ·rw[z];exact tf b u e
    ·exact tf c _ z
   ·rw[AQ (tn _ _ q)];exact q
   ·rw[AQ (tn _ _ q)];exact q
def Ls(K:tN)(a:Ya):It:=
 ⟨fun i H=>∃xs x,AJ K H a xs/\xs[i]? =some x,fun i H v H'=>∃p,v=.ref p/\H p=none/\∀xs,AJ K H a xs->∃x,xs[i]? =some x/\H'=upd H p (.tup [.int i,x]),fun i H=>∃xs,AJ K H a xs/\xs.length<=i⟩
variable{elts:List hY}{tpos:Pos}
theorem eR{x1:Nat}(a e it:Ya)(hne:e≠it):
 Turn P w K (.Tuple elts x1 tpos) (Ls K a) [e,it] e (fun i h=>(∃old,IsEnum h e it i old)/\h.IsListIter it a i) where
 mem:=by simp
 obj:=fun i h st b hb=>by
  obtain⟨⟨old,he⟩,o,ho,hc,hd⟩:=st;have hb':b=e\/b=it:=by simpa using hb
  rcases hb' with z|z
  ·subst z;exact⟨_,he,fun v q=>by have q':Data.fields _=Data.cell v:=q;cases q'⟩
  ·subst z;exact⟨o,ho,fun v q=>by rw[hd] at q;cases q⟩
 keep:=fun i h h' st k=>by obtain⟨⟨old,he⟩,hi⟩:=st;exact⟨⟨old,k e (by simp) _ he⟩,hi.at fun o z=>k it (by simp) o z⟩
 item:=by
  intro X hP hw hK hc i pins s σ H E I hf st hg;subst hP hw hK;obtain⟨⟨old,he⟩,hi⟩:=st;obtain⟨xs,x,hq,hx⟩:=hg;obtain⟨AM,rv,p,hz⟩:=I.list hq;obtain⟨u,hu,ru⟩:=rv.get hx;have hn:H s.heap.objs.size=none:=I.hok.fresh (Ab _);have le:e<s.heap.objs.size:=Ay he;obtain⟨oi,hoi,_⟩:=id hi;refine wpAny_pyNext_enum_item he hi p.isList (x:=u) (by simpa using hu) hne fun h1 eo i1 t1 z1 k1=>⟨_,rfl,?_⟩;refine wpAny_letOwnedTupleGo_enum eo fun h2 e2 sb=>?_;have sb':Heap.SameBut e h1 h2:=sb;have k2:∀b o,b∉[e,it]->s.heap.get? b=some o->h2.get? b=some o:=fun b o hb z=>by
   have hb':b≠e/\b≠it:=by simpa using hb
   exact(sb'.2 b hb'.1).trans (k1 b o hb'.1 hb'.2 z)
  have i2:h2.IsListIter it a (i+1):=by obtain⟨o,z,r⟩:=i1;exact⟨o,(sb'.2 it (DG hne)).trans z,r⟩
  have t2:IsTup h2 s.heap.objs.size [Value.int i s.toks,u].toArray:=⟨_,(sb'.2 _ (En le)).trans t1,rfl,_,rfl⟩;have I2:=I.V6 (h':=h2) (t':=s.toks+1) (xs:=[.int i,x]) hf k2 (fun b hb=>by
   have hb':b=e\/b=it:=by simpa using hb
   rcases hb' with z|z
   ·rw[z];exact⟨_,e2⟩
   ·rw[z];obtain⟨o,z,_⟩:=i2;exact⟨o,z⟩) (.cons ⟨_,rfl⟩ (.cons ru .nil)) (by show 2<=sizeLine;decide) t2;refine⟨.ref s.heap.objs.size,_,I2,rfl,⟨_,rfl,hn,fun ys hy=>⟨x,by rw[I.Xa hy hq];exact hx,rfl⟩⟩,⟨⟨u,?_⟩,i2⟩,fun b hb=>?_⟩
  ·have:IsEnum h2 e it ((i:Int)+1) u:=e2;exact this
  ·have hb':b≠s.heap.objs.size:=by
    have hb2:b=e\/b=it:=by simpa using hb
    rcases hb2 with z|z
    ·rw[z];exact BM le
    ·rw[z];exact BM (Ay hoi)
   rw[AQ hb'];exact(hf b hb).1
 done:=by intro X hP hw hK hc i pins s σ H E I hf st hg;subst hP hw hK;obtain⟨⟨old,he⟩,hi⟩:=st;obtain⟨xs,hq,hx⟩:=hg;obtain⟨AM,rv,p,hz⟩:=I.list hq;obtain⟨f0,f1,f2,f3,f4,f5⟩:=hf it (by simp);have hl:=rv.length;exact wpAny_pyNext_enum_end (I.ok.hd hc) he hi p.isList (by simp;lia) fun h' eb=>⟨rfl,I.turned (t':=s.toks) (fun b o hb e=>eb b o hb e) f0 f1 f3 f4 f5⟩
 self:=fun _ _ _ _ _ st h=>by obtain⟨⟨old,he⟩,_⟩:=st;exact wpAny_pyIter_enum he h
def nQ(K:tN)(ta:TA):TI:=fun σ H R=>ta σ H fun vs H1=>∃a,vs=[.ref a]/\(∃xs,AJ K H1 a xs)/\R (Ls K a) H1
theorem YE{x1:Nat}{a:hY}{ta:TA}(hg:Gl X "enumerate")(hm:X.mg "enumerate" =none)(ha:PA X [a] ta)(hs:dy [a] X.env=[(false,qZ a X.env)]:=by rfl):
 PI X (.Tuple elts x1 tpos) (.Call (.Name "enumerate" p) [a] [] pos) (nQ X.K ta):=by
 intro pins s σ H R I h;refine Call_ (NG I hg hm boot_enumerate (Uz (Ad (ha pos pins s σ H _ I h) fun us s1 ⟨vs,H1,I1,r1,q1⟩=>?_) hs rfl));obtain⟨l,e,⟨xs,hq⟩,q⟩:=q1;subst e;obtain⟨u,rfl,ru⟩:=vals1 r1;cases ru;obtain⟨AM,rv,p,hz⟩:=I1.list hq;refine call_enumerate_list p.isList fun h' he hi hsz kk=>wpAny_pyIter_enum he ?_;refine⟨s1.heap.objs.size+1,[s1.heap.objs.size+1,s1.heap.objs.size],_,_,H1,rfl,I1.kept (t':=s1.toks) kk,eR l _ _ (En (MU _)),⟨⟨_,he⟩,hi⟩,fun b hb=>?_,q⟩;have hb':b=s1.heap.objs.size+1\/b=s1.heap.objs.size:=by simpa using hb
 rcases hb' with z|z
 ·rw[z];exact I1.Kd (Eo _) (I1.hok.fresh (Eo _))
 ·rw[z];exact I1.Kd (Ab _) (I1.hok.fresh (Ab _))
theorem gU{xs:List V}{D:Ends}(Pv:Nat->St->Hp->Prop)(h0:Pv 0 σ H)(hl:∀i σ H,i<=xs.length->Pv i σ H->AJ K H a xs)
 (hs:∀i x p σ H,xs[i]? =some x->H p=none->Pv i σ H->g (.ref p) σ (upd H p (.tup [.int i,x])) fun σ2 H2=>tb {D with nx:=Pv (i+1),ct:=Pv (i+1),bk:=D.nx} σ2 H2)(hd:∀σ H,Pv xs.length σ H->D.nx σ H):
 ∃W:Nat->Nat->St->Hp->Prop,(∃m,W 0 m σ H)/\∀i m σ H,W i m σ H->
  ((Ls K a).stop i H/\D.nx σ H)\/((Ls K a).go i H/\∃N:St->Hp->Prop,(∀σ' H',N σ' H'->∃m',m'<m/\W (i+1) m' σ' H')/\∀x H',(Ls K a).Jb i H x H'->g x σ H' fun σ2 H2=>tb {D with nx:=N,ct:=N,bk:=D.nx} σ2 H2):=by
 refine⟨fun i m σ H=>m=xs.length-i/\i<=xs.length/\Pv i σ H,⟨xs.length,by simp,CH _,h0⟩,?_⟩;rintro i m σ H ⟨rfl,hi,p⟩;have q:=hl i σ H hi p;by_cases hlt:i<xs.length
 ·refine .inr ⟨⟨xs,xs[i],q,by simp[hlt]⟩,Pv (i+1),fun σ' H' p'=>⟨xs.length-(i+1),by lia,rfl,hlt,p'⟩,fun v H' y=>?_⟩;obtain⟨pa,ev,hp,y⟩:=y;obtain⟨x,hx,eH⟩:=y xs q;subst ev eH;exact hs i x pa σ H hx hp p
 ·obtain rfl:i=xs.length:=by lia
  exact .inl ⟨⟨xs,q,Ab _⟩,hd σ H p⟩
theorem KV.vals{κ:Type}:∀{AA:List (κ×V)}{ws:List (κ×AB)},KV AA ws->Vals (AA.map (·.2)) (ws.map (·.2))
 |_,_,.nil=>.nil
 |_,_,.cons r t=>.cons r.2 (KV.vals t)
theorem cj(r:Vals (ns.map V.int) us){v:AB}(e:us[i]? =some v):∃t,v=.int (ns.getD i 0) t:=by have hl:=r.length;rw[AL] at hl;have hi:i<us.length:=(BX.mp e).1;have hn:ns[i]? =some ns[i]:=Aq (by lia);obtain⟨u,hu,t,et⟩:=r.get (i:=i) (x:=.int ns[i]) (by rw[Ax,hn];rfl);rw[e] at hu;cases hu;rw[Ct,hn];exact⟨t,et⟩
noncomputable def HH(p d:Ya):HO:=.ext fun h=>h.IsValuesView p d
def j0:V->List V->Hp->VK->Prop:=fun x vs H Q=>∃d AA,x=.ref d/\vs=[]/\H d=some (.dK AA)/\∀p,H p=none->Q (.ref p) (upd H p (HH p d))
theorem Wc:Ha X "dict.values" j0:=by intro pins s σ H x vs v us Q I rx rv h;obtain⟨d,AA,rfl,rfl,hd,q⟩:=h;cases rx;cases rv;obtain⟨z,hm,ws,rel,dd⟩:=JW I.hok hd;refine OZ U1 dd.typeIs PySem.F.entry_dict_values (PySem.F.args_dict_values_1 _) (meets_dict_values (Cc X.prog X.w) d hm) ⟨⟨ws,dd⟩,?_⟩;refine⟨.ref s.heap.objs.size,_,I.laid (t':=s.toks) (o:=HH s.heap.objs.size d) (fun b o e=>BB _ e) (Ab _) ?_,rfl,q _ I.fresh⟩;have hv:(s.heap.push {cls:=.type "dict_values",data:=.fields #[.ref d]}).IsValuesView s.heap.objs.size d:=⟨_,Bz _ rfl,rfl,rfl⟩;exact⟨hv,⟨_,Bz _ rfl⟩,fun h1 h2 a k=>let⟨o,e,r⟩:=a;⟨o,k o e,r⟩⟩
theorem eT(hc:X.calm=true):DH X (.builtin "min") (fun xs H Q=>∃(p d:Ya)(AA:List (Key×V))(ns:List Int),xs=[.ref p]/\H p=some (HH p d)/\H d=some (.dK AA)/\AA.map (·.2)=ns.map V.int/\ns≠[]/\
 ∀m,m∈ns->(∀n∈ns,m<=n)->Q (.int m) H):=by
 intro pins s σ H xs us Q I r h;obtain⟨p,d,AA,ns,rfl,hp,hd,hv,hne,q⟩:=h;obtain⟨u,rfl,rx⟩:=vals1 r;cases rx;obtain⟨z,hm,ws,rel,dd⟩:=JW I.hok hd;obtain⟨hvw,_⟩:=(show BO X.prog X.w H s.heap p (HH p d) from I.hok p _ hp);have hvw':s.heap.IsValuesView p d:=hvw;obtain⟨ep,da⟩:=dd.dictAt;have hh:X.A.in1.handled=none:=I.ok.hd hc;have rv:=KV.vals rel;rw[hv] at rv;have hlen:ws.length=ns.length:=by
  have h1:=rv.length;rw[AL,AL] at h1
  lia
 have vi:∀(i:Nat)(v:AB),(∃k:Key,ws[i]? =some (k,v))->∃t,v=.int (ns.getD i 0) t:=fun i v ⟨k,e⟩=>cj rv (by rw[Ax,e];rfl);obtain⟨od,_,hod,_⟩:=id da;have nd:d≠s.heap.objs.size:=BM (Ay hod);have np:0<ns.length:=List.length_pos_iff.mpr hne;refine call_min_walk (wpAny_pyIter_values hvw' da ?_);refine⟨s.heap.objs.size,[s.heap.objs.size,d],[s.heap.objs.size],ws.length,fun i v=>∃k:Key,ws[i]? =some (k,v),_,fun i j=>decide (ns.getD i 0<ns.getD j 0),rfl,Walks.dictValues hh _ d nd ws ep,
  ⟨⟨_,Bz _ rfl,rfl,rfl⟩,da.at' fun o e=>BB _ e⟩,fun b hb=>?_,by lia,CmpOf.ints_lt (fun i=>ns.getD i 0) vi,fun v h' tk hP kk=>?_⟩
 ·have hb':b=s.heap.objs.size\/b=d:=by simpa using hb
  rw[Gr];rcases hb' with e|e
  ·rw[e];exact MU _
  ·rw[e];exact OH (Ay hod)
 ·obtain⟨a1,a2⟩:=argBest_lt (fun i=>ns.getD i 0) (ws.length-1);obtain⟨t,et⟩:=vi _ v hP;generalize argBest (fun i j=>decide (ns.getD i 0<ns.getD j 0)) (ws.length-1)=ix at a1 a2 et;subst et;have hix:ix<ns.length:=by lia
  refine⟨.int (ns.getD ix 0),H,I.kept (fun b ob e=>kk b ob (by simpa using BM (Ay e)) (BB _ e)),⟨t,rfl⟩,q _ ?_ fun n hn=>?_⟩
  ·rw[Ct,Aq hix];exact Fj hix
  ·obtain⟨j,hj,e⟩:=IK.mp hn;have:=a2 j (by lia);have ej:ns.getD j 0=n:=by rw[Ct,Aq hj];exact e
   rw[<-ej];exact this
section
open PySem.W
section
variable(r:Nat->Nat)
noncomputable def QG(i j:Nat):Bool:=decide (r i<r j)
end
structure Nb(α:Type) where
 lt:α->α->Bool
 ay:∀a,lt a a=false
 tr:∀a b c,lt a b=true->lt b c=true->lt a c=true
 BH:∀a b,lt a b=false->lt b a=false->a=b
noncomputable def JH{α:Type}(O:Nb α)(l:List α)(a:α):Nat:=l.countP fun b=>O.lt b a
theorem RP{α:Type}{p q:α->Bool}:∀{l:List α},(∀x∈l,p x=true->q x=true)->l.countP p<=l.countP q
 |[],_=>Ab _
 |x::r,h=>by
  have ih:=RP (l:=r) fun y hy=>h y (DE _ hy);rw[Ky,Ky];have hx:=h x Di
  cases e1:p x with
  |false=>simp;lia
  |true=>rw[hx e1];simp;lia
theorem Va{α:Type}{p q:α->Bool}:∀{l:List α}{a:α},a∈l->(∀x∈l,p x=true->q x=true)->p a=false->q a=true->l.countP p<l.countP q
 |x::r,a,ha,h,h1,h2=>by
  rw[Ky,Ky];rcases Ba.mp ha with e|e
  ·subst e;have ih:=RP (l:=r) fun y hy=>h y (DE _ hy);rw[h1,h2];simp
   lia
  ·have ih:=Va e (fun y hy=>h y (DE _ hy)) h1 h2;have hx:=h x Di
   cases e1:p x with
   |false=>simp;lia
   |true=>rw[hx e1];simp;lia
theorem O1(O:Nb α)(l:List α){a b:α}(ha:a∈l):O.lt a b=decide (JH O l a<JH O l b):=by
 cases e:O.lt a b with
 |true=>have:JH O l a<JH O l b:=Va ha (fun x _ hx=>O.tr x a b hx e) (O.ay a) e;rw[BZ this]
 |false=>
  have:JH O l b<=JH O l a:=RP fun x _ hx=>by
   cases e2:O.lt b a with
   |true=>exact O.tr x b a hx e2
   |false=>rw[O.BH a b e e2];exact hx
  rw[BJ (by lia)]
noncomputable def LY(h:qY)(a:Ya)(vs:List AB):qY:=((h.update a (Obj.mapSeq fun _=> #[])).push (qg "tuple" vs.toArray 0)).push (qg "list" #[] 0)
noncomputable def Fx(vs:List AB)(p:List Nat):List AB:=p.map fun i=>vs.getD i Value.none
def Ni(prog:qV)(w:qa)(A:qy)(vs:List AB)(r:Nat->Nat)(s3:Yf):Prop:=
 bt (ax prog w) A (keyKind' vs.toArray) (fun κ s'=>s'=s3/\∀i j C,i<vs.length->j<vs.length->C (QG r i j) s3->kas_ask prog w A κ vs i j C s3) (fun _ _=>False) s3
noncomputable def EM:Key->Key->Bool
 |.inl i,.inl j=>decide (i<j)
 |.inr x,.inr y=>decide (x.cps.toList<y.cps.toList)
 |.inl _,.inr _=>true
 |.inr _,.inl _=>false
theorem Vb{a b:Str}(h:a.cps.toList=b.cps.toList):a=b:=by cases a;cases b;congr 1;exact Js.mp h
theorem Yg:∀a,EM a a=false
 |.inl i=>BJ (by lia)
 |.inr x=>BJ (List.lt_irrefl _)
theorem ZO:∀a b c,EM a b=true->EM b c=true->EM a c=true
 |.inl i,.inl j,.inl k,h1,h2=>BZ (Int.lt_trans (IM h1) (IM h2))
 |.inl _,.inl _,.inr _,_,_=>rfl
 |.inl _,.inr _,.inr _,_,_=>rfl
 |.inr x,.inr y,.inr z,h1,h2=>BZ (List.lt_trans (IM h1) (IM h2))
 |.inl _,.inr _,.inl _,_,h2=>by cases h2
 |.inr _,.inl _,_,h1,_=>by cases h1
 |.inr _,.inr _,.inl _,_,h2=>by cases h2
theorem YJ:∀a b,EM a b=false->EM b a=false->a=b
 |.inl i,.inl j,h1,h2=>by
  have e1:¬i<j:=Ql h1;have e2:¬j<i:=Ql h2;have e:i=j:=by lia
  rw[e]
 |.inr x,.inr y,h1,h2=>by have e1:¬x.cps.toList<y.cps.toList:=Ql h1;have e2:¬y.cps.toList<x.cps.toList:=Ql h2;rw[Vb (List.le_antisymm (List.not_lt.mp e2) (List.not_lt.mp e1))]
 |.inl _,.inr _,h1,_=>by cases h1
 |.inr _,.inl _,_,h2=>by cases h2
def DU:List Key->List Key->Bool
 |[],[]=>false
 |[],_::_=>true
 |_::_,[]=>false
 |a::r,b::t=>if a=b then DU r t else EM a b
theorem W8:∀a,DU a a=false
 |[]=>rfl
 |a::r=>by show(if a=a then DU r r else EM a a)=false;rw[AH rfl];exact W8 r
theorem YX:∀a b c,DU a b=true->DU b c=true->DU a c=true
 |[],[],_,h,_=>by cases h
 |[],_::_,[],_,h=>by cases h
 |[],_::_,_::_,_,_=>rfl
 |_::_,[],_,h,_=>by cases h
 |_::_,_::_,[],_,h=>by cases h
 |a::r,b::t,c::u,h1,h2=>by
  have h1':(if a=b then DU r t else EM a b)=true:=h1;have h2':(if b=c then DU t u else EM b c)=true:=h2;show(if a=c then DU r u else EM a c)=true;by_cases e1:a=b
  ·rw[AH e1] at h1';by_cases e2:b=c
   ·rw[AH e2] at h2';rw[AH (e1.trans e2)];exact YX r t u h1' h2'
   ·rw[AF e2] at h2';rw[AF (by rw[e1];exact e2),e1];exact h2'
  ·rw[AF e1] at h1';by_cases e2:b=c
   ·rw[AH e2] at h2';rw[AF (by rw[<-e2];exact e1),<-e2];exact h1'
   ·rw[AF e2] at h2';have h3:=ZO a b c h1' h2';by_cases e3:a=c
    ·rw[e3,Yg] at h3;cases h3
    ·rw[AF e3];exact h3
theorem Wo:∀a b,DU a b=false->DU b a=false->a=b
 |[],[],_,_=>rfl
 |[],_::_,h,_=>by cases h
 |_::_,[],_,h=>by cases h
 |a::r,b::t,h1,h2=>by
  have h1':(if a=b then DU r t else EM a b)=false:=h1;have h2':(if b=a then DU t r else EM b a)=false:=h2;by_cases e:a=b
  ·rw[AH e] at h1';rw[AH e.symm] at h2';rw[e,Wo r t h1' h2']
  ·rw[AF e] at h1';rw[AF (fun z=>e z.symm)] at h2';exact absurd (YJ a b h1' h2') e
def lexOrd:Nb (List Key):=⟨DU,W8,YX,Wo⟩
noncomputable def kd:Key->Bool
 |.inl _=>true
 |.inr _=>false
theorem ku{a b:Key}{v:AB}(ha:RelV (kV a) u)(hb:RelV (kV b) v)(h:kd a=kd b){Q:Bool->Yf->Prop}(q:Q (decide (a=b)) s):bt (ax prog w) A (eqBool u v) Q E s:=by
 match a,b,h with
 |.inl i,.inl j,_=>obtain⟨t,rfl⟩:=ha;obtain⟨t',rfl⟩:=hb;refine SeqAt.EqAt.int_int i t j t' prog w E Q ?_;rw[<-Yj];exact q
 |.inr x,.inr y,_=>obtain⟨t,rfl⟩:=ha;obtain⟨t',rfl⟩:=hb;refine SeqAt.EqAt.str_str x t y t' prog w E Q ?_;rw[Yx] at q;rw[Bool.beq_eq_decide_eq];exact q
 |.inl _,.inr _,h=>cases h
 |.inr _,.inl _,h=>cases h
theorem lK{a b:Key}{v:AB}(ha:RelV (kV a) u)(hb:RelV (kV b) v)(h:kd a=kd b)(c:Bool){Q:Bool->Yf->Prop}(q:Q (EM a b) s):bt (ax prog w) A (oneLt' c u v) Q E s:=by
 match a,b,h with
 |.inl i,.inl j,_=>
  obtain⟨t,rfl⟩:=ha;obtain⟨t',rfl⟩:=hb
  cases c with
  |true=>exact oneLt_int q
  |false=>exact kat_one _ _ (lt_int q)
 |.inr x,.inr y,_=>
  obtain⟨t,rfl⟩:=ha;obtain⟨t',rfl⟩:=hb
  cases c with
  |true=>exact oneLt_str q
  |false=>exact kat_one _ _ (lt_str q)
 |.inl _,.inr _,h=>cases h
 |.inr _,.inl _,h=>cases h
theorem Yp{c:Bool}{Q:Bool->Yf->Prop}:∀(ks ls:List Key)(us vs:List AB)(i:Nat),Vals (ks.map kV) us->Vals (ls.map kV) vs->ks.map kd=ls.map kd->Q (DU ks ls) s->KatLex prog w A c false Q (us.zip vs) i s
 |[],[],_,_,_,.nil,.nil,_,q=>q
 |[],_::_,_,_,_,_,_,h,_=>by cases h
 |_::_,[],_,_,_,_,_,h,_=>by cases h
 |a::ks,b::ls,_,_,i,.cons ra rs,.cons rb rt,h,q=>by
  have h1:kd a=kd b:=U5 h;have h2:ks.map kd=ls.map kd:=List.tail_eq_of_cons_eq h;refine kat_cons (ku ra rb h1 ?_);have q':Q (if a=b then DU ks ls else EM a b) s:=q;by_cases e:a=b
  ·rw[BZ e];rw[AH e] at q';exact kat_yes (Yp ks ls _ _ (i+1) rs rt h2 q')
  ·rw[BJ e];rw[AF e] at q';exact kat_no (lK ra rb h1 _ q')
def Y6(h:qY)(ps:List (Ya×List Key)):Prop:=∀p∈ps,∃us:List AB,Vals (p.2.map kV) us/\IsTup h p.1 us.toArray
theorem Vo{h:qY}:∀{ps:List (Ya×List Key)},Y6 h ps->(∀p∈ps,p.2≠[])->∃fs:List AB,KatTups h (ps.map fun p=>Value.ref p.1) fs/\fs.length=ps.length/\∀v∈fs,∃p∈ps,∃a r,p.2=a::r/\RelV (kV a) v
 |[],_,_=>⟨[],KatTups.nil,rfl,fun v hv=>by cases hv⟩
 |p::ps,ht,hne=>by
  obtain⟨fs,t,hl,hf⟩:=Vo (ps:=ps) (fun q hq=>ht q (DE _ hq)) fun q hq=>hne q (DE _ hq);obtain⟨us,rv,o,h1,h2,n,h3⟩:=ht p Di
  cases e:p.2 with
  |nil=>exact absurd e (hne p Di)
  |cons a r=>
   rw[e] at rv
   cases rv with
   |@cons _ u _ us' ra rr=>
    refine⟨u::fs,KatTups.cons h1 h2 h3 (by simp) t,by rw[CP,CP,hl],fun v hv=>?_⟩;rcases Ba.mp hv with z|z
    ·rw[z];exact⟨p,Di,a,r,e,ra⟩
    ·obtain⟨q,hq,x⟩:=hf v z;exact⟨q,DE _ hq,x⟩
noncomputable def FN(ps:List (Ya×List Key))(i:Nat):List Key:=(ps.getD i (0,[])).2
def Kk(ps:List (Ya×List Key))(i:Nat):Nat:=JH lexOrd (ps.map (·.2)) (FN ps i)
theorem V2{ps:List (Ya×List Key)}(h:i<ps.length):FN ps i∈ps.map (·.2):=by unfold FN;rw[Ct,Aq h];exact BI.mpr ⟨ps[i],Fj h,rfl⟩
theorem gH{ps:List (Ya×List Key)}{sh:List Bool}(ht:Y6 s.heap ps)(hsh:∀p∈ps,p.2.map kd=sh)(hne:sh≠[])(h2:2<=ps.length):
 Ni prog w A (ps.map fun p=>Value.ref p.1) (Kk ps) s:=by
 have hne':∀p∈ps,p.2≠[]:=fun p hp e=>hne (by rw[<-hsh p hp,e];rfl);obtain⟨fs,t,hl,hf⟩:=Vo ht hne';obtain⟨c,cr,ec⟩:∃c cr,sh=c::cr:=by
  cases sh with
  |nil=>exact absurd rfl hne
  |cons c cr=>exact⟨c,cr,rfl⟩
 have go:∀T:AB,(∀v∈fs,Looks (ax prog w) s.heap (typeOf v) T)->(T==T)=true->(T !=Value.type "tuple")=true->Ni prog w A (ps.map fun p=>Value.ref p.1) (Kk ps) s:=fun T hT e1 e2=>by
  refine kat_kind t (by lia) hT e1 ⟨rfl,fun i j C hi hj q=>?_⟩;rw[AL] at hi hj;rw[e2];unfold kas_ask;have gi:∀k,k<ps.length->(ps.map fun p=>Value.ref p.1).getD k Value.none=Value.ref (ps.getD k (0,[])).1:=fun k hk=>by rw[Ct,Ax,Aq hk,Ct,Aq hk];rfl
  have mi:∀k,k<ps.length->ps.getD k (0,[])∈ps:=fun k hk=>by rw[Ct,Aq hk];exact Fj hk
  rw[gi i hi,gi j hj];obtain⟨us,ru,ox,x1,x2,nx,x3⟩:=ht _ (mi i hi);obtain⟨vs,rv,oy,y1,y2,ny,y3⟩:=ht _ (mi j hj);have hs:(ps.getD i (0,[])).2.map kd=(ps.getD j (0,[])).2.map kd:=by rw[hsh _ (mi i hi),hsh _ (mi j hj)]
  refine kat_lt x1 x3 y1 y3 ?_;have el:decide (us.toArray.size<vs.toArray.size)=false:=by
   have l1:=ru.length;have l2:=rv.length;have l3:=BD List.length hs;rw[AL] at l1 l2;rw[AL,AL] at l3;refine BJ ?_;rw[Cb,Cb]
   lia
  rw[el];refine Yp _ _ us vs 0 ru rv hs ?_;have e3:=O1 lexOrd (ps.map (·.2)) (a:=FN ps i) (b:=FN ps j) (V2 hi);have e4:QG (Kk ps) i j=DU (FN ps i) (FN ps j):=e3.symm;rw[e4] at q;exact q
 cases c with
 |true=>
  refine go (.type "int") (fun v hv=>?_) (by decide) (by decide);obtain⟨p,hp,a,r,e,ra⟩:=hf v hv;have:=hsh p hp;rw[e,ec] at this
  match a,U5 this with
  |.inl i,_=>obtain⟨t,rfl⟩:=ra;exact Looks.of_pure rfl
 |false=>
  refine go (.type "str") (fun v hv=>?_) (by decide) (by decide);obtain⟨p,hp,a,r,e,ra⟩:=hf v hv;have:=hsh p hp;rw[e,ec] at this
  match a,U5 this with
  |.inr i,_=>obtain⟨t,rfl⟩:=ra;exact Looks.of_pure rfl
theorem WS:∀{ps:List (Ya×List Key)}{us:List AB},Vals (ps.map fun p=>V.ref p.1) us->us=ps.map fun p=>Value.ref p.1
 |[],_,.nil=>rfl
 |_::_,_,.cons r t=>by rw[Av,<-WS t];cases r;rfl
theorem Vr:∀ps:List (Ya×List Key),Vals (ps.map fun p=>V.ref p.1) (ps.map fun p=>Value.ref p.1)
 |[]=>.nil
 |_::r=>.cons rfl (Vr r)
theorem M3:∀{xs:List V}{us:List AB},xs.length=us.length->(∀(i:Nat) x u,xs[i]? =some x->us[i]? =some u->RelV x u)->Vals xs us
 |[],[],_,_=>.nil
 |x::xs,u::us,hl,h=>.cons (h 0 x u rfl rfl) (M3 (by simpa using hl) fun i x u h1 h2=>h (i+1) x u (by simpa using h1) (by simpa using h2))
 |[],_::_,hl,_=>by cases hl
 |_::_,[],hl,_=>by cases hl
def L8(a b:Str):Bool:=EM (Sum.inr a) (Sum.inr b)
def Ew:Nb Str:=⟨L8,fun a=>Yg _,fun a b c=>ZO _ _ _,fun a b h1 h2=>Sum.inr.inj (YJ _ _ h1 h2)⟩
def ME(zs:List Str)(i:Nat):Nat:=JH Ew zs (zs.getD i "")
end
variable{zs:List Str}
section
open PySem.W
theorem La(r:Vals (zs.map V.str) us)(hk:k<zs.length):∃t,us.getD k Value.none=.str (zs.getD k "") t:=by
 have e:(zs.map V.str)[k]? =some (V.str (zs.getD k "")):=by rw[Ax,Aq hk,Ct,Aq hk];rfl
 obtain⟨u,hu,t,ht⟩:=r.get e;exact⟨t,by rw[Ct,hu];exact ht⟩
theorem Wr(hk:k<zs.length):zs.getD k ""∈zs:=by rw[Ct,Aq hk];exact Fj hk
theorem iS(r:Vals (zs.map V.str) us)(h2:2<=us.length):Ni prog w A us (ME zs) s:=by
 have hl:zs.length=us.length:=by rw[<-r.length,AL]
 refine kas_kind (T:=.type "str") h2 (fun v hv=>?_) (by decide) (by decide) ⟨rfl,fun i j C hi hj q=>?_⟩
 ·obtain⟨k,hk,e⟩:=IK.mp hv;obtain⟨t,et⟩:=La r (k:=k) (by lia);rw[Ct,Aq hk] at et;have:v=.str (zs.getD k "") t:=by rw[<-e];exact et
  rw[this];exact Looks.of_pure rfl
 ·unfold kas_ask;obtain⟨t1,e1⟩:=La r (k:=i) (by lia);obtain⟨t2,e2⟩:=La r (k:=j) (by lia);rw[e1,e2];refine kas_lt_str ?_;have e3:=O1 Ew zs (a:=zs.getD i "") (b:=zs.getD j "") (Wr (by lia));have e4:QG (ME zs) i j=decide ((zs.getD i "").cps.toList<(zs.getD j "").cps.toList):=e3.symm;rw[e4] at q;exact q
def lS(K:tN):List V->Hp->VK->Prop:=fun xs H Q=>∃(l:Ya)(zs:List Str),xs=[.ref l]/\AJ K H l (zs.map V.str)/\zs.length<64/\
 ∀(D:Ya)(ys:List Str),H D=none->ys.Perm zs->ys.Pairwise (fun a b=>L8 b a=false)->Q (.ref D) (upd H D (.lst (ys.map V.str)))
def TF:List V->Hp->VK->Prop:=fun xs H Q=>∃(d:Ya)(AA:List (Key×V)),xs=[.ref d]/\H d=some (.dK AA)/\∀l,H l=none->Q (.ref l) (upd H l (.lst (AA.map fun kv=>kV kv.1)))
theorem LF(hc:X.calm=true):DH X (.type "list") TF:=by
 intro pins s σ H xs us Q I r h;obtain⟨d,AA,rfl,hd,q⟩:=h;obtain⟨u,rfl,rx⟩:=vals1 r;cases rx;obtain⟨z,hm,ws,rel,dd⟩:=JW I.hok hd;obtain⟨ep,da⟩:=dd.dictAt;have hh:X.A.handled=none:=I.ok.hd hc;have hlen:=rel.length;refine kdl_call (kdl_dict hm) hh da (by lia) fun h' tk acc' c' kp e hacc=>?_;have hv:Vals (AA.map fun kv=>kV kv.1) acc'.toList:=by
  refine M3 (by have h1:acc'.toList.length=acc'.size:=Em;have h2:=hacc.1;rw[AL];lia) fun i x u h1 h2=>?_;rw[F7] at h2;obtain⟨k,y,ek,is⟩:=hacc.2 i u h2;have hk:(AA.map (·.1))[i]? =some k:=by rw[rel.keys,Ax,ek];rfl
  have hx:(AA.map fun kv=>kV kv.1)[i]? =some (kV k):=by rw[show(AA.map fun kv=>kV kv.1)=(AA.map (·.1)).map kV by rw[BV];rfl,Ax,hk];rfl
  rw[hx] at h1;cases Ag h1;have is':JN k u=true:=is;rcases GF is' with⟨i,t,rfl,rfl⟩|⟨z,t,rfl,rfl⟩
  ·exact⟨t,rfl⟩
  ·exact⟨t,rfl⟩
 refine⟨.ref s.heap.objs.size,_,I.laid (t':=tk) (o:=.lst (AA.map fun kv=>kV kv.1)) kp (Ab _) ⟨by rw[AL];lia,acc'.toList,c',hv,by rw[Array.toArray_toList];exact e⟩,rfl,q _ I.fresh⟩
end
theorem jj{a b:Str}(h:a.cps.toList=b.cps.toList):a=b:=by
 cases a with
 |mk x=>
 cases b with
 |mk y=>
 have:x=y:=by apply Array.ext';exact h
 rw[this]
theorem Om(a b:Str):(a++b).cps.toList=a.cps.toList++b.cps.toList:=by show(a.cps++b.cps).toList=_;simp
theorem Hu(a b:Str):(a++b).length=a.length+b.length:=by show(a.cps++b.cps).size=_;simp[Str.length]
theorem Mv{c:TT}{t u v:TS}{D:Ends}(G:St->Hp->Prop)(hG:∀σ H,G σ H->v D σ H)(h:(∀σ H,G σ H->v D σ H)->HU c t u {D with nx:=v D} σ H):JZ (HU c t u) v D σ H:=h hG
noncomputable def Cq:List Nat->List (List Nat)
 |[]=>[[]]
 |c::r=>if c=32 then[]::Cq r else(c::(Cq r).headD [])::(Cq r).tail
noncomputable def jn:List (List Nat)->List Nat
 |[]=>[]
 |[a]=>a
 |a::b::r=>a++32::jn (b::r)
theorem Yw:∀l,Cq l≠[]
 |[],h=>by cases h
 |c::r,h=>by
  unfold Cq at h;by_cases e:c=32
  ·rw[AH e] at h;cases h
  ·rw[AF e] at h;cases h
theorem M8:∀p r:List Nat,Cq (p++32::r)=Cq p++Cq r
 |[],r=>by show(if(32:Nat)=32 then _ else _)=_;rw[AH rfl];rfl
 |c::p,r=>by
  show(if c=32 then[]::Cq (p++32::r) else(c::(Cq (p++32::r)).headD [])::(Cq (p++32::r)).tail)=(if c=32 then[]::Cq p else(c::(Cq p).headD [])::(Cq p).tail)++_;rw[M8 p r];by_cases e:c=32
  ·rw[AH e,AH e];rfl
  ·rw[AF e,AF e]
   cases h:Cq p with
   |nil=>exact absurd h (Yw p)
   |cons a b=>rfl
theorem SE:∀p:List Nat,32∉p->Cq p=[p]
 |[],_=>rfl
 |c::p,h=>by show(if c=32 then _ else _)=_;rw[AF fun e=>h (by rw[e];exact Di),SE p fun z=>h (DE _ z)];rfl
theorem TL:∀L:List (List Nat),L≠[]->(∀p∈L,32∉p)->Cq (jn L)=L
 |[],h,_=>absurd rfl h
 |[a],_,h=>SE a (h a Di)
 |a::b::r,_,h=>by show Cq (a++32::jn (b::r))=_;rw[M8,SE a (h a Di),TL (b::r) (List.cons_ne_nil _ _) fun p hp=>h p (DE _ hp)];rfl
theorem Xr:∀(l:List Nat),∀p∈Cq l,p.length<=l.length
 |[],p,h=>by rw[Bg.mp h];exact Ab _
 |c::r,p,h=>by
  have ih:=Xr r;have h:p∈(if c=32 then[]::Cq r else(c::(Cq r).headD [])::(Cq r).tail):=h;rw[CP]
  cases e:Cq r with
  |nil=>exact absurd e (Yw r)
  |cons a b=>
   rw[e] at ih h;have ia:=ih a Di;by_cases z:c=32
   ·rw[AH z] at h;rcases Ba.mp h with y|y
    ·rw[y];exact CH _
    ·have:=ih p y;lia
   ·rw[AF z] at h;rcases Ba.mp h with y|y
    ·rw[y];show a.length+1<=_
     lia
    ·have:=ih p (DE _ y);lia
theorem LJ(x:Str):x.cps.toList.length=x.length:=by simp[Str.length]
theorem blank_eq:(" " :Str)=⟨#[32]⟩:=by ac_rfl
theorem RY:∀parts:List Str,(Str.join ⟨#[32]⟩ parts).cps.toList=jn (parts.map (·.cps.toList))
 |[]=>rfl
 |[a]=>rfl
 |a::b::r=>by show(a++⟨#[32]⟩++Str.join ⟨#[32]⟩ (b::r)).cps.toList=_;rw[Om,Om,RY (b::r),Bb];rfl
theorem WL:∀A B:List Str,A.map (·.cps.toList)=B.map (·.cps.toList)->A=B
 |[],[],_=>rfl
 |[],_::_,h=>nomatch h
 |_::_,[],h=>nomatch h
 |a::A,b::B,h=>by obtain⟨h1,h2⟩:=Gu h;rw[jj h1,WL A B h2]
theorem Ve(t:Str):(Txt.split t " ").map (·.cps.toList)=Cq t.cps.toList:=by
 have h1:=StrLaws.join_split t ⟨#[32]⟩;have h2:=StrLaws.split_free t 32;have h3:=split_pos t ⟨#[32]⟩;rw[blank_eq];conv=>rhs;rw[<-h1,RY]
 refine(TL _ (fun z=>?_) fun p hp=>?_).symm
 ·rw[OB.mp z] at h3;cases h3
 ·obtain⟨q,hq,rfl⟩:=BI.mp hp;exact h2 q hq
def T7(l:List Nat):Prop:=∀p∈Cq l,p.length≠7
instance (l:List Nat):Decidable (T7 l):=inferInstanceAs (Decidable (∀p∈Cq l,p.length≠7))
structure Ny(l:List Nat):Prop where
 ok:T7 l
 lst:l=[]\/∃r,l=r++[32]
theorem ZE:∀k,T7 (List.replicate k 32)
 |0=>by decide
 |k+1=>fun p hp=>by
  have hp:p∈[]::Cq (List.replicate k 32):=hp;rcases Ba.mp hp with e|e
  ·rw[e];decide
  ·exact ZE k p e
theorem Ny.add{l w:List Nat}(h:Ny l)(hw:T7 w)(k:Nat):Ny (l++w++List.replicate (k+1) 32):=by
 have e1:l++w++List.replicate (k+1) 32=(l++w)++32::List.replicate k 32:=by rw[List.replicate_succ]
 refine⟨fun p hp=>?_,.inr ⟨l++w++List.replicate k 32,by rw[Bb _ _ [32],List.replicate_succ']⟩⟩;rw[e1,M8] at hp;rcases Bh.mp hp with z|z
 ·rcases h.lst with e|⟨r,e⟩
  ·rw[e] at z;exact hw p z
  ·rw[e,Bb,show[32]++w=32::w from rfl,M8] at z;rcases Bh.mp z with y|y
   ·refine h.ok p ?_;rw[e,M8];exact Hi _ y
   ·exact hw p y
 ·exact ZE k p z
theorem Wj(n:Int):(Txt.mul " " n).cps.toList=List.replicate n.toNat 32:=by rw[blank_eq];exact mul_one_list 32 n
theorem cM(n:Int)(h0:0<=n)(h:n<=10):MulOk " " n:=mulOk_of 1 10 (by ac_rfl) (by lia) (by lia) (by decide) (by decide)
theorem VY(n:Int):(Txt.mul " " n).length=n.toNat:=by have h:=BD List.length (Wj n);rw[List.length_replicate] at h;simpa[Str.length] using h
theorem Fu(xs:List α)(n:Nat)(hn:xs.length=n)(h0:0<n)(i:Int):∃v∈xs,Fe xs (i%(n:Int))=some v:=by
 have h1:0<=i%(n:Int):=RC _ (by lia);have h2:i%(n:Int)<n:=Qq _ (by lia);have e:i%(n:Int)=((i%(n:Int)).toNat:Int):=by lia
 have hl:(i%(n:Int)).toNat<xs.length:=by lia
 refine⟨xs[(i%(n:Int)).toNat],Fj hl,?_⟩;have:=Bw (xs:=xs) (j:=(i%(n:Int)).toNat) (v:=xs[(i%(n:Int)).toNat]) (Aq hl);rw[<-e] at this;exact this
def Yz:Sp:=fun vs H Q _=>∃a p m:Int,vs=[.int a,.int p,.int m]/\0<p/\0<m/\∀z:Int,Q (.int z) H
def Zc:Sp:=fun vs H Q _=>∃s:Int,vs=[.int s]/\∀z:Str,z.length=3->Q (.str z) H
noncomputable def sought:List Str:=["oak","oaks","elm","cat","[]","[a]","Oak","oa","elmelmelm"]
def XG:Sp:=fun vs H Q _=>vs=[]/\∀(p:Ya)(H':Hp),AO H H'->H' p=some (.tup (sought.map V.str))->Q (.ref p) H'
def Xf:Sp:=fun vs H Q _=>∃c k:Int,vs=[.int c,.int k]/\∀(z:Str)(H':Hp),z.length<=1000/\T7 z.cps.toList->AO H H'->Q (.str z) H'
theorem lO:Az ["_law_number","_law_prime","_law_many"] ["_law_number","_law_prime","_law_many"] (Ao Pj):=by ac_rfl
theorem j8(F:Aj K "_law_draw" "_law_draw" Pj f fd):AW P w K mg base Ah 1 f fd ["_law_number","_law_prime","_law_many"] Yz:=by
 refine F.ok lO ?_ ?_
 ·rintro _ _ _ _ ⟨_,_,_,rfl,_⟩;rfl
 ·rintro _ A _ s H _ Q E hr ⟨a,p,m,rfl,hp,hm,q⟩;refine⟨_,AS (An (Ai CB (Ai CB (Ai Pf (pv 0) Ac) (pv 1)) (pv 2))),?_⟩;exact⟨_,rfl,_,_,rfl,rfl,.inr ⟨by decide,by decide⟩,_,rfl,_,_,rfl,rfl,hp,_,rfl,_,_,rfl,rfl,hm,q _⟩
noncomputable def bf:Str:="abcdefghijklmnopqrstuvwxyzABCDEFGHIJKLMNOPQRSTUVWXYZ0123456789"
noncomputable def bV:Str:="!#$&()*+,-./:;<=>?\x40[]^_`{|}~'"
def Nq:Str:=bf++bV
theorem T1:Az ["_law_spot","_law_signs"] ["_law_spot"] (Ao P2):=by ac_rfl
theorem Tq:("w" :Str).length=1:=by ac_rfl
theorem X8:Nq.cps.toList.length=91:=by ac_rfl
theorem kf(F:Aj K "_law_odd_word" "_law_odd_word" P2 f fd):AW P w K mg base Ah 1 f fd ["_law_spot"] Zc:=by
 refine F.ok T1 ?_ ?_
 ·rintro _ _ _ _ ⟨_,rfl,_⟩;rfl
 ·rintro _ A _ s H _ Q E hr ⟨i,rfl,q⟩;refine⟨_,AU (Au (i:=1) T1.nd rfl (AZ rfl) AY) (AU (Au (i:=1) T1.nd rfl (AZ rfl) (Ai ET (pv 1) AY))
   (AS (An (Ai ET (Ai ET AY (Bt PZ (pv 1) (Ai CB (pv 0) Ac) (fun _ _=>rfl))) (Bt PZ (pv 1) (Ai CB (Ai KC (pv 0) Ac) Ac) (fun _ _=>rfl)))))),?_⟩;refine⟨_,rfl,bf,bV,rfl,rfl,by ac_rfl,?_⟩;obtain⟨v1,_,e1⟩:=Fu Nq.cps.toList 91 X8 (by decide) i;obtain⟨v2,_,e2⟩:=Fu Nq.cps.toList 91 X8 (by decide) (i/91);refine⟨_,rfl,_,rfl,_,_,rfl,rfl,(by show(0:Int)<91;decide),Nq,_,v1,rfl,rfl,by ac_rfl,e1,_,_,rfl,rfl,by rw[Tq];show 1+1<=sizeLine;decide,?_⟩;refine⟨_,rfl,_,rfl,_,_,rfl,rfl,⟨by decide,by decide⟩,_,_,rfl,rfl,(by show(0:Int)<91;decide),Nq,_,v2,rfl,rfl,by ac_rfl,e2,_,_,rfl,rfl,by rw[Hu,Tq];show 1+1+1<=sizeLine;decide,?_⟩;exact q _ (by rw[Hu,Hu,Tq];rfl)
def SY:List hY:=match(Fq M0).getD 0 (.Pass ⟨0,0,0,0⟩) with|.Return (some (.Tuple v _ _)) _=>v|_=>[]
theorem cz:KS SY=some sought:=by ac_rfl
theorem gk:Az [] [] (Ao M0):=by ac_rfl
theorem fH(F:Aj K "_law_sought" "_law_sought" M0 f fd):AW P w K mg base Ah 1 f fd [] XG:=by
 refine F.ok gk ?_ ?_
 ·rintro _ _ _ _ ⟨rfl,_⟩;rfl
 ·rintro _ A _ s H _ Q E hr ⟨rfl,q⟩;refine⟨_,@AS _ _ _ (@An _ _ _ _ (@CQ _ SY _ _ _ (@Sq _ SY sought cz))),?_⟩;exact⟨by show 9<=sizeLine;decide,fun p hp=>q p _ (Aa hp) AN⟩
noncomputable def Th:List Str:=["oak","[a]","elm","[b]","ash","[cat]","oak","[catalogue]","[]","a[b]","[zed]","Oak"]
noncomputable def oR:List Str:=["oaks","oa","elmelmelm","oakum"]
def menu:List Str:=Th++oR
theorem gV:menu.length=16:=by ac_rfl
theorem dh:∀z∈menu,z.length<=11/\T7 z.cps.toList:=by ac_rfl
def aV:List hY:=match(Fq PK).getD 0 (.Pass ⟨0,0,0,0⟩) with|.Assign _ (.List v _) _=>v|_=>[]
theorem j4:KS aV=some Th:=by ac_rfl
theorem Gy:Az ["_law_cell","_law_k","_law_menu","_law_rest","_law_text","_law_left","_law_j","_law_word"] ["_law_cell","_law_k"] (Ao PK):=by ac_rfl
theorem eV{fD fO:Ya}{fdD fdO:qX}(F:Aj K "_law_penned" "_law_penned" PK f fd)(O:Own mg)
 (FD:Aj K "_law_draw" "_law_draw" Pj fD fdD)(bD:Binds K fdD ["_law_number","_law_prime","_law_many"] [])(mD:mg "_law_draw" =some (.ref fD))
 (FO:Aj K "_law_odd_word" "_law_odd_word" P2 fO fdO)(bO:Binds K fdO ["_law_spot"] [])(mO:mg "_law_odd_word" =some (.ref fO)):AW P w K mg base Ah 2 f fd ["_law_cell","_law_k"] Xf:=by
 have GD:AW P w K mg base Ah 1 fD fdD ["_law_number","_law_prime","_law_many"] Yz:=j8 FD;have GO:AW P w K mg base Ah 1 fO fdO ["_law_spot"] Zc:=kf FO;refine F.ok Gy ?_ ?_
 ·rintro _ _ _ _ ⟨_,_,rfl,_⟩;rfl
 ·rintro _ A _ s H _ Q E hr ⟨c,k,rfl,q⟩;refine⟨_,@AU _ _ _ _ _ (@jH _ 2 aV Th j4 _ _ _ _ Gy.nd rfl (AZ rfl) rfl)
   (AU (Au (i:=2) Gy.nd rfl (AZ rfl) (Ai JL (pv 2) (Bx (AE AY (AE AY (AE AY (AE AY AI)))))))
   (AU (Au (i:=3) Gy.nd rfl (AZ rfl) (Ai KC (pv 0) Ac))
   (AU (Au (i:=4) Gy.nd rfl (AZ rfl) (Bt Co (Bx (AE AY (AE AY AI))) (Ai CB (pv 3) Ac) (fun _ _=>rfl)))
   (AU (Au (i:=5) Gy.nd rfl (AZ rfl) (Ck GD hr rfl mD FD.kp bD .nil A8 (AE (Ai DO (pv 0) (Ai Pf Ac (pv 1))) (AE Ac (AE Ac AI)))))
   (AU (EI ED rfl (Rp rfl O.Ks (AE (Bt Co (Bx (AE (Ai CB (Ai DO (pv 3) (pv 1)) Ac) (AE Ac AI))) (EE Jy rfl O.int JJ (AE (G0 BW (Ai CB (pv 0) Ac) Ac (Ar _)) AI)) (fun _ _=>rfl)) AI)) (Bc (i:=6) Gy.nd rfl (AZ rfl))
    (AU (Au (i:=7) Gy.nd rfl (AZ rfl) (Bt Co (pv 2) (Ai CB (Ai DO (Ai DO (pv 5) (Ai Pf Ac (pv 6))) (pv 1)) Ac) (fun _ _=>rfl)))
    (AU (A1 (Aw BW (Ai CB (Ai DO (pv 5) (pv 6)) Ac) Ac (Ar _)) (AS (Au (i:=7) Gy.nd rfl (AZ rfl) (Ck GO hr rfl mO FO.kp bO .nil A8 (AE (Ai DO (pv 5) (pv 3)) AI)))) BE)
    (AU (Au (i:=4) Gy.nd rfl (AZ rfl) (Ai ET (Ai ET (pv 4) (pv 7)) (Ai Vm AY (Bt Co (Bx (AE Ac (AE Ac (AE Ac (AE Ac (AE Ac AI)))))) (Ai CB (Ai DO (pv 5) (pv 6)) Ac) (fun _ _=>rfl)))))
    (AS (Au (i:=5) Gy.nd rfl (AZ rfl) (Ai KC (pv 5) Ac)))))))
   (AS (An (pv 4)))))))),?_⟩;refine⟨by show 12<=sizeLine;decide,fun m0 hm0=>⟨_,rfl,by show 4<=sizeLine;decide,fun l4 hl4=>?_⟩⟩;have n04:m0≠l4:=A2 AN hl4;refine⟨m0,l4,_,_,rfl,rfl,(by rw[AQ n04];exact AN),AN,by show 16<=sizeLine;decide,fun m hm=>?_⟩;generalize hHm:upd (upd (upd H m0 _) l4 _) m _=Hm;have hmn:H m=none:=((Aa hm0).trans (Aa hl4)).free hm;have sM:AO H Hm:=by rw[<-hHm];exact(((AO.refl H).upd hm0).upd ((Aa hm0).free hl4)).upd hmn
  have mM:Hm m=some (.lst (menu.map V.str)):=by rw[<-hHm];exact AN
  refine⟨_,rfl,_,_,rfl,rfl,⟨by decide,by decide⟩,by show 2<=sizeLine;decide,fun l2 hl2=>?_⟩;obtain⟨v0,hv0,e0⟩:=Fu [V.str "",V.str " "] 2 rfl (by decide) (c/16);have s2:AO Hm (upd Hm l2 (.lst [V.str "",V.str " "])):=Aa hl2;have ht0:∃t0:Str,v0=.str t0/\t0.length<=1/\Ny t0.cps.toList:=by
   rcases Ba.mp hv0 with e|e
   ·exact⟨"",e,by ac_rfl,by ac_rfl,.inl rfl⟩
   ·exact⟨" ",by simpa using e,by ac_rfl,by ac_rfl,.inr ⟨[],by ac_rfl⟩⟩
  obtain⟨t0,rfl,hl0,hb0⟩:=ht0;refine⟨_,rfl,_,_,rfl,rfl,(by show(0:Int)<2;decide),l2,_,_,.str t0,rfl,rfl,AJ.of AN,e0,?_⟩;refine⟨_,rfl,_,rfl,_,_,rfl,rfl,.inl ⟨by decide,by decide⟩,_,_,rfl,rfl,_,_,_,rfl,by decide,by decide,fun left0=>?_⟩;have mM2:=s2 _ _ mM;have sM2:=sM.trans s2;generalize upd Hm l2 (.lst [V.str "",V.str " "])=H2 at mM2 sM2;refine⟨_,rfl,_,rfl,_,_,rfl,rfl,_,_,rfl,rfl,(by show(0:Int)<7;decide),by show 2<=sizeLine;decide,fun l3 hl3=>?_⟩;have hm7:0<=(c/16+k)%7/\(c/16+k)%7<7:=⟨RC _ (by decide),Qq _ (by decide)⟩;have s3:AO H2 (upd H2 l3 (.lst [V.int ((c/16+k)%7),V.int 24])):=Aa hl3;have hev:∀b:Bool,∃nn:Int,0<=nn/\nn<=24/\Fe [V.int ((c/16+k)%7),V.int 24] (if b=true then 1 else 0)=some (.int nn):=fun b=>by
   cases b with
   |false=>exact⟨((c/16+k)%7),hm7.1,by lia,rfl⟩
   |true=>exact⟨24,by decide,by decide,rfl⟩
  obtain⟨nn,hn0,hn24,en⟩:=hev (decide (V.int (c%37)=V.int 4));refine⟨_,rfl,_,_,rfl,rfl,(by show(0:Int)<37;decide),rfl,.inr ⟨_,rfl,l3,_,_,.int nn,rfl,rfl,AJ.of AN,en,nn,rfl,by lia,by lia,?_⟩⟩;have mM3:=s3 _ _ mM2;have sM3:=sM2.trans s3;refine Oi (lo:=0) (n:=nn.toNat) (fun i σ H'=>∃(t:Str)(left:Int)(v6 v7:Option V),σ=[some (.int c),some (.int k),some (.ref m),some (.int (c/16)),some (.str t),some (.int left),v6,v7]/\AO (upd H2 l3 (.lst [V.int ((c/16+k)%7),V.int 24])) H'/\t.length<=1+16*i/\Ny t.cps.toList)
   ⟨t0,left0,none,none,rfl,AO.refl _,by lia,hb0⟩ ?_ ?_
  ·rintro i σ H' hi ⟨t,left,v6,v7,rfl,sm,tl,tb⟩;obtain⟨vw,hvw,ew⟩:=Fu (menu.map V.str) 16 (by rw[AL];exact gV) (by decide) (left+5*(0+(i:Int))+k);obtain⟨wd,hwd,rfl⟩:=BI.mp hvw;have hwl:=dh wd hwd;refine⟨_,rfl,_,rfl,_,rfl,_,_,rfl,rfl,.inl ⟨by decide,by decide⟩,_,_,rfl,rfl,_,rfl,_,_,rfl,rfl,_,_,rfl,rfl,(by show(0:Int)<16;decide),m,_,_,.str wd,rfl,rfl,AJ.of (sm _ _ mM3),ew,?_⟩;dsimp only[Dy];refine Mv (fun σ H2=>∃wd:Str,(wd.length<=11/\T7 wd.cps.toList)/\σ=[some (.int c),some (.int k),some (.ref m),some (.int (c/16)),some (.str t),some (.int left),some (.int (0+(i:Int))),some (.str wd)]/\H2=H') ?_ ?_
   ·rintro σ H2 ⟨wd,⟨hwl,h7⟩,rfl,rfl⟩;obtain⟨vb,hvb,eb⟩:=Fu [V.int 1,V.int 1,V.int 1,V.int 2,V.int 5] 5 rfl (by decide) (left+(0+(i:Int)));have hb:∃nb:Int,vb=.int nb/\1<=nb/\nb<=5:=by simp only[Ba,Iy,J7] at hvb;rcases hvb with e|e|e|e|e<;>exact⟨_,e,by decide,by decide⟩
    obtain⟨nb,rfl,hb0,hb5⟩:=hb;refine⟨_,rfl,_,rfl,t,wd,rfl,rfl,by rw[A3];lia,by show 5<=sizeLine;decide,fun l5 hl5=>?_⟩;refine⟨_,rfl,_,rfl,_,_,rfl,rfl,_,_,rfl,rfl,(by show(0:Int)<5;decide),l5,_,_,.int nb,rfl,rfl,AJ.of AN,eb," ",nb,rfl,rfl,cM nb (by lia) (by lia),t++wd,_,rfl,rfl,by rw[Hu,VY,A3];lia,?_⟩;exact⟨_,rfl,_,_,rfl,rfl,⟨by decide,by decide⟩,_,_,_,_,rfl,sm.trans (Aa hl5),by rw[Hu,Hu,VY];lia,by rw[Om,Om,Wj,show nb.toNat=(nb.toNat-1)+1 by lia];exact tb.add h7 _⟩
   ·intro hG;refine⟨_,rfl,_,rfl,_,_,rfl,rfl,_,_,rfl,rfl,(by show(0:Int)<13;decide),rfl,_,rfl,FR (fun _=>?_) (fun _=>?_)⟩
    ·exact⟨_,rfl,_,rfl,_,_,rfl,rfl,_,rfl,fun z hz=>hG _ _ ⟨z,⟨by lia,fun p hp=>by have:=Xr _ p hp;rw[LJ] at this;lia⟩,rfl,rfl⟩⟩
    ·exact hG _ _ ⟨wd,hwl,rfl,rfl⟩
  ·rintro σ H' ⟨t,left,v6,v7,rfl,sm,tl,tb⟩;exact⟨_,rfl,q t H' ⟨by lia,tb.ok⟩ (sM3.trans sm)⟩
inductive Am where
 |write (n t:Str)|rename (n o:Str)|join (n o:Str)|cut (n:Str) (p:Int) (o:Str)|drop (n:Str)|text (n:Str)|back (o:Str)|find (ws:List Str) (far:Int)
noncomputable def Am.dt:Am->Dt
 |.write n t=>.tup [.str "write",.str n,.str t]
 |.rename n o=>.tup [.str "rename",.str n,.str o]
 |.join n o=>.tup [.str "join",.str n,.str o]
 |.cut n p o=>.tup [.str "cut",.str n,.int p,.str o]
 |.drop n=>.tup [.str "drop",.str n]
 |.text n=>.tup [.str "text",.str n]
 |.back o=>.tup [.str "back",.str o]
 |.find ws far=>.tup [.str "find",.tup (ws.map Dt.str),.int far]
def Am.Good:Am->Prop
 |.write n t=>n.length<=40/\t.length<=1000
 |.rename n o=>n.length<=40/\o.length<=40
 |.join n o=>n.length<=40/\o.length<=40
 |.cut n _ o=>n.length<=40/\o.length<=40
 |.drop n=>n.length<=40
 |.text n=>n.length<=40
 |.back o=>o.length<=40
 |.find ws _=>ws.length<=9/\∀z∈ws,z.length<=9
def Am.Kp:Am->Prop
 |.write n t=>n.length≠5/\T7 t.cps.toList
 |.rename _ o=>o.length≠5
 |.cut _ _ o=>o.length≠5
 |_=>True
abbrev L5(n:Str):Prop:=n.length<=40/\n.length≠5
def X2:Sp:=fun vs H Q _=>∃(a:Ya)(ns:List Int),vs=[.ref a]/\AJ [] H a (ns.map V.int)/\ns.length<=63/\
 ∀(L:Ya)(ds:List Am)(xs:List V)(H':Hp),AO H H'->H L=none->H' L=some (.lst xs)->Ae (Ex H' L) (ds.map Am.dt) xs->ds.length=ns.length->(∀d∈ds,d.Good/\d.Kp)->Q (.ref L) H'
structure LI(H H':Hp)(nm M:Ya)(xs:List V)(ds:List Am):Prop where
 same:AO H H'
 QQ:H' nm=some (.lst [.str "a",.str "b",.str "cat",.str "catalogue"])
 Dh:H' M=some (.lst xs)
 Uw:H M=none
 ne:nm≠M
 rep:Ae (Ex H' M) (ds.map Am.dt) xs
 good:∀d∈ds,d.Good/\d.Kp
theorem LI.ext{nm M:Ya}{xs:List V}{ds:List Am}(h:LI H H' nm M xs ds)(s:AO H' H2):LI H H2 nm M xs ds:=
 ⟨h.same.trans s,s _ _ h.QQ,s _ _ h.Dh,h.Uw,h.ne,h.rep.same (Ex.mono s),h.good⟩
theorem LI.new{nm M l:Ya}{o:HO}{xs:List V}{ds:List Am}(h:LI H H' nm M xs ds)(hl:H' l=none):LI H (upd H' l o) nm M xs ds:=h.ext (Aa hl)
theorem LI.push{nm M:Ya}{xs:List V}{ds:List Am}{d:Am}{x:V}(h:LI H H' nm M xs ds)(r:Rep (Ex H' M) d.dt x)(g:d.Good/\d.Kp):LI H (upd H' M (.lst (xs++[x]))) nm M (xs++[x]) (ds++[d]):=by
 refine⟨h.same.upd h.Uw,by rw[AQ h.ne];exact h.QQ,AN,h.Uw,h.ne,?_,fun e he=>?_⟩
 ·rw[Ex.upd,BS];exact h.rep.snoc r
 ·rcases Bh.mp he with z|z
  ·exact h.good e z
  ·rw[Bg.mp z];exact g
theorem XC:∀ws:List Str,Ae H (ws.map Dt.str) (ws.map V.str):=fun ws=>by
 refine⟨by rw[AL,AL],fun i d x h1 h2=>?_⟩;rw[Ax] at h1 h2
 cases e:ws[i]?with
 |none=>rw[e] at h1;cases h1
 |some z=>
 rw[e] at h1 h2;cases Ag h1;cases Ag h2;exact .str z
noncomputable def Uv:Str:="abcdefghijklmnopqrstuvwxyz"
theorem jD:Uv.cps.toList.length=26:=by ac_rfl
noncomputable def Ul:Str:=Txt.mul "e" 40
theorem ka:MulOk "e" 40:=mulOk_of 1 40 (by ac_rfl) (by decide) (by decide) (by decide) (by decide)
theorem cP:∀z∈sought,z.length<=9:=by ac_rfl
theorem gF(ws:List Str)(lo hi:Option Int):∃vs:List Str,DQ (ws.map V.str) lo hi=vs.map V.str/\vs.length<=ws.length/\∀z∈vs,z∈ws:=by
 unfold DQ;refine⟨(ws.drop (BC (ws.map V.str).length 0 lo)).take (BC (ws.map V.str).length (ws.map V.str).length hi-BC (ws.map V.str).length 0 lo),by rw[OW,OX],?_,fun z hz=>Jm (Hh hz)⟩;rw[Bl,EC]
 lia
theorem DX:Az ["_law_cells","_law_names","_law_made","_law_k","_law_rest","_law_pick","_law_name","_law_near","_law_other","_law_place","_law_odd","_law_stop","_law_words","_law_far"] ["_law_cells"] (Ao TN):=by ac_rfl
theorem iZ{fS:Ya}{fdS:qX}(F:Aj K "_law_deeds" "_law_deeds" TN f fd)(O:Own mg)
 (HP:Hv P w K mg base "_law_penned" 2 ["_law_cell","_law_k"] Xf)
 (FS:Aj K "_law_sought" "_law_sought" M0 fS fdS)(bS:Binds K fdS [] [])(mS:mg "_law_sought" =some (.ref fS)):AW P w K mg base Ah 3 f fd ["_law_cells"] X2:=by
 have GS:AW P w K mg base Ah 1 fS fdS [] XG:=fH FS;refine F.ok DX ?_ ?_
 ·rintro _ _ _ _ ⟨_,_,rfl,_⟩;rfl
 ·rintro _ A _ s H _ Q E hr ⟨a,ns,rfl,hS,hlen,q⟩;have hr1:Bi 1 _:=hr.mono (by decide);refine⟨_,(AU (Au (i:=1) DX.nd rfl (AZ rfl) (Bx (AE AY (AE AY (AE AY (AE AY AI)))))) (AU (Au (i:=2) DX.nd rfl (AZ rfl) (Bx AI)) (AU (EI ED rfl (Rp rfl O.Ks (AE (BY HQ rfl O.len Dj (AE (pv 0) AI)) AI)) (Bc (i:=3) DX.nd rfl (AZ rfl))
   (AU (Au (i:=4) DX.nd rfl (AZ rfl) (Ai KC (Bt Co (pv 0) (pv 3) (fun _ _=>rfl)) Ac)) (AU (Au (i:=5) DX.nd rfl (AZ rfl) (Ai CB (Ai DO (Bt Co (pv 0) (pv 3) (fun _ _=>rfl)) (Ai Pf Ac (pv 3))) Ac)) (AU (Au (i:=6) DX.nd rfl (AZ rfl) (Bt Co (pv 1) (Ai CB (Ai DO (pv 4) (pv 3)) Ac) (fun _ _=>rfl))) (AU (Au (i:=7) DX.nd rfl (AZ rfl) (Bt Co (pv 0) (Ai CB (Ai DO (pv 3) Ac) (BY HQ rfl O.len Dj (AE (pv 0) AI))) (fun _ _=>rfl))) (AU (Au (i:=8) DX.nd rfl (AZ rfl) (Bt Co (Ai JL (pv 1) (Bx (AE AY (AE (Ai Vm AY Ac) AI)))) (Ai CB (Ai DO (pv 7) (Ai KC (pv 3) Ac)) Ac) (fun _ _=>rfl))) (AU (Au (i:=9) DX.nd rfl (AZ rfl) (Ai CB (Ai DO (Ai KC (pv 7) Ac) (pv 3)) Ac)) (AU (A1 (Aw BW (Ai CB (Bt Co (pv 0) (pv 3) (fun _ _=>rfl)) Ac) Ac (Ar _))
   (AS (Au (i:=9) DX.nd rfl (AZ rfl) (Bt Co (Bx (AE (Eb EY Ac) (AE (Ai S6 Ac Ac) (AE (Ai TR (Eb EY Ac) (Ai CB (pv 4) (Ai S6 Ac Ac))) (AE (Ai CB (pv 7) Ac) AI))))) (Ai CB (pv 4) Ac) (fun _ _=>rfl))))
   BE) (AU (Au (i:=10) DX.nd rfl (AZ rfl) (Ai ET AY (Bt PZ AY (Ai CB (pv 4) Ac) (fun _ _=>rfl)))) (AU (Au (i:=6) DX.nd rfl (AZ rfl) (Bt Co (Bx (AE (pv 6) (AE (pv 10) AI))) (EE Jy rfl O.int JJ (AE (G0 BW (Ai CB (Bt Co (pv 0) (pv 3) (fun _ _=>rfl)) Ac) Ac (Ar _)) AI)) (fun _ _=>rfl))) (AU (Au (i:=8) DX.nd rfl (AZ rfl) (Bt Co (Bx (AE (pv 8) (AE (pv 10) AI))) (EE Jy rfl O.int JJ (AE (G0 BW (Ai CB (Bt Co (pv 0) (pv 3) (fun _ _=>rfl)) Ac) Ac (Ar _)) AI)) (fun _ _=>rfl))) (AU (A1 (Aw BW (Ai CB (Bt Co (pv 0) (pv 3) (fun _ _=>rfl)) Ac) Ac (Ar _))
   (AS (Au (i:=8) DX.nd rfl (AZ rfl) (Bt Co (Bx (AE AY (AE AY (AE AY (AE AY AI))))) (Ai CB (pv 4) Ac) (fun _ _=>rfl))))
   BE) (AS (A1 (Aw JQ (pv 5) Ac (Ar _))
   (AU (A1 (Aw BW (Ai CB (Bt Co (pv 0) (pv 3) (fun _ _=>rfl)) Ac) Ac (Ar _))
   (AS (Au (i:=6) DX.nd rfl (AZ rfl) (pv 8)))
   BE) (AS (Bn (D7 D9 Fh Fg Ep (pv 2) (AE (CQ (AE AY (AE (pv 6) (AE (Ca HP hr rfl A8 (AE (Bt Co (pv 0) (pv 3) (fun _ _=>rfl)) (AE (pv 3) AI))) AI)))) AI)))))
   (AS (A1 (Aw JQ (pv 5) Ac (Ar _))
   (AS (Bn (D7 D9 Fh Fg Ep (pv 2) (AE (CQ (AE AY (AE (pv 6) (AE (pv 8) AI)))) AI))))
   (AS (A1 (Aw JQ (pv 5) Ac (Ar _))
   (AS (Bn (D7 D9 Fh Fg Ep (pv 2) (AE (CQ (AE AY (AE (pv 6) (AE (pv 8) AI)))) AI))))
   (AS (A1 (Aw JQ (pv 5) Ac (Ar _))
   (AS (Bn (D7 D9 Fh Fg Ep (pv 2) (AE (CQ (AE AY (AE (pv 6) (AE (pv 9) (AE (pv 8) AI))))) AI))))
   (AS (A1 (Aw BW (pv 5) Ac (Ar _))
   (AS (Bn (D7 D9 Fh Fg Ep (pv 2) (AE (CQ (AE AY (AE (pv 6) AI))) AI))))
   (AS (A1 (Aw BW (pv 5) Ac (Ar _))
   (AS (Bn (D7 D9 Fh Fg Ep (pv 2) (AE (CQ (AE AY (AE (pv 6) AI))) AI))))
   (AS (A1 (Aw BW (pv 5) Ac (Ar _))
   (AS (Bn (D7 D9 Fh Fg Ep (pv 2) (AE (CQ (AE AY (AE (pv 8) AI))) AI))))
   (AU (Au (i:=11) DX.nd rfl (AZ rfl) (Ai DO (Ai CB (pv 4) Ac) (Ai CB (Ai DO (pv 7) (pv 3)) Ac))) (AU (Au (i:=12) DX.nd rfl (AZ rfl) (Fo o4 (Xk GS hr1 rfl mS FS.kp bS .nil A8) (Dk (Ai CB (pv 4) Ac)) (Dk (pv 11)))) (AU (Au (i:=13) DX.nd rfl (AZ rfl) (Bx (AE (Ai CB (Ai DO (Ai KC (pv 7) Ac) (pv 3)) Ac) (AE (Eb EY Ac) (AE (Ai S6 Ac Ac) (AE (Ai CB (pv 7) Ac) AI)))))) (AU (Au (i:=13) DX.nd rfl (AZ rfl) (Bt Co (pv 13) (Ai CB (Bt Co (pv 0) (Ai CB (Ai DO (pv 3) Ac) (BY HQ rfl O.len Dj (AE (pv 0) AI))) (fun _ _=>rfl)) Ac) (fun _ _=>rfl))) (AS (Bn (D7 D9 Fh Fg Ep (pv 2) (AE (CQ (AE AY (AE (pv 12) (AE (pv 13) AI)))) AI)))))))))))))))))))))))))))))))))) (AS (An (pv 2)))))),?_⟩;refine⟨by show 4<=sizeLine;decide,fun nm hnm=>⟨by show 0<=sizeLine;decide,fun M hM=>?_⟩⟩;have s1:AO H (upd H nm (.lst [.str "a",.str "b",.str "cat",.str "catalogue"])):=Aa hnm;have hMn:H M=none:=s1.free hM;have nnM:nm≠M:=A2 AN hM;have hnl:(ns.map V.int).length=ns.length:=AL ..;have li0:LI H (upd (upd H nm (.lst [.str "a",.str "b",.str "cat",.str "catalogue"])) M (.lst [])) nm M [] []:=
   ⟨s1.upd hMn,by rw[AQ nnM];exact AN,AN,hMn,nnM,Ae.nil,fun d hd=>by cases hd⟩;refine⟨_,rfl,a,_,rfl,.inl (li0.same.seq hS),((ns.map V.int).length:Int),rfl,by lia,by lia,?_⟩;refine Oi (lo:=0) (n:=(ns.map V.int).length) (fun i σ H'=>∃(xs:List V)(ds:List Am)(v3 v4 v5 v6 v7 v8 v9 v10 v11 v12 v13:Option V),σ=[some (.ref a),some (.ref nm),some (.ref M),v3,v4,v5,v6,v7,v8,v9,v10,v11,v12,v13]/\LI H H' nm M xs ds/\xs.length=i/\ds.length=i)
   ⟨[],[],none,none,none,none,none,none,none,none,none,none,none,rfl,li0,rfl,rfl⟩ ?_ ?_
  ·rintro i σ H' hi ⟨xs,ds,v3,v4,v5,v6,v7,v8,v9,v10,v11,v12,v13,rfl,li,hxl,hdl⟩;rw[hnl] at hi;have hSi:∀{H2:Hp},LI H H2 nm M xs ds->AJ [] H2 a (ns.map V.int):=fun l=>l.same.seq hS;generalize ev:ns.getD i 0=c;have hat:Fe (ns.map V.int) (0+(i:Int))=some (.int c):=by rw[Int.zero_add];refine Bw ?_;rw[Ax,Aq hi,<-ev,Ct,Aq hi];rfl
   have hcell:∀j:Int,∃z:Int,Fe (ns.map V.int) (j%((ns.map V.int).length:Nat))=some (.int z):=fun j=>by obtain⟨v,hv,e⟩:=Fu (ns.map V.int) (ns.map V.int).length rfl (by lia) j;obtain⟨z,_,rfl⟩:=BI.mp hv;exact⟨z,e⟩
   have hpos:(0:Int)<((ns.map V.int).length:Nat):=by lia
   refine⟨_,rfl,_,rfl,a,_,_,.int c,rfl,rfl,hSi li,hat,_,_,rfl,rfl,⟨by decide,by decide⟩,?_⟩;refine⟨_,rfl,_,rfl,a,_,_,.int c,rfl,rfl,hSi li,hat,_,rfl,_,_,rfl,rfl,.inl ⟨by decide,by decide⟩,_,_,rfl,rfl,_,_,rfl,rfl,(by show(0:Int)<16;decide),?_⟩;obtain⟨vn,hvn,en⟩:=Fu [V.str "a",V.str "b",V.str "cat",V.str "catalogue"] 4 rfl (by decide) (c/16+(0+(i:Int)));have hn0:∃n0:Str,vn=.str n0/\L5 n0:=by simp only[Ba,Iy,J7] at hvn;rcases hvn with e|e|e|e<;>exact⟨_,e,by ac_rfl⟩
   obtain⟨n0,rfl,ln0⟩:=hn0;refine⟨_,rfl,_,rfl,_,rfl,_,_,rfl,rfl,_,_,rfl,rfl,(by show(0:Int)<4;decide),nm,_,_,.str n0,rfl,rfl,AJ.of li.QQ,en,?_⟩;obtain⟨near,enear⟩:=hcell (0+(i:Int)+1);refine⟨_,rfl,_,rfl,_,_,rfl,rfl,_,rfl,a,_,rfl,.inl (hSi li),_,_,rfl,rfl,hpos,a,_,_,.int near,rfl,rfl,hSi li,enear,?_⟩;refine⟨_,rfl,"e",40,rfl,rfl,ka,by show 2<=sizeLine;decide,fun l2 hl2=>?_⟩;have li2:=li.new (o:=.lst [V.str "zed",V.str Ul]) hl2;refine⟨nm,l2,_,_,rfl,rfl,li2.QQ,AN,by show 6<=sizeLine;decide,fun l6 hl6=>?_⟩;have li6:=li2.new (o:=.lst ([V.str "a",V.str "b",V.str "cat",V.str "catalogue"]++[V.str "zed",V.str Ul])) hl6;obtain⟨vo,hvo,eo⟩:=Fu ([V.str "a",V.str "b",V.str "cat",V.str "catalogue"]++[V.str "zed",V.str Ul]) 6 rfl (by decide) (near+(0+(i:Int))/2);have ho0:∃o0:Str,vo=.str o0/\L5 o0:=by
    simp only[Bh,Ba,Iy,J7] at hvo;rcases hvo with(e|e|e|e)|e|e
    ·exact⟨_,e,by ac_rfl⟩
    ·exact⟨_,e,by ac_rfl⟩
    ·exact⟨_,e,by ac_rfl⟩
    ·exact⟨_,e,by ac_rfl⟩
    ·exact⟨_,e,by ac_rfl⟩
    ·exact⟨_,e,by ac_rfl⟩
   obtain⟨o0,rfl,lo0⟩:=ho0;refine⟨_,rfl,_,rfl,_,_,rfl,rfl,⟨by decide,by decide⟩,_,_,rfl,rfl,_,_,rfl,rfl,(by show(0:Int)<6;decide),l6,_,_,.str o0,rfl,rfl,AJ.of AN,eo,?_⟩;clear li li2;change LI H (upd (upd H' l2 (.lst [V.str "zed",V.str (Txt.mul "e" 40)])) l6 (.lst ([V.str "a",V.str "b",V.str "cat",V.str "catalogue"]++[V.str "zed",V.str (Txt.mul "e" 40)]))) nm M xs ds at li6;generalize upd (upd H' l2 (.lst [V.str "zed",V.str (Txt.mul "e" 40)])) l6 (.lst ([V.str "a",V.str "b",V.str "cat",V.str "catalogue"]++[V.str "zed",V.str (Txt.mul "e" 40)]))=H6 at li6;refine⟨_,rfl,_,_,rfl,rfl,⟨by decide,by decide⟩,_,rfl,_,_,rfl,rfl,_,_,rfl,rfl,(by show(0:Int)<8;decide),?_⟩;dsimp only[Dy];refine Mv (fun σ H7=>∃pl:Int,σ=[some (.ref a),some (.ref nm),some (.ref M),some (.int (0+(i:Int))),some (.int (c/16)),some (.int ((c+5*(0+(i:Int)))%16)),some (.str n0),some (.int near),some (.str o0),some (.int pl),v10,v11,v12,v13]/\LI H H7 nm M xs ds) ?_ ?_
   ·rintro σ H7 ⟨pl,rfl,li⟩;have fin:∀(d:Am)(dds:List Dt)(es:List V)(tp:Ya)(H9:Hp)(w3 w4 w5 w6 w7 w8 w9 w10 w11 w12 w13:Option V),LI H H9 nm M xs ds->H9 tp=none->d.dt=.tup dds->Ae (Ex H9 M) dds es->d.Good/\d.Kp->
     ∃(xs':List V)(ds':List Am)(v3 v4 v5 v6 v7 v8 v9 v10 v11 v12 v13:Option V),([some (.ref a),some (.ref nm),some (.ref M),w3,w4,w5,w6,w7,w8,w9,w10,w11,w12,w13]:St)=[some (.ref a),some (.ref nm),some (.ref M),v3,v4,v5,v6,v7,v8,v9,v10,v11,v12,v13]/\
      LI H (upd (upd H9 tp (.tup es)) M (.lst (xs++[V.ref tp]))) nm M xs' ds'/\xs'.length=i+1/\ds'.length=i+1:=by
     intro d dds es tp H9 w3 w4 w5 w6 w7 w8 w9 w10 w11 w12 w13 l9 htp ed rp gd;have ntM:tp≠M:=(A2 l9.Dh htp).symm;have lt:=l9.new (o:=.tup es) htp;refine⟨_,_,_,_,_,_,_,_,_,_,_,_,_,rfl,lt.push (d:=d) ?_ gd,by rw[A7,hxl];rfl,by rw[A7,hdl];rfl⟩;rw[ed];exact Rep.Km (Ex.at AN ntM) (rp.same (Ex.mono (Aa htp)))
    have hxs:xs.length<sizeLine:=by rw[hxl,A3];lia
    obtain⟨ch,_,ech⟩:=Fu Uv.cps.toList 26 jD (by decide) (c/16);refine⟨_,rfl,_,_,rfl,rfl,(by show(0:Int)<26;decide),Uv,_,ch,rfl,rfl,by ac_rfl,ech,_,_,rfl,rfl,by show 1+1<=sizeLine;decide,?_⟩;have lodd:L5 (("p" :Str)++(⟨#[ch]⟩:Str)):=by unfold L5;rw[Hu];show 1+1<=40/\1+1≠5;decide
    have hat2:∀(b:Bool)(x y:Str),L5 x->L5 y->∃z:Str,L5 z/\Fe [V.str x,V.str y] (if b=true then 1 else 0)=some (V.str z):=fun b x y hx hy=>by
     cases b with
     |false=>exact⟨x,hx,rfl⟩
     |true=>exact⟨y,hy,rfl⟩
    obtain⟨n1,ln1,en1⟩:=hat2 (decide (V.int (c%23)=V.int 7)) n0 _ ln0 lodd;obtain⟨o1,lo1,eo1⟩:=hat2 (decide (V.int (c%23)=V.int 8)) o0 _ lo0 lodd;refine⟨_,rfl,_,rfl,by show 2<=sizeLine;decide,fun l8 hl8=>⟨_,rfl,_,rfl,a,_,_,.int c,rfl,rfl,hSi (li.new hl8),hat,_,_,rfl,rfl,(by show(0:Int)<23;decide),rfl,.inr ⟨_,rfl,l8,_,_,.str n1,rfl,rfl,AJ.of AN,en1,?_⟩⟩⟩;have li8:=li.new (o:=.lst [V.str n0,V.str (("p" :Str)++(⟨#[ch]⟩:Str))]) hl8;refine⟨_,rfl,_,rfl,by show 2<=sizeLine;decide,fun l9 hl9=>⟨_,rfl,_,rfl,a,_,_,.int c,rfl,rfl,hSi (li8.new hl9),hat,_,_,rfl,rfl,(by show(0:Int)<23;decide),rfl,.inr ⟨_,rfl,l9,_,_,.str o1,rfl,rfl,AJ.of AN,eo1,?_⟩⟩⟩;have li9:=li8.new (o:=.lst [V.str o0,V.str (("p" :Str)++(⟨#[ch]⟩:Str))]) hl9;dsimp only[Dy];refine Mv (fun σ H7=>∃o2:Str,L5 o2/\σ=[some (.ref a),some (.ref nm),some (.ref M),some (.int (0+(i:Int))),some (.int (c/16)),some (.int ((c+5*(0+(i:Int)))%16)),some (.str n1),some (.int near),some (.str o2),some (.int pl),some (.str (("p" :Str)++(⟨#[ch]⟩:Str))),v11,v12,v13]/\LI H H7 nm M xs ds) ?_ ?_
    ·rintro σ HA ⟨o2,FX,rfl,li⟩;refine⟨_,rfl,_,_,rfl,rfl,_,rfl,FR (fun _=>?_) (fun _=>?_)⟩
     ·
      refine Mv (fun σ H7=>∃n2:Str,L5 n2/\σ=[some (.ref a),some (.ref nm),some (.ref M),some (.int (0+(i:Int))),some (.int (c/16)),some (.int ((c+5*(0+(i:Int)))%16)),some (.str n2),some (.int near),some (.str o2),some (.int pl),some (.str (("p" :Str)++(⟨#[ch]⟩:Str))),v11,v12,v13]/\H7=HA) ?_ ?_
      ·rintro σ H7 ⟨n2,ln2,rfl,rfl⟩;refine⟨_,rfl,.inl ⟨rfl,_,AJ.of li.Dh⟩,_,rfl,_,rfl,_,rfl,a,_,_,.int c,rfl,rfl,hSi li,hat,_,rfl,c,_,rfl,fun t H9 lt s9=>⟨by show 3<=sizeLine;decide,fun tp htp=>⟨M,xs,.ref tp,rfl,rfl,((li.ext s9).new htp).Dh,hxs,?_⟩⟩⟩;exact fin (.write n2 t) _ _ tp H9 _ _ _ _ _ _ _ _ _ _ _ (li.ext s9) htp rfl (Ae.snoc (Ae.snoc (Ae.snoc Ae.nil (.str _)) (.str _)) (.str _)) ⟨⟨ln2.1,lt.1⟩,ln2.2,lt.2⟩
      ·intro hG;refine⟨_,rfl,_,rfl,a,_,_,.int c,rfl,rfl,hSi li,hat,_,_,rfl,rfl,(by show(0:Int)<29;decide),rfl,_,rfl,FR (fun _=>?_) (fun _=>?_)⟩
       ·exact⟨_,rfl,hG _ _ ⟨o2,FX,rfl,rfl⟩⟩
       ·exact hG _ _ ⟨n1,ln1,rfl,rfl⟩
     refine⟨_,rfl,_,_,rfl,rfl,_,rfl,FR (fun _=>?_) (fun _=>?_)⟩
     ·exact⟨_,rfl,.inl ⟨rfl,_,AJ.of li.Dh⟩,_,rfl,_,rfl,by show 3<=sizeLine;decide,fun tp htp=>⟨M,xs,.ref tp,rfl,rfl,(li.new htp).Dh,hxs,fin (.rename n1 o2) _ _ tp HA _ _ _ _ _ _ _ _ _ _ _ li htp rfl (Ae.snoc (Ae.snoc (Ae.snoc Ae.nil (.str _)) (.str _)) (.str _)) ⟨⟨ln1.1,FX.1⟩,FX.2⟩⟩⟩
     refine⟨_,rfl,_,_,rfl,rfl,_,rfl,FR (fun _=>?_) (fun _=>?_)⟩
     ·exact⟨_,rfl,.inl ⟨rfl,_,AJ.of li.Dh⟩,_,rfl,_,rfl,by show 3<=sizeLine;decide,fun tp htp=>⟨M,xs,.ref tp,rfl,rfl,(li.new htp).Dh,hxs,fin (.join n1 o2) _ _ tp HA _ _ _ _ _ _ _ _ _ _ _ li htp rfl (Ae.snoc (Ae.snoc (Ae.snoc Ae.nil (.str _)) (.str _)) (.str _)) ⟨⟨ln1.1,FX.1⟩,trivial⟩⟩⟩
     refine⟨_,rfl,_,_,rfl,rfl,_,rfl,FR (fun _=>?_) (fun _=>?_)⟩
     ·exact⟨_,rfl,.inl ⟨rfl,_,AJ.of li.Dh⟩,_,rfl,_,rfl,_,rfl,by show 4<=sizeLine;decide,fun tp htp=>⟨M,xs,.ref tp,rfl,rfl,(li.new htp).Dh,hxs,fin (.cut n1 pl o2) _ _ tp HA _ _ _ _ _ _ _ _ _ _ _ li htp rfl (Ae.snoc (Ae.snoc (Ae.snoc (Ae.snoc Ae.nil (.str _)) (.str _)) (.int _)) (.str _)) ⟨⟨ln1.1,FX.1⟩,FX.2⟩⟩⟩
     refine⟨_,rfl,rfl,_,rfl,FR (fun _=>?_) (fun _=>?_)⟩
     ·exact⟨_,rfl,.inl ⟨rfl,_,AJ.of li.Dh⟩,_,rfl,by show 2<=sizeLine;decide,fun tp htp=>⟨M,xs,.ref tp,rfl,rfl,(li.new htp).Dh,hxs,fin (.drop n1) _ _ tp HA _ _ _ _ _ _ _ _ _ _ _ li htp rfl (Ae.snoc (Ae.snoc Ae.nil (.str _)) (.str _)) ⟨ln1.1,trivial⟩⟩⟩
     refine⟨_,rfl,rfl,_,rfl,FR (fun _=>?_) (fun _=>?_)⟩
     ·exact⟨_,rfl,.inl ⟨rfl,_,AJ.of li.Dh⟩,_,rfl,by show 2<=sizeLine;decide,fun tp htp=>⟨M,xs,.ref tp,rfl,rfl,(li.new htp).Dh,hxs,fin (.text n1) _ _ tp HA _ _ _ _ _ _ _ _ _ _ _ li htp rfl (Ae.snoc (Ae.snoc Ae.nil (.str _)) (.str _)) ⟨ln1.1,trivial⟩⟩⟩
     refine⟨_,rfl,rfl,_,rfl,FR (fun _=>?_) (fun _=>?_)⟩
     ·exact⟨_,rfl,.inl ⟨rfl,_,AJ.of li.Dh⟩,_,rfl,by show 2<=sizeLine;decide,fun tp htp=>⟨M,xs,.ref tp,rfl,rfl,(li.new htp).Dh,hxs,fin (.back o2) _ _ tp HA _ _ _ _ _ _ _ _ _ _ _ li htp rfl (Ae.snoc (Ae.snoc Ae.nil (.str _)) (.str _)) ⟨FX.1,trivial⟩⟩⟩
     have hm7:0<=c/16%7/\c/16%7<7:=⟨RC _ (by decide),Qq _ (by decide)⟩;have hm4:0<=(near+(0+(i:Int)))%4/\(near+(0+(i:Int)))%4<4:=⟨RC _ (by decide),Qq _ (by decide)⟩;refine⟨_,rfl,_,_,rfl,rfl,(by show(0:Int)<7;decide),_,rfl,_,rfl,_,_,rfl,rfl,_,_,rfl,rfl,(by show(0:Int)<4;decide),_,_,rfl,rfl,?_⟩;refine⟨rfl,fun p HB sB hpB=>⟨_,rfl,_,_,rfl,rfl,(by show(0:Int)<7;decide),_,rfl,_,rfl,_,rfl,p,_,rfl,AV.of hpB,?_,fun t ht=>?_⟩⟩
     ·rintro⟨h1,h2⟩;have h1':(if c/16%7<0 then(c/16%7+((9:Nat):Int)).toNat else min (c/16%7).toNat 9)=0:=h1;have h2':(if c/16%7+(near+(0+(i:Int)))%4<0 then(c/16%7+(near+(0+(i:Int)))%4+((9:Nat):Int)).toNat else min (c/16%7+(near+(0+(i:Int)))%4).toNat 9)=9:=h2;rw[AF (by lia)] at h1' h2'
      lia
     obtain⟨ws,ews,lws,mws⟩:=gF sought (some (c/16%7)) (some (c/16%7+(near+(0+(i:Int)))%4));have liB:=(li.ext sB).new (o:=.tup (DQ (sought.map V.str) (some (c/16%7)) (some (c/16%7+(near+(0+(i:Int)))%4)))) ht;have hMB:=(li.ext sB).Dh;have ntM:t≠M:=(A2 hMB ht).symm;have htB:(upd HB t (.tup (DQ (sought.map V.str) (some (c/16%7)) (some (c/16%7+(near+(0+(i:Int)))%4))))) t=some (.tup (ws.map V.str)):=by rw[AN,ews]
     refine⟨_,rfl,_,_,rfl,rfl,⟨by decide,by decide⟩,_,rfl,_,_,rfl,rfl,_,_,rfl,rfl,(by show(0:Int)<6;decide),_,rfl,_,_,rfl,rfl,⟨by decide,by decide,by ac_rfl⟩,_,rfl,_,_,rfl,rfl,(by show(0:Int)<40;decide),by show 4<=sizeLine;decide,fun fl hfl=>?_⟩;obtain⟨z,ez⟩:=hcell (0+(i:Int)+2);obtain⟨vf,hvf,ef⟩:=Fu [V.int ((near/4+(0+(i:Int)))%6),V.int (-1),V.int (10^Int.toNat 9),V.int (near%40)] 4 rfl (by decide) z;have hfar:∃far:Int,vf=.int far:=by simp only[Ba,Iy,J7] at hvf;rcases hvf with e|e|e|e<;>exact⟨_,e⟩
     obtain⟨far,rfl⟩:=hfar;have liC:=liB.new (o:=.lst [V.int ((near/4+(0+(i:Int)))%6),V.int (-1),V.int (10^Int.toNat 9),V.int (near%40)]) hfl;refine⟨_,rfl,_,rfl,_,rfl,_,_,rfl,rfl,_,rfl,a,_,rfl,.inl (hSi liC),_,_,rfl,rfl,hpos,a,_,_,.int z,rfl,rfl,hSi liC,ez,_,_,rfl,rfl,(by show(0:Int)<4;decide),fl,_,_,.int far,rfl,rfl,AJ.of AN,ef,?_⟩;refine⟨_,rfl,.inl ⟨rfl,_,AJ.of liC.Dh⟩,_,rfl,_,rfl,by show 3<=sizeLine;decide,fun tp htp=>⟨M,xs,.ref tp,rfl,rfl,(liC.new htp).Dh,hxs,?_⟩⟩;exact fin (.find ws far) _ _ tp _ _ _ _ _ _ _ _ _ _ _ _ liC htp rfl (Ae.snoc (Ae.snoc (Ae.snoc Ae.nil (.str _)) (Rep.Km (Ex.at ((Aa hfl) _ _ htB) ntM) (XC ws))) (.int _)) ⟨⟨lws,fun z hz=>cP z (mws z hz)⟩,trivial⟩
    ·intro hG;refine⟨_,rfl,_,rfl,a,_,_,.int c,rfl,rfl,hSi li9,hat,_,_,rfl,rfl,(by show(0:Int)<29;decide),rfl,_,rfl,FR (fun _=>?_) (fun _=>?_)⟩
     ·obtain⟨vx,hvx,ex⟩:=Fu [V.str "",V.str "A",V.str "a1",V.str "[a]"] 4 rfl (by decide) (c/16);have hx:∃o2:Str,vx=.str o2/\L5 o2:=by simp only[Ba,Iy,J7] at hvx;rcases hvx with e|e|e|e<;>exact⟨_,e,by ac_rfl⟩
      obtain⟨o2,rfl,FX⟩:=hx;exact⟨by show 4<=sizeLine;decide,fun lx hlx=>⟨_,rfl,_,_,rfl,rfl,(by show(0:Int)<4;decide),lx,_,_,.str o2,rfl,rfl,AJ.of AN,ex,hG _ _ ⟨o2,FX,rfl,li9.new hlx⟩⟩⟩
     ·exact hG _ _ ⟨o1,lo1,rfl,li9⟩
   ·intro hG;refine⟨_,rfl,_,rfl,a,_,_,.int c,rfl,rfl,hSi li6,hat,_,_,rfl,rfl,(by show(0:Int)<31;decide),rfl,_,rfl,FR (fun _=>?_) (fun _=>?_)⟩
    ·refine⟨_,rfl,_,_,rfl,rfl,⟨by decide,by decide,by ac_rfl⟩,_,rfl,_,rfl,_,_,rfl,rfl,⟨by decide,by decide,by ac_rfl⟩,_,_,rfl,rfl,(by show(0:Int)<10^Int.toNat 60;decide+kernel),_,_,rfl,rfl,_,rfl,_,_,rfl,rfl,(by show(0:Int)<30;decide),by show 4<=sizeLine;decide,fun l hl=>?_⟩;obtain⟨vp,hvp,ep⟩:=Fu [V.int (-1),V.int (10^Int.toNat 9),V.int (-2-c/16%10^Int.toNat 60),V.int (near%30)] 4 rfl (by decide) (c/16);have hpl:∃pl:Int,vp=.int pl:=by simp only[Ba,Iy,J7] at hvp;rcases hvp with e|e|e|e<;>exact⟨_,e⟩
     obtain⟨pl,rfl⟩:=hpl;exact⟨_,rfl,_,_,rfl,rfl,(by show(0:Int)<4;decide),l,_,_,.int pl,rfl,rfl,AJ.of AN,ep,hG _ _ ⟨pl,rfl,li6.new hl⟩⟩
    ·exact hG _ _ ⟨_,rfl,li6⟩
  ·rintro σ H' ⟨xs,ds,v3,v4,v5,v6,v7,v8,v9,v10,v11,v12,v13,rfl,li,hxl,hdl⟩;exact⟨_,rfl,q M ds xs H' li.same hMn li.Dh li.rep (by rw[hdl,hnl]) li.good⟩
theorem CN{o:hY}{td:TE}{j}(hu:X.A.units+1<qh)(ho:PE X o td):PE X (.Subscript o (.Constant (.str x) j p) pos) (JO td (tC (.str x))):=Dm hu ho AY fun _ _=>rfl
section
variable[DecidableEq α]{f:α->Key}{g:β->V}(hf:∀a b,f a=f b->a=b)
include hf
noncomputable def AG(l:List (α×β))(k:α):Option β:=(l.find? fun p=>decide (p.1=k)).map (·.2)
noncomputable def AX(l:List (α×β))(k:α)(v:β):List (α×β):=if(l.any fun p=>decide (p.1=k))=true then l.map (fun p=>if p.1=k then(p.1,v) else p) else l++[(k,v)]
noncomputable def AR(l:List (α×β))(k:α):List (α×β):=l.filter fun p=>decide (p.1≠k)
noncomputable def HX(f:α->Key)(g:β->V)(l:List (α×β)):List (Key×V):=l.map fun p=>(f p.1,g p.2)
theorem ma(a b:α):decide (f a=f b)=decide (a=b):=by
 by_cases h:a=b
 ·rw[h];simp
 ·rw[BJ h,BJ (fun z=>h (hf a b z))]
theorem Er(k:α):∀l:List (α×β),Bk (HX f g l) (f k)=(AG l k).map g
 |[]=>rfl
 |p::l=>by
  show Bk ((f p.1,g p.2)::HX f g l) (f k)=_;by_cases h:p.1=k
  ·rw[GG (by rw[h])];unfold AG;rw[C4,BZ h];rfl
  ·rw[GH (fun z=>h (hf _ _ z)),Er k l];unfold AG;rw[C4,BJ h]
theorem J0(k:α)(v:β)(l:List (α×β)):putK (HX f g l) (f k) (g v)=HX f g (AX l k v):=by
 unfold putK AX HX;have e:((l.map fun p=>(f p.1,g p.2)).any fun kv=>decide (kv.1=f k))=l.any fun p=>decide (p.1=k):=by rw[List.any_map];congr 1;funext p;exact ma hf p.1 k
 rw[e];by_cases h:(l.any fun p=>decide (p.1=k))=true
 ·rw[AH h,AH h,BV,BV];refine DF fun p _=>?_;show(if f p.1=f k then(f p.1,g v) else(f p.1,g p.2))=(f (if p.1=k then(p.1,v) else p).1,g (if p.1=k then(p.1,v) else p).2);by_cases hp:p.1=k
  ·rw[AH (by rw[hp]),AH hp]
  ·rw[AF (fun z=>hp (hf _ _ z)),AF hp]
 ·rw[AF h,AF h,BS];rfl
theorem LH(k:α)(l:List (α×β)):JU (HX f g l) (f k)=HX f g (AR l k):=by
 unfold JU AR HX;rw[List.filter_map];congr 1;refine List.filter_congr fun p _=>?_;show decide (f p.1≠f k)=decide (p.1≠k);by_cases h:p.1=k
 ·rw[h];simp
 ·have h2:f p.1≠f k:=fun z=>h (hf _ _ z);rw[BZ h2,BZ (show p.1≠k from h)]
end
theorem FF:∀a b:Int,(Sum.inl a:Key)=Sum.inl b->a=b:=fun _ _ h=>Sum.inl.inj h
theorem Fp:∀a b:Str,(Sum.inr a:Key)=Sum.inr b->a=b:=fun _ _ h=>Sum.inr.inj h
structure Wd where
 to:Bool
 nm:Str
 no:Int
noncomputable def Wd.vq(w:Wd):List V:=[.str (if w.to then "to" else "word"),.str w.nm,.int w.no]
structure Nk where
 names:List (Str×Int)
 texts:List (Int×List Wd)
 made:Int
abbrev F2(l:List (Str×Int)):List (Key×V):=HX Sum.inr V.int l
abbrev CO(l:List (Int×Ya×List Ya)):List (Key×V):=HX Sum.inl (fun p:Ya×List Ya=>V.ref p.1) l
noncomputable def Ff(an at_:Ya)(made:Int):List (Key×V):=[(.inr "names",.ref an),(.inr "texts",.ref at_),(.inr "made",.int made)]
def QF(H:Hp)(t:Int×Ya×List Ya)(p:Int×List Wd):Prop:=t.1=p.1/\H t.2.1=some (.lst (t.2.2.map V.ref))/\t.2.2.length=p.2.length/\∀(j:Nat) w wd,t.2.2[j]? =some w->p.2[j]? =some wd->H w=some (.lst wd.vq)
structure p9(a b c:Ya):Prop where
 xy:a≠b
 xz:a≠c
 yz:b≠c
structure Cy(H0 H:Hp)(a an at_:Ya)(tx:List (Int×Ya×List Ya))(n:Nk):Prop where
 same:AO H0 H
 ha:H a=some (.dK (Ff an at_ n.made))
 hn:H an=some (.dK (F2 n.names))
 ht:H at_=some (.dK (CO tx))
 len:tx.length=n.texts.length
 DW:∀(i:Nat) t p,tx[i]? =some t->n.texts[i]? =some p->QF H t p
 fa:H0 a=none
 fn:H0 an=none
 ft:H0 at_=none
 fw:∀t∈tx,∀w∈t.2.2,H0 w=none
 ap:p9 a an at_
def Ce(H0 H:Hp)(a:Ya)(n:Nk):Prop:=∃an at_ tx,Cy H0 H a an at_ tx n
structure Fits(n:Nk):Prop where
 CV:(n.names.map (·.1)).Nodup
 Cf:(n.texts.map (·.1)).Nodup
 names:n.names.length<=1000
 texts:n.texts.length<=1000
 words:∀p∈n.texts,p.2.length<=100000
noncomputable def Nk.Il(n:Nk)(g:Wd->Wd):Nk:={n with texts:=n.texts.map fun p=>(p.1,p.2.map g)}
variable{H0:Hp}{an at_:Ya}{n:Nk}
theorem Cy.ext{tx:List (Int×Ya×List Ya)}(h:Cy H0 H a an at_ tx n)(s:AO H H'):Cy H0 H' a an at_ tx n:=
 ⟨h.same.trans s,s _ _ h.ha,s _ _ h.hn,s _ _ h.ht,h.len,fun i t p h1 h2=>let⟨q1,q2,q3,q4⟩:=h.DW i t p h1 h2;⟨q1,s _ _ q2,q3,fun j w wd e1 e2=>s _ _ (q4 j w wd e1 e2)⟩,h.fa,h.fn,h.ft,h.fw,h.ap⟩
theorem Cy.keys{tx:List (Int×Ya×List Ya)}(h:Cy H0 H a an at_ tx n):tx.map (·.1)=n.texts.map (·.1):=by
 apply Jp;intro i;rw[Ax,Ax]
 cases e1:tx[i]?with
 |none=>rw[El (by rw[<-h.len];exact N4.mp e1)];rfl
 |some t=>
  have hi:i<n.texts.length:=by rw[<-h.len];exact(BX.mp e1).1
  rw[Aq hi];exact BD some (h.DW i t _ e1 (Aq hi)).1
theorem Mq{m:Int}:Bk (Ff an at_ m) (.inr "texts")=some (.ref at_):=rfl
theorem gD{m:Int}:Bk (Ff an at_ m) (.inr "names")=some (.ref an):=rfl
theorem jh{m:Int}:Bk (Ff an at_ m) (.inr "made")=some (.int m):=rfl
theorem lT{m k:Int}:putK (Ff an at_ m) (.inr "made") (.int k)=Ff an at_ k:=rfl
structure aM(a at_ L:Ya)(A:List (Key×V))(tx:List (Int×Ya×List Ya))(H:Hp):Prop where
 ha:H a=some (.dK A)
 hA:Bk A (.inr "texts")=some (.ref at_)
 ht:H at_=some (.dK (CO tx))
 hL:H L=some (.lst (tx.map fun t=>V.int t.1))
 hl:∀t∈tx,H t.2.1=some (.lst (t.2.2.map V.ref))
 nd:(tx.map (·.1)).Nodup
theorem JF{α β:Type}[DecidableEq α]:∀{l:List (α×β)}{i:Nat}{p:α×β},(l.map (·.1)).Nodup->l[i]? =some p->AG l p.1=some p.2
 |[],i,p,_,h=>by simp at h
 |q::l,0,p,_,h=>by
  have e:q=p:=by simpa using h
  subst e;unfold AG;rw[C4,BZ rfl];rfl
 |q::l,i+1,p,nd,h=>by
  have h':l[i]? =some p:=by simpa using h
  have nd':=IS.mp nd;have hne:¬q.1=p.1:=fun z=>nd'.1 (by have:q.1=p.1:=z;show q.1∈l.map (·.1);rw[this];exact BI.mpr ⟨p,CK h',rfl⟩);have:=JF nd'.2 h';unfold AG at this⊢;rw[C4,BJ hne];exact this
theorem Vl{D:Ends}{A:List (Key×V)}{tx:List (Int×Ya×List Ya)}
 (Iv:Ya->Nat->Nat->St->Hp->Prop)(s0:σ[0]? =some (some (.ref a)))
 (ha:H a=some (.dK A))(hA:Bk A (.inr "texts")=some (.ref at_))(ht:H at_=some (.dK (CO tx)))
 (h0:∀L,H L=none->Iv L 0 0 σ (upd H L (.lst (tx.map fun t=>V.int t.1))))
 (hw:∀L p q σ H,Iv L p q σ H->aM a at_ L A tx H/\σ[0]? =some (some (.ref a))/\i<σ.length)(hi:0<i)
 (st:∀L p t q w σ H (D':Ends),tx[p]? =some t->t.2.2[q]? =some w->Iv L p q σ H->(∀σ' H',Iv L p (q+1) σ' H'->D'.nx σ' H')->tb D' (σ.set j (some (.ref w))) H)
 (set:∀L p t σ H,tx[p]? =some t->Iv L p 0 σ H->Iv L p 0 (σ.set i (some (.int t.1))) H)
 (nxt:∀L p t σ H,tx[p]? =some t->Iv L p t.2.2.length σ H->Iv L (p+1) 0 σ H)(hd:∀L σ H,Iv L tx.length 0 σ H->D.nx σ H):
 Nl (KY [] (QM TF (NV (JO (Ee 0) (tC (.str "texts"))) Kh))) (Dy i) (Nl (KY [] (JO (JO (Ee 0) (tC (.str "texts"))) (Ee i))) (Dy j) tb) D σ H:=by
 have gt:∀{H:Hp},H a=some (.dK A)->BP H a (.str "texts") (some (.ref at_)):=fun h=>by have:=BP.kq (k:=.inr "texts") h;rw[hA] at this;exact this
 refine⟨_,s0,a,_,rfl,gt ha,at_,_,rfl,ht,fun L hL=>?_⟩;have ek:((CO tx).map fun kv=>kV kv.1)=tx.map fun t=>V.int t.1:=by show(tx.map _).map _=_;rw[BV];rfl
 rw[ek];refine⟨L,rfl,⟨_,AJ.of AN⟩,?_⟩;refine JA (K:=[]) (a:=L) (xs:=tx.map fun t=>V.int t.1) (fun p σ H=>Iv L p 0 σ H) (h0 L hL) (fun p σ H _ iv=>AJ.of (hw _ _ _ _ _ iv).1.hL) ?_ (fun σ H iv=>hd L σ H (by rw[AL] at iv;exact iv));intro p x σ1 H1 hx iv;rw[Ax] at hx
 cases et:tx[p]?with
 |none=>rw[et] at hx;cases hx
 |some t=>
 rw[et] at hx;obtain rfl:V.int t.1=x:=Ag hx;obtain⟨wk,z0,zi⟩:=hw _ _ _ _ _ iv;have iv2:=set _ _ _ _ _ et iv;obtain⟨wk2,z02,zi2⟩:=hw _ _ _ _ _ iv2;have gv:BP H1 at_ (.int t.1) (some (.ref t.2.1)):=by have:=BP.kq (k:=.inl t.1) wk.ht;rw[Er FF,JF wk.nd et] at this;exact this
 refine⟨_,z02,a,_,rfl,gt wk.ha,_,by rw[N6 zi],at_,_,rfl,gv,t.2.1,rfl,⟨_,AJ.of (wk.hl t (CK et))⟩,?_⟩;refine JA (K:=[]) (a:=t.2.1) (xs:=t.2.2.map V.ref) (fun q σ H=>Iv L p q σ H) iv2 (fun q σ H _ iv=>AJ.of ((hw _ _ _ _ _ iv).1.hl t (CK et))) ?_ (fun σ H iv=>nxt _ _ _ _ _ et (by rw[AL] at iv;exact iv));intro q x σ2 H2 hx iv3;rw[Ax] at hx
 cases ew:t.2.2[q]?with
 |none=>rw[ew] at hx;cases hx
 |some w=>
 rw[ew] at hx;obtain rfl:V.ref w=x:=Ag hx;exact st _ _ _ _ _ _ _ _ et ew iv3 fun σ' H' z=>z
theorem Zo{a b:Wd}(h:a.vq=b.vq):a=b:=by
 obtain⟨t1,n1,k1⟩:=a;obtain⟨t2,n2,k2⟩:=b;unfold Wd.vq at h;simp only[List.cons.injEq,V.str.injEq,V.int.injEq,and_true] at h;obtain⟨h1,h2,h3⟩:=h;subst h2 h3;cases t1<;>cases t2
 ·rfl
 ·exact absurd (show("word" :Str)="to" from h1) (by ac_rfl)
 ·exact absurd (show("to" :Str)="word" from h1) (by ac_rfl)
 ·rfl
theorem V5(as:List Ya)(w:Wd):as.map V.ref≠w.vq:=fun h=>by
 cases as with
 |nil=>cases h
 |cons x xs=>exact absurd (Gu h).1 (by intro z;cases z)
theorem fC(l:List β)(f:β->Int)(w:Wd):(l.map fun t=>V.int (f t))≠w.vq:=fun h=>by
 cases l with
 |nil=>cases h
 |cons x xs=>exact absurd (Gu h).1 (by intro z;cases z)
theorem Y7{o:HO}(h:H a=some o):upd H a o=H:=by
 funext b;unfold upd;by_cases e:b=a
 ·rw[AH e,e,h]
 ·rw[AF e]
structure MI(H0 H:Hp)(a an at_ L:Ya)(tx:List (Int×Ya×List Ya))(n:Nk)(g:Wd->Wd)(p q:Nat)(H':Hp):Prop where
 wk:aM a at_ L (Ff an at_ n.made) tx H'
 same:AO H0 H'
 hn:H' an=some (.dK (F2 n.names))
 c1:∀(i:Nat) t pp (j:Nat) w wd,tx[i]? =some t->n.texts[i]? =some pp->t.2.2[j]? =some w->pp.2[j]? =some wd->H' w=some (.lst wd.vq)\/H' w=some (.lst (g wd).vq)
 c2:∀(i:Nat) t pp (j:Nat) w wd,tx[i]? =some t->n.texts[i]? =some pp->t.2.2[j]? =some w->pp.2[j]? =some wd->(i<p\/(i=p/\j<q))->H' w=some (.lst (g wd).vq)
variable{L:Ya}
theorem MI.set{tx:List (Int×Ya×List Ya)}{g:Wd->Wd}{p q:Nat}{w:Ya}{wd wc:Wd}{t:Int×Ya×List Ya}{pp:Int×List Wd}(idem:∀w,g (g w)=g w)(nk:Cy H0 H a an at_ tx n)
 (m:MI H0 H a an at_ L tx n g p q H')(et:tx[p]? =some t)(ep:n.texts[p]? =some pp)(ew:t.2.2[q]? =some w)(ed:pp.2[q]? =some wd)(hc:H' w=some (.lst wc.vq))(hg:g wc=g wd):MI H0 H a an at_ L tx n g p (q+1) (upd H' w (.lst (g wc).vq)):=by
 have hwn:H0 w=none:=nk.fw t (CK et) w (CK ew);have other:∀b o,H' b=some o->o≠.lst wc.vq->(upd H' w (.lst (g wc).vq)) b=some o:=fun b o h1 h2=>by rw[AQ (CZ h1 hc h2)];exact h1
 have hw0:H w=some (.lst wd.vq):=(nk.DW p t pp et ep).2.2.2 q w wd ew ed;refine⟨⟨other _ _ m.wk.ha (by intro z;cases z),m.wk.hA,other _ _ m.wk.ht (by intro z;cases z),other _ _ m.wk.hL (by intro z;exact fC tx (·.1) wc (HO.lst.inj z)),fun t' ht'=>other _ _ (m.wk.hl t' ht') (by intro z;exact V5 _ wc (HO.lst.inj z)),m.wk.nd⟩,
  m.same.upd hwn,other _ _ m.hn (by intro z;cases z),fun i t' pp' j w' wd' e1 e2 e3 e4=>?_,fun i t' pp' j w' wd' e1 e2 e3 e4 hlt=>?_⟩
 ·by_cases hww:w'=w
  ·subst hww;have hw1:H w'=some (.lst wd'.vq):=(nk.DW i t' pp' e1 e2).2.2.2 j w' wd' e3 e4;rw[hw0] at hw1;have:wd=wd':=Zo (HO.lst.inj (Ag hw1));subst this;exact .inr (by rw[AN,hg])
  ·rw[AQ hww];exact m.c1 i t' pp' j w' wd' e1 e2 e3 e4
 ·by_cases hww:w'=w
  ·subst hww;have hw1:H w'=some (.lst wd'.vq):=(nk.DW i t' pp' e1 e2).2.2.2 j w' wd' e3 e4;rw[hw0] at hw1;have:wd=wd':=Zo (HO.lst.inj (Ag hw1));subst this;rw[AN,hg]
  ·rw[AQ hww];rcases hlt with h|⟨h1,h2⟩
   ·exact m.c2 i t' pp' j w' wd' e1 e2 e3 e4 (.inl h)
   ·by_cases hj:j<q
    ·exact m.c2 i t' pp' j w' wd' e1 e2 e3 e4 (.inr ⟨h1,hj⟩)
    ·have hjq:j=q:=by lia
     subst h1 hjq;rw[et] at e1;cases Ag e1;rw[ew] at e3;exact absurd (Ag e3).symm hww
theorem XS{D:Ends}{tx:List (Int×Ya×List Ya)}(S:St->Prop)(g:Wd->Wd)(idem:∀w,g (g w)=g w)
 (hS:S σ)(S0:∀σ,S σ->σ[0]? =some (some (.ref a))/\i<σ.length)(Si:∀σ v,S σ->S (σ.set i v))(Sj:∀σ v,S σ->S (σ.set j v))(hi:0<i)(nk:Cy H0 H a an at_ tx n)(Cf:(n.texts.map (·.1)).Nodup)
 (bd:∀σ H' (D':Ends) w wd,S σ->H' w=some (.lst wd.vq)->D'.nx (σ.set j (some (.ref w))) (upd H' w (.lst (g wd).vq))->tb D' (σ.set j (some (.ref w))) H')
 (hd:∀σ H',S σ->Cy H0 H' a an at_ tx (n.Il g)->D.nx σ H'):
 Nl (KY [] (QM TF (NV (JO (Ee 0) (tC (.str "texts"))) Kh))) (Dy i) (Nl (KY [] (JO (JO (Ee 0) (tC (.str "texts"))) (Ee i))) (Dy j) tb) D σ H:=by
 have at_p:∀{p t},tx[p]? =some t->∃pp,n.texts[p]? =some pp:=fun{p t} e=>by
  have hp:p<n.texts.length:=by rw[<-nk.len];exact(BX.mp e).1
  exact⟨_,Aq hp⟩
 refine Vl (a:=a) (at_:=at_) (A:=Ff an at_ n.made) (tx:=tx) (fun L p q σ H'=>S σ/\MI H0 H a an at_ L tx n g p q H') (S0 σ hS).1 nk.ha Mq nk.ht (fun L hL=>⟨hS,?_⟩) (fun L p q σ H' h=>⟨h.2.wk,S0 σ h.1⟩) hi
  (fun L p t q w σ H' D' et ew h kn=>?_) (fun L p t σ H' et h=>⟨Si _ _ h.1,h.2⟩) (fun L p t σ H' et h=>⟨h.1,h.2.wk,h.2.same,h.2.hn,h.2.c1,fun i t' pp' j w' wd' e1 e2 e3 e4 hlt=>?_⟩) (fun L σ H' h=>hd σ H' h.1 ?_)
 ·have s:AO H (upd H L (.lst (tx.map fun t=>V.int t.1))):=Aa hL;have nk2:=nk.ext s;refine⟨⟨nk2.ha,Mq,nk2.ht,AN,fun t ht=>?_,by rw[nk.keys];exact Cf⟩,nk2.same,nk2.hn,fun i t pp j w wd e1 e2 e3 e4=>.inl ((nk2.DW i t pp e1 e2).2.2.2 j w wd e3 e4),fun i t pp j w wd e1 e2 e3 e4 hlt=>by lia⟩;obtain⟨i,hi',e⟩:=IK.mp ht;have e1:tx[i]? =some t:=by rw[Aq hi',e]
  obtain⟨pp,ep⟩:=at_p e1;exact(nk2.DW i t pp e1 ep).2.1
 ·obtain⟨pp,ep⟩:=at_p et;have hq:q<pp.2.length:=by rw[<-(nk.DW p t pp et ep).2.2.1];exact(BX.mp ew).1
  have ed:pp.2[q]? =some pp.2[q]:=Aq hq;rcases h.2.c1 p t pp q w _ et ep ew ed with hc|hc
  ·exact bd σ H' D' w _ h.1 hc (kn _ _ ⟨Sj _ _ h.1,h.2.set idem nk et ep ew ed hc rfl⟩)
  ·exact bd σ H' D' w _ h.1 hc (kn _ _ ⟨Sj _ _ h.1,h.2.set idem nk et ep ew ed hc (idem _)⟩)
 ·rcases hlt with hlt|⟨_,hlt⟩
  ·by_cases hip:i=p
   ·subst hip;rw[et] at e1;cases Ag e1;exact h.2.c2 i t pp' j w' wd' et e2 e3 e4 (.inr ⟨rfl,(BX.mp e3).1⟩)
   ·exact h.2.c2 i t' pp' j w' wd' e1 e2 e3 e4 (.inl (by lia))
  ·lia
 ·have m:=h.2;refine⟨m.same,m.wk.ha,m.hn,m.wk.ht,by show _=(n.texts.map _).length;rw[AL];exact nk.len,fun i t p' e1 e2=>?_,nk.fa,nk.fn,nk.ft,nk.fw,nk.ap⟩;have e2':(n.texts.map fun p=>(p.1,p.2.map g))[i]? =some p':=e2;rw[Ax] at e2';obtain⟨pp,ep⟩:=at_p e1;rw[ep] at e2';cases Ag e2';obtain⟨q1,q2,q3,q4⟩:=nk.DW i t pp e1 ep;refine⟨q1,m.wk.hl t (CK e1),by show _=(pp.2.map g).length;rw[AL];exact q3,fun j w wd e3 e4=>?_⟩;have e4':(pp.2.map g)[j]? =some wd:=e4;rw[Ax] at e4'
  cases e5:pp.2[j]?with
  |none=>rw[e5] at e4';cases e4'
  |some wo=>
  rw[e5] at e4';cases Ag e4';exact m.c2 i t pp j w wo e1 ep e3 e5 (.inl (BX.mp e1).1)
noncomputable def CM(name:Str)(no:Int)(w:Wd):Wd:=if w.to=true/\w.no= -1/\w.nm=name then{w with no:=no} else w
noncomputable def CL(no:Int)(name:Str)(other:Int)(w:Wd):Wd:=if w.to=true/\w.no=no then{w with nm:=name,no:=other} else w
theorem cy(name:Str)(no:Int)(w:Wd):CM name no (CM name no w)=CM name no w:=by
 unfold CM;by_cases h:w.to=true/\w.no= -1/\w.nm=name
 ·rw[AH h];by_cases h2:w.to=true/\no= -1/\w.nm=name
  ·rw[AH h2]
  ·rw[AF h2]
 ·rw[AF h,AF h]
theorem di(no:Int)(name:Str)(other:Int)(w:Wd):CL no name other (CL no name other w)=CL no name other w:=by
 unfold CL;by_cases h:w.to=true/\w.no=no
 ·rw[AH h];by_cases h2:w.to=true/\other=no
  ·rw[AH h2]
  ·rw[AF h2]
 ·rw[AF h,AF h]
def Nk.named(n:Nk)(name:Str)(no:Int):Nk:=({n with names:=AX n.names name no}:Nk).Il (CM name no)
def Nk.turned(n:Nk)(no:Int)(name:Str)(other:Int):Nk:=n.Il (CL no name other)
noncomputable def Nk.flat(n:Nk):List Wd:=n.texts.flatMap (·.2)
noncomputable def HM(no:Int)(w:Wd):Bool:=w.to&&decide (w.no=no)
def Nk.led(n:Nk)(no:Int):Nat:=n.flat.countP (HM no)
theorem Cy.tab{tx:List (Int×Ya×List Ya)}{o:HO}(h:Cy H0 H a an at_ tx n)(hb:H b=some (.dK AA)):∀(i:Nat) t p,tx[i]? =some t->n.texts[i]? =some p->QF (upd H b o) t p:=fun i t p h1 h2=>by
 obtain⟨q1,q2,q3,q4⟩:=h.DW i t p h1 h2;exact⟨q1,by rw[AQ (CZ q2 hb (by intro z;cases z))];exact q2,q3,fun j w wd e1 e2=>by have:=q4 j w wd e1 e2;rw[AQ (CZ this hb (by intro z;cases z))];exact this⟩
theorem Cy.putN{tx:List (Int×Ya×List Ya)}(h:Cy H0 H a an at_ tx n)(nm:List (Str×Int)):Cy H0 (upd H an (.dK (F2 nm))) a an at_ tx {n with names:=nm}:=
 ⟨h.same.upd h.fn,by rw[AQ h.ap.xy];exact h.ha,AN,by rw[AQ h.ap.yz.symm];exact h.ht,h.len,h.tab h.hn,h.fa,h.fn,h.ft,h.fw,h.ap⟩
theorem Cy.o8{tx:List (Int×Ya×List Ya)}(h:Cy H0 H a an at_ tx n)(k:Int):Cy H0 (upd H a (.dK (Ff an at_ k))) a an at_ tx {n with made:=k}:=
 ⟨h.same.upd h.fa,AN,by rw[AQ h.ap.xy.symm];exact h.hn,by rw[AQ h.ap.xz.symm];exact h.ht,h.len,h.tab h.ha,h.fa,h.fn,h.ft,h.fw,h.ap⟩
theorem any_keys{α γ:Type}[DecidableEq α]{l:List (α×β)}{m:List (α×γ)}(e:l.map (·.1)=m.map (·.1))(k:α):(l.any fun p=>decide (p.1=k))=m.any fun p=>decide (p.1=k):=by
 have h1:(l.any fun p=>decide (p.1=k))=(l.map (·.1)).any fun x=>decide (x=k):=by rw[List.any_map];rfl
 have h2:(m.any fun p=>decide (p.1=k))=(m.map (·.1)).any fun x=>decide (x=k):=by rw[List.any_map];rfl
 rw[h1,h2,e]
theorem Cy.Nm{tx:List (Int×Ya×List Ya)}(h:Cy H0 H a an at_ tx n)(k:Int){l:Ya}{ws:List Ya}{CW:List Wd}(hl:H l=some (.lst (ws.map V.ref)))(el:ws.length=CW.length)
 (hw:∀(j:Nat) w wd,ws[j]? =some w->CW[j]? =some wd->H w=some (.lst wd.vq))(hf:∀w∈ws,H0 w=none):
 Cy H0 (upd H at_ (.dK (CO (AX tx k (l,ws))))) a an at_ (AX tx k (l,ws)) {n with texts:=AX n.texts k CW}:=by
 have new:QF (upd H at_ (.dK (CO (AX tx k (l,ws))))) (k,l,ws) (k,CW):=⟨rfl,by rw[AQ (CZ hl h.ht (by intro z;cases z))];exact hl,el,fun j w wd e1 e2=>by have:=hw j w wd e1 e2;rw[AQ (CZ this h.ht (by intro z;cases z))];exact this⟩;have ek:=any_keys h.keys k;refine⟨h.same.upd h.ft,by rw[AQ h.ap.xz];exact h.ha,by rw[AQ h.ap.yz];exact h.hn,AN,?_,fun i t p h1 h2=>?_,h.fa,h.fn,h.ft,fun t ht w hw'=>?_,h.ap⟩
 ·unfold AX;by_cases c:(tx.any fun p=>decide (p.1=k))=true
  ·rw[AH c,AH (by rw[<-ek];exact c),AL,AL];exact h.len
  ·rw[AF c,AF (by rw[<-ek];exact c),A7,A7,h.len];rfl
 ·have h2':(AX n.texts k CW)[i]? =some p:=h2;unfold AX at h1 h2';by_cases c:(tx.any fun p=>decide (p.1=k))=true
  ·rw[AH c,Ax] at h1;rw[AH (by rw[<-ek];exact c),Ax] at h2'
   cases e1:tx[i]?with
   |none=>rw[e1] at h1;cases h1
   |some t0=>
   cases e2:n.texts[i]?with
   |none=>rw[e2] at h2';cases h2'
   |some p0=>
   rw[e1] at h1;rw[e2] at h2';have q:=h.tab (o:=.dK (CO (AX tx k (l,ws)))) h.ht i t0 p0 e1 e2;have f1:(if t0.1=k then(t0.1,(l,ws)) else t0)=t:=Ag h1;have f2:(if p0.1=k then(p0.1,CW) else p0)=p:=Ag h2';by_cases hk:t0.1=k
   ·rw[AH hk] at f1;rw[AH (by rw[<-q.1];exact hk)] at f2;rw[<-f1,<-f2,hk,<-q.1,hk];exact new
   ·rw[AF hk] at f1;rw[AF (by rw[<-q.1];exact hk)] at f2;rw[<-f1,<-f2];exact q
  ·rw[AF c] at h1;rw[AF (by rw[<-ek];exact c)] at h2';by_cases hi:i<tx.length
   ·rw[DC hi] at h1;rw[DC (by rw[<-h.len];exact hi)] at h2';exact h.tab h.ht i t p h1 h2'
   ·have DA:i<(tx++[(k,l,ws)]).length:=(BX.mp h1).1;rw[A7,DD] at DA;obtain rfl:i=tx.length:=by lia
    rw[Cv (Ab _),ER] at h1;rw[Cv (by rw[h.len];exact Ab _),h.len,ER] at h2';rw[<-Ag h1,<-Ag h2'];exact new
 ·unfold AX at ht;by_cases c:(tx.any fun p=>decide (p.1=k))=true
  ·rw[AH c] at ht;obtain⟨t0,ht0,e⟩:=BI.mp ht;by_cases hk:t0.1=k
   ·rw[AH hk] at e;rw[<-e] at hw';exact hf w hw'
   ·rw[AF hk] at e;rw[<-e] at hw';exact h.fw t0 ht0 w hw'
  ·rw[AF c] at ht;rcases Bh.mp ht with z|z
   ·exact h.fw t z w hw'
   ·rw[Bg.mp z] at hw';exact hf w hw'
noncomputable def F4:Nk:=⟨[],[],0⟩
def YQ:Sp:=fun vs H Q _=>vs=[]/\∀(a:Ya)(H':Hp),Ce H H' a F4->Q (.ref a) H'
def So:Sp:=fun vs H Q _=>∃(a:Ya)(name:Str)(no:Int)(H0:Hp)(n:Nk),vs=[.ref a,.str name,.int no]/\Ce H0 H a n/\Fits n/\∀H',Ce H0 H' a (n.named name no)->Q .BA H'
def Ru:Sp:=fun vs H Q _=>∃(a:Ya)(no:Int)(name:Str)(other:Int)(H0:Hp)(n:Nk),vs=[.ref a,.int no,.str name,.int other]/\Ce H0 H a n/\Fits n/\∀H',Ce H0 H' a (n.turned no name other)->Q .BA H'
def Tj:Sp:=fun vs H Q _=>∃(a:Ya)(no:Int)(H0:Hp)(n:Nk),vs=[.ref a,.int no]/\Ce H0 H a n/\Fits n/\∀H',AO H H'->Q (.int (n.led no)) H'
theorem ES{m:Int}(h:H a=some (.dK (Ff an at_ m))):BP H a (.str "names") (some (.ref an)):=by have:=BP.kq (k:=.inr "names") h;rw[gD] at this;exact this
theorem Gv{m:Int}(h:H a=some (.dK (Ff an at_ m))):BP H a (.str "texts") (some (.ref at_)):=by have:=BP.kq (k:=.inr "texts") h;rw[Mq] at this;exact this
theorem dw{m:Int}(h:H a=some (.dK (Ff an at_ m))):BP H a (.str "made") (some (.int m)):=by have:=BP.kq (k:=.inr "made") h;rw[jh] at this;exact this
theorem fu{X:Cx}{pos:Pos}{k1 k2 k3 v1 v2 v3:hY}{trs:List (TE×TE)}(h:N0 X pos [some k1,some k2,some k3] [v1,v2,v3] trs):PE X (.Dict [some k1,some k2,some k3] [v1,v2,v3] pos) (ZV trs):=@jw X pos [some k1,some k2,some k3] [v1,v2,v3] trs h rfl rfl (List.cons_ne_nil _ _) (by show 3<=15;decide)
theorem jP:Az [] [] (Ao PY):=by ac_rfl
theorem iN(F:Aj K "_law_begun" "_law_begun" PY f fd):AW P w K mg base Ah 1 f fd [] YQ:=by
 refine F.ok jP ?_ ?_
 ·rintro _ _ _ _ ⟨rfl,_⟩;rfl
 ·rintro _ A _ s H _ Q E hr ⟨rfl,q⟩;refine⟨_,@AS _ _ _ (@An _ _ _ _ (@fu _ _ _ _ _ _ _ _ _ (@SO _ _ _ _ _ _ _ _ _ (@AY _ _ _ _) (@Ow _ _) (@SO _ _ _ _ _ _ _ _ _ (@AY _ _ _ _) (@Ow _ _) (@SO _ _ _ _ _ _ _ _ _ (@AY _ _ _ _) (@Ac _ _ _ _) (@jv _ _)))))),?_⟩;intro a ha an han at_ hat;have n1:a≠an:=A2 AN han;have hA1:(upd (upd H a (.dK [])) an (.dK [])) a=some (.dK []):=by rw[AQ n1];exact AN
  have n2:a≠at_:=A2 hA1 hat;have n3:an≠at_:=A2 AN hat;have fan:H an=none:=(Aa ha).free han;have fat:H at_=none:=((Aa ha).trans (Aa han)).free hat;refine⟨by rw[AQ n2];exact hA1,[(.inr "names",.ref an),(.inr "texts",.ref at_),(.inr "made",.int 0)],rfl,by show 3<=15;decide,q a _ ⟨an,at_,[],?_⟩⟩;refine⟨(((AO.refl H).upd ha).upd fan).upd fat|>.upd ha,?_,?_,?_,rfl,fun i t p e=>(by simp at e),ha,fan,fat,fun t ht=>(by cases ht),⟨n1,n2,n3⟩⟩
  ·rw[AN];rfl
  ·rw[AQ n1.symm,AQ n3];exact AN
  ·rw[AQ n2.symm];exact AN
theorem S4:Az ["_law_nook","_law_name","_law_number","_law_one","_law_word"] ["_law_nook","_law_name","_law_number"] (Ao NH):=by ac_rfl
theorem W2(F:Aj K "_law_named" "_law_named" NH f fd)(O:Own mg):AW P w K mg base Ah 1 f fd ["_law_nook","_law_name","_law_number"] So:=by
 refine F.ok S4 ?_ ?_
 ·rintro _ _ _ _ ⟨_,_,_,_,_,rfl,_⟩;rfl
 ·rintro _ A _ s H _ Q E hr ⟨a,name,no,H0,n,rfl,⟨an,at_,tx,nk⟩,fit,q⟩;have hu1:=Cm hr;refine⟨_,(AU (FE hu1 (CN hu1 (pv 0)) (pv 1) (pv 2) rfl) (AS (EI ED rfl (FQ (EE (LF rfl) rfl O.lst Fs (AE (CN hu1 (pv 0)) AI))) (Bc (i:=3) S4.nd rfl (AZ rfl))
   (AS (EI ED rfl (FQ (Dm hu1 (CN hu1 (pv 0)) (pv 3) (fun _ _=>rfl))) (Bc (i:=4) S4.nd rfl (AZ rfl))
   (AS (A1 (PW.pt (FJ (Aw BW (Gb (pv 4)) AY (Ar _)) (FJ (Aw BW (Gb (pv 4)) (Eb EY Ac) (Ar _)) (G9 (Aw BW (Gb (pv 4)) (pv 1) (Ar _))))))
   (AS (TX (pv 2) (TH (pv 4) Ac set_list)))
   BE))))))),?_⟩;have hl:(F2 n.names).length<sizeLine:=by
   show(n.names.map _).length<_;have:=fit.names;rw[AL,A3]
   lia
  have dp:=Dc.kq (k:=.inr name) (v:=.int no) nk.hn hl;rw[J0 Fp] at dp;refine⟨_,rfl,_,rfl,a,_,rfl,ES nk.ha,_,rfl,an,_,rfl,dp,?_⟩;have nk2:=nk.putN (AX n.names name no);refine XS (fun σ=>∃v3 v4,σ=[some (.ref a),some (.str name),some (.int no),v3,v4]) (CM name no) (cy name no) ⟨none,none,rfl⟩ ?_ ?_ ?_ (by decide) nk2 fit.Cf ?_ ?_
  ·rintro σ ⟨v3,v4,rfl⟩;exact⟨rfl,by show 3<5;decide⟩
  ·rintro σ v ⟨v3,v4,rfl⟩;exact⟨_,_,rfl⟩
  ·rintro σ v ⟨v3,v4,rfl⟩;exact⟨_,_,rfl⟩
  ·rintro _ H' D' w wd ⟨v3,v4,rfl⟩ hw kn;obtain⟨to,nm,no0⟩:=wd;have same:CM name no ⟨to,nm,no0⟩=⟨to,nm,no0⟩->D'.nx [some (.ref a),some (.str name),some (.int no),v3,some (.ref w)] H':=fun e=>by rw[e,Y7 hw] at kn;exact kn
   cases to with
   |false=>refine⟨_,rfl,w,_,_,.str "word",rfl,rfl,AJ.of hw,rfl,rfl,_,rfl,CT (by intro z;exact absurd (V.str.inj z) (by ac_rfl)) (BK (same ?_))⟩;unfold CM;rw[AF (by simp)]
   |true=>
    refine⟨_,rfl,w,_,_,.str "to",rfl,rfl,AJ.of hw,rfl,rfl,_,rfl,CG rfl ⟨_,rfl,w,_,_,.int no0,rfl,rfl,AJ.of hw,rfl,_,rfl,rfl,_,rfl,?_⟩⟩;by_cases h1:no0= -1
    ·refine CG (by rw[h1]) ⟨_,rfl,w,_,_,.str nm,rfl,rfl,AJ.of hw,rfl,_,rfl,rfl,_,rfl,?_⟩;by_cases h2:nm=name
     ·refine CG (by rw[h2]) ⟨_,rfl,_,rfl,w,_,_,2,rfl,rfl,hw,rfl,?_⟩;have eg:CM name no ⟨true,nm,no0⟩=⟨true,nm,no⟩:=by unfold CM;rw[AH ⟨rfl,h1,h2⟩]
      rw[eg] at kn;exact kn
     ·refine CT (by intro z;exact h2 (V.str.inj z)) (same ?_);unfold CM;rw[AF (fun z=>h2 z.2.2)]
    ·refine CT (by intro z;exact h1 (V.int.inj z)) (BK (same ?_));unfold CM;rw[AF (fun z=>h1 z.2.1)]
  ·rintro σ H' ⟨v3,v4,rfl⟩ nk3;exact q H' ⟨an,at_,tx,nk3⟩
theorem SH:Az ["_law_nook","_law_number","_law_name","_law_other","_law_one","_law_word"] ["_law_nook","_law_number","_law_name","_law_other"] (Ao M5):=by ac_rfl
theorem V1(F:Aj K "_law_turned" "_law_turned" M5 f fd)(O:Own mg):AW P w K mg base Ah 1 f fd ["_law_nook","_law_number","_law_name","_law_other"] Ru:=by
 refine F.ok SH ?_ ?_
 ·rintro _ _ _ _ ⟨_,_,_,_,_,_,rfl,_⟩;rfl
 ·rintro _ A _ s H _ Q E hr ⟨a,no,name,other,H0,n,rfl,⟨an,at_,tx,nk⟩,fit,q⟩;have hu1:=Cm hr;refine⟨_,(AS (EI ED rfl (FQ (EE (LF rfl) rfl O.lst Fs (AE (CN hu1 (pv 0)) AI))) (Bc (i:=4) SH.nd rfl (AZ rfl))
   (AS (EI ED rfl (FQ (Dm hu1 (CN hu1 (pv 0)) (pv 4) (fun _ _=>rfl))) (Bc (i:=5) SH.nd rfl (AZ rfl))
   (AS (A1 (PW.pt (FJ (Aw BW (Gb (pv 5)) AY (Ar _)) (G9 (Aw BW (Gb (pv 5)) (pv 1) (Ar _)))))
   (AU (TX (pv 2) (TH (pv 5) Ac set_list)) (AS (TX (pv 3) (TH (pv 5) Ac set_list))))
   BE)))))),?_⟩;refine XS (fun σ=>∃v4 v5,σ=[some (.ref a),some (.int no),some (.str name),some (.int other),v4,v5]) (CL no name other) (di no name other) ⟨none,none,rfl⟩ ?_ ?_ ?_ (by decide) nk fit.Cf ?_ ?_
  ·rintro σ ⟨v3,v4,rfl⟩;exact⟨rfl,by show 4<6;decide⟩
  ·rintro σ v ⟨v3,v4,rfl⟩;exact⟨_,_,rfl⟩
  ·rintro σ v ⟨v3,v4,rfl⟩;exact⟨_,_,rfl⟩
  ·rintro _ H' D' w wd ⟨v3,v4,rfl⟩ hw kn;obtain⟨to,nm,no0⟩:=wd;have same:CL no name other ⟨to,nm,no0⟩=⟨to,nm,no0⟩->D'.nx [some (.ref a),some (.int no),some (.str name),some (.int other),v3,some (.ref w)] H':=fun e=>by rw[e,Y7 hw] at kn;exact kn
   cases to with
   |false=>refine⟨_,rfl,w,_,_,.str "word",rfl,rfl,AJ.of hw,rfl,rfl,_,rfl,CT (by intro z;exact absurd (V.str.inj z) (by ac_rfl)) (BK (same ?_))⟩;unfold CL;rw[AF (by simp)]
   |true=>
    refine⟨_,rfl,w,_,_,.str "to",rfl,rfl,AJ.of hw,rfl,rfl,_,rfl,CG rfl ⟨_,rfl,w,_,_,.int no0,rfl,rfl,AJ.of hw,rfl,_,rfl,rfl,_,rfl,?_⟩⟩;by_cases h1:no0=no
    ·refine CG (by rw[h1]) ⟨_,rfl,_,rfl,w,_,_,1,rfl,rfl,hw,rfl,_,rfl,_,rfl,w,_,_,2,rfl,rfl,AN,rfl,?_⟩;have eg:CL no name other ⟨true,nm,no0⟩=⟨true,name,other⟩:=by unfold CL;rw[AH ⟨rfl,h1⟩]
     rw[eg] at kn;rw[KD];exact kn
    ·refine CT (by intro z;exact h1 (V.int.inj z)) (same ?_);unfold CL;rw[AF (fun z=>h1 z.2)]
  ·rintro σ H' ⟨v3,v4,rfl⟩ nk3;exact q H' ⟨an,at_,tx,nk3⟩
theorem NU:Az ["_law_nook","_law_number","_law_many","_law_one","_law_word"] ["_law_nook","_law_number"] (Ao NX):=by ac_rfl
noncomputable def upTo(n:Nk)(p q:Nat):List Wd:=(n.texts.take p).flatMap (·.2)++(((n.texts[p]?).map (·.2)).getD []).take q
theorem Yu(F:Aj K "_law_led" "_law_led" NX f fd)(O:Own mg):AW P w K mg base Ah 1 f fd ["_law_nook","_law_number"] Tj:=by
 refine F.ok NU ?_ ?_
 ·rintro _ _ _ _ ⟨_,_,_,_,rfl,_⟩;rfl
 ·rintro _ A _ s H _ Q E hr ⟨a,no,H0,n,rfl,⟨an,at_,tx,nk⟩,fit,q⟩;have hu1:=Cm hr;refine⟨_,(AU (Au (i:=2) NU.nd rfl (AZ rfl) Ac) (AU (EI ED rfl (FQ (EE (LF rfl) rfl O.lst Fs (AE (CN hu1 (pv 0)) AI))) (Bc (i:=3) NU.nd rfl (AZ rfl))
   (AS (EI ED rfl (FQ (Dm hu1 (CN hu1 (pv 0)) (pv 3) (fun _ _=>rfl))) (Bc (i:=4) NU.nd rfl (AZ rfl))
   (AS (Au (i:=2) NU.nd rfl (AZ rfl) (Ai DO (pv 2) (EE Jy rfl O.int JJ (AE (PV (G0 BW (Gb (pv 4)) AY (Ar _)) (Pc (G0 BW (Gb (pv 4)) (pv 1) (Ar _)))) AI)))))))) (AS (An (pv 2))))),?_⟩;have at_p:∀{p t},tx[p]? =some t->∃pp,n.texts[p]? =some pp:=fun{p t} e=>by
   have hp:p<n.texts.length:=by rw[<-nk.len];exact(BX.mp e).1
   exact⟨_,Aq hp⟩
  refine Vl (a:=a) (at_:=at_) (A:=Ff an at_ n.made) (tx:=tx) (fun L p q σ H'=>∃(v3 v4:Option V),σ=[some (.ref a),some (.int no),some (.int ((upTo n p q).countP (HM no):Nat)),v3,v4]/\AO H H'/\H' L=some (.lst (tx.map fun t=>V.int t.1))) rfl nk.ha Mq nk.ht
   (fun L hL=>⟨none,none,rfl,Aa hL,AN⟩) ?_ (by decide) ?_ ?_ ?_ ?_
  ·rintro L p q σ H' ⟨v3,v4,rfl,sm,hL⟩;have nk2:=nk.ext sm;refine⟨⟨nk2.ha,Mq,nk2.ht,hL,fun t ht=>?_,by rw[nk.keys];exact fit.Cf⟩,rfl,by show 3<5;decide⟩;obtain⟨i,hi',e⟩:=IK.mp ht;have e1:tx[i]? =some t:=by rw[Aq hi',e]
   obtain⟨pp,ep⟩:=at_p e1;exact(nk2.DW i t pp e1 ep).2.1
  ·rintro L p t q w σ H' D' et ew ⟨v3,v4,rfl,sm,hL⟩ kn;obtain⟨pp,ep⟩:=at_p et;have nk2:=nk.ext sm;have hq:q<pp.2.length:=by rw[<-(nk.DW p t pp et ep).2.2.1];exact(BX.mp ew).1
   have ed:pp.2[q]? =some pp.2[q]:=Aq hq;have hw:=(nk2.DW p t pp et ep).2.2.2 q w _ ew ed;generalize pp.2[q]=wd at ed hw;have eu:upTo n p (q+1)=upTo n p q++[wd]:=by unfold upTo;rw[ep];show _++pp.2.take (q+1)=(_++pp.2.take q)++[wd];rw[EO,ed,Bb];rfl
   have kn':D'.nx [some (.ref a),some (.int no),some (.int (((upTo n p q).countP (HM no):Nat)+(if HM no wd=true then 1 else 0))),v3,some (.ref w)] H':=by
    have h1:=kn [some (.ref a),some (.int no),some (.int ((upTo n p (q+1)).countP (HM no):Nat)),v3,some (.ref w)] H' ⟨_,_,rfl,sm,hL⟩;rw[eu,List.countP_append,List.countP_singleton] at h1;have e2:(((upTo n p q).countP (HM no)+(if HM no wd=true then 1 else 0):Nat):Int)=((upTo n p q).countP (HM no):Nat)+(if HM no wd=true then 1 else 0):=by cases HM no wd<;>rfl
    rw[e2] at h1;exact h1
   obtain⟨to,nm,no0⟩:=wd
   cases to with
   |false=>refine⟨_,rfl,_,rfl,w,_,_,.str "word",rfl,rfl,AJ.of hw,rfl,rfl,_,rfl,CT (by intro z;exact absurd (V.str.inj z) (by ac_rfl)) (.inr ⟨_,rfl,_,_,rfl,rfl,kn'⟩)⟩
   |true=>
    refine⟨_,rfl,_,rfl,w,_,_,.str "to",rfl,rfl,AJ.of hw,rfl,rfl,_,rfl,CG rfl ⟨_,rfl,w,_,_,.int no0,rfl,rfl,AJ.of hw,rfl,_,rfl,rfl,.inr ⟨_,rfl,_,_,rfl,rfl,?_⟩⟩⟩;have e3:HM no ⟨true,nm,no0⟩=decide (V.int no0=V.int no):=by
     show(true&&decide (no0=no))=_;rw[Bool.true_and];by_cases h:no0=no
     ·rw[h];simp
     ·rw[BJ h,BJ (fun z=>h (V.int.inj z))]
    rw[e3] at kn';exact kn'
  ·rintro L p t σ H' et ⟨v3,v4,rfl,sm,hL⟩;exact⟨_,_,rfl,sm,hL⟩
  ·rintro L p t σ H' et ⟨v3,v4,rfl,sm,hL⟩;obtain⟨pp,ep⟩:=at_p et;have eu:upTo n p t.2.2.length=upTo n (p+1) 0:=by unfold upTo;rw[ep,EO,ep,(nk.DW p t pp et ep).2.2.1,K3,C5];show _++pp.2.take pp.2.length=(_++[pp]).flatMap _;rw[Cj,List.flatMap_append];show _++pp.2=_++(pp.2++[]);rw[C5]
   rw[eu];exact⟨_,_,rfl,sm,hL⟩
  ·rintro L σ H' ⟨v3,v4,rfl,sm,hL⟩;have eu:upTo n tx.length 0=n.flat:=by unfold upTo Nk.flat;rw[nk.len,Cj,K3,C5]
   rw[eu];exact⟨_,rfl,q H' sm⟩
theorem dz:Bv X (qW .Gt) (fun x y H Q=>∃i j,x=.str i/\y=.str j/\Q (.bl (decide (j.cps.toList<i.cps.toList))) H):=by intro pins s σ H x y v u Q I rx ry h;obtain⟨i,j,rfl,rfl,q⟩:=h;obtain⟨t,rfl⟩:=rx;obtain⟨t',rfl⟩:=ry;exact P.gt_str (CC I q rfl)
noncomputable def Dq(c:Nat):Bool:=decide (([c]:List Nat)<("a" :Str).cps.toList)||decide (("z" :Str).cps.toList<([c]:List Nat))
def DI(z:Str):Bool:=(!decide (z=""))&&(z.cps.toList.filter Dq).isEmpty
def R8:Sp:=fun vs H Q _=>∃z:Str,vs=[.str z]/\z.length<=100000/\∀H',AO H H'->Q (.bl (DI z)) H'
def Nk.added(n:Nk)(name:Str):Nk:=({n with made:=n.made+1,texts:=AX n.texts n.made []}:Nk).named name n.made
def Xy:Sp:=fun vs H Q _=>∃(a:Ya)(name:Str)(H0:Hp)(n:Nk),vs=[.ref a,.str name]/\Ce H0 H a n/\Fits n/\n.texts.length<1000/\AG n.texts n.made=none/\∀H',Ce H0 H' a (n.added name)->Q (.int n.made) H'
theorem Mw{α β:Type}[DecidableEq α]{k:α}:∀{l:List (α×β)},AG l k=none->k∉l.map (·.1)
 |[],_=>by simp
 |p::l,h=>by
  unfold AG at h;rw[C4] at h;by_cases e:p.1=k
  ·rw[BZ e] at h;cases h
  ·rw[BJ e] at h;have:=Mw (l:=l) (k:=k) h;rw[Av,Ba];rintro(z|z)
   ·exact e z.symm
   ·exact this z
theorem Gw{α:Type}[DecidableEq α]{k:α}{v:β}{l:List (α×β)}(h:AG l k=none):AX l k v=l++[(k,v)]:=by unfold AX;rw[AF];intro z;obtain⟨p,hp,e⟩:=Jq.mp z;exact Mw h (BI.mpr ⟨p,hp,IM e⟩)
theorem Fits.pF{k:Int}{m:Int}(h:Fits n)(hk:AG n.texts k=none)(hl:n.texts.length<1000):Fits {n with made:=m,texts:=AX n.texts k []}:=by
 refine⟨h.CV,?_,h.names,?_,fun p hp=>?_⟩
 ·show((AX n.texts k []).map (·.1)).Nodup;rw[Gw hk,BS,OJ];refine⟨h.Cf,by simp,fun x hx y hy z=>?_⟩;have:y=k:=by simpa using hy
  rw[this] at z;rw[z] at hx;exact Mw hk hx
 ·show(AX n.texts k []).length<=1000;rw[Gw hk,A7,DD]
  lia
 ·have hp':p∈AX n.texts k []:=hp;rw[Gw hk] at hp';rcases Bh.mp hp' with z|z
  ·exact h.words p z
  ·rw[Bg.mp z];exact CH _
theorem X3:Az ["_law_nook","_law_name","_law_number"] ["_law_nook","_law_name"] (Ao TB):=by ac_rfl
theorem iW{fNa:Ya}{fdNa:qX}(F:Aj K "_law_added" "_law_added" TB f fd)(O:Own mg)
 (FNa:Aj K "_law_named" "_law_named" NH fNa fdNa)(bNa:Binds K fdNa ["_law_nook","_law_name","_law_number"] [])(mNa:mg "_law_named" =some (.ref fNa)):AW P w K mg base Ah 2 f fd ["_law_nook","_law_name"] Xy:=by
 have GNa:AW P w K mg base Ah 1 fNa fdNa ["_law_nook","_law_name","_law_number"] So:=W2 FNa O;refine F.ok X3 ?_ ?_
 ·rintro _ _ _ _ ⟨_,_,_,_,rfl,_⟩;rfl
 ·rintro _ A _ s H _ Q E hr ⟨a,name,H0,n,rfl,⟨an,at_,tx,nk⟩,fit,hlt,hnew,q⟩;have hu1:=Cm hr;refine⟨_,(AU (Au (i:=2) X3.nd rfl (AZ rfl) (CN hu1 (pv 0))) (AU (FE hu1 (pv 0) AY (Ai DO (pv 2) Ac) rfl) (AU (FE hu1 (CN hu1 (pv 0)) (pv 2) (Bx AI) rfl) (AU (Bn (Ck GNa hr rfl mNa FNa.kp bNa .nil A8 (AE (pv 0) (AE (pv 1) (AE (pv 2) AI))))) (AS (An (pv 2))))))),?_⟩;have dp1:=Dc.kq (k:=.inr "made") (v:=.int (n.made+1)) nk.ha (by show 3<sizeLine;decide);rw[lT] at dp1;refine⟨_,rfl,a,_,rfl,dw nk.ha,_,rfl,_,_,rfl,rfl,_,rfl,a,_,rfl,dp1,?_⟩;have nk1:=nk.o8 (n.made+1);generalize upd H a (.dK (Ff an at_ (n.made+1)))=H1 at nk1;refine⟨by show 0<=sizeLine;decide,fun l hl=>?_⟩;have nk2:=nk1.ext (Aa (o:=.lst []) hl);have htl:(CO tx).length<sizeLine:=by
   show(tx.map _).length<_;rw[AL,nk.len,A3]
   lia
  have dp2:=Dc.kq (k:=.inl n.made) (v:=.ref l) nk2.ht htl;have e2:putK (CO tx) (.inl n.made) (.ref l)=CO (AX tx n.made (l,[])):=J0 (g:=fun p:Ya×List Ya=>V.ref p.1) FF n.made (l,[]) tx;rw[e2] at dp2;refine⟨_,rfl,a,_,rfl,Gv nk2.ha,_,rfl,at_,_,rfl,dp2,?_⟩;have nk3:=nk2.Nm n.made (l:=l) (ws:=[]) (CW:=[]) AN rfl (fun j w wd e=>by simp at e) (fun w hw=>by cases hw);exact⟨_,rfl,_,rfl,_,rfl,a,name,n.made,H0,_,rfl,⟨an,at_,_,nk3⟩,fit.pF hnew hlt,fun H' nk'=>⟨_,rfl,q H' nk'⟩⟩
theorem gK:Az ["_law_text"] ["_law_text"] (Ao Mz):=by ac_rfl
theorem WK(F:Aj K "_law_is_name" "_law_is_name" Mz f fd):AW P w K mg base Ah 1 f fd ["_law_text"] R8:=by
 refine F.ok gK ?_ ?_
 ·rintro _ _ _ _ ⟨_,rfl,_⟩;rfl
 ·rintro _ A _ s H _ Q E hr ⟨x,rfl,hx,k⟩;have hu:=hr.TJ;refine⟨_,(AS (An (PV (G0 Fy (pv 0) AY (Ar _)) (Pc (G0 (pI hu) (Es (ts:=["_law_sign"]) (cap:=[]) (ix:=[]) (J2 rfl rfl (by ac_rfl) (by ac_rfl)) (ZL (pv 0)) (fun _ _ _ _ _=>Bc (i:=0) FY rfl (AZ rfl) (Cd rfl)) (fun _ _ _ _ _=>(O4 (PW.pt (JT (Aw fK (pv 0) AY (Ar _)) (JG (Aw dz (pv 0) AY (Ar _))))))) (fun _ _ _ _ _=>(pv 0))) (Bx AI) (Ar _)))))),?_⟩;refine⟨_,rfl,rfl,_,rfl,?_⟩;by_cases e:x=""
  ·refine EZ (by rw[e]) ?_;have:DI x=false:=by unfold DI;rw[BZ e];rfl
   have q:=k H (AO.refl H);rw[this] at q;exact q
  ·refine HK (fun z=>e (V.str.inj z)) ?_;have en:DI x=(x.cps.toList.filter Dq).isEmpty:=by unfold DI;rw[BJ e];rfl
   have el:x.cps.toList.length<=100000:=by simpa[Str.length] using hx
   refine⟨_,rfl,x,rfl,fun D hD=>XF (fun i H'=>AO H H'/\H' D=some (.lst (((x.cps.toList.take i).filter Dq).map fun c=>V.str ⟨#[c]⟩))) ⟨Aa hD,AN⟩ ?_ ?_⟩
   ·rintro i c H' hc ⟨sm,hD'⟩;have hlt:i<x.cps.toList.length:=(BX.mp hc).1;have et:x.cps.toList.take (i+1)=x.cps.toList.take i++[c]:=by rw[EO,hc];rfl
    have put:Dq c=true->∃ys,H' D=some (.lst ys)/\ys.length<sizeLine/\AO H (upd H' D (.lst (ys++[V.str ⟨#[c]⟩])))/\(upd H' D (.lst (ys++[V.str ⟨#[c]⟩]))) D=some (.lst (((x.cps.toList.take (i+1)).filter Dq).map fun c=>V.str ⟨#[c]⟩)):=fun hb=>by
     refine⟨_,hD',?_,sm.upd hD,?_⟩
     ·have:=Gp Dq (x.cps.toList.take i);rw[Bl] at this;rw[AL,A3]
      lia
     ·rw[AN,et,OE,BS];have:[c].filter Dq=[c]:=by simp[hb]
      rw[this];rfl
    have skip:Dq c=false->AO H H'/\H' D=some (.lst (((x.cps.toList.take (i+1)).filter Dq).map fun c=>V.str ⟨#[c]⟩)):=fun hb=>by
     refine⟨sm,?_⟩;rw[hD',et,OE];have:[c].filter Dq=[]:=by simp[hb]
     rw[this,C5]
    refine⟨E3,_,rfl,_,_,rfl,rfl,_,rfl,?_⟩;by_cases h1:([c]:List Nat)<("a" :Str).cps.toList
    ·exact CG h1 (Bm ⟨_,rfl,put (by unfold Dq;rw[BZ h1];rfl)⟩)
    ·refine CT h1 ⟨_,rfl,_,_,rfl,rfl,_,rfl,?_⟩;by_cases h2:("z" :Str).cps.toList<([c]:List Nat)
     ·exact CG h2 ⟨_,rfl,put (by unfold Dq;rw[BZ h2,Bool.or_true])⟩
     ·exact CT h2 (skip (by unfold Dq;rw[BJ h1,BJ h2];rfl))
   ·rintro H' ⟨sm,hD'⟩;rw[Cj] at hD';refine⟨by show 0<=sizeLine;decide,fun q hq=>⟨D,q,_,rfl,rfl,AJ.of ((Aa hq) _ _ hD'),AJ.of AN,?_⟩⟩;have h1:=k _ (sm.trans (Aa (o:=.lst []) hq));have h2:((x.cps.toList.filter Dq).map fun c=>V.str ⟨#[c]⟩).isEmpty=(x.cps.toList.filter Dq).isEmpty:=by cases x.cps.toList.filter Dq<;>rfl
    rw[h2,<-en];exact h1
theorem dk{c:TT}{t u:TS}{D:Ends}(G:Hp->Prop)(hG:∀H2,G H2->u D σ H2)(h:(∀H2,G H2->u D σ H2)->HU c t u D σ H):HU c t u D σ H:=h hG
theorem dn(t p:Str)(h:p∈Txt.split t " "):p.length<=t.length:=by
 have hw:=MZ t " " (by decide);have h2:p.length<=((Txt.split t " ").map (·.length)).sum:=by
  generalize Txt.split t " " =L at h
  induction L with
  |nil=>cases h
  |cons a r ih=>
   rw[Av,B1];rcases Ba.mp h with e|e
   ·subst e;lia
   ·have:=ih e;lia
 have h3:1<=(Txt.split t " ").length:=U9 h
 lia
noncomputable def inner(p:Str):Str:=Txt.slice p (some 1) (some (-1))
def Hz(p:Str):Bool:=decide (V.str (Txt.slice p none (some 1))=V.str "[")&&(decide (V.str (Txt.slice p (some (-1)) none)=V.str "]")&&DI (inner p))
def D5(names:List (Str×Int))(p:Str):Option Wd:=if Hz p=true then some ⟨true,inner p,(AG names (inner p)).getD (-1)⟩ else if p="" then none else some ⟨false,p,-1⟩
def GX(names:List (Str×Int))(z:Str):List Wd:=(Txt.split z " ").filterMap (D5 names)
structure IF(H H':Hp)(ws:List Ya)(CW:List Wd):Prop where
 len:ws.length=CW.length
 at_:∀(j:Nat) w wd,ws[j]? =some w->CW[j]? =some wd->H' w=some (.lst wd.vq)
 new:∀w∈ws,H w=none
def Vy:Sp:=fun vs H Q _=>∃(a:Ya)(z:Str)(H0:Hp)(n:Nk),vs=[.ref a,.str z]/\Ce H0 H a n/\z.length<=1000/\
 ∀(L:Ya)(ws:List Ya)(H':Hp),AO H H'->H L=none->H' L=some (.lst (ws.map V.ref))->IF H H' ws (GX n.names z)->Q (.ref L) H'
theorem IF.snoc{ws:List Ya}{CW:List Wd}{w:Ya}{wd:Wd}{o:HO}(h:IF H H2 ws CW)(hw:H2 w=none)(hn:H w=none)(hL:H2 L=some (.lst (ws.map V.ref))):IF H (upd (upd H2 w (.lst wd.vq)) L o) (ws++[w]) (CW++[wd]):=by
 have nLw:w≠L:=(A2 hL hw).symm;refine⟨by rw[A7,A7,h.len];rfl,fun j x xd h1 h2=>?_,fun x hx=>?_⟩
 ·by_cases hj:j<ws.length
  ·rw[DC hj] at h1;rw[DC (by rw[<-h.len];exact hj)] at h2;have:=h.at_ j x xd h1 h2;rw[AQ (CZ this hL (by intro z;exact V5 _ xd (HO.lst.inj z).symm)),AQ (A2 this hw)];exact this
  ·have hj1:j<(ws++[w]).length:=(BX.mp h1).1;rw[A7,DD] at hj1;obtain rfl:j=ws.length:=by lia
   rw[Cv (Ab _),ER] at h1;rw[Cv (by rw[h.len];exact Ab _),h.len,ER] at h2;cases Ag h1;cases Ag h2;rw[AQ nLw,AN]
 ·rcases Bh.mp hx with z|z
  ·exact h.new x z
  ·rw[Bg.mp z];exact hn
theorem IF.ext{H3:Hp}{ws:List Ya}{CW:List Wd}(h:IF H H2 ws CW)(s:AO H2 H3):IF H H3 ws CW:=⟨h.len,fun j w wd h1 h2=>s _ _ (h.at_ j w wd h1 h2),h.new⟩
theorem Rf:Az ["_law_nook","_law_text","_law_words","_law_one"] ["_law_nook","_law_text"] (Ao Rn):=by ac_rfl
theorem cZ{fIs:Ya}{fdIs:qX}(F:Aj K "_law_penned_in" "_law_penned_in" Rn f fd)(FIs:Aj K "_law_is_name" "_law_is_name" Mz fIs fdIs)(bIs:Binds K fdIs ["_law_text"] [])(mIs:mg "_law_is_name" =some (.ref fIs)):
 AW P w K mg base Ah 2 f fd ["_law_nook","_law_text"] Vy:=by
 have GIs:AW P w K mg base Ah 1 fIs fdIs ["_law_text"] R8:=WK FIs;refine F.ok Rf ?_ ?_
 ·rintro _ _ _ _ ⟨_,_,_,_,rfl,_⟩;rfl
 ·rintro _ A _ s H _ Q E hr ⟨a,z,H0,n,rfl,⟨an,at_,tx,nk⟩,hz,q⟩;have hu1:=Cm hr;refine⟨_,(AU (Au (i:=2) Rf.nd rfl (AZ rfl) (Bx AI)) (AU (EI ED rfl (FQ (D7 Jl U8 U7 SG (pv 1) (AE AY AI))) (Bc (i:=3) Rf.nd rfl (AZ rfl))
   (AS (A1 (PW.pt (FJ (Aw BW (Fo Lf (pv 3) KG (Dk Ac)) AY (Ar _)) (FJ (Aw BW (Fo Lf (pv 3) (Dk (Eb EY Ac)) KG) AY (Ar _)) (G9 (EG (Ck GIs hr rfl mIs FIs.kp bIs .nil A8 (AE (Fo Lf (pv 3) (Dk Ac) (Dk (Eb EY Ac))) AI)))))))
   (AS (Bn (D7 D9 Fh Fg Ep (pv 2) (AE (Bx (AE AY (AE (Fo Lf (pv 3) (Dk Ac) (Dk (Eb EY Ac))) (AE (gB hu1 (CN hu1 (pv 0)) (Fo Lf (pv 3) (Dk Ac) (Dk (Eb EY Ac))) (Eb EY Ac) ⟨rfl,rfl,rfl,rfl⟩) AI)))) AI))))
   (AS (A1 (Aw Fy (pv 3) AY (Ar _))
   (AS (Bn (D7 D9 Fh Fg Ep (pv 2) (AE (Bx (AE AY (AE (pv 3) (AE (Eb EY Ac) AI)))) AI))))
   BE))))) (AS (An (pv 2))))),?_⟩;have hpl:(Txt.split z " ").length<=1001:=by
   have:=MZ z " " (by decide)
   lia
  refine⟨by show 0<=sizeLine;decide,fun L hL=>⟨_,rfl,rfl,z,_,rfl,rfl,by ac_rfl,by rw[A3];lia,fun D0 hD0=>?_⟩⟩;have nL0:L≠D0:=A2 AN hD0;have hD0n:H D0=none:=(Aa hL).free hD0;refine⟨D0,rfl,⟨_,AJ.of AN⟩,?_⟩;refine JA (K:=[]) (a:=D0) (xs:=(Txt.split z " ").map V.str) (fun i σ H'=>∃(ws:List Ya)(v3:Option V),σ=[some (.ref a),some (.str z),some (.ref L),v3]/\AO H H'/\H' D0=some (.lst ((Txt.split z " ").map V.str))/\H' L=some (.lst (ws.map V.ref))/\IF H H' ws (((Txt.split z " ").take i).filterMap (D5 n.names))/\ws.length<=i)
   ⟨[],none,rfl,((AO.refl H).upd hL).upd hD0n,AN,by rw[AQ nL0];exact AN,⟨rfl,fun j w wd e=>by simp at e,fun w hw=>by cases hw⟩,Ab _⟩ (fun i σ H' _ ⟨_,_,_,_,h,_⟩=>AJ.of h) ?_ ?_
  ·rintro i x σ H' hx ⟨ws,v3,rfl,sm,hD',hL',pw,wl⟩;rw[Ax] at hx
   cases ep:(Txt.split z " ")[i]?with
   |none=>rw[ep] at hx;cases hx
   |some pc=>
   rw[ep] at hx;obtain rfl:V.str pc=x:=Ag hx;have hi:i<(Txt.split z " ").length:=(BX.mp ep).1;have hpc:=dn z pc (CK ep);have lpc:pc.length<=sizeLine:=by rw[A3];lia
   have li:(inner pc).length<=100000:=by have:=Oa pc (some 1) (some (-1));unfold inner;lia
   have etk:((Txt.split z " ").take (i+1)).filterMap (D5 n.names)=((Txt.split z " ").take i).filterMap (D5 n.names)++(D5 n.names pc).toList:=by rw[EO,ep,List.filterMap_append];show _++[pc].filterMap _=_;cases e:D5 n.names pc<;>simp[e]
   have hlt:(ws.map V.ref).length<sizeLine:=by rw[AL,A3];lia
   have fin:∀(wd:Wd)(es:List V)(H2:Hp)(w:Ya),D5 n.names pc=some wd->es=wd.vq->AO H' H2->H2 w=none->∃(ws':List Ya)(v3:Option V),([some (V.ref a),some (.str z),some (.ref L),some (.str pc)]:St)=[some (.ref a),some (.str z),some (.ref L),v3]/\AO H (upd (upd H2 w (.lst es)) L (.lst (ws.map V.ref++[V.ref w])))/\
    (upd (upd H2 w (.lst es)) L (.lst (ws.map V.ref++[V.ref w]))) D0=some (.lst ((Txt.split z " ").map V.str))/\(upd (upd H2 w (.lst es)) L (.lst (ws.map V.ref++[V.ref w]))) L=some (.lst (ws'.map V.ref))/\
    IF H (upd (upd H2 w (.lst es)) L (.lst (ws.map V.ref++[V.ref w]))) ws' (((Txt.split z " ").take (i+1)).filterMap (D5 n.names))/\ws'.length<=i+1:=by
    rintro wd es H2 w e rfl s2 hw;have hwn:H w=none:=(sm.trans s2).free hw;refine⟨ws++[w],_,rfl,((sm.trans s2).upd hwn).upd hL,?_,by rw[AN,BS];rfl,?_,by rw[A7,DD];lia⟩
    ·rw[AQ nL0.symm,AQ (A2 (s2 _ _ hD') hw)];exact s2 _ _ hD'
    ·rw[etk,e];exact(pw.ext s2).snoc hw hwn (s2 _ _ hL')
   refine dk (fun H2=>AO H' H2/\Hz pc=false) ?_ ?_
   ·rintro H2 ⟨s2,hnp⟩;refine⟨_,rfl,rfl,_,rfl,?_⟩;by_cases e0:pc=""
    ·refine EZ (by rw[e0]) ?_;have er:D5 n.names pc=none:=by unfold D5;rw[hnp,AF (by decide),AH e0]
     exact⟨ws,_,rfl,sm.trans s2,s2 _ _ hD',s2 _ _ hL',by rw[etk,er];show IF _ _ _ (_++[]);rw[C5];exact pw.ext s2,by lia⟩
    ·refine HK (fun z=>e0 (V.str.inj z)) ⟨_,rfl,.inl ⟨rfl,_,AJ.of (s2 _ _ hL')⟩,_,rfl,_,rfl,by show 3<=sizeLine;decide,fun w hw=>⟨L,_,.ref w,rfl,rfl,(Aa hw) _ _ (s2 _ _ hL'),hlt,?_⟩⟩;have er:D5 n.names pc=some ⟨false,pc,-1⟩:=by unfold D5;rw[hnp,AF (by decide),AF e0]
     exact fin _ _ H2 w er rfl s2 hw
   ·intro hG;refine⟨_,rfl,_,rfl,pc,rfl,lpc,rfl,_,rfl,?_⟩;by_cases h1:V.str (Txt.slice pc none (some 1))=V.str "["
    ·refine CG h1 ⟨_,rfl,_,rfl,_,rfl,pc,rfl,lpc,rfl,_,rfl,?_⟩;by_cases h2:V.str (Txt.slice pc (some (-1)) none)=V.str "]"
     ·refine CG h2 ⟨_,rfl,_,rfl,_,rfl,_,rfl,pc,rfl,lpc,inner pc,rfl,li,fun H2 s2=>⟨_,rfl,?_⟩⟩
      cases h3:DI (inner pc) with
      |false=>exact BK (hG H2 ⟨s2,by unfold Hz;rw[h3,K5,K5]⟩)
      |true=>
       have hp:Hz pc=true:=by unfold Hz;rw[h3,BZ h1,BZ h2];rfl
       have nk2:=nk.ext (sm.trans s2);have dg:=BP.kq (k:=.inr (inner pc)) nk2.hn;rw[Er Fp] at dg;refine Bm ⟨_,rfl,.inl ⟨rfl,_,AJ.of (s2 _ _ hL')⟩,_,rfl,_,rfl,_,rfl,_,rfl,pc,rfl,lpc,_,rfl,a,_,rfl,ES nk2.ha,an,rfl,.inl ⟨_,.inl nk2.hn⟩,_,rfl,_,rfl,_,rfl,_,rfl,pc,rfl,lpc,_,rfl,_,dg,by show 3<=sizeLine;decide,fun w hw=>⟨L,_,.ref w,rfl,rfl,(Aa hw) _ _ (s2 _ _ hL'),hlt,?_⟩⟩;have er:D5 n.names pc=some ⟨true,inner pc,(AG n.names (inner pc)).getD (-1)⟩:=by unfold D5;rw[AH hp]
       refine fin _ _ H2 w er ?_ s2 hw;show[V.str "to",V.str (inner pc),((AG n.names (inner pc)).map V.int).getD (V.int (-1))]=[V.str "to",V.str (inner pc),V.int ((AG n.names (inner pc)).getD (-1))];cases AG n.names (inner pc)<;>rfl
     ·exact CT h2 (BK (hG _ ⟨AO.refl _,by unfold Hz;rw[BJ h2,MX,K5]⟩))
    ·exact CT h1 (BK (hG _ ⟨AO.refl _,by unfold Hz;rw[BJ h1,MX]⟩))
  ·rintro σ H' ⟨ws,v3,rfl,sm,hD',hL',pw,wl⟩;rw[AL,Cj] at pw;exact⟨_,rfl,q L ws H' sm hL hL' pw⟩
noncomputable def nameOf(names:List (Str×Int))(no:Int):Str:=((names.find? fun p=>decide (p.2=no)).map (·.1)).getD ""
def shown(names:List (Str×Int))(w:Wd):Str:=if w.to=true then(if w.no= -1 then "[" ++w.nm++ "]" else "[" ++nameOf names w.no++ "]") else w.nm
def Xl:Sp:=fun vs H Q _=>∃(a:Ya)(no:Int)(H0:Hp)(n:Nk),vs=[.ref a,.int no]/\Ce H0 H a n/\Fits n/\∀H',AO H H'->Q (.str (nameOf n.names no)) H'
def X1:Sp:=fun vs H Q _=>∃(a w:Ya)(wd:Wd)(H0:Hp)(n:Nk),vs=[.ref a,.ref w]/\Ce H0 H a n/\Fits n/\H w=some (.lst wd.vq)/\wd.nm.length<=2000/\(∀p∈n.names,p.1.length<=2000)/\∀H',AO H H'->Q (.str (shown n.names wd)) H'
variable{names:List (Str×Int)}{no:Int}
theorem dD(h:∀p∈names,p.1.length<=2000):(nameOf names no).length<=2000:=by
 unfold nameOf
 cases e:names.find? fun p=>decide (p.2=no) with
 |none=>show("" :Str).length<=2000;decide+kernel
 |some p=>exact h p (List.mem_of_find?_eq_some e)
theorem XW:Az ["_law_nook","_law_number","_law_name"] ["_law_nook","_law_number"] (Ao PF):=by ac_rfl
theorem fM(F:Aj K "_law_name_of" "_law_name_of" PF f fd)(O:Own mg):AW P w K mg base Ah 1 f fd ["_law_nook","_law_number"] Xl:=by
 refine F.ok XW ?_ ?_
 ·rintro _ _ _ _ ⟨_,_,_,_,rfl,_⟩;rfl
 ·rintro _ A _ s H _ Q E hr ⟨a,no,H0,n,rfl,⟨an,at_,tx,nk⟩,fit,q⟩;have hu1:=Cm hr;refine⟨_,(AU (EI ED rfl (FQ (EE (LF rfl) rfl O.lst Fs (AE (CN hu1 (pv 0)) AI))) (Bc (i:=2) XW.nd rfl (AZ rfl))
   (AS (A1 (Aw BW (Dm hu1 (CN hu1 (pv 0)) (pv 2) (fun _ _=>rfl)) (pv 1) (Ar _))
   (AS (An (pv 2)))
   BE))) (AS (An AY))),?_⟩;refine⟨_,rfl,a,_,rfl,ES nk.ha,an,_,rfl,nk.hn,fun L hL=>?_⟩;have ek:((F2 n.names).map fun kv=>kV kv.1)=n.names.map fun p=>V.str p.1:=by
   show(n.names.map _).map _=_;rw[BV];rfl
  rw[ek];refine⟨L,rfl,⟨_,AJ.of AN⟩,?_⟩;refine JA (K:=[]) (a:=L) (xs:=n.names.map fun p=>V.str p.1) (fun i σ H'=>∃v2:Option V,σ=[some (.ref a),some (.int no),v2]/\AO (upd H L (.lst (n.names.map fun p=>V.str p.1))) H'/\(n.names.take i).find? (fun p=>decide (p.2=no))=none)
   ⟨none,rfl,AO.refl _,rfl⟩ (fun i σ H' _ ⟨_,_,sm,_⟩=>AJ.of (sm _ _ AN)) ?_ ?_
  ·rintro i x σ H' hx ⟨v2,rfl,sm,hno⟩;rw[Ax] at hx
   cases ep:n.names[i]?with
   |none=>rw[ep] at hx;cases hx
   |some p=>
   rw[ep] at hx;obtain rfl:V.str p.1=x:=Ag hx;have sm1:=(Aa hL).trans sm;have nk2:=nk.ext sm1;have dg:=BP.kq (k:=.inr p.1) nk2.hn;rw[Er Fp,JF fit.CV ep] at dg;refine⟨_,rfl,a,_,rfl,ES nk2.ha,_,rfl,an,_,rfl,dg,_,rfl,rfl,_,rfl,?_⟩;have etk:n.names.take (i+1)=n.names.take i++[p]:=by rw[EO,ep];rfl
   by_cases hp:p.2=no
   ·refine CG (by rw[hp]) ⟨_,rfl,?_⟩;have en:nameOf n.names no=p.1:=by
     unfold nameOf;have:n.names.find? (fun p=>decide (p.2=no))=some p:=by
      conv=>lhs;rw[<-Dr (i+1) n.names]
      rw[etk,Qy,Qy,hno,List.find?_singleton,AH (BZ hp)];rfl
     rw[this];rfl
    have:=q H' sm1;rw[en] at this;exact this
   ·refine CT (fun z=>hp (V.int.inj z)) ⟨_,rfl,sm,?_⟩;rw[etk,Qy,hno,List.find?_singleton,AF (by rw[BJ hp];decide)];rfl
  ·rintro σ H' ⟨v2,rfl,sm,hno⟩;rw[AL,Cj] at hno;have en:nameOf n.names no="" :=by unfold nameOf;rw[hno];rfl
   have:=q H' ((Aa hL).trans sm);rw[en] at this;exact this
theorem jF:Az ["_law_nook","_law_word"] ["_law_nook","_law_word"] (Ao S9):=by ac_rfl
theorem i7:("[" :Str).length=1/\("]" :Str).length=1:=by ac_rfl
theorem ig{fNo:Ya}{fdNo:qX}(F:Aj K "_law_shown" "_law_shown" S9 f fd)(O:Own mg)(FNo:Aj K "_law_name_of" "_law_name_of" PF fNo fdNo)(bNo:Binds K fdNo ["_law_nook","_law_number"] [])(mNo:mg "_law_name_of" =some (.ref fNo)):
 AW P w K mg base Ah 2 f fd ["_law_nook","_law_word"] X1:=by
 have GNo:AW P w K mg base Ah 1 fNo fdNo ["_law_nook","_law_number"] Xl:=fM FNo O;refine F.ok jF ?_ ?_
 ·rintro _ _ _ _ ⟨_,_,_,_,_,rfl,_⟩;rfl
 ·rintro _ A _ s H _ Q E hr ⟨a,w,wd,H0,n,rfl,nk,fit,hw,hnl,hnn,q⟩;refine⟨_,(AU (A1 (Aw BW (Gb (pv 1)) AY (Ar _))
   (AS (An (Gb (pv 1))))
   BE) (AU (A1 (Aw BW (Gb (pv 1)) (Eb EY Ac) (Ar _))
   (AS (An (Ai ET (Ai ET AY (Gb (pv 1))) AY)))
   BE) (AS (An (Ai ET (Ai ET AY (Ck GNo hr rfl mNo FNo.kp bNo .nil A8 (AE (pv 0) (AE (Gb (pv 1)) AI)))) AY))))),?_⟩;obtain⟨b1,b2⟩:=i7;have hnn':=dD (no:=wd.no) hnn;obtain⟨to,nm,no⟩:=wd
  cases to with
  |false=>exact⟨_,rfl,w,_,_,.str "word",rfl,rfl,AJ.of hw,rfl,rfl,_,rfl,CG rfl ⟨_,rfl,w,_,_,.str nm,rfl,rfl,AJ.of hw,rfl,q H (AO.refl H)⟩⟩
  |true=>
   refine⟨_,rfl,w,_,_,.str "to",rfl,rfl,AJ.of hw,rfl,rfl,_,rfl,CT (by intro z;exact absurd (V.str.inj z) (by ac_rfl)) ⟨_,rfl,w,_,_,.int no,rfl,rfl,AJ.of hw,rfl,_,rfl,rfl,_,rfl,?_⟩⟩;by_cases h:no= -1
   ·refine CG (by rw[h]) ⟨_,rfl,w,_,_,.str nm,rfl,rfl,AJ.of hw,rfl,_,_,rfl,rfl,by rw[b1,A3];show 1+nm.length<=_;have:nm.length<=2000:=hnl;lia,_,_,rfl,rfl,by rw[Hu,b1,b2,A3];have:nm.length<=2000:=hnl;lia,?_⟩;have:=q H (AO.refl H);have es:shown n.names ⟨true,nm,no⟩="[" ++nm++ "]" :=by unfold shown;rw[AH rfl,AH h]
    rw[es] at this;exact this
   ·refine CT (fun z=>h (V.int.inj z)) ⟨_,rfl,_,rfl,w,_,_,.int no,rfl,rfl,AJ.of hw,rfl,a,no,H0,n,rfl,nk,fit,fun H' s'=>⟨_,_,rfl,rfl,by rw[b1,A3];have:(nameOf n.names no).length<=2000:=hnn';lia,_,_,rfl,rfl,by rw[Hu,b1,b2,A3];have:(nameOf n.names no).length<=2000:=hnn';lia,?_⟩⟩;have:=q H' s';have es:shown n.names ⟨true,nm,no⟩="[" ++nameOf n.names no++ "]" :=by unfold shown;rw[AH rfl,AF h]
    rw[es] at this;exact this
theorem S1{α β γ:Type}[DecidableEq α]{R:(α×β)->(α×γ)->Prop}(hR:∀t p,R t p->t.1=p.1)(k:α):∀(l:List (α×β))(m:List (α×γ)),l.length=m.length->(∀(i:Nat) t p,l[i]? =some t->m[i]? =some p->R t p)->
 (AR l k).length=(AR m k).length/\∀(i:Nat) t p,(AR l k)[i]? =some t->(AR m k)[i]? =some p->R t p
 |[],[],_,_=>⟨rfl,fun i t p e=>by simp[AR] at e⟩
 |t0::l,p0::m,hl,h=>by
  have h0:=h 0 t0 p0 rfl rfl;obtain⟨e1,e2⟩:=S1 hR k l m (by simpa using hl) fun i t p a b=>h (i+1) t p (by simpa using a) (by simpa using b);have ek:=hR _ _ h0;by_cases c:t0.1=k
  ·have d1:AR (t0::l) k=AR l k:=by unfold AR;rw[Hg];simp[c]
   have d2:AR (p0::m) k=AR m k:=by unfold AR;rw[Hg];simp[<-ek,c]
   rw[d1,d2];exact⟨e1,e2⟩
  ·have d1:AR (t0::l) k=t0::AR l k:=by unfold AR;rw[Gn];simp[c]
   have d2:AR (p0::m) k=p0::AR m k:=by unfold AR;rw[Gn];simp[<-ek,c]
   rw[d1,d2];refine⟨by rw[CP,CP,e1],fun i t p a b=>?_⟩
   cases i with
   |zero=>
    have a':t0=t:=by simpa using a
    have b':p0=p:=by simpa using b
    rw[<-a',<-b'];exact h0
   |succ i=>exact e2 i t p (by simpa using a) (by simpa using b)
 |[],_::_,hl,_=>by cases hl
 |_::_,[],hl,_=>by cases hl
theorem Cy.Pl{tx:List (Int×Ya×List Ya)}(h:Cy H0 H a an at_ tx n)(k:Int):Cy H0 (upd H at_ (.dK (CO (AR tx k)))) a an at_ (AR tx k) {n with texts:=AR n.texts k}:=by obtain⟨e1,e2⟩:=S1 (R:=QF (upd H at_ (.dK (CO (AR tx k))))) (fun t p r=>r.1) k tx n.texts h.len (h.tab h.ht);exact⟨h.same.upd h.ft,by rw[AQ h.ap.xz];exact h.ha,by rw[AQ h.ap.yz];exact h.hn,AN,e1,e2,h.fa,h.fn,h.ft,fun t ht=>h.fw t (IT.mp ht).1,h.ap⟩
theorem GQ{α β:Type}[DecidableEq α]{k:α}{v:β}:∀{l:List (α×β)},AG l k=some v->∃i:Nat,l[i]? =some (k,v)
 |[],h=>by cases h
 |p::l,h=>by
  unfold AG at h;rw[C4] at h;by_cases e:p.1=k
  ·rw[BZ e] at h;have hv:p.2=v:=Ag h;exact⟨0,by rw[<-e,<-hv];rfl⟩
  ·rw[BJ e] at h;obtain⟨i,hi⟩:=GQ (l:=l) h;exact⟨i+1,by simpa using hi⟩
theorem Cy.find{tx:List (Int×Ya×List Ya)}(h:Cy H0 H a an at_ tx n)(Cf:(n.texts.map (·.1)).Nodup){k:Int}{CW:List Wd}(hk:AG n.texts k=some CW):
 ∃(l:Ya)(ws:List Ya),AG tx k=some (l,ws)/\H l=some (.lst (ws.map V.ref))/\ws.length=CW.length/\(∀(j:Nat) w wd,ws[j]? =some w->CW[j]? =some wd->H w=some (.lst wd.vq))/\∀w∈ws,H0 w=none:=by
 obtain⟨i,hi⟩:=GQ hk;have hl:i<tx.length:=by rw[h.len];exact(BX.mp hi).1
 have et:tx[i]? =some tx[i]:=Aq hl;generalize tx[i]=t at et;obtain⟨q1,q2,q3,q4⟩:=h.DW i t _ et hi;obtain⟨k',l,ws⟩:=t;have hk':k'=k:=q1;subst hk';exact⟨l,ws,JF (by rw[h.keys];exact Cf) et,q2,q3,q4,h.fw _ (CK et)⟩
theorem EF{α β:Type}[DecidableEq α]{k j:α}(hne:j≠k):∀l:List (α×β),AG (AR l k) j=AG l j
 |[]=>rfl
 |p::l=>by
  have ih:=EF hne l;by_cases c:p.1=k
  ·have d1:AR (p::l) k=AR l k:=by unfold AR;rw[Hg];simp[c]
   rw[d1,ih];unfold AG;rw[C4,BJ (fun z=>hne (z.symm.trans c))]
  ·have d1:AR (p::l) k=p::AR l k:=by unfold AR;rw[Gn];simp[c]
   rw[d1];unfold AG at ih⊢;rw[C4,C4]
   cases decide (p.1=j) with
   |true=>rfl
   |false=>exact ih
theorem DN{α:Type}[DecidableEq α]{k:α}{l:List (α×β)}(h:(l.map (·.1)).Nodup):((AR l k).map (·.1)).Nodup:=by unfold AR;exact h.sublist (List.filter_sublist.map _)
theorem XO{α:Type}[DecidableEq α]{k:α}{v w:β}{l:List (α×β)}(h:AG l k=some w):(AX l k v).map (·.1)=l.map (·.1):=by
 unfold AX;obtain⟨i,hi⟩:=GQ h;rw[AH (Jq.mpr ⟨_,CK hi,BZ rfl⟩),BV];refine DF fun p _=>?_;show(if p.1=k then(p.1,v) else p).1=p.1;by_cases c:p.1=k
 ·rw[AH c]
 ·rw[AF c]
def Nk.joined(n:Nk)(no:Int)(other:Str)(gone:Int)(w1 w2:List Wd):Nk:=({n with names:=AR n.names other,texts:=AX (AR n.texts gone) no (w1++w2)}:Nk).turned gone "" no
def Xd:Sp:=fun vs H Q _=>∃(a:Ya)(no:Int)(other:Str)(H0:Hp)(n:Nk)(gone:Int)(w1 w2:List Wd),vs=[.ref a,.int no,.str other]/\Ce H0 H a n/\Fits n/\AG n.names other=some gone/\AG n.texts no=some w1/\AG n.texts gone=some w2/\no≠gone/\(w1++w2).length<=100000/\
 ∀H',Ce H0 H' a (n.joined no other gone w1 w2)->Q (.int ((n.joined no other gone w1 w2).led no)) H'
theorem Fits.map{n:Nk}{g:Wd->Wd}(h:Fits n):Fits (n.Il g):=by
 have ek:(n.Il g).texts.map (·.1)=n.texts.map (·.1):=by show(n.texts.map _).map _=_;rw[BV];rfl
 refine⟨h.CV,by rw[ek];exact h.Cf,h.names,?_,fun p hp=>?_⟩
 ·show(n.texts.map _).length<=1000;rw[AL];exact h.texts
 ·obtain⟨q,hq,e⟩:=BI.mp (show p∈n.texts.map _ from hp);rw[<-e];show(q.2.map g).length<=_;rw[AL];exact h.words q hq
theorem Fits.join{gone:Int}{other:Str}{w1 w2:List Wd}(h:Fits n)(h1:AG n.texts no=some w1)(hne:no≠gone)(hl:(w1++w2).length<=100000):Fits {n with names:=AR n.names other,texts:=AX (AR n.texts gone) no (w1++w2)}:=by
 have hg:AG (AR n.texts gone) no=some w1:=by rw[EF hne];exact h1
 refine⟨DN h.CV,?_,BF (Gp _ _) h.names,?_,fun p hp=>?_⟩
 ·show((AX (AR n.texts gone) no (w1++w2)).map (·.1)).Nodup;rw[XO hg];exact DN h.Cf
 ·show(AX (AR n.texts gone) no (w1++w2)).length<=1000;have:=BD List.length (XO (v:=w1++w2) hg);rw[AL,AL] at this;rw[this];exact BF (Gp _ _) h.texts
 ·have hp':p∈AX (AR n.texts gone) no (w1++w2):=hp;unfold AX at hp';by_cases c:((AR n.texts gone).any fun p=>decide (p.1=no))=true
  ·rw[AH c] at hp';obtain⟨q,hq,e⟩:=BI.mp hp';by_cases d:q.1=no
   ·rw[AH d] at e;rw[<-e];exact hl
   ·rw[AF d] at e;rw[<-e];exact h.words q (IT.mp hq).1
  ·rw[AF c] at hp';rcases Bh.mp hp' with z|z
   ·exact h.words p (IT.mp z).1
   ·rw[Bg.mp z];exact hl
theorem W9:Az ["_law_nook","_law_number","_law_other","_law_gone"] ["_law_nook","_law_number","_law_other"] (Ao Sa):=by ac_rfl
theorem fY{fTu fLe:Ya}{fdTu fdLe:qX}(F:Aj K "_law_joined" "_law_joined" Sa f fd)(O:Own mg)
 (FTu:Aj K "_law_turned" "_law_turned" M5 fTu fdTu)(bTu:Binds K fdTu ["_law_nook","_law_number","_law_name","_law_other"] [])(mTu:mg "_law_turned" =some (.ref fTu))
 (FLe:Aj K "_law_led" "_law_led" NX fLe fdLe)(bLe:Binds K fdLe ["_law_nook","_law_number"] [])(mLe:mg "_law_led" =some (.ref fLe)):AW P w K mg base Ah 2 f fd ["_law_nook","_law_number","_law_other"] Xd:=by
 have GTu:AW P w K mg base Ah 1 fTu fdTu ["_law_nook","_law_number","_law_name","_law_other"] Ru:=V1 FTu O;have GLe:AW P w K mg base Ah 1 fLe fdLe ["_law_nook","_law_number"] Tj:=Yu FLe O;refine F.ok W9 ?_ ?_
 ·rintro _ _ _ _ ⟨_,_,_,_,_,_,_,_,rfl,_⟩;rfl
 ·rintro _ A _ s H _ Q E hr ⟨a,no,other,H0,n,gone,w1,w2,rfl,⟨an,at_,tx,nk⟩,fit,hgo,hw1,hw2,hne,hlen,q⟩;have hu1:=Cm hr;refine⟨_,(AU (Au (i:=3) W9.nd rfl (AZ rfl) (JB (CN hu1 (pv 0)) (pv 2) ⟨rfl,rfl,rfl,rfl⟩)) (AU (FE hu1 (CN hu1 (pv 0)) (pv 1) (Ai JL (Dm hu1 (CN hu1 (pv 0)) (pv 1) (fun _ _=>rfl)) (JB (CN hu1 (pv 0)) (pv 3) ⟨rfl,rfl,rfl,rfl⟩)) rfl) (AU (Bn (Ck GTu hr rfl mTu FTu.kp bTu .nil A8 (AE (pv 0) (AE (pv 3) (AE AY (AE (pv 1) AI)))))) (AS (An (Ck GLe hr rfl mLe FLe.kp bLe .nil A8 (AE (pv 0) (AE (pv 1) AI)))))))),?_⟩;have v1:Bk (F2 n.names) (.inr other)=some (.int gone):=by rw[Er Fp,hgo];rfl
  refine⟨_,rfl,a,_,rfl,ES nk.ha,an,rfl,.inl ⟨_,.inl nk.hn⟩,_,rfl,_,.inr other,_,nk.hn,rfl,v1,?_⟩;rw[LH Fp];have nk1:=nk.putN (AR n.names other);generalize upd H an (.dK (F2 (AR n.names other)))=H1 at nk1;obtain⟨l1,ws1,g1,hl1,E8,at1,new1⟩:=nk1.find (show(n.texts.map (·.1)).Nodup from fit.Cf) hw1;obtain⟨l2,ws2,g2,hl2,Lp,at2',new2⟩:=nk1.find (show(n.texts.map (·.1)).Nodup from fit.Cf) hw2;have d1:BP H1 at_ (.int no) (some (.ref l1)):=by have:=BP.kq (k:=.inl no) nk1.ht;rw[Er FF,g1] at this;exact this
  have v2:Bk (CO tx) (.inl gone)=some (.ref l2):=by rw[Er FF,g2];rfl
  refine⟨_,rfl,a,_,rfl,Gv nk1.ha,_,rfl,at_,_,rfl,d1,_,rfl,a,_,rfl,Gv nk1.ha,at_,rfl,.inl ⟨_,.inl nk1.ht⟩,_,rfl,_,.inl gone,_,nk1.ht,rfl,v2,?_⟩;rw[LH FF];have nk2:=nk1.Pl gone;have keep:∀b xs,H1 b=some (.lst xs)->(upd H1 at_ (.dK (CO (AR tx gone)))) b=some (.lst xs):=fun b xs e=>by rw[AQ (CZ e nk1.ht (by intro z;cases z))];exact e
  have hl1':=keep _ _ hl1;have hl2':=keep _ _ hl2;have at1':=fun j w wd (e1:ws1[j]? =some w)(e2:w1[j]? =some wd)=>keep _ _ (at1 j w wd e1 e2);have at2'':=fun j w wd (e1:ws2[j]? =some w)(e2:w2[j]? =some wd)=>keep _ _ (at2' j w wd e1 e2);generalize upd H1 at_ (.dK (CO (AR tx gone)))=H2 at nk2 hl1' hl2' at1' at2'';rw[A7] at hlen;refine⟨l1,l2,_,_,rfl,rfl,hl1',hl2',by rw[AL,AL,A3];lia,fun l hl=>?_⟩;have s3:AO H2 (upd H2 l (.lst (ws1.map V.ref++ws2.map V.ref))):=Aa hl;have nk3:=nk2.ext s3;have htl:(CO (AR tx gone)).length<sizeLine:=by
   show((AR tx gone).map _).length<_;have h1:=Gp (fun p:Int×Ya×List Ya=>decide (p.1≠gone)) tx;have h2:=fit.texts;have h3:=nk.len;rw[AL,A3];show(tx.filter _).length<_
   lia
  have dp:=Dc.kq (k:=.inl no) (v:=.ref l) nk3.ht htl;have e2:putK (CO (AR tx gone)) (.inl no) (.ref l)=CO (AX (AR tx gone) no (l,ws1++ws2)):=J0 (g:=fun p:Ya×List Ya=>V.ref p.1) FF no (l,ws1++ws2) (AR tx gone);rw[e2] at dp;refine⟨_,rfl,a,_,rfl,Gv nk3.ha,_,rfl,at_,_,rfl,dp,?_⟩;have nk4:=nk3.Nm no (l:=l) (ws:=ws1++ws2) (CW:=w1++w2) (by rw[AN,BS]) (by rw[A7,A7,E8,Lp]) (fun j w wd e1 e2=>?_) (fun w hw=>(Bh.mp hw).elim (new1 w) (new2 w))
  ·have fit4:Fits {n with names:=AR n.names other,texts:=AX (AR n.texts gone) no (w1++w2)}:=fit.join hw1 hne (by rw[A7];exact hlen);refine⟨_,rfl,_,rfl,_,rfl,a,gone,"",no,H0,_,rfl,⟨an,at_,_,nk4⟩,fit4,fun H5 nk5=>?_⟩;exact⟨_,rfl,_,rfl,a,no,H0,_,rfl,nk5,fit4.map,fun H6 s6=>q H6 (let⟨x,y,z,nk⟩:=nk5;⟨x,y,z,nk.ext s6⟩)⟩
  ·by_cases hj:j<ws1.length
   ·rw[DC hj] at e1;rw[DC (by lia)] at e2;exact s3 _ _ (at1' j w wd e1 e2)
   ·rw[Cv (by lia)] at e1;rw[Cv (by lia),<-E8] at e2;exact s3 _ _ (at2'' _ w wd e1 e2)
theorem dG(hu:X.A.units<qh):Bv X (qW .Eq) (fun x y H Q=>∃a b xs,x=.ref a/\y=.ref b/\AV [] H a xs/\AV [] H b []/\Q (.bl xs.isEmpty) H):=by intro pins s σ H x y v u Q I rx ry h;obtain⟨a,b,xs,rfl,rfl,ha,hb,q⟩:=h;cases rx;cases ry;obtain⟨AM,r,pl,hz⟩:=I.tuple (Lq ha);obtain⟨its2,r2,pl2,hz2⟩:=I.tuple (Lq hb);cases r2;refine SeqAt.eq_tupleAt (e:=fun _=>true) pl pl2 hu (fun j h1 h2=>absurd h2 (by simp)) ⟨.bl xs.isEmpty,H,I,?_,q⟩;cases r<;>rfl
theorem Be(r:Rep H (.str z) v):v=.str z:=by cases r;rfl
theorem i6{z:Int}(r:Rep H (.int z) v):v=.int z:=by cases r;rfl
theorem CA(r:Rep H (.tup ds) v):∃a xs,v=.ref a/\H a=some (.tup xs)/\Ae H ds xs:=by
 cases r with
 |tup h hl rr=>exact⟨_,_,rfl,h,hl,rr⟩
theorem HN{x y:Dt}{xs:List V}(r:Ae H [x,y] xs):∃u v,xs=[u,v]/\Rep H x u/\Rep H y v:=by exact Lp (C:=fun xs=>Ae H [x,y] xs->∃u v,xs=[u,v]/\Rep H x u/\Rep H y v) (fun u v r=>⟨u,v,rfl,r.2 0 x u rfl rfl,r.2 1 y v rfl rfl⟩) r.1.symm r
theorem Ez{x y z:Dt}{xs:List V}(r:Ae H [x,y,z] xs):∃u v w,xs=[u,v,w]/\Rep H x u/\Rep H y v/\Rep H z w:=by exact T5 (C:=fun xs=>Ae H [x,y,z] xs->∃u v w,xs=[u,v,w]/\Rep H x u/\Rep H y v/\Rep H z w) (fun u v w r=>⟨u,v,w,rfl,r.2 0 x u rfl rfl,r.2 1 y v rfl rfl,r.2 2 z w rfl rfl⟩) r.1.symm r
theorem Pu{x y z t:Dt}{xs:List V}(r:Ae H [x,y,z,t] xs):∃u v w q,xs=[u,v,w,q]/\Rep H x u/\Rep H y v/\Rep H z w/\Rep H t q:=by exact aQ (C:=fun xs=>Ae H [x,y,z,t] xs->∃u v w q,xs=[u,v,w,q]/\Rep H x u/\Rep H y v/\Rep H z w/\Rep H t q) (fun u v w q r=>⟨u,v,w,q,rfl,r.2 0 x u rfl rfl,r.2 1 y v rfl rfl,r.2 2 z w rfl rfl,r.2 3 t q rfl rfl⟩) r.1.symm r
def BU(n:Nk):Am->Str
 |.find ws _=>if ws=[] then "no words" else ""
 |.back _=>""
 |.write nm _=>if DI nm=true then "" else "no name"
 |.rename nm o=>if AG n.names nm=none then "no page" else if DI o=false then "no name" else if AG n.names o=none then "" else "taken"
 |.join nm o=>if AG n.names nm=none then "no page" else if AG n.names o=none then "no page" else if nm=o then "same page" else ""
 |.cut nm p o=>match AG n.names nm with
  |none=>"no page"
  |some no=>if DI o=false then "no name" else if AG n.names o=none then(if p<0 then "no place" else if((AG n.texts no).getD []).length<p then "no place" else "") else "taken"
 |.drop nm=>if AG n.names nm=none then "no page" else ""
 |.text nm=>if AG n.names nm=none then "no page" else ""
def W5:Sp:=fun vs H Q _=>∃(a:Ya)(d:V)(dd:Am)(H0:Hp)(n:Nk),vs=[.ref a,d]/\Ce H0 H a n/\Fits n/\Rep H dd.dt d/\dd.Good/\(∀nm no,AG n.names nm=some no->∃ws,AG n.texts no=some ws)/\∀H',AO H H'->Q (.str (BU n dd)) H'
theorem EW(h:H an=some (.dK (F2 names)))(z:Str):BP H an (.str z) ((AG names z).map V.int):=by have:=BP.kq (k:=.inr z) h;rw[Er Fp] at this;exact this
section
variable{y:Str}{a rest:TS}{t:TT}{D:Ends}
theorem Bf(hx:σ[i]? =some (some (.str x)))(ne:x≠y)(h:rest D σ H):JZ (HU (KP (FV Lw (Ee i) (tC (.str y)))) a KO) rest D σ H:=⟨_,hx,rfl,_,rfl,CT (fun z=>ne (V.str.inj z)) h⟩
theorem Jd(hx:σ[i]? =some (some (.str y)))(h:a {D with nx:=rest D} σ H):JZ (HU (KP (FV Lw (Ee i) (tC (.str y)))) a KO) rest D σ H:=⟨_,hx,rfl,_,rfl,CG rfl h⟩
theorem Dg(hx:σ[i]? =some (some (.str x)))(ne:x≠y)(h:rest D σ H):JZ (HU (UE (KP (FV Lw (Ee i) (tC (.str y)))) t) a KO) rest D σ H:=⟨_,hx,rfl,_,rfl,CT (fun z=>ne (V.str.inj z)) (BK h)⟩
theorem qD(hx:σ[i]? =some (some (.str y)))(h:rest D σ H):JZ (HU (UE (KP (FV bY (Ee i) (tC (.str y)))) t) a KO) rest D σ H:=⟨_,hx,rfl,_,rfl,EZ rfl (BK h)⟩
end
variable{d:Ya}
section
variable{y:Str}{a rest:TS}{t:TT}{D:Ends}
theorem IJ{vs:List V}(hx:σ[i]? =some (some (.ref d)))(hd:H d=some (.tup (.str x::vs)))(ne:x≠y)(h:rest D σ H):JZ (HU (KP (FV Lw (FV (Lo []) (Ee i) (tC (.int 0))) (tC (.str y)))) a KO) rest D σ H:=⟨_,hx,d,_,_,.str x,rfl,rfl,AV.of hd,Bw (j:=0) rfl,rfl,_,rfl,CT (fun z=>ne (V.str.inj z)) h⟩
theorem QY{vs:List V}(hx:σ[i]? =some (some (.ref d)))(hd:H d=some (.tup (.str y::vs)))(h:a {D with nx:=rest D} σ H):JZ (HU (KP (FV Lw (FV (Lo []) (Ee i) (tC (.int 0))) (tC (.str y)))) a KO) rest D σ H:=⟨_,hx,d,_,_,.str y,rfl,rfl,AV.of hd,Bw (j:=0) rfl,rfl,_,rfl,CG rfl h⟩
end
theorem SJ:Az ["_law_nook","_law_deed","_law_names","_law_word"] ["_law_nook","_law_deed"] (Ao Sl):=by ac_rfl
theorem d8{fIs:Ya}{fdIs:qX}(F:Aj K "_law_barred" "_law_barred" Sl f fd)(O:Own mg)(FIs:Aj K "_law_is_name" "_law_is_name" Mz fIs fdIs)(bIs:Binds K fdIs ["_law_text"] [])(mIs:mg "_law_is_name" =some (.ref fIs)):
 AW P w K mg base Ah 2 f fd ["_law_nook","_law_deed"] W5:=by
 have GIs:AW P w K mg base Ah 1 fIs fdIs ["_law_text"] R8:=WK FIs;refine F.ok SJ ?_ ?_
 ·rintro _ _ _ _ ⟨_,_,_,_,_,rfl,_⟩;rfl
 ·rintro _ A _ s H _ Q E hr ⟨a,dv,dd,H0,n,rfl,⟨an,at_,tx,nk⟩,fit,rd,gd,BH,q⟩;have hu:=hr.TJ;have hu1:=Cm hr;refine⟨_,(AU (Au (i:=2) SJ.nd rfl (AZ rfl) (CN hu1 (pv 0))) (AU (Au (i:=3) SJ.nd rfl (AZ rfl) (A9 (pv 1))) (AU (A1 (Aw BW (pv 3) AY (Ar _))
   (AS (An (Bt Co (Bx (AE AY (AE AY AI))) (EE Jy rfl O.int JJ (AE (G0 (dG hu) (A9 (pv 1)) (CQ AI) (Ar _)) AI)) (fun _ _=>rfl))))
   BE) (AU (A1 (Aw BW (pv 3) AY (Ar _))
   (AS (An AY))
   BE) (AU (A1 (PW.pt (FJ (Aw Fy (pv 3) AY (Ar _)) (G9 (JM (Oo hu1 (A9 (pv 1)) (pv 2))))))
   (AS (An AY))
   BE) (AU (A1 (PW.pt (FJ (Aw BW (pv 3) AY (Ar _)) (G9 (JM (Oo hu1 (A9 (pv 1)) (pv 2))))))
   (AS (An AY))
   BE) (AU (A1 (PW.pt (FJ (Aw BW (pv 3) AY (Ar _)) (G9 (Hx (EG (Ck GIs hr rfl mIs FIs.kp bIs .nil A8 (AE (A9 (pv 1)) AI)))))))
   (AS (An AY))
   BE) (AU (A1 (Aw aC (pv 3) (Bx (AE AY (AE AY AI))) rfl)
   (AU (A1 (Hx (EG (Ck GIs hr rfl mIs FIs.kp bIs .nil A8 (AE (Bt Py (pv 1) (Eb EY Ac) (fun _ _=>rfl)) AI))))
   (AS (An AY))
   BE) (AS (A1 (JM (ZN hu1 (Bt Py (pv 1) (Eb EY Ac) (fun _ _=>rfl)) (pv 2)))
   (AS (An AY))
   BE)))
   BE) (AU (A1 (PW.pt (FJ (Aw BW (pv 3) AY (Ar _)) (G9 (Aw BW (A9 (pv 1)) (A9 (pv 1)) (Ar _)))))
   (AS (An AY))
   BE) (AU (A1 (PW.pt (FJ (Aw BW (pv 3) AY (Ar _)) (G9 (PW.pt (JT (Aw JQ (A9 (pv 1)) Ac (Ar _)) (JG (Aw Tv (A9 (pv 1)) (BY HQ rfl O.len Dj (AE (Dm hu1 (CN hu1 (pv 0)) (Dm hu1 (pv 2) (A9 (pv 1)) (fun _ _=>rfl)) (fun _ _=>rfl)) AI)) (Ar _))))))))
   (AS (An AY))
   BE) (AS (An AY)))))))))))),?_⟩;refine⟨_,rfl,a,_,rfl,ES nk.ha,?_⟩;have q0:=q H (AO.refl H)
  cases dd with
  |back o=>obtain⟨d,xs,rfl,hd,rs⟩:=CA rd;obtain⟨u,v,rfl,r1,r2⟩:=HN rs;cases Be r1;cases Be r2;refine⟨_,rfl,d,_,_,.str "back",rfl,rfl,AV.of hd,rfl,?_⟩;refine Bf rfl (by ac_rfl) ?_;exact Jd rfl q0
  |find ws far=>
   obtain⟨d,xs,rfl,hd,rs⟩:=CA rd;obtain⟨u,v,x,rfl,r1,r2,r3⟩:=Ez rs;cases Be r1;obtain⟨t,ys,rfl,ht,ry⟩:=CA r2;refine⟨_,rfl,d,_,_,.str "find",rfl,rfl,AV.of hd,rfl,?_⟩;refine⟨_,rfl,rfl,_,rfl,CG rfl ⟨by show 2<=sizeLine;decide,fun l hl=>?_⟩⟩;have s1:AO H (upd H l (.lst [V.str "",V.str "no words"])):=Aa hl;refine⟨_,rfl,d,_,_,.ref t,rfl,rfl,AV.of (s1 _ _ hd),rfl,by show 0<=sizeLine;decide,fun e he=>?_⟩;have s2:=Aa (o:=.tup []) he;have hly:=ry.1;rw[AL] at hly;refine⟨t,e,ys,rfl,rfl,AV.of (s2 _ _ (s1 _ _ ht)),AV.of AN,.inr ⟨_,rfl,l,_,_,.str (BU n (.find ws far)),rfl,rfl,AJ.of (s2 _ _ AN),?_,q _ (s1.trans s2)⟩⟩
   cases ws with
   |nil=>
    cases ys with
    |nil=>rfl
    |cons y ys=>cases hly
   |cons w ws=>
    cases ys with
    |nil=>cases hly
    |cons y ys=>rfl
  |write nm t=>
   obtain⟨d,xs,rfl,hd,rs⟩:=CA rd;obtain⟨u,v,x,rfl,r1,r2,r3⟩:=Ez rs;cases Be r1;cases Be r2;cases Be r3;refine⟨_,rfl,d,_,_,.str "write",rfl,rfl,AV.of hd,rfl,?_⟩;refine Bf rfl (by ac_rfl) ?_;refine Bf rfl (by ac_rfl) ?_;refine qD rfl ?_;refine Dg rfl (by ac_rfl) ?_;refine⟨_,rfl,rfl,_,rfl,CG rfl ⟨_,rfl,d,_,_,.str nm,rfl,rfl,AV.of hd,rfl,nm,rfl,by have:=gd.1;lia,fun H2 s2=>⟨_,rfl,?_⟩⟩⟩;have q2:=q H2 s2
   cases hn:DI nm with
   |false=>
    have eb:BU n (.write nm t)="no name" :=by show(if DI nm=true then _ else _)=_;rw[hn];rfl
    rw[eb] at q2;exact Bm q2
   |true=>
    have eb:BU n (.write nm t)="" :=by show(if DI nm=true then _ else _)=_;rw[hn];rfl
    refine BK ?_;refine⟨_,rfl,by show 2<=sizeLine;decide,fun l hl=>⟨l,_,rfl,.inl (AJ.of AN),rfl,rfl,false,BD V.bl (by ac_rfl),BK ?_⟩⟩;refine Dg rfl (by ac_rfl) ?_;refine Dg rfl (by ac_rfl) ?_;have q3:=q _ (s2.trans (Aa (o:=.lst [V.str "rename",V.str "cut"]) hl));rw[eb] at q3;exact q3
  |drop nm=>
   obtain⟨d,xs,rfl,hd,rs⟩:=CA rd;obtain⟨u,v,rfl,r1,r2⟩:=HN rs;cases Be r1;cases Be r2;refine⟨_,rfl,d,_,_,.str "drop",rfl,rfl,AV.of hd,rfl,?_⟩;refine Bf rfl (by ac_rfl) ?_;refine Bf rfl (by ac_rfl) ?_;refine⟨_,rfl,rfl,_,rfl,HK (by intro z;exact absurd (V.str.inj z) (by ac_rfl)) ⟨_,rfl,d,_,_,.str nm,rfl,rfl,AV.of hd,rfl,_,rfl,an,_,rfl,EW nk.hn nm,_,rfl,?_⟩⟩
   cases hg:AG n.names nm with
   |none=>
    have eb:BU n (.drop nm)="no page" :=by unfold BU;simp only[hg,CJ]
    rw[eb] at q0;exact Bm q0
   |some no=>
   refine BK ?_;refine Dg rfl (by ac_rfl) ?_;refine Dg rfl (by ac_rfl) ?_;refine⟨_,rfl,by show 2<=sizeLine;decide,fun l hl=>⟨l,_,rfl,.inl (AJ.of AN),rfl,rfl,false,BD V.bl (by ac_rfl),?_⟩⟩;have s1:AO H (upd H l (.lst [V.str "rename",V.str "cut"])):=Aa hl;generalize upd H l (.lst [V.str "rename",V.str "cut"])=H1 at s1⊢;have q1:=q H1 s1;refine BK ?_;refine Dg rfl (by ac_rfl) ?_;refine Dg rfl (by ac_rfl) ?_;have eb:BU n (.drop nm)="" :=by unfold BU;simp only[hg,Bs,reduceCtorEq]
   rw[eb] at q1;exact q1
  |text nm=>
   obtain⟨d,xs,rfl,hd,rs⟩:=CA rd;obtain⟨u,v,rfl,r1,r2⟩:=HN rs;cases Be r1;cases Be r2;refine⟨_,rfl,d,_,_,.str "text",rfl,rfl,AV.of hd,rfl,?_⟩;refine Bf rfl (by ac_rfl) ?_;refine Bf rfl (by ac_rfl) ?_;refine⟨_,rfl,rfl,_,rfl,HK (by intro z;exact absurd (V.str.inj z) (by ac_rfl)) ⟨_,rfl,d,_,_,.str nm,rfl,rfl,AV.of hd,rfl,_,rfl,an,_,rfl,EW nk.hn nm,_,rfl,?_⟩⟩
   cases hg:AG n.names nm with
   |none=>
    have eb:BU n (.text nm)="no page" :=by unfold BU;simp only[hg,CJ]
    rw[eb] at q0;exact Bm q0
   |some no=>
   refine BK ?_;refine Dg rfl (by ac_rfl) ?_;refine Dg rfl (by ac_rfl) ?_;refine⟨_,rfl,by show 2<=sizeLine;decide,fun l hl=>⟨l,_,rfl,.inl (AJ.of AN),rfl,rfl,false,BD V.bl (by ac_rfl),?_⟩⟩;have s1:AO H (upd H l (.lst [V.str "rename",V.str "cut"])):=Aa hl;generalize upd H l (.lst [V.str "rename",V.str "cut"])=H1 at s1⊢;have q1:=q H1 s1;refine BK ?_;refine Dg rfl (by ac_rfl) ?_;refine Dg rfl (by ac_rfl) ?_;have eb:BU n (.text nm)="" :=by unfold BU;simp only[hg,Bs,reduceCtorEq]
   rw[eb] at q1;exact q1
  |join nm o=>
   obtain⟨d,xs,rfl,hd,rs⟩:=CA rd;obtain⟨u,v,x,rfl,r1,r2,r3⟩:=Ez rs;cases Be r1;cases Be r2;cases Be r3;refine⟨_,rfl,d,_,_,.str "join",rfl,rfl,AV.of hd,rfl,?_⟩;refine Bf rfl (by ac_rfl) ?_;refine Bf rfl (by ac_rfl) ?_;refine⟨_,rfl,rfl,_,rfl,HK (by intro z;exact absurd (V.str.inj z) (by ac_rfl)) ⟨_,rfl,d,_,_,.str nm,rfl,rfl,AV.of hd,rfl,_,rfl,an,_,rfl,EW nk.hn nm,_,rfl,?_⟩⟩
   cases hg:AG n.names nm with
   |none=>
    have eb:BU n (.join nm o)="no page" :=by unfold BU;simp only[hg,CJ]
    rw[eb] at q0;exact Bm q0
   |some no=>
   refine BK ?_;refine⟨_,rfl,rfl,_,rfl,CG rfl ⟨_,rfl,d,_,_,.str o,rfl,rfl,AV.of hd,rfl,_,rfl,an,_,rfl,EW nk.hn o,_,rfl,?_⟩⟩
   cases ho:AG n.names o with
   |none=>
    have eb:BU n (.join nm o)="no page" :=by unfold BU;simp only[hg,ho,CJ,Bs,reduceCtorEq]
    rw[eb] at q0;exact Bm q0
   |some no2=>
   refine BK ?_;refine Dg rfl (by ac_rfl) ?_;refine⟨_,rfl,by show 2<=sizeLine;decide,fun l hl=>⟨l,_,rfl,.inl (AJ.of AN),rfl,rfl,false,BD V.bl (by ac_rfl),?_⟩⟩;have s1:AO H (upd H l (.lst [V.str "rename",V.str "cut"])):=Aa hl;generalize upd H l (.lst [V.str "rename",V.str "cut"])=H1 at s1⊢;have q1:=q H1 s1;refine BK ?_;refine⟨_,rfl,rfl,_,rfl,CG rfl ⟨_,rfl,d,_,_,.str nm,rfl,rfl,AV.of (s1 _ _ hd),rfl,_,rfl,d,_,_,.str o,rfl,rfl,AV.of (s1 _ _ hd),rfl,rfl,_,rfl,?_⟩⟩;by_cases he:nm=o
   ·have eb:BU n (.join nm o)="same page" :=by unfold BU;simp only[hg,ho,Bs,reduceCtorEq];rw[AH he]
    rw[eb] at q1;exact CG (by rw[he]) q1
   ·refine CT (fun z=>he (V.str.inj z)) ?_;refine Dg rfl (by ac_rfl) ?_;have eb:BU n (.join nm o)="" :=by unfold BU;simp only[hg,ho,Bs,reduceCtorEq];rw[AF he]
    rw[eb] at q1;exact q1
  |rename nm o=>
   obtain⟨d,xs,rfl,hd,rs⟩:=CA rd;obtain⟨u,v,x,rfl,r1,r2,r3⟩:=Ez rs;cases Be r1;cases Be r2;cases Be r3;refine⟨_,rfl,d,_,_,.str "rename",rfl,rfl,AV.of hd,rfl,?_⟩;refine Bf rfl (by ac_rfl) ?_;refine Bf rfl (by ac_rfl) ?_;refine⟨_,rfl,rfl,_,rfl,HK (by intro z;exact absurd (V.str.inj z) (by ac_rfl)) ⟨_,rfl,d,_,_,.str nm,rfl,rfl,AV.of hd,rfl,_,rfl,an,_,rfl,EW nk.hn nm,_,rfl,?_⟩⟩
   cases hg:AG n.names nm with
   |none=>
    have eb:BU n (.rename nm o)="no page" :=by unfold BU;simp only[hg,CJ]
    rw[eb] at q0;exact Bm q0
   |some no=>
   refine BK ?_;refine Dg rfl (by ac_rfl) ?_;refine Dg rfl (by ac_rfl) ?_;refine⟨_,rfl,by show 2<=sizeLine;decide,fun l hl=>⟨l,_,rfl,.inl (AJ.of AN),rfl,rfl,true,BD V.bl (by ac_rfl),?_⟩⟩;have s1:AO H (upd H l (.lst [V.str "rename",V.str "cut"])):=Aa hl;generalize upd H l (.lst [V.str "rename",V.str "cut"])=H1 at s1⊢;have q1:=q H1 s1;refine Bm ⟨_,rfl,_,rfl,d,_,_,.str o,rfl,rfl,AV.of (s1 _ _ hd),rfl,o,rfl,by have:=gd.2;lia,fun H2 s2=>⟨_,rfl,?_⟩⟩;have s12:=s1.trans s2;have q2:=q H2 s12;have nk2:=nk.ext s12
   cases hn:DI o with
   |false=>
    have eb:BU n (.rename nm o)="no name" :=by unfold BU;simp only[hg,hn,CJ,Bs,reduceCtorEq]
    rw[eb] at q2;exact Bm q2
   |true=>
   refine BK ⟨_,rfl,_,rfl,d,_,_,.str o,rfl,rfl,AV.of (s12 _ _ hd),rfl,_,rfl,an,_,rfl,EW nk2.hn o,_,rfl,?_⟩
   cases ho:AG n.names o with
   |some no2=>
    have eb:BU n (.rename nm o)="taken" :=by unfold BU;simp only[hg,hn,ho,Bs,reduceCtorEq,MP]
    rw[eb] at q2;exact Bm q2
   |none=>
   refine BK ?_;refine Dg rfl (by ac_rfl) ?_;refine Dg rfl (by ac_rfl) ?_;have eb:BU n (.rename nm o)="" :=by unfold BU;simp only[hg,hn,ho,CJ,Bs,reduceCtorEq,MP]
   rw[eb] at q2;exact q2
  |cut nm p o=>
   obtain⟨d,xs,rfl,hd,rs⟩:=CA rd;obtain⟨u,v,x,y,rfl,r1,r2,r3,r4⟩:=Pu rs;cases Be r1;cases Be r2;cases i6 r3;cases Be r4;refine⟨_,rfl,d,_,_,.str "cut",rfl,rfl,AV.of hd,rfl,?_⟩;refine Bf rfl (by ac_rfl) ?_;refine Bf rfl (by ac_rfl) ?_;refine⟨_,rfl,rfl,_,rfl,HK (by intro z;exact absurd (V.str.inj z) (by ac_rfl)) ⟨_,rfl,d,_,_,.str nm,rfl,rfl,AV.of hd,rfl,_,rfl,an,_,rfl,EW nk.hn nm,_,rfl,?_⟩⟩
   cases hg:AG n.names nm with
   |none=>
    have eb:BU n (.cut nm p o)="no page" :=by unfold BU;simp only[hg,CJ]
    rw[eb] at q0;exact Bm q0
   |some no=>
   refine BK ?_;refine Dg rfl (by ac_rfl) ?_;refine Dg rfl (by ac_rfl) ?_;refine⟨_,rfl,by show 2<=sizeLine;decide,fun l hl=>⟨l,_,rfl,.inl (AJ.of AN),rfl,rfl,true,BD V.bl (by ac_rfl),?_⟩⟩;have s1:AO H (upd H l (.lst [V.str "rename",V.str "cut"])):=Aa hl;generalize upd H l (.lst [V.str "rename",V.str "cut"])=H1 at s1⊢;have q1:=q H1 s1;refine Bm ⟨_,rfl,_,rfl,d,_,_,.str o,rfl,rfl,AV.of (s1 _ _ hd),rfl,o,rfl,by have:=gd.2;lia,fun H2 s2=>⟨_,rfl,?_⟩⟩;have s12:=s1.trans s2;have q2:=q H2 s12;have nk2:=nk.ext s12
   cases hn:DI o with
   |false=>
    have eb:BU n (.cut nm p o)="no name" :=by unfold BU;simp only[hg,hn,CJ,Bs,reduceCtorEq]
    rw[eb] at q2;exact Bm q2
   |true=>
   refine BK ⟨_,rfl,_,rfl,d,_,_,.str o,rfl,rfl,AV.of (s12 _ _ hd),rfl,_,rfl,an,_,rfl,EW nk2.hn o,_,rfl,?_⟩
   cases ho:AG n.names o with
   |some no2=>
    have eb:BU n (.cut nm p o)="taken" :=by unfold BU;simp only[hg,hn,ho,Bs,reduceCtorEq,MP]
    rw[eb] at q2;exact Bm q2
   |none=>
   refine BK ?_;refine Dg rfl (by ac_rfl) ?_;obtain⟨ws,hws⟩:=BH nm no hg;obtain⟨l1,ws1,g1,hl1,E8,_,_⟩:=nk2.find fit.Cf hws;have d1:BP H2 at_ (.int no) (some (.ref l1)):=by have:=BP.kq (k:=.inl no) nk2.ht;rw[Er FF,g1] at this;exact this
   have d2:BP H2 an (.str nm) (some (.int no)):=by have:=EW nk2.hn nm;rw[hg] at this;exact this
   refine⟨_,rfl,rfl,_,rfl,CG rfl ⟨_,rfl,d,_,_,.int p,rfl,rfl,AV.of (s12 _ _ hd),rfl,_,_,rfl,rfl,_,rfl,?_⟩⟩;by_cases hp:p<0
   ·have eb:BU n (.cut nm p o)="no place" :=by unfold BU;simp only[hg,hn,ho,CJ,Bs,reduceCtorEq,MP];rw[AH hp]
    rw[eb] at q2;exact CG hp (Bm q2)
   ·refine CT hp ⟨_,rfl,d,_,_,.int p,rfl,rfl,AV.of (s12 _ _ hd),rfl,_,rfl,a,_,rfl,Gv nk2.ha,_,rfl,_,rfl,d,_,_,.str nm,rfl,rfl,AV.of (s12 _ _ hd),rfl,an,_,rfl,d2,at_,_,rfl,d1,l1,_,rfl,.inl (AJ.of hl1),_,_,rfl,rfl,_,rfl,?_⟩;rw[AL,E8];by_cases hq:(ws.length:Int)<p
    ·have eb:BU n (.cut nm p o)="no place" :=by unfold BU;simp only[hg,hn,ho,hws,CJ,Bs,reduceCtorEq,MP,Option.getD_some];rw[AF hp,AH hq]
     rw[eb] at q2;exact CG hq q2
    ·have eb:BU n (.cut nm p o)="" :=by unfold BU;simp only[hg,hn,ho,hws,CJ,Bs,reduceCtorEq,MP,Option.getD_some];rw[AF hp,AF hq]
     rw[eb] at q2;exact CT hq q2
noncomputable def Cp(C:Ya)(dd:Option Ya)(vs:Array AB):Obj:={cls:=.ref C,dict:=dd,data:=.fields vs}
def Hd(h:qY)(e:Ya)(vs:Array AB):Prop:=
 vs[1]? =some .none\/∃T oT ts,vs[1]? =some (.ref T)/\T≠e/\h.get? T=some oT/\oT.data=.fields ts/\ts[3]? =some .none
structure Lv(fs:List Ya)(e C:Ya)(dd:Option Ya)(vs:Array AB)(h h':qY):Prop where
 keep:∀b o,h.get? b=some o->b∉fs->b≠e->(∀T,vs[1]? =some (.ref T)->b≠T)->h'.get? b=some o
 slot:∀b o,h.get? b=some o->b∈fs->∃sl,h'.get? b=some {o with slots:=sl}
 size:h.objs.size<=h'.objs.size
 here:∃T oT ts,h'.get? e=some (Cp C dd (vs.setIfInBounds 1 (.ref T)))/\h.objs.size<=T/\h'.get? T=some oT/\oT.data=.fields ts/\ts[3]? =some .none
theorem WX{l:List Env}(hl:h.FunFrames base l)(hb:h.get? b=some o)(hd:o.data=.fields vs):b∉Cr l:=fun hm=>by obtain⟨_,u,hu,hn⟩:=hl.mem hm;rw[hb] at hu;cases hu;exact hn vs hd
variable{dd:Option Ya}
theorem YV{e:Ya}{head:AB}{hn:Bool}{Q:Unit->Yf->Prop}
 (hfr:A.frames=some (env::outer))(hl:s.heap.FunFrames base (env::outer))(hf:env.frame=some L)(he:s.heap.get? e=some (Cp C dd vs))(hz:1<vs.size)
 (h:∀h',(∀b o,s.heap.get? b=some o->b∉Cr (env::outer)->b≠e->h'.get? b=some o)->(∀b o,s.heap.get? b=some o->b∈Cr (env::outer)->∃sl,h'.get? b=some {o with slots:=sl})->
  s.heap.objs.size<=h'.objs.size->(∃T oT ts,h'.get? e=some (Cp C dd (vs.setIfInBounds 1 (.ref T)))/\s.heap.objs.size<=T/\h'.get? T=some oT/\oT.data=.fields ts/\ts[3]? =some .none)->Q () {s with heap:=h'}):
 bt M A (do
  let a<-frameOf env;let pl<-entryPlaceOf L hn;let b<-EntryCells.newEntry head a .none (qu L) .none pl
  setField (.ref e) 1 b) (fun _ s'=>bt M A (sQ (.ref e) none) Q E s') E s:=by
 have nf:e∉Cr (env::outer):=WX hl he rfl;refine AK (wpAny_frameOf_fun hfr hl hf fun h1 q1=>?_);obtain⟨z1,k1,sl1⟩:=q1;have e1:h1.get? e=some (Cp C dd vs):=(k1 e nf).trans he;refine AK (wpAny_entryPlaceOf fun pl hpl=>?_);unfold EntryCells.newEntry newFields;refine AK (IL ?_ (hpl.sizeOk5 _ _ _ _ _));generalize hrec:(([head,Value.ref L,Value.none,qu L,Value.none]++(if pl.isEmpty then List.replicate 6 Value.none else pl)).toArray)=rec_;have z3:3<rec_.size:=by rw[<-hrec,Cb,A7];simp only[CP,K2];lia
 have Tn:h1.objs.size≠e:=En (Ay e1);have e2:=BB {cls:=.type "traceback",dict:=none,data:=.fields rec_} e1;refine OR e2 rfl hz ?_;have e3:=Ir (Obj.mapFields (·.setIfInBounds 1 (Value.ref h1.objs.size))) e2 rfl;have t3:((h1.push {cls:=.type "traceback",dict:=none,data:=.fields rec_}).update e (Obj.mapFields (·.setIfInBounds 1 (Value.ref h1.objs.size)))).get? h1.objs.size=some {cls:=.type "traceback",dict:=none,data:=.fields rec_}:=
  (EA _ _ (DG Tn)).trans (Bz h1 rfl);unfold sQ;refine AK (Ju e3 rfl (x:=.ref h1.objs.size) (by simp[hz]) ?_);rw[AH (show(Value.ref h1.objs.size !=Value.none)=true from by simp)];refine OR t3 rfl z3 (h _ (fun b o hb nb ne=>?_) (fun b o hb mb=>?_) ?_ ⟨h1.objs.size,_,_,?_,Nat.le_of_eq z1.symm,Ir _ t3 rfl,rfl,by simp[z3]⟩)
 ·have hb1:=(k1 b nb).trans hb;rw[EA _ _ (En (Ay hb1)),EA _ _ (DG ne)];exact BB _ hb1
 ·obtain⟨sl,hb1⟩:=sl1 b o hb;refine⟨sl,?_⟩;rw[EA _ _ (En (Ay hb1)),EA _ _ (show e≠b from fun z=>nf (by rw[z];exact mb))];exact BB _ hb1
 ·rw[N7,N7,Gr,z1];exact Eo _
 ·rw[EA _ _ Tn];exact e3
theorem Yo{e:Ya}{Q:Unit->Yf->Prop}
 (hfr:A.frames=some (env::outer))(hl:s.heap.FunFrames base (env::outer))(hf:env.frame=some L)(he:s.heap.get? e=some (Cp C dd vs))(hz:1<vs.size)(hh:Hd s.heap e vs)
 (h:∀h',Lv (Cr (env::outer)) e C dd vs s.heap h'->Q () {s with heap:=h'}):
 bt M A (noteFrame (.ref e) env) (fun _ s'=>bt M A (sQ (.ref e) none) Q E s') E s:=by
 unfold noteFrame;simp only[hf];rcases hh with h1|⟨T,oT,ts,h1,nT,hT,dT,h3⟩
 ·refine AK (Ju he rfl h1 ?_);rw[AF (by decide)];exact YV hfr hl hf he hz fun h' a b c d=>h h' ⟨fun x o q n1 n2 _=>a x o q n1 n2,b,c,d⟩
 ·refine AK (Ju he rfl h1 ?_);rw[AH (show(Value.ref T !=Value.none)=true from by simp)];refine AK (Ju hT dT h3 ?_);rw[AF (show¬((Value.none==qu L)=true) from by simp[qu])];refine AK (OR hT dT (Array.getElem?_eq_some_iff.mp h3).1 ?_);have ot:∀b,b≠T->(s.heap.update T (Obj.mapFields (·.setIfInBounds 3 Value.none))).get? b=s.heap.get? b:=fun b hb=>EA _ _ (DG hb);have nfT:T∉Cr (env::outer):=WX hl hT dT;refine YV (s:={s with heap:=s.heap.update T (Obj.mapFields (·.setIfInBounds 3 Value.none))}) hfr
   (hl.of_keeps fun b o hb hnf=>⟨o,(ot b fun z=>hnf ts (by subst z;rw[hT] at hb;cases hb;exact dT)).trans hb,rfl⟩) hf ((ot e (DG nT)).trans he) hz fun h' a b c d=>h h' ⟨fun x o q n1 n2 n3=>a x o ((ot x (n3 T h1)).trans q) n1 n2,fun x o q m=>b x o ((ot x fun z=>nfT (z▸m)).trans q) m,?_,?_⟩
  ·have:=c;rw[N7] at this;exact this
  ·have:=d;rw[N7] at this;exact this
theorem kj{e:Ya}{T:Ya}{oT:Obj}{ts:Array AB}{Q:Unit->Yf->Prop}
 (he:s.heap.get? e=some (Cp C dd vs))(h1:vs[1]? =some (.ref T))(hT:s.heap.get? T=some oT)(dT:oT.data=.fields ts)(h3:ts[3]? =some .none)
 (h:∀h',(∀b,b≠T->h'.get? b=s.heap.get? b)->(∃o,h'.get? T=some o)->h'.objs.size=s.heap.objs.size->Q () {s with heap:=h'}):bt M A (sQ (.ref e) none) Q E s:=by
 unfold sQ;refine AK (Ju he rfl h1 ?_);rw[AH (show(Value.ref T !=Value.none)=true from by simp)];exact OR hT dT (Array.getElem?_eq_some_iff.mp h3).1 (h _ (fun b hb=>EA _ _ (DG hb)) ⟨_,Ir _ hT (Obj.isFreed_of_fields (Obj.data_mapFields dT _))⟩ (N7 ..))
def Gd(h:qY)(C:Ya)(bm:List AB)(N:Ya):Prop:=
 ∃nm q bs hdct sn sub ab col dd k0 k1 k2 k3 k5,h.get? C=some (rM nm q C N bs bm hdct sn sub ab col dd k0 k1 k2 k3 k5 "Exception.__new__")
variable{bm:List AB}
theorem Gd.keeps{N:Ya}(x:Gd h C bm N)(k:∀b o,h.get? b=some o->h'.get? b=some o):Gd h' C bm N:=by obtain⟨a1,a2,a3,a4,a5,a6,a7,a8,a9,b1,b2,b3,b4,b5,hC⟩:=x;exact⟨a1,a2,a3,a4,a5,a6,a7,a8,a9,b1,b2,b3,b4,b5,k _ _ hC⟩
structure Ic(bm:List AB):Prop where
 exc:bm.contains (.type "Exception")=true
 base:bm.contains (.type "BaseException")=true
 Jc:bm.contains (.type "AttributeError")=false
 bu:bm.contains (.type "NameError")=false
section
variable{g:Array rR}{d:Drawn}{t:Nat}{N:Ya}{rest:List AB}
theorem IA{v:AB}{b:Bool}(e:bm.contains v=b)(hv:(v==Value.ref C)=false):(Value.ref C::bm).contains v=b:=by rw[Qp,hv,RO];exact e
theorem gO(xc:Gd h C bm N)(ln:Ic bm){Q:Unit->Yf->Prop}(hq:Q () ⟨h,g,d,t,os⟩):bt M A (checkBuiltinCall "Exception.__new__" ⟨.ref C::rest,[]⟩) Q E ⟨h,g,d,t,os⟩:=by
 obtain⟨a1,a2,a3,a4,a5,a6,a7,a8,a9,b1,b2,b3,b4,b5,cAt⟩:=xc;have cE:(Value.ref C::bm).contains (.type "Exception")=true:=IA ln.exc rfl;have star:=Ip.noStar;simp only[checkBuiltinCall,Ip.newKind,Ip.newSplit,Ip.newRow];repeat (first|refine Iw cAt ?_|(refine ML cAt ?_;rw[cE])|refine wpAny_staticBase_exc cAt ?_|refine wpAny_madeBy_exc cAt ?_|simp only[Jo,DL,Bs]|wp_step)
 exact hq
abbrev JP(h:qY)(C:Ya)(rest:List AB):qY:=(h.push {cls:=.type "tuple",data:=.seq rest.toArray}).push (Cp C none #[.ref h.objs.size,.none,.none,.none,.bool false,.none])
theorem oY(xc:Gd h C bm N)(ln:Ic bm)(hq:R (.ok (.ret (.ref (h.objs.size+1)))) ⟨JP h C rest,g,d,t,os⟩)(hrest:rest.length<=sizeLine):
 qw (ax prog w) A (.builtin "Exception.__new__" ⟨.ref C::rest,[]⟩) R ⟨h,g,d,t,os⟩:=by
 obtain⟨a1,a2,a3,a4,a5,a6,a7,a8,a9,b1,b2,b3,b4,b5,cAt⟩:=xc;have fends:=Ip.ends;have cE:(Value.ref C::bm).contains (.type "Exception")=true:=IA ln.exc rfl;have cA:(Value.ref C::bm).contains (.type "AttributeError")=false:=IA ln.Jc rfl;have cN:(Value.ref C::bm).contains (.type "NameError")=false:=IA ln.bu rfl;refine codeAny_builtinAt Ip.entry ?_;unfold Builtin.«BaseException.__new__»;refine PySem.wpAt_bind ?_;show PySem.wpAt _ _ _ (stack>>=_) _ _ _;refine PySem.wpAt_bind (PySem.wpAt_stack fun p below=>tV ?_)
 wp_walk
 refine tV ?_;rw[Ip.owner];repeat (first|with_reducible refine wpAny_madeHere_exc Ip.canon cAt ?_|with_reducible refine Iw cAt ?_|(with_reducible refine ML cAt ?_;first|rw[cE]|rw[cA]|rw[cN])|wp_step)
 show R _ _;rw[Gr];exact hq
end
variable{fI:Ya}
section
variable{g:Array rR}{d:Drawn}{t:Nat}{N:Ya}{rest:List AB}
theorem kM(X:K.In h)(xc:Gd h C bm N)(ln:Ic bm){oI:Obj}(hi:qb K (.ref C) "__init__" =some (some (.ref fI)))(hfI:h.get? fI=some oI)(hfc:oI.cls=.type "function")
 (hq:bt (ax prog w) (A.under (.builtin "type.__call__" ⟨.ref C::rest,[]⟩)) (call (.ref fI) (.ref (h.objs.size+1)::rest)) (fun r s'=>r=.none/\Q (.ref (h.objs.size+1)) s') E ⟨JP h C rest,g,d,t,os⟩)(hrest:rest.length<=sizeLine):
 bt (ax prog w) A (call (.ref C) rest) Q E ⟨h,g,d,t,os⟩:=by
 have kk:∀b o,h.get? b=some o->(JP h C rest).get? b=some o:=fun b o e=>BB _ (BB _ e);have xc2:=xc.keeps kk;have hget:(JP h C rest).get? (h.objs.size+1)=some (Cp C none #[.ref h.objs.size,.none,.none,.none,.bool false,.none]):=by have z:=Bz (h.push {cls:=.type "tuple",data:=.seq rest.toArray}) (o:=Cp C none #[.ref h.objs.size,.none,.none,.none,.bool false,.none]) rfl;rw[Gr] at z;exact z
 have xc':=xc;obtain⟨a1,a2,a3,a4,a5,a6,a7,a8,a9,b1,b2,b3,b4,b5,cAt⟩:=xc';have f1:=tc_lookup;have f2:=tc_bind (.ref C);have tT:(⟨h,g,d,t,os⟩:Yf).TypeIs (.ref C) "type" :=⟨_,cAt,rfl⟩;refine Mc (sY ?_);show bt _ _ (callAny (.ref C) _) _ _ _;repeat (any_goals (first|assumption|with_reducible refine Iw cAt ?_|wp_step))
 refine⟨rfl,?_⟩;refine codeAny_call_builtin_at (OF _ (by ac_rfl)) entry_typeCall (wpAny_check_type_call_sub cAt ?_);repeat (first|with_reducible refine Iw cAt ?_|with_reducible refine wpAny_madeBy_exc cAt ?_|wp_step)
 refine codeAny_call_builtin_code (OF _ Ip.quiet) (gO (rest:=rest) xc ln ?_);refine oY (rest:=rest) xc ln ?_ hrest;show bt _ _ _ _ _ _;obtain⟨c1,c2,c3,c4,c5,c6,c7,c8,c9,d1,d2,d3,d4,d5,cAt2⟩:=xc2;have cC:(Value.ref C::bm).contains (.ref C)=true:=by simp
 have hI2:=kk _ _ hfI;have hget2:(JP h C rest).get? (h.objs.size+1)=some {cls:=.ref C,dict:=none,data:=.fields #[.ref h.objs.size,.none,.none,.none,.bool false,.none]}:=hget;unfold sq;repeat (first|(with_reducible refine Iw hget2 ?_)|(with_reducible refine ML cAt2 ?_;rw[cC])|wp_step)
 show bt _ _ (typeLookup (.ref C) _) _ _ _;refine(N8 (X.keeps kk) hi).at ?_;refine GB (AK ?_);unfold bindSpecial;refine AK (rq (T:="function") ⟨_,hI2,hfc⟩ ?_);rw[AH (by decide)];refine Af (AK (C6 hq (fun r s' hr=>?_) fun _ _ x=>x));obtain⟨rfl,hQ⟩:=hr
 wp_walk
 exact hQ
theorem j5{x:Sem AB}{Q:Flow->Yf->Prop}(hh:A.handled=none)(ln:Ic bm)
 (hx:bt M A x (fun v s1=>∃e N t0 dd,v=.ref e/\Gd s1.heap C bm N/\s1.heap.get? e=some (Cp C dd #[.ref t0,.none,.none,.none,.bool false,.none])/\E (.ref e) s1) E s):
 bt M A (raiseStmt env (some x) none) Q E s:=by
 have cB:(Value.ref C::bm).contains (.type "BaseException")=true:=IA ln.base rfl;unfold raiseStmt;refine AK (C6 hx (fun v s1 h1=>?_) fun _ _ z=>z);obtain⟨e,N,t0,dd,rfl,xc,he,hE⟩:=h1;obtain⟨a1,a2,a3,a4,a5,a6,a7,a8,a9,b1,b2,b3,b4,b5,cAt⟩:=xc;obtain⟨hp,g,d,tk,os⟩:=s1;unfold Cp at he;repeat (first|with_reducible refine Iw he ?_|with_reducible refine Iw cAt ?_|(with_reducible refine ML cAt ?_;rw[cB])|wp_step)
 exact wpAny_raiseNew_none hh hE
end
section
open PySem.Builtin PySem.Builtin.ObjectAttr
section
variable{g:Array rR}{d:Drawn}{t:Nat}{N e:Ya}{v:AB}
structure DY(K:tN)(C:Ya)(name:Str):Prop where
 dict:rJ K C=true
 no:qb K (.ref C) name=some none
 sa:qb K (.ref C) "__setattr__" =some (some (.builtin "object.__setattr__"))
 ga:qb K (.ref C) "__getattribute__" =some (some (.builtin "BaseException.__getattribute__"))
 hook:qb K (.ref C) "__getattr__" =some none
 mro:∃cd l,clsIn K C=some cd/\cd.mro=l++[.type "Exception",.type "BaseException",.type "object"]/\∀c∈l,∃a,c=Value.ref a
theorem Vg(self:AB)(what:Str)(r:List AB):∀l:List AB,(∀c∈l,∃a,c=Value.ref a)->refuseLoop self what (l++r)=refuseLoop self what r
 |[],_=>rfl
 |c::l,hc=>by obtain⟨a,rfl⟩:=hc c (.head _);rw[MV,refuseLoop_ref];exact Vg self what r l fun c' h'=>hc c' (.tail _ h')
theorem W3{x:AB}{r:List AB}{b:Bool}(hx:∀a,(x==Value.ref a)=false)(e:r.contains x=b):∀l:List AB,(∀c∈l,∃a,c=Value.ref a)->(l++r).contains x=b
 |[],_=>e
 |c::l,hc=>by obtain⟨a,rfl⟩:=hc c (.head _);rw[MV,Qp,hx a,RO];exact W3 hx e l fun c' h'=>hc c' (.tail _ h')
theorem mQ(he:h.get? e=some (Cp C none vs)):InstAt h e (Cp C none vs) C none:=⟨he,rfl,rfl,Cw⟩
theorem mz{od:Obj}(he:h.get? e=some (Cp C (some D) vs))(hd:h.get? D=some od):InstAt h e (Cp C (some D) vs) C (some od):=⟨he,rfl,rfl,hd⟩
theorem Zb(X:K.In h)(xa:DY K C name){b:Bool}(e:[Value.type "Exception",.type "BaseException",.type "object"].contains (.type T)=b):mroIn K C (.type T)=some b:=by obtain⟨cd,l,hc,hm,hl⟩:=xa.mro;unfold mroIn;rw[hc,MT,hm];rw[AF (by cases l<;>simp),W3 (fun _=>rfl) e l hl]
theorem nj(X:K.In h)(xa:DY K C name)(he:h.get? e=some (Cp C none vs)){Q:Unit->Yf->Prop}
 (hq:∀h' tk,h'.get? e=some (Cp C (some h.objs.size) vs)->h'.Ns1 h.objs.size (fun y=>if y=name then some v else none)->(∀b o,b≠e->h.get? b=some o->h'.get? b=some o)->Q () ⟨h',g,d,tk,os⟩):
 bt (ax prog w) A (setAttr (.ref e) name v) Q E ⟨h,g,d,t,os⟩:=by
 have SF:=PySem.F.store_object;have I:InstAt h e (Cp C none vs) C none:=mQ he;have T0:tP (ax prog w) h (typeOf (.ref e)) (.ref C):=I.type;obtain⟨cd,l,hc,hm,hl⟩:=xa.mro;obtain⟨cd',hc',hdict⟩:=any_some xa.dict;obtain rfl:cd=cd':=Ag (hc.symm.trans hc');have hmro:tP (ax prog w) h (mroOf (.ref C)) cd.mro:=(VN X hc).andThen .now;have sub:tP (ax prog w) h (sq (.ref e) (.type "object")) true:=T0.andThen (looks_mroIn X (Zb X xa rfl));refine set_plain X I xa.sa ?_;refine VG SF.slot.plain SF.entry ?_;refine @check_slot (ax prog w) _ _ ⟨h,g,d,t+1,os⟩ "object.__setattr__" "object" "__setattr__" (.ref e) [.str name t,v] [] _ SF.kind SF.split sub (SF.args (.ref e) (.str name t) v) ?_;rw[osa_eq,refuse_eq];refine AK (AK (T0.at (AK (hmro.at ?_))));rw[hm,Vg _ _ _ l hl,PySem.F.store_Exception.passes];refine Af (AK (T0.at (AK ((N8 X xa.no).at (AK (Af ?_))))));show bt _ _ (storeInOwnDict (.ref e) (.ref C) _ name v _) _ _ _;have ne:e≠h.objs.size:=BM (Ay he);unfold storeInOwnDict;refine AK (Af ?_);rw[AF (show¬((Value.ref C==Value.type "module")=true) from CY)];refine AK (AK (wpAny_loadPart he ?_));refine AK ((VN X hc).at ?_);rw[hdict,AF (by decide)];have e1:=BB {cls:=.type "dict",data:=.dict #[]} he;have e2:=Ir (fun o=>{o with dict:=some h.objs.size}) e1 rfl;have d2:((h.push {cls:=.type "dict",data:=.dict #[]}).update e fun o=>{o with dict:=some h.objs.size}).get? h.objs.size=some {cls:=.type "dict",data:=.dict #[]}:=
  (EA _ _ ne).trans (Bz h rfl);show bt _ _ (do
  let dd<-alloc {cls:=Value.type "dict",data:=Data.dict #[]}
  update e fun o=>{o with dict:=some dd}
  dictMade (.ref C) e dd) _ _ _;refine AK (wpAny_alloc' ?_);refine AK (wpAny_update' e1 ?_);refine Af ?_;show bt _ _ (storeInDict h.objs.size (.str name t) name v) _ _ _;have nd:((h.push {cls:=.type "dict",data:=.dict #[]}).update e fun o=>{o with dict:=some h.objs.size}).Ns h.objs.size (fun _=>none):=⟨_,#[],_,d2,rfl,fun x hx=>absurd hx (by simp),fun _=>rfl⟩;unfold storeInDict newKeyGuard;refine AK (Af (AK (wpAny_nsSet1 (Heap.Ns1.of_empty nd) fun h' hn' hs=>?_)));obtain⟨oD,esD,epD,hoD,hdD,hcD⟩:=hn'.count (Within.cons name v Within.nil);refine AK (wpAny_lookBehind hoD (by rw[hdD];exact pastItsLine_dict (BF hcD (by rw[CP,K2,A3];lia))) ?_);refine Af ?_;exact hq h' _ ((hs.2 e ne).trans e2) hn' fun b o nb hb=>(hs.2 b (BM (Ay hb))).trans ((EA _ _ (DG nb)).trans (BB _ hb))
theorem nN{expr:Bool}(X:K.In h)(xa:DY K C name)(he:h.get? e=some (Cp C (some D) vs))(hn:h.Ns1 D mA)(hv:mA name=some v)(hh:handedIn v=true)
 (hq:∀tk,Q v ⟨h,g,d,tk,os⟩):bt (ax prog w) A (sd (.ref e) name expr) Q E ⟨h,g,d,t,os⟩:=by
 obtain⟨od,hod,hlk⟩:=WM hn;have I:InstAt h e (Cp C (some D) vs) C (some od):=mz he hod;have T0:tP (ax prog w) h (typeOf (.ref e)) (.ref C):=I.type;obtain⟨cd,l,hc,hm,hl⟩:=xa.mro;obtain⟨cd',hc',hdict⟩:=any_some xa.dict;obtain rfl:cd=cd':=Ag (hc.symm.trans hc');have fo:findObj K C (some od) name=some (.value v):=by unfold findObj;rw[hc,MT,xa.no,MT];dsimp only[MT];unfold PySem.W.ownOf;rw[hdict,AH rfl];dsimp only;rw[hlk,hv];rfl
 have L1:=looks_find (M:=ax prog w) X I fo;have sub:tP (ax prog w) h (sq (.ref e) (.type "BaseException")) true:=T0.andThen (looks_mroIn X (Zb X xa rfl));have GA:=PySem.F.attr_Exception.ga;unfold sd getAttrBy;refine AK (wpAny_mkText (GB (AK (T0.at (AK ((N8 X xa.ga).at ?_))))));dsimp only;rw[show(onTheHeap (Value.ref C)&&Value.builtin "BaseException.__getattribute__" ==Value.builtin "object.__getattribute__")=false from by rw[show(Value.builtin "BaseException.__getattribute__" ==Value.builtin "object.__getattribute__")=false from by ac_rfl,K5],AF (by decide)];unfold getAttrByItsOwn;refine AK ((show tP (ax prog w) h (hookBefore (.ref C)) none from N8 X xa.hook).at ?_);refine AK (tJ (GB ?_));unfold callGetattribute;rw[show(expr&&onTheHeap (Value.builtin "BaseException.__getattribute__"))=false from K5 _,AF (by decide)];unfold boundAndCalled;rw[GA.bind];refine AK (Af ?_);show bt _ _ (call (.builtin "BaseException.__getattribute__") [.ref e,.str name t]) _ _ _;refine Mc (VG GA.plain PySem.F.entry_bexc_ga ?_);refine @check_slot (ax prog w) _ _ ⟨h,g,d,t+1,os⟩ "BaseException.__getattribute__" "BaseException" "__getattribute__" (.ref e) [.str name t] [] _ (by ac_rfl) (by ac_rfl) sub (PySem.F.args_bexc_ga (.ref e) (.str name t)) ?_;unfold Builtin.«object.__getattribute__»;refine AK (Af ?_);refine AK (Af ?_);refine AK (T0.at (AK (L1.at ?_)));refine Af ?_;show bt _ _ (handedOut v) _ _ _;rw[handedOut_of hh];exact Af (hq _)
end
end
def xO(e C:Ya)(dd:Option Ya)(vs:Array AB):HO:=.ext fun h=>h.get? e=some (Cp C dd vs)
theorem Ti{e:Ya}(he:h.get? e=some (Cp C dd vs)):BO P w H h e (xO e C dd vs):=
 ⟨he,⟨_,he⟩,fun _ _ p k=>k _ p⟩
theorem KU{e:Ya}(ok:Bu P w H h)(q:H e=some (xO e C dd vs)):h.get? e=some (Cp C dd vs):=(ok e _ q).1
structure Hb(h0:qY)(H:Hp)(h:qY)(e C D:Ya)(vs:Array AB):Prop where
 xo:H e=some (xO e C (some D) vs)
 hd:Hd h e vs
 new:h0.objs.size<=e
 Nh:∀T,vs[1]? =some (.ref T)->h0.objs.size<=T/\H T=none
 two:1<vs.size
def Ci(P:qV)(w:qa):Jg:=fun outer H s E v s'=>∃e C D vs H',v=Value.ref e/\s'.os=s.os/\rO s'.gens/\Un (Cr outer) [] H H' s.heap s'.heap/\Bu P w H' s'.heap/\Hb s.heap H' s'.heap e C D vs/\
 ∀vs,E (.ref C) (some D) (upd H' e (xO e C (some D) vs))
section
variable{h0 h2 h3:qY}{e:Ya}{fs:List Ya}
theorem Hb.ne(f:Hb h0 H2 h2 e C D vs)(hb:h0.get? b=some o):b≠e/\∀T,vs[1]? =some (.ref T)->b≠T:=
 ⟨fun z=>absurd (Ay hb) (Og.mpr (z▸f.new)),fun T ht z=>absurd (Ay hb) (Og.mpr (z▸(f.Nh T ht).1))⟩
theorem Hb.step(ok:Bu P w H2 h2)(f:Hb h0 H2 h2 e C D vs)(lv:Lv fs e C (some D) vs h2 h3)(ff:∀b∈fs,H2 b=none):
 ∃vs3,Bu P w (upd H2 e (xO e C (some D) vs3)) h3/\Hb h0 (upd H2 e (xO e C (some D) vs3)) h3 e C D vs3:=by
 obtain⟨T,oT,ts,he,hT,gT,dT,h3'⟩:=lv.here;have e2:=KU ok f.xo;have Tn:T≠e:=En (C3 (Ay e2) hT);have one:(vs.setIfInBounds 1 (.ref T))[1]? =some (.ref T):=by simp[f.two]
 refine⟨_,fun b o q=>?_,AN,.inr ⟨T,oT,ts,one,Tn,gT,dT,h3'⟩,f.new,fun T' ht=>?_,by simpa using f.two⟩
 ·by_cases hb:b=e
  ·subst hb;rw[AN] at q;cases q;exact Ti he
  ·rw[AQ hb] at q;refine(ok b o q).Ec (fun c u hc g=>?_) (fun c g=>?_) fun c xs g=>?_
   ·have tc:H2 c≠none:=by
     rcases hc with z|z
     ·rw[z,q];exact fun y=>nomatch y
     ·rw[z];exact fun y=>nomatch y
    refine lv.keep c u g (fun m=>tc (ff c m)) (fun z=>?_) fun T' ht z=>tc (z▸(f.Nh T' ht).2);rcases hc with y|y
    ·exact hb (y.symm.trans z)
    ·rw[z,f.xo] at y;cases y
   ·rw[AQ (fun z=>by rw[z,f.xo] at g;cases g)];exact g
   ·rw[AQ (fun z=>by rw[z,f.xo] at g;cases g)];exact g
 ·rw[one] at ht;obtain rfl:T=T':=by cases ht;rfl
  refine⟨BF (BF f.new (Fl (Ay e2))) hT,?_⟩;rw[AQ Tn];exact ok.fresh hT
theorem Hb.un(u:Un (Cr outer) [] H H2 h0 h2)(f:Hb h0 H2 h2 e C D vs){vs3:Array AB}(lv:Lv fs e C (some D) vs h2 h3)(hfs:∀b,b∈fs↔b=L\/b∈Cr outer)(hL:h0.objs.size<=L):
 Un (Cr outer) [] H (upd H2 e (xO e C (some D) vs3)) h0 h3:=by
 have nl:∀b o,h0.get? b=some o->b≠L:=fun b o q z=>absurd (Ay q) (Og.mpr (z▸hL));have nil:∀b:Ya,b∉([]:List Ya):=fun b=>by simp
 refine⟨fun b o q n nb _=>?_,fun b o q n mb _=>?_,fun b o q n _=>?_,fun b o q _=>?_,fun b xs q=>?_,fun b o u' q=>?_,fun b ps q=>?_⟩
 ·exact lv.keep b o (u.keep b o q n nb (nil b)) (fun m=>((hfs b).mp m).elim (nl b o q) nb) (f.ne q).1 (f.ne q).2
 ·obtain⟨sl,e1⟩:=u.slot b o q n mb (nil b);obtain⟨sl',e2⟩:=lv.slot b _ e1 ((hfs b).mpr (.inr mb));exact⟨sl',e2⟩
 ·rw[AQ (f.ne q).1];exact u.free b o q n (nil b)
 ·obtain⟨o',e1⟩:=u.there b o q (nil b);by_cases m:b∈fs
  ·obtain⟨sl,e2⟩:=lv.slot b _ e1 m;exact⟨_,e2⟩
  ·exact⟨o',lv.keep b o' e1 m (f.ne q).1 (f.ne q).2⟩
 ·have:=u.E6 b xs q;rw[AQ (fun z=>by rw[z,f.xo] at this;cases this)];exact this
 ·have:=u.EL b o u' q;rw[AQ (fun z=>by rw[z,f.xo] at this;cases this)];exact this
 ·obtain⟨more,this⟩:=u.E5 b ps q;exact⟨more,by rw[AQ (fun z=>by rw[z,f.xo] at this;cases this)];exact this⟩
theorem Hb.qH(u:Un fs [] H H2 h0 h2)(f:Hb h0 H2 h2 e C D vs){vs3:Array AB}(lv:Lv fs e C (some D) vs h2 h3):Un fs [] H (upd H2 e (xO e C (some D) vs3)) h0 h3:=by
 have nil:∀b:Ya,b∉([]:List Ya):=fun b=>by simp
 refine⟨fun b o q n nb _=>lv.keep b o (u.keep b o q n nb (nil b)) nb (f.ne q).1 (f.ne q).2,fun b o q n mb _=>?_,fun b o q n _=>?_,fun b o q _=>?_,fun b xs q=>?_,fun b o u' q=>?_,fun b ps q=>?_⟩
 ·obtain⟨sl,e1⟩:=u.slot b o q n mb (nil b);obtain⟨sl',e2⟩:=lv.slot b _ e1 mb;exact⟨sl',e2⟩
 ·rw[AQ (f.ne q).1];exact u.free b o q n (nil b)
 ·obtain⟨o',e1⟩:=u.there b o q (nil b);by_cases m:b∈fs
  ·obtain⟨sl,e2⟩:=lv.slot b _ e1 m;exact⟨_,e2⟩
  ·exact⟨o',lv.keep b o' e1 m (f.ne q).1 (f.ne q).2⟩
 ·have:=u.E6 b xs q;rw[AQ (fun z=>by rw[z,f.xo] at this;cases this)];exact this
 ·have:=u.EL b o u' q;rw[AQ (fun z=>by rw[z,f.xo] at this;cases this)];exact this
 ·obtain⟨more,this⟩:=u.E5 b ps q;exact⟨more,by rw[AQ (fun z=>by rw[z,f.xo] at this;cases this)];exact this⟩
end
section
variable{E:XK}
abbrev Gg(P:qV)(w:qa)(K:tN)(mg:Str->Option AB)(base:qY)(N:List Str)(qual:Str)(scope:sL)(f:Ya)(cd:AB)(A:qy)(outer:List Env)(s:Yf)(H:Hp)(E:XK):Cx:=
 Ja (Ci P w) P w K mg base N qual scope f cd A outer s H E
theorem iP(hf:env.frame=some L)(outer:List Env)(b:Ya):b∈Cr (env::outer)↔b=L\/b∈Cr outer:=by unfold Cr;rw[Qj,hf];exact Ba
theorem YO{s2:Yf}{e:Ya}(J:Inv (Gg P w K mg base N qual scope f cd A outer s H E) pins σ H2 s2)(fl:Hb s.heap H2 s2.heap e C D vs)
 (hE:∀vs,E (.ref C) (some D) (upd H2 e (xO e C (some D) vs))):(Gg P w K mg base N qual scope f cd A outer s H E).xe (.ref e) s2:=by
 show bt _ _ (leaving (rK qual scope s.heap.objs.size f cd) (.ref e)) _ _ s2;refine AK (Yo (base:=base) (L:=s.heap.objs.size) (outer:=outer) J.ok.frames J.stack rfl (KU J.hok fl.xo) fl.two fl.hd fun h3 lv=>?_);obtain⟨vs3,ok3,fl3⟩:=fl.step J.hok lv J.PH;refine⟨e,C,D,vs3,_,rfl,J.os,J.bare,?_,ok3,fl3,fun vs'=>?_⟩
 ·exact fl.un J.base lv (iP rfl outer) (Ab _)
 ·rw[KD];exact hE vs'
theorem E2:Passes (Ci P w) (Gg P w K mg base N qual scope f cd A outer s H E) E:=fun pins σ H1 s1 v s2 I cx=>by obtain⟨e,C,D,vs,H2,rfl,os,bare,un,ok,fl,hE⟩:=cx;have J:=I.Pk (ch:=[]) os un ok bare (fun b z=>absurd z (by simp));exact YO J ⟨fl.xo,fl.hd,BF I.sz fl.new,fun T ht=>⟨BF I.sz (fl.Nh T ht).1,(fl.Nh T ht).2⟩,fl.two⟩ hE
theorem oJ:Passes (Ci P w) X E0:=fun _ _ _ _ _ _ _ ⟨_,_,_,vs,_,_,_,_,_,_,_,h⟩=>(h vs).elim
theorem IH{st:hX}(F:Aj K x qual st f fd)(S:Az N ps (Ao st))(len:∀vs H Q E,sp vs H Q E->vs.length=ps.length)
 (hbody:∀(cdv:AB)(A:qy)(outer:List Env)(s:Yf)(H:Hp)(vs:List V)(Q:VK)(E:XK),Bi k (A.deeper (rK qual (Ao st) s.heap.objs.size f cdv))->sp vs H Q E->
  ∃t,Ei (Gg P w K mg base N qual (Ao st) f cdv A outer s H E) (Fq st) t/\t {nx:=fun _ H'=>Q .BA H',rt:=Q} (start N vs) H):AW P w K mg base (Ci P w) (k+1) f fd ps sp:=by
 obtain⟨oc,od,kV,doc,pm,an,cdv,ct,osl,rfl,lk,hcd⟩:=F.ex;exact Zq lk hcd S len (hbody cdv)
end
structure Um(K:tN)(C fI:Ya)(bm:List AB):Prop where
 cls:∃N,∀h:qY,K.In h->Gd h C bm N
 init:qb K (.ref C) "__init__" =some (some (.ref fI))
 line:Ic bm
 fn:isFn K (.ref fI)=true
 kp:qo K (.ref C)=true
def Fv(C:Ya)(f:Str)(msg:Str):Sp:=fun vs H Q _=>∃e ws,vs=[.ref e]/\H e=some (xO e C none ws)/\∀D,H D=none->D≠e->Q .BA (upd (upd H D (.xd [(f,.str msg)])) e (xO e C (some D) ws))
noncomputable def Jj(t:Ya):Array AB:= #[.ref t,.none,.none,.none,.bool false,.none]
theorem ie{o u:HO}(h:a≠b):upd (upd H a o) b u=upd (upd H b u) a o:=by
 funext c;unfold upd;by_cases h1:c=a
 ·subst h1;rw[AF h,AH rfl,AH rfl]
 ·by_cases h2:c=b
  ·subst h2;rw[AH rfl,AF h1,AH rfl]
  ·rw[AF h2,AF h1,AF h1,AF h2]
section
variable{f:Str}
theorem iC(I:Inv X pins σ H s)(C:Ya):Inv X pins σ (upd H (s.heap.objs.size+1) (xO (s.heap.objs.size+1) C none (Jj s.heap.objs.size))) {s with heap:=JP s.heap C []}:=by
 have kk:∀b o,s.heap.get? b=some o->(JP s.heap C []).get? b=some o:=fun b o e=>BB _ (BB _ e);have e2:(JP s.heap C []).get? (s.heap.objs.size+1)=some (Cp C none (Jj s.heap.objs.size)):=by have z:=Bz (s.heap.push {cls:=.type "tuple",data:=.seq ([]:List AB).toArray}) (o:=Cp C none (Jj s.heap.objs.size)) rfl;rw[Gr] at z;exact z
 exact I.laid (t':=s.toks) kk (Eo _) (Ti e2)
end
variable{msg:Str}
section
variable{f:Str}
theorem jR(M:Um X.K C fI bm)(F:AW X.prog X.w X.K X.mg X.base Ah k fI fd ["self"] (Fv C f msg))(hr:Bi (k+1) X.A)(hg:Gl X x)(hm:X.mg x=some (.ref C))(hb:Binds X.K fd ["self"] [])
 (hdb:(x==("__debug__" :Str))=false)(I:Inv X pins σ H s):
 bt (ax X.prog X.w) X.A (qZ (.Call (.Name x p) [] [] pos) X.env) (fun u s2=>∃e D t,u=Value.ref e/\s.heap.objs.size<=e/\H e=none/\H D=none/\D≠e/\Inv X pins σ (upd (upd H D (.xd [(f,.str msg)])) e (xO e C (some D) (Jj t))) s2) X.xe s:=by
 refine MO (LV I hg hm ?_ hdb);refine Qh I.BQ M.kp ?_;obtain⟨N,xc⟩:=M.cls;obtain⟨o,ho,hcf⟩:=N5.mp (FC.mp M.fn);have I2:=iC I C;have sp:Fv C f msg [.ref (s.heap.objs.size+1)] (upd H (s.heap.objs.size+1) (xO (s.heap.objs.size+1) C none (Jj s.heap.objs.size))) (fun v H2=>v=.BA/\∃D,H D=none/\D≠s.heap.objs.size+1/\
  H2=upd (upd H D (.xd [(f,.str msg)])) (s.heap.objs.size+1) (xO (s.heap.objs.size+1) C (some D) (Jj s.heap.objs.size))) E0:=by
  refine⟨_,_,rfl,AN,fun D hD nD=>⟨rfl,D,?_,nD,?_⟩⟩
  ·rw[AQ nD] at hD;exact hD
  ·rw[ie (DG nD),KD]
 have run:=F.run (X.A.under (.builtin "type.__call__" ⟨[.ref C],[]⟩)) X.stack _ _ ⟨[.ref (s.heap.objs.size+1)],[]⟩ [.ref (s.heap.objs.size+1)] [.ref (s.heap.objs.size+1)] _ E0 (hr.make C [] []) (I2.T4.make C [] [])
  (hb _ [.ref (s.heap.objs.size+1)] I2.BQ rfl) (.cons rfl .nil) sp;obtain⟨hp,g,d,tk,os⟩:=s;refine kM (rest:=[]) I.BQ (xc _ I.BQ) M.line M.init (I.BQ _ _ ho) hcf ?_ (CH _);refine Mc (K9 run fun r s' hq=>?_)
 cases r with
 |error e=>exact hq.elim
 |ok fl=>
  cases fl with
  |ret u=>obtain⟨v,H',I3,rv,ev,D,q1,q2,q3⟩:=I2.after hq;subst ev q3;exact⟨rv,hp.objs.size+1,D,hp.objs.size,rfl,Eo _,I.hok.fresh (Eo _),q1,q2,I3⟩
  |next=>exact False.elim hq
  |brk=>exact False.elim hq
  |cont=>exact False.elim hq
theorem gR{g:Ya}{dvs:List V}{ds:List AB}{E:XK}{es:List hY}{t:TA}(hg:Gl X x)(hm:X.mg x=some (.ref C))(hrd:readsIn X.K C (.type "type")=true)
 (hf:findCls X.K (.ref C) (.type "type") m=some (.val (.ref g)))(hs:sP X.K (.ref C) "__getattribute__" =some (some (.builtin "type.__getattribute__")))(hk:qo X.K (.ref g)=true)
 (F:AW X.prog X.w X.K X.mg X.base CX k g fd ps sp)(hr:Bi k X.A)(hb:Binds X.K fd ps ds)(hd:Vals dvs ds)(hx:Passes CX X E)(ha:PA X (e::es) t)(hdb:(x==("__debug__" :Str))=false:=by decide)
 (hst:dy (e::es) X.env=(false,qZ e X.env)::dy es X.env:=by rfl)(hpl:(qf pos (dy es X.env)).any (·.1)=false:=by rfl)
 (ht:qZ (.Call (.Attribute (.Name x p) m apos) (e::es) [] pos) X.env=(do
  let ov<-qZ (.Name x p) X.env
  sZ apos.atName
  let(f,first)<-rS [ov] (rg ov m pl)
  callWith pos f first (qf pos (dy (e::es) X.env)) (rL pos (qk [] X.env))):=by rfl):
 PE X (.Call (.Attribute (.Name x p) m apos) (e::es) [] pos) (NT sp dvs E t):=by
 intro pins s σ H Q I h;refine VB (pl:=pl) (LV I hg hm ?_ hdb) ht;refine method_cls I.BQ hs (cls_value I.BQ hrd hf rfl ?_);have I1:=I.tok (s.toks+1);refine VQ (first:=[]) (h₀:=X.base) I.ok.mod.Nu hk (Ad (ha pos pins _ σ H _ I1 h) fun us s2 ⟨vs,H2,I2,r,q2⟩=>⟨I2.BQ,?_⟩) hst hpl;exact NN F hr hb hd hx I2 r q2
def mJ(K:tN)(ta tv:TE)(f:Str):TS:=fun D σ H=>tv σ H fun y H1=>ta σ H1 fun x H2=>∃e C ws,x=.ref e/\H2 e=some (xO e C none ws)/\DY K C f/\
 ∀d,H2 d=none->d≠e->D.nx σ (upd (upd H2 d (.xd [(f,y)])) e (xO e C (some d) ws))
theorem ja{o value:hY}{pos':Pos}{tv:TE}(ha:PE X o ta)(hv:PE X value tv)(hs:rY value (some (.Attribute o f pos')) pos.line X.env=pure false):PS X (.Assign [.Attribute o f pos'] value pos) (mJ X.K ta tv f):=by
 intro pins s σ H D I h;refine sN (Ad (hv pins s σ H _ I h) fun u s1 ⟨y,H1,I1,ry,q⟩=>Ad (ha pins s1 σ H1 _ I1 q) fun ov s2 ⟨x,H2,I2,rx,e,C,ws,ex,ea,xa,q2⟩=>?_) hs;subst ex;obtain rfl:ov=Value.ref e:=rx;have he:=KU I2.hok ea;have nD:s2.heap.objs.size≠e:=En (Ay he);have fr:H2 s2.heap.objs.size=none:=I2.hok.fresh (Ab _);obtain⟨hp,g,d,tk,os⟩:=s2;refine nj I2.BQ xa he fun h' tk' he' hn' hk'=>⟨σ,_,?_,q2 hp.objs.size fr nD⟩;have hD:∃o,h'.get? hp.objs.size=some o:=let⟨o,_,_,q,_⟩:=hn';⟨o,q⟩;have un:Un X.fs [] H2 (upd (upd H2 hp.objs.size (.xd [(f,y)])) e (xO e C (some hp.objs.size) ws)) hp h':=by
  refine⟨fun b o q n _ _=>hk' b o (fun z=>by rw[z,ea] at n;cases n) q,fun b o q n _ _=>⟨o.slots,hk' b o (fun z=>by rw[z,ea] at n;cases n) q⟩,fun b o q n _=>?_,fun b o q _=>?_,fun b xs q=>?_,fun b o u q=>?_,fun b ps q=>⟨#[],?_⟩⟩
  ·rw[AQ (fun z=>by rw[z,ea] at n;cases n),AQ (BM (Ay q))];exact n
  ·by_cases z:b=e
   ·rw[z];exact⟨_,he'⟩
   ·exact⟨o,hk' b o z q⟩
  ·rw[AQ (fun z=>by rw[z,ea] at q;cases q),AQ (A2 q fr)];exact q
  ·rw[AQ (fun z=>by rw[z,ea] at q;cases q),AQ (A2 q fr)];exact q
  ·rw[AQ (fun z=>by rw[z,ea] at q;cases q),AQ (A2 q fr),q];simp
 refine I2.un (t':=tk') (h':=h') un fun b o q=>?_;by_cases hb:b=e
 ·subst hb;rw[AN] at q;cases q;exact Ti he'
 ·rw[AQ hb] at q;by_cases hb2:b=hp.objs.size
  ·subst hb2;rw[AN] at q;cases q;refine⟨_,hn',fun y'=>?_⟩;show De (List.lookup y' [(f,y)]) (if y'=f then some u else none);by_cases z:y'=f
   ·subst z;rw[AH rfl,Gq,IP];exact ry
   ·rw[AF z,Gq,K0 z];exact Cw
  ·rw[AQ hb2] at q;refine(I2.hok b o q).Ec (fun c v hc gg=>hk' c v (fun z=>?_) gg) (fun c gg=>?_) fun c xs gg=>?_
   ·rcases hc with y1|y1
    ·exact hb (y1.symm.trans z)
    ·rw[z,ea] at y1;cases y1
   ·rw[AQ (fun z=>by rw[z,ea] at gg;cases gg),AQ (A2 gg fr)];exact gg
   ·rw[AQ (fun z=>by rw[z,ea] at gg;cases gg),AQ (A2 gg fr)];exact gg
end
section
variable{E:XK}
def kR(C:Ya)(fl msg:Str)(E:XK):TS:=fun _ _ H=>∀e D ws,H e=none->H D=none->D≠e->E (.ref C) (some D) (upd (upd H D (.xd [(fl,.str msg)])) e (xO e C (some D) ws))
theorem iA{np:Pos}{fl:Str}(M:Um K C fI bm)(F:AW P w K mg base Ah k fI fd ["self"] (Fv C fl msg))
 (hr:Bi (k+1) (Gg P w K mg base N qual scope f cd A outer s H E).A)(hg:Gl (Gg P w K mg base N qual scope f cd A outer s H E) x)(hm:mg x=some (.ref C))(hb:Binds K fd ["self"] [])(hdb:(x==("__debug__" :Str))=false:=by decide):
 PS (Gg P w K mg base N qual scope f cd A outer s H E) (.Raise (some (.Call (.Name x np) [] [] cpos)) none pos) (kR C fl msg E):=by
 intro pins s1 σ H1 D I h;rw[arm_exec_Raise];refine AK (OU ?_);have ev:=jR (X:=Gg P w K mg base N qual scope f cd A outer s H E) (p:=np) (pos:=cpos) M F hr hg hm hb hdb I;refine j5 (C:=C) (bm:=bm) (I.ok.hd rfl) M.line ?_;refine AK (C6 ev (fun v s2 z=>?_) fun _ _ z=>z);obtain⟨e,D',t,rfl,new,he,hD,ne,I2⟩:=z;refine AK (OU (Af ?_));obtain⟨Nn,xc⟩:=M.cls;have at2:(upd (upd H1 D' (.xd [(fl,.str msg)])) e (xO e C (some D') (Jj t))) e=some (xO e C (some D') (Jj t)):=AN;refine⟨e,Nn,t,some D',rfl,xc _ I2.BQ,KU I2.hok at2,?_⟩;refine YO I2 ⟨at2,.inl rfl,?_,(fun T hT=>by cases hT),(by show 1<6;decide)⟩ fun ws=>?_
 ·exact BF I.sz new
 ·rw[KD];exact h e D' ws he hD ne
end
abbrev NJ(X:Cx)(pins:List (Ya×Obj))(W:AB->Yf->Prop):Cx:={X with pn:=X.pn++pins,xe:=W}
abbrev J8(X:Cx)(e:Ya)(W:AB->Yf->Prop):Cx:={X with A:=X.A.mark (some (.ref e)),calm:=false,xe:=W}
theorem Inv.nJ(I:Inv X pins σ H s)(W:AB->Yf->Prop):Inv (NJ X pins W) [] σ H s:=
 ⟨⟨I.ok.mod,I.ok.kind,I.ok.glob,I.ok.blt,I.ok.above,I.ok.inj,I.ok.has,I.ok.Ko,I.ok.hd,I.ok.frames,I.ok.Lx,I.ok.QW,I.ok.bs,I.ok.Gk,I.ok.Kg,I.ok.Kj,I.ok.E4,I.ok.IG⟩,
  I.os,I.bare,I.base,I.loc,I.cell,I.free,I.DJ,fun p hp=>I.pin p (by rw[C5] at hp;exact hp),I.hok,I.len⟩
theorem Inv.M4{pins1:List (Ya×Obj)}{W:AB->Yf->Prop}(ok:X.Ok)(I:Inv (NJ X pins W) pins1 σ H s):Inv X pins σ H s:=
 ⟨ok,I.os,I.bare,I.base,I.loc,I.cell,I.free,I.DJ,fun p hp=>I.pin p (Hi _ hp),I.hok,I.len⟩
theorem Inv.marked(I:Inv X pins σ H s)(e:Ya)(W:AB->Yf->Prop):Inv (J8 X e W) pins σ H s:=
 ⟨⟨I.ok.mod,I.ok.kind,I.ok.glob,I.ok.blt,I.ok.above,I.ok.inj,I.ok.has,I.ok.Ko,(fun z=>nomatch z),I.ok.frames,I.ok.Lx,I.ok.QW,I.ok.bs,I.ok.Gk,I.ok.Kg,I.ok.Kj,I.ok.E4,I.ok.IG⟩,
  I.os,I.bare,I.base,I.loc,I.cell,I.free,I.DJ,I.pin,I.hok,I.len⟩
theorem Inv.unmarked{e:Ya}{W:AB->Yf->Prop}(ok:X.Ok)(I:Inv (J8 X e W) pins σ H s):Inv X pins σ H s:=
 ⟨ok,I.os,I.bare,I.base,I.loc,I.cell,I.free,I.DJ,I.pin,I.hok,I.len⟩
structure UP(K:tN)(R:Ya):Prop where
 cls:∃bm N,(∀h:qY,K.In h->Gd h R bm N)/\Ic bm
structure UH(K:tN)(C R:Ya):Prop where
 cls:∃bm N,(∀h:qY,K.In h->Gd h C bm N)/\(Value.ref C::bm).contains (.ref R)=true
section
variable{g:Array rR}{d:Drawn}{t:Nat}{R N NR e:Ya}{bmR:List AB}
theorem jG(xc:Gd h C bm N)(xr:Gd h R bmR NR)(ln:Ic bmR)(he:h.get? e=some (Cp C dd vs))(hs:(Value.ref C::bm).contains (.ref R)=true){Q:Bool->Yf->Prop}(hq:Q true ⟨h,g,d,t,os⟩):
 bt M A (excMatches (.ref e) (.ref R)) Q E ⟨h,g,d,t,os⟩:=by
 obtain⟨a1,a2,a3,a4,a5,a6,a7,a8,a9,b1,b2,b3,b4,b5,cAt⟩:=xc;obtain⟨c1,c2,c3,c4,c5,c6,c7,c8,c9,d1,d2,d3,d4,d5,rAt⟩:=xr;have rB:(Value.ref R::bmR).contains (.type "BaseException")=true:=IA ln.base rfl;have nt:=tc_notTuple;unfold Cp at he;unfold excMatches;repeat (first|with_reducible refine Iw he ?_|with_reducible refine Iw rAt ?_|(with_reducible refine ML rAt ?_;rw[rB])|(with_reducible refine ML cAt ?_;rw[hs])|wp_step)
 exact hq
end
def Tg(K:tN)(R:Ya)(f:Str)(Q:VK):XK:=fun c d H'=>∃C D msg,c=.ref C/\d=some D/\UH K C R/\DY K C f/\H' D=some (.xd [(f,.str msg)])/\Q (.str msg) H'
theorem nv{e:Ya}{ws:Array AB}{f:Str}{fs:List (Str×V)}{expr:Bool}{Q:VK}(I:Inv X pins σ H s)(he:H e=some (xO e C (some D) ws))(xa:DY X.K C f)
 (hD:H D=some (.xd fs))(hv:fs.lookup f=some v)(q:Q v H):bt (ax X.prog X.w) A (sd (.ref e) f expr) (EP X pins σ Q) E s:=by
 obtain⟨mA,hn,rel⟩:=(show BO X.prog X.w H s.heap D (.xd fs) from I.hok D _ hD);have r:=rel f;rw[hv] at r;obtain⟨u,hu,ru⟩:=r.some_of;have at_:=KU I.hok he;obtain⟨hp,g,d,tk,os⟩:=s;exact nN I.BQ xa at_ hn hu (WW ru) fun tk=>⟨v,H,I.tok tk,ru,q⟩
def nZ(K:tN)(ta:TE)(f:Str):TE:=fun σ H Q=>ta σ H fun x H1=>∃e C D ws fs v,x=.ref e/\H1 e=some (xO e C (some D) ws)/\DY K C f/\H1 D=some (.xd fs)/\fs.lookup f=some v/\Q v H1
theorem jW{o:hY}{f:Str}(he:PE X o ta)(hb:qd o f X.env (qZ o X.env)=qZ o X.env):PE X (.Attribute o f pos) (nZ X.K ta f):=by intro pins s σ H Q I h;refine YR hb (Ad (he pins s σ H _ I h) fun u s1 ⟨x,H1,I1,rx,e,C,D,ws,fs,v,ex,ea,xa,eD,l,q⟩=>?_);subst ex;obtain rfl:u=Value.ref e:=rx;exact nv I1 ea xa eD l q
theorem iQ{m':Str->Option AB}(I:Inv X pins σ H s)(hs:Heap.SameBut X.env.locals s.heap h')(hn:h'.Ns X.env.locals m'):
 Inv X pins (List.replicate X.N.length none) H {s with heap:=h',toks:=t'}:=by
 have nl:∀b o,X.s₀.heap.get? b=some o->b≠X.env.locals:=fun b o e=>BM (C3 (Ay e) I.ok.above);refine⟨I.ok,I.os,I.bare,⟨fun b o e n hb hx=>(hs.2 b (nl b o e)).trans (I.base.keep b o e n hb hx),fun b o e n hb hx=>?_,I.base.free,fun b o e hx=>?_,I.base.E6,I.base.EL,I.base.E5⟩,⟨m',hn,fun j y v' _ e2 _=>?_⟩,fun y c e=>?_,I.free,I.DJ,
  fun p hp=>?_,fun b u e=>?_,by simp⟩
 ·obtain⟨sl,e1⟩:=I.base.slot b o e n hb hx;exact⟨sl,(hs.2 b (nl b o e)).trans e1⟩
 ·obtain⟨o',e1⟩:=I.base.there b o e hx;exact⟨o',(hs.2 b (nl b o e)).trans e1⟩
 ·rw[List.getElem?_replicate] at e2;split at e2<;>cases e2
 ·obtain⟨v,z⟩:=I.cell y c e;exact⟨v,z.sameBut hs (I.Ji y c e)⟩
 ·obtain⟨e,n,ne,nf,dt⟩:=I.pin p hp;exact⟨(hs.2 p.1 ne).trans e,n,ne,nf,dt⟩
 ·refine(I.hok b u e).Ec (fun c w' hc q=>(hs.2 c ?_).trans q) (fun _ q=>q) fun _ _ q=>q;intro z;rcases hc with y|y
  ·rw[<-y,z,I.free] at e;cases e
  ·rw[z,I.free] at y;cases y
theorem kg{tb:XK->TS}{n R:Str}{Rc:Ya}{f:Str}{np p1 p2 p3 hpos:Pos}(hN:X.N.Nodup)(hi:X.N[i]? =some n)(hn:X.env.scope.names.lookup n=some .local)
 (hb:∀(pins:List (Ya×Obj))(W:AB->Yf->Prop)(E:XK),Passes (Ci X.prog X.w) (NJ X pins W) E->Ei (NJ X pins W) body (tb E))
 (hg:Gl X R)(hm:X.mg R=some (.ref Rc))(hR:UP X.K Rc)(hst:X.stack=X.env::X.outer/\X.env.frame=some X.env.locals)(hd1:(R==("__debug__" :Str))=false:=by decide)(hd2:(n==("__debug__" :Str))=false:=by decide)(hd3:(n==("__classdict__" :Str))=false:=by decide)
 (hab:qd (.Name n p1) f X.env (qZ (.Name n p1) X.env)=qZ (.Name n p1) X.env:=by rfl):
 PS X (.Try body [.ExceptHandler (some (.Name R np)) (some n) [.Return (some (.Attribute (.Name n p1) f p2)) p3] hpos] [] [] pos) (fun D σ H=>tb (Tg X.K Rc f D.rt) D σ H):=by
 intro pins s σ H D I h;let W:AB->Yf->Prop:=fun v s'=>∃σ1 H1 s1,Inv X pins σ1 H1 s1/\Ci X.prog X.w X.stack H1 s1 (Tg X.K Rc f D.rt) v s';have ps:Passes (Ci X.prog X.w) (NJ X pins W) (Tg X.K Rc f D.rt):=fun pins1 σ1 H1 s1 v s2 I1 cx=>⟨σ1,H1,s1,Inv.M4 I.ok I1,cx⟩;have hr:=hb pins W _ ps [] s σ H D (Inv.nJ I W) h;refine wpAny_Try_except (C6 hr (fun fl s1 z=>?_) fun v s2 z=>?_)
 ·cases fl with
  |next=>obtain⟨σ',H',J,q⟩:=z;exact ON ⟨σ',H',Inv.M4 I.ok J,q⟩
  |brk=>obtain⟨σ',H',J,q⟩:=z;exact⟨σ',H',Inv.M4 I.ok J,q⟩
  |cont=>obtain⟨σ',H',J,q⟩:=z;exact⟨σ',H',Inv.M4 I.ok J,q⟩
  |ret u=>obtain⟨v,σ',H',J,r,q⟩:=z;exact⟨v,σ',H',Inv.M4 I.ok J,r,q⟩
 ·obtain⟨σ1,H1,s1,I1,e,C,Dd,vs,H2,rfl,os,bare,un,ok,fl,hE⟩:=z;have J:=I1.Pk (ch:=[]) os un ok bare (fun b z=>absurd z (by simp));have ff:(envs:List Env)->X.stack=envs->s2.heap.FunFrames X.base envs:=fun l e=>e▸J.stack;refine Yo (base:=X.base) (L:=X.env.locals) (outer:=X.outer) (hst.1▸J.ok.frames) (ff _ hst.1) hst.2 (KU J.hok fl.xo) fl.two fl.hd fun h3 lv=>?_;obtain⟨vs3,ok3,fl3⟩:=fl.step J.hok lv (fun b hb=>J.PH b (by rw[hst.1];exact hb));have un3:Un (Cr X.stack) [] H1 (upd H2 e (xO e C (some Dd) vs3)) s1.heap h3:=by rw[hst.1] at un⊢;exact fl.qH un lv
  have J3:Inv X pins σ1 (upd H2 e (xO e C (some Dd) vs3)) {s2 with heap:=h3}:=I1.Pk (s':={s2 with heap:=h3}) (ch:=[]) os un3 ok3 bare (fun b z=>absurd z (by simp));obtain⟨C',D',msg,eC,eD,xs,xa,hD,hQ⟩:=hE vs3;obtain rfl:C=C':=by cases eC;rfl
  obtain rfl:Dd=D':=by cases eD;rfl
  obtain⟨bm,N,xc,hsub⟩:=xs.cls;obtain⟨bmR,NR,xr,lnR⟩:=hR.cls;have e3:=KU J3.hok fl3.xo;refine wpAny_handleBy_cons (codeAny_handlers_test ?_) (by intro q;cases q);refine LV (X:=J8 X e fun _ _=>True) (Inv.marked J3 e _) hg hm ?_ hd1;refine jG (xc _ J3.BQ) (xr _ J3.BQ) lnR e3 hsub ?_;refine codeAny_handlers_suite_as ?_;obtain⟨T,oT,ts,h1,nT,hT,dT,h3n⟩:∃T oT ts,vs3[1]? =some (.ref T)/\T≠e/\h3.get? T=some oT/\oT.data=.fields ts/\ts[3]? =some .none:=by
   rcases fl3.hd with z|z
   ·obtain⟨T,oT,ts,he,_,gT,dT,h3'⟩:=lv.here;have:vs3=vs.setIfInBounds 1 (.ref T):=by have a:=e3.symm.trans he;cases a;rfl
    rw[this] at z;simp[fl.two] at z
   ·exact z
  have nT':=fl3.Nh T h1;refine kj e3 h1 hT dT h3n fun h4 k4 x4 z4=>?_;have J4:=J3.turned (t':=s2.toks) (it:=T) (h':=h4) (fun b o nb q=>(k4 b nb).trans q) nT'.2 (En (C3 I1.lt nT'.1)) (.inr (BF I1.sz nT'.1))
   (fun x c q=>by obtain⟨v,z⟩:=I1.cell x c q;exact BM (C3 z.lt nT'.1))
   fun p hp=>BM (C3 (Ay (I1.pin p hp).1) nT'.1);refine SI (X:=J8 X e fun _ _=>True) (Inv.marked J4 e _) hN hi (.inl hn) (v:=.ref e) rfl (fun s5 J5=>?_) (.inr hn);have hil:i<σ1.length:=by rw[I1.len];exact(BX.mp hi).1
  refine C6 ((AS (An (jW (X:=J8 X e _) (f:=f) (pos:=p2) (Y4 (X:=J8 X e _) (pos:=p1) hi (.inl hn) hd2 hd3) hab)):Ei (J8 X e _) _ _) pins s5 _ _ {nx:=fun _ _=>False,rt:=D.rt} (Inv.marked (Inv.unmarked I.ok J5) e _)
   ⟨.ref e,N6 hil,e,C,Dd,vs3,_,.str msg,rfl,fl3.xo,xa,hD,by rw[Gq,IP],hQ⟩) (fun fl6 s6 z=>?_) fun _ _ z=>z
  cases fl6 with
  |next=>obtain⟨_,_,_,q⟩:=z;exact q.elim
  |brk=>obtain⟨_,_,_,q⟩:=z;exact q.elim
  |cont=>obtain⟨_,_,_,q⟩:=z;exact q.elim
  |ret u=>obtain⟨v,σ6,H6,J6,r6,q6⟩:=z;obtain⟨m6,n6,_⟩:=J6.loc;exact wpAny_nameGoes hn n6 (by rw[I.ok.kind];rfl) fun h7 m7 n7 s7=>⟨v,_,H6,iQ (Inv.unmarked I.ok J6) s7 n7,r6,q6⟩
abbrev PR:=Str×Str
noncomputable def F6(p:PR):List V:=[.str p.1,.str p.2]
noncomputable def Df(p:PR):Dt:=.tup [.str p.1,.str p.2]
noncomputable def NY(H:Hp)(a:Ya):Option PR:=match H a with
 |some (.tup [.str k,.str z])=>some (k,z)
 |_=>none
theorem YN{p:PR}(h:H a=some (.tup (F6 p))):NY H a=some p:=by unfold NY;rw[h];rfl
theorem NK{p:PR}(r:Rep H (Df p) v):∃a,v=.ref a/\H a=some (.tup (F6 p)):=by
 cases r with
 |@tup ds a xs h hl rr=>refine⟨a,rfl,?_⟩;revert h rr;refine Lp (C:=fun xs=>H a=some (.tup xs)->(∀(i:Nat) d x,[Dt.str p.1,Dt.str p.2][i]? =some d->xs[i]? =some x->Rep H d x)->H a=some (.tup (F6 p))) (fun u v h rr=>?_) hl.symm;have e1:=rr 0 (.str p.1) u rfl rfl;have e2:=rr 1 (.str p.2) v rfl rfl;cases e1;cases e2;exact h
theorem TU{p:PR}(h:H a=some (.tup (F6 p))):Rep H (Df p) (.ref a):=by
 refine .tup h rfl fun i d x h1 h2=>?_
 match i with
 |0=>cases h1;cases h2;exact .str _
 |1=>cases h1;cases h2;exact .str _
 |i+2=>simp at h1
theorem Yr(p q:PR):decide (p=q)=((p.1==q.1)&&((p.2==q.2)&&true)):=by
 by_cases h1:p.1=q.1
 ·by_cases h2:p.2=q.2
  ·rw[BZ (LR h1 h2),h1,h2,IP,IP];rfl
  ·rw[BJ (fun z=>h2 (BD Prod.snd z)),K0 h2,MX,K5]
 ·rw[BJ (fun z=>h1 (BD Prod.fst z)),K0 h1,MX]
theorem js(I:Inv X pins σ H s){p q:PR}(ha:H a=some (.tup (F6 p)))(hb:H b=some (.tup (F6 q)))(hu:A.units<qh):SeqAt.EqAt A s (.ref a) (.ref b) (decide (p=q)):=by
 by_cases hab:a=b
 ·subst hab;rw[ha] at hb;have e:p=q:=by have:=Ag hb;cases p;cases q;simp[F6] at this;exact LR this.1 this.2
  rw[BZ e];exact .same _
 ·obtain⟨AM,r,pl,hz⟩:=I.tuple (AV.of (K:=X.K) ha);obtain⟨its2,r2,pl2,hz2⟩:=I.tuple (AV.of (K:=X.K) hb);obtain⟨u1,u2,rfl,e1,e2⟩:=Vals.two r;obtain⟨w1,w2,rfl,e3,e4⟩:=Vals.two r2;obtain⟨t1,rfl⟩:=e1;obtain⟨t2,rfl⟩:=e2;obtain⟨t3,rfl⟩:=e3;obtain⟨t4,rfl⟩:=e4;have rc:=SeqAt.RcAt.tuples (e:=fun j=>if j=0 then p.1==q.1 else p.2==q.2) pl pl2 hu (fun j h1 h2=>?_)
  ·refine SeqAt.EqAt.of_refs hab ?_;have:decide (p=q)=((List.range (min #[Value.str p.1 t1,Value.str p.2 t2].size #[Value.str q.1 t3,Value.str q.2 t4].size)).all (fun j=>if j=0 then p.1==q.1 else p.2==q.2)&& #[Value.str p.1 t1,Value.str p.2 t2].size== #[Value.str q.1 t3,Value.str q.2 t4].size):=by show decide (p=q)=((List.range 2).all (fun j=>if j=0 then p.1==q.1 else p.2==q.2)&&true);rw[Bool.and_true,show List.range 2=[0,1] from rfl,K7,K7,List.all_nil];exact Yr p q
   rw[this];exact rc
  ·match j,h1 with
   |0,_=>exact .str_str _ _ _ _
   |1,_=>exact .str_str _ _ _ _
def Gj(H:Hp)(p:PR)(u:AB):Bool:=match u with
 |.ref a=>decide (NY H a=some p)
 |_=>false
theorem Yy(I:Inv X pins σ H s)(hu:A.units<qh){p:PR}(hb:H b=some (.tup (F6 p))):∀{ws:List PR}{xs:List V}{us:List AB},Ae H (ws.map Df) xs->Vals xs us->∀u∈us,SeqAt.EqAt A s u (.ref b) (Gj H p u):=fun{ws xs us} rr rv u hu'=>by
 obtain⟨i,hi⟩:=VH hu';have hl:i<ws.length:=by
  have h1:=(BX.mp hi).1;have h2:=rv.length;have h3:=rr.1;rw[AL] at h3
  lia
 have hx:i<xs.length:=by have:=rr.1;rw[AL] at this;lia
 have ex:xs[i]? =some xs[i]:=Aq hx;have ew:(ws.map Df)[i]? =some (Df ws[i]):=by rw[Ax,Aq hl];rfl
 obtain⟨a,ea,ha⟩:=NK (rr.2 i _ _ ew ex);obtain⟨u',hu2,ru⟩:=rv.get ex;rw[hi] at hu2;cases hu2;rw[ea] at ru;cases ru;have e:Gj H p (.ref a)=decide (ws[i]=p):=by
  show decide (NY H a=some p)=_;rw[YN ha];by_cases z:ws[i]=p
  ·rw[z];simp
  ·rw[BJ z,BJ (fun y=>z (Ag y))]
 rw[e];exact js I ha hb hu
theorem Tf(H:Hp)(p:PR):∀{ws:List PR}{xs:List V}{us:List AB},Ae H (ws.map Df) xs->Vals xs us->us.map (Gj H p)=ws.map fun q=>decide (q=p)
 |[],[],_,_,.nil=>rfl
 |w::ws,x::xs,u::us,rr,.cons r t=>by
  obtain⟨a,ea,ha⟩:=NK (rr.2 0 _ x rfl rfl);rw[Av,Av,Tf H p (ws:=ws) (xs:=xs) ⟨by simpa using rr.1,fun i d y h1 h2=>rr.2 (i+1) d y (by simpa using h1) (by simpa using h2)⟩ t];rw[ea] at r;cases r;congr 1;show decide (NY H a=some p)=_;rw[YN ha];by_cases z:w=p
  ·rw[z];simp
  ·rw[BJ z,BJ (fun y=>z (Ag y))]
 |[],_::_,_,rr,_=>by cases rr.1
 |_::_,[],_,rr,_=>by cases rr.1
def pO:R2:=fun x y H Q=>∃a b p q,x=.ref a/\y=.ref b/\H a=some (.tup (F6 p))/\H b=some (.tup (F6 q))/\Q (.bl (decide (p=q))) H
theorem XT(hu:X.A.units<qh):Bv X (qW .Eq) pO:=by
 intro pins s σ H x y v u Q I rx ry h;obtain⟨a,b,p,q,rfl,rfl,ha,hb,qq⟩:=h;cases rx;cases ry;obtain⟨AM,r,pl,hz⟩:=I.tuple (AV.of (K:=X.K) ha);obtain⟨its2,r2,pl2,hz2⟩:=I.tuple (AV.of (K:=X.K) hb);obtain⟨u1,u2,rfl,e1,e2⟩:=Vals.two r;obtain⟨w1,w2,rfl,e3,e4⟩:=Vals.two r2;obtain⟨t1,rfl⟩:=e1;obtain⟨t2,rfl⟩:=e2;obtain⟨t3,rfl⟩:=e3;obtain⟨t4,rfl⟩:=e4;refine SeqAt.eq_tupleAt (e:=fun j=>if j=0 then p.1==q.1 else p.2==q.2) pl pl2 hu (fun j h1 h2=>?_) ⟨.bl (decide (p=q)),H,I,?_,qq⟩
 ·match j,h1 with
  |0,_=>exact .str_str _ _ _ _
  |1,_=>exact .str_str _ _ _ _
 ·show Value.bool ((List.range 2).all (fun j=>if j=0 then p.1==q.1 else p.2==q.2)&&true)=Value.bool (decide (p=q));rw[Bool.and_true,show List.range 2=[0,1] from rfl,K7,K7,List.all_nil];exact BD Value.bool (Yr p q).symm
def pA:R2:=fun x y H Q=>∃(b l:Ya)(p:PR)(ws:List PR)(xs:List V),x=.ref b/\y=.ref l/\H b=some (.tup (F6 p))/\H l=some (.lst xs)/\Ae H (ws.map Df) xs/\Q (.bl (ws.any fun q=>decide (q=p))) H
theorem gQ(hu:X.A.units+1<qh):Bv X (qW .In) pA:=by intro pins s σ H x y v u Q I rx ry h;obtain⟨b,l,p,ws,xs,rfl,rfl,hb,hl,rr,q⟩:=h;cases rx;cases ry;obtain⟨AM,r,pl,hz⟩:=I.list (AJ.of (K:=X.K) hl);refine SeqAt.in_listAt (Gj H p) pl.isList (fun w hw=>Yy I (show X.A.in1.units<qh from hu) hb rr r w (by simpa using hw)) ⟨.bl _,H,I,rfl,?_⟩;have e:=BD (fun l:List Bool=>l.any id) (Tf H p rr r);simp only[List.any_map] at e;rw[show AM.toArray.any (Gj H p)=AM.any (Gj H p) by simp,show AM.any (Gj H p)=AM.any (id∘Gj H p) from rfl,e];exact q
def jU:V->List V->Hp->VK->Prop:=fun x vs H Q=>∃(b l:Ya)(p:PR)(ws:List PR)(xs:List V),x=.ref l/\vs=[.ref b]/\H b=some (.tup (F6 p))/\H l=some (.lst xs)/\Ae H (ws.map Df) xs/\Q (.int (ws.countP fun q=>decide (q=p):Nat)) H
theorem cT(hu:X.A.units+1<qh):Ha X "list.count" jU:=by intro pins s σ H x vs v us Q I rx rv h;obtain⟨b,l,p,ws,xs,rfl,rfl,hb,hl,rr,q⟩:=h;cases rx;obtain⟨u,rfl,ru⟩:=rv.one;cases ru;obtain⟨z,AM,n,r,hl',e⟩:=I.JX hl;refine I8 F.slot_list_count ⟨_,e,rfl⟩ F.entry_list_count (F.args_list_count_2 _ _) (SeqAt.list_countAt l AM.toArray n none #[] (.ref b) (Gj H p)) ⟨e,fun w hw=>Yy I (show X.A.in1.units<qh from hu) hb rr r w (by simpa using hw),?_⟩;refine⟨.int _,H,I.tok _,⟨_,rfl⟩,?_⟩;have e2:=BD (fun l:List Bool=>l.countP id) (Tf H p rr r);simp only[List.countP_map] at e2;show Q (.int (AM.countP (Gj H p):Nat)) H;rw[show AM.countP (Gj H p)=AM.countP (id∘Gj H p) from rfl,e2];exact q
theorem Inv.Yv{o u:HO}(I:Inv X pins σ H s)(h:H d=some o)(nt:∀xs,o≠.tup xs)(nw:∀x,o≠.own x)(nf:∀b u',X.H₀ d≠some (.BR b u'))(nb:∀ps,o≠.Je ps)(new:BO X.prog X.w (upd H d u) s.heap d u):Inv X pins σ (upd H d u) s:=by
 refine⟨I.ok,I.os,I.bare,⟨I.base.keep,I.base.slot,fun b ob q n hx=>?_,I.base.there,fun b xs q=>?_,fun b ob u' q=>?_,fun b ps q=>?_⟩,I.loc,I.cell,?_,fun x c e=>?_,fun p hp=>?_,fun b ob q=>?_,I.len⟩
 ·have z:=I.base.free b ob q n hx;rw[AQ (fun y=>by rw[y,h] at z;cases z)];exact z
 ·have z:=I.base.E6 b xs q;rw[AQ (fun y=>by rw[y,h] at z;exact nt xs (Ag z))];exact z
 ·have z:=I.base.EL b ob u' q;rw[AQ (fun y=>nf ob u' (by rw[<-y];exact q))];exact z
 ·obtain⟨m,z⟩:=I.base.E5 b ps q;exact⟨m,by rw[AQ (fun y=>by rw[y,h] at z;exact nb _ (Ag z))];exact z⟩
 ·rw[AQ (fun y=>by have:=I.free;rw[y,h] at this;cases this)];exact I.free
 ·rw[AQ (fun y=>by have:=I.DJ x c e;rw[y,h] at this;cases this)];exact I.DJ x c e
 ·obtain⟨e,n,r⟩:=I.pin p hp;exact⟨e,by rw[AQ (fun y=>by rw[y,h] at n;cases n)];exact n,r⟩
 ·by_cases hb:b=d
  ·subst hb;rw[AN] at q;cases q;exact new
  ·rw[AQ hb] at q;refine(I.hok b ob q).Ec (fun _ _ _ z=>z) (fun c z=>?_) fun c xs z=>?_
   ·rw[AQ (fun y=>by rw[y,h] at z;exact nw _ (Ag z))];exact z
   ·rw[AQ (fun y=>by rw[y,h] at z;exact nt _ (Ag z))];exact z
theorem Inv.Ll(I:Inv X pins σ H s)(h:H d=some (.dK AA))(b:Obj)(u:HO):X.H₀ d≠some (.BR b u):=fun z=>by have:=I.base.EL d b u z;rw[h] at this;cases this
theorem BO.Ze(x:BO P w H h d (.dK AA)):BO P w H' h d (.dK AA):=x
theorem Inv.Zt(I:Inv X pins σ H s)(h:H d=some (.dK AA)):∃o es ep,s.heap.get? d=some o/\o.data=.dict es ep/\Inv X pins σ (upd H d (.BR o (.dK AA))) s:=by have ok:=I.hok d _ h;obtain⟨z,hm,vs,rel,o,es,ep,ho,hc,hd,r⟩:=(show BO X.prog X.w H s.heap d (.dK AA) from ok);refine⟨o,es,ep,ho,hd,I.Yv h (fun _ q=>nomatch q) (fun _ q=>nomatch q) (I.Ll h) (fun _ q=>nomatch q) ⟨ho,BO.Ze (show BO X.prog X.w H s.heap d (.dK AA) from ok)⟩⟩
theorem Inv.Na(I:Inv X pins σ H s)(nf:∀b u',X.H₀ d≠some (.BR b u'))(h:H d=some (.BR o (.dK AA))):Inv X pins σ (upd H d (.dK AA)) s:=by have ok:=I.hok d _ h;obtain⟨ho,z⟩:=(show BO X.prog X.w H s.heap d (.BR o (.dK AA)) from ok);exact I.Yv h (fun _ q=>nomatch q) (fun _ q=>nomatch q) nf (fun _ q=>nomatch q) (BO.Ze (show BO X.prog X.w H s.heap d (.dK AA) from z))
def oA(d:Ya)(AA:List (Key×V))(te:TE):TE:=fun σ H Q=>H d=some (.dK AA)/\te σ H fun v H'=>∃o,H' d=some (.BR o (.dK AA))/\Q v (upd H' d (.dK AA))
theorem Xn(he:PE X e te):PE X e (fun σ H Q=>∃d AA,oA d AA te σ H Q):=by intro pins s σ H Q I h;obtain⟨d,AA,hd,h⟩:=h;refine Ad (he pins s σ H _ I h) fun v s1 ⟨x,H',I1,r,o,ho,q⟩=>?_;exact⟨x,_,I1.Na (I.Ll hd) ho,r,q⟩
def nP(d:Ya)(AA:List (Key×V))(t:TS):TS:=fun D σ H=>H d=some (.dK AA)/\t {nx:=(fun σ' H'=>∃o,H' d=some (.BR o (.dK AA))/\D.nx σ' (upd H' d (.dK AA))),rt:=(fun v H'=>∃o,H' d=some (.BR o (.dK AA))/\D.rt v (upd H' d (.dK AA))),bk:=(fun σ' H'=>∃o,H' d=some (.BR o (.dK AA))/\D.bk σ' (upd H' d (.dK AA))),ct:=(fun σ' H'=>∃o,H' d=some (.BR o (.dK AA))/\D.ct σ' (upd H' d (.dK AA)))} σ H
theorem jM{st:hX}{t:TS}(hs:PS X st t):PS X st (fun D σ H=>∃d AA,nP d AA t D σ H):=by
 intro pins s σ H D I h;obtain⟨d,AA,hd,h⟩:=h;refine Ad (hs pins s σ H _ I h) fun f s1 z=>?_
 cases f with
 |next=>obtain⟨σ',H',J,o,ho,q⟩:=z;exact⟨σ',_,J.Na (I.Ll hd) ho,q⟩
 |brk=>obtain⟨σ',H',J,o,ho,q⟩:=z;exact⟨σ',_,J.Na (I.Ll hd) ho,q⟩
 |cont=>obtain⟨σ',H',J,o,ho,q⟩:=z;exact⟨σ',_,J.Na (I.Ll hd) ho,q⟩
 |ret u=>obtain⟨v,σ',H',J,r,o,ho,q⟩:=z;exact⟨v,σ',_,J.Na (I.Ll hd) ho,r,q⟩
noncomputable def Hy(p d:Ya):HO:=.ext fun h=>h.IsItemsView p d
def kz:V->List V->Hp->VK->Prop:=fun x vs H Q=>∃d AA,x=.ref d/\vs=[]/\H d=some (.dK AA)/\∀p,H p=none->Q (.ref p) (upd H p (Hy p d))
theorem Ww:Ha X "dict.items" kz:=by intro pins s σ H x vs v us Q I rx rv h;obtain⟨d,AA,rfl,rfl,hd,q⟩:=h;cases rx;cases rv;obtain⟨z,hm,ws,rel,dd⟩:=JW I.hok hd;refine OZ U3 dd.typeIs PySem.F.entry_dict_items (PySem.F.args_dict_items_1 _) (meets_dict_items (Cc X.prog X.w) d hm) ⟨⟨ws,dd⟩,?_⟩;refine⟨.ref s.heap.objs.size,_,I.laid (t':=s.toks) (o:=Hy s.heap.objs.size d) (fun b o e=>BB _ e) (Ab _) ?_,rfl,q _ I.fresh⟩;have hv:(s.heap.push {cls:=.type "dict_items",data:=.fields #[.ref d]}).IsItemsView s.heap.objs.size d:=⟨_,Bz _ rfl,rfl,rfl⟩;exact⟨hv,⟨_,Bz _ rfl⟩,fun h1 h2 a k=>let⟨o,e,r⟩:=a;⟨o,k o e,r⟩⟩
def L4(d:Ya)(o:Obj)(AA:List (Key×V)):It:=
 ⟨fun i H=>H d=some (.BR o (.dK AA))/\i<AA.length,fun i H v H'=>∃p k x,v=.ref p/\H p=none/\AA[i]? =some (k,x)/\H'=upd H p (.tup [kV k,x]),fun i H=>H d=some (.BR o (.dK AA))/\AA.length<=i⟩
def Uh(d:Ya)(o:Obj)(AA:List (Key×V)):It:=
 ⟨fun i H=>H d=some (.BR o (.dK AA))/\i<AA.length,fun i H v H'=>∃k,AA[i]? =some (k,v)/\H'=H,fun i H=>H d=some (.BR o (.dK AA))/\AA.length<=i⟩
variable{ep:Nat}
theorem Lc{es:Array DictEntry}(ok:Bu P w H h)(e:H d=some (.BR o (.dK AA)))(hd:o.data=.dict es ep):∃vs,KV AA vs/\h.DictAt (Cc P w) d vs ep:=by obtain⟨ho,z,hm,vs,rel,o',es',ep',ho',hc,hd',r⟩:=(show BO P w H h d (.BR o (.dK AA)) from ok d _ e);rw[ho] at ho';cases ho';rw[hd] at hd';cases hd';exact⟨vs,rel,o,es,ho,hc,hd,r⟩
theorem Tc{AA:List (Key×V)}{ws:List (Key×AB)}:KV AA ws->∀{i:Nat}{k:Key}{x:V},AA[i]? =some (k,x)->∃u,ws[i]? =some (k,u)/\RelV x u
 |.nil,i,k,x,e=>by simp at e
 |.cons r t,0,k,x,e=>by have e':=Ag (show some _=some (k,x) from by simpa using e);subst e';rename_i b _ _;obtain⟨k',u⟩:=b;obtain⟨h1,h2⟩:=r;exact⟨u,by simp;exact h1.symm,h2⟩
 |.cons _ t,i+1,k,x,e=>by obtain⟨u,h1,h2⟩:=Tc (show KV _ _ from t) (i:=i) (k:=k) (x:=x) (by simpa using e);exact⟨u,by simpa using h1,h2⟩
theorem iw{k:Key}{key:AB}(h:(Cc P w).is k key=true):RelV (kV k) key:=by
 rcases GF h with⟨i,t,rfl,rfl⟩|⟨x,t,rfl,rfl⟩
 ·exact⟨t,rfl⟩
 ·exact⟨t,rfl⟩
theorem cH:entryFor table "dict_itemiterator.__iter__" =some Builtin.«dict_keyiterator.__iter__»:=
 entryFor_alias (id':="dict_keyiterator.__iter__") (by kernel_rfl) rfl (by ac_rfl) (by kernel_rfl)
theorem dJ{x1:Nat}(d it:Ya)(o:Obj)(AA:List (Key×V))(es:Array DictEntry)(ep:Nat)(hod:o.data=.dict es ep):
 Turn P w K (.Tuple elts x1 tpos) (L4 d o AA) [it] it (fun i h=>∃ok ov,IsItemIter h it d i AA.length ep ok ov) where
 mem:=by simp
 obj:=fun i h st b hb=>by
  obtain⟨ok,ov,he⟩:=st;have hb':b=it:=by simpa using hb
  subst hb';exact⟨_,he,fun v q=>nomatch q⟩
 keep:=fun i h h' st k=>by obtain⟨ok,ov,he⟩:=st;exact⟨ok,ov,k it (by simp) _ he⟩
 item:=by
  intro X hP hw hK hc i pins s σ H E I hf st hg;subst hP hw hK;obtain⟨ok,ov,he⟩:=st;obtain⟨hd,hi⟩:=hg;obtain⟨vs,rel,dat⟩:=Lc I.hok hd hod;have ex:AA[i]? =some (AA[i].1,AA[i].2):=Aq hi;obtain⟨u,hu,ru⟩:=Tc rel ex;have hl:AA.length=vs.length:=I0 rel;have hn:H s.heap.objs.size=none:=I.hok.fresh (Ab _);have lt:=Ay he;rw[hl] at he;refine wpAny_pyNext_items_item (knd:=Cc X.prog X.w) he dat hu fun key h1 hkey e1 t1 z1 k1=>⟨_,rfl,?_⟩;refine wpAny_letOwnedTupleGo_items e1 fun h2 e2 sb=>?_;have sb':Heap.SameBut it h1 h2:=sb;have k2:∀b o,b∉[it]->s.heap.get? b=some o->h2.get? b=some o:=fun b o hb z=>by
   have hb':b≠it:=by simpa using hb
   exact(sb'.2 b hb').trans (k1 b o hb' z)
  have t2:IsTup h2 s.heap.objs.size [key,u].toArray:=⟨_,(sb'.2 _ (En lt)).trans t1,rfl,_,rfl⟩;have I2:=I.V6 (h':=h2) (t':=s.toks) (xs:=[kV AA[i].1,AA[i].2]) hf k2 (fun b hb=>by
   have hb':b=it:=by simpa using hb
   rw[hb'];exact⟨_,e2⟩) (.cons (iw hkey) (.cons ru .nil)) (by show 2<=sizeLine;decide) t2;refine⟨.ref s.heap.objs.size,_,I2,rfl,⟨_,_,_,rfl,hn,ex,rfl⟩,⟨key,u,by rw[hl];exact e2⟩,fun b hb=>?_⟩;have hb':b=it:=by simpa using hb
  rw[hb',AQ (BM lt)];exact(hf it (by simp)).1
 done:=by intro X hP hw hK hc i pins s σ H E I hf st hg;subst hP hw hK;obtain⟨ok,ov,he⟩:=st;obtain⟨hd,hi⟩:=hg;obtain⟨vs,rel,dat⟩:=Lc I.hok hd hod;have hl:AA.length=vs.length:=I0 rel;obtain⟨f0,f1,f2,f3,f4,f5⟩:=hf it (by simp);rw[hl] at he;exact wpAny_pyNext_items_end (knd:=Cc X.prog X.w) (I.ok.hd hc) he dat (N4.mpr (by lia)) fun h' eb=>⟨rfl,I.turned (t':=s.toks) (fun b o hb e=>eb b o hb e) f0 f1 f3 f4 f5⟩
 self:=fun A i s Q E st h=>by obtain⟨ok,ov,he⟩:=st;have ty:s.TypeIs (.ref it) "dict_itemiterator" :=⟨_,he,rfl⟩;refine wpAny_pyIter_slot ty bz (OL bz ty cH ?_ (PySem.F.args_dict_itemiterator_iter_1 _));show bt _ _ (ret (.ref it)) _ _ s;exact Af ⟨_,rfl,"dict_itemiterator",_,ty,PySem.F.slot_dict_itemiterator_next.lookup,h⟩
theorem cY(d it:Ya)(o:Obj)(AA:List (Key×V))(es:Array DictEntry)(ep:Nat)(hod:o.data=.dict es ep):
 Turn P w K tg (Uh d o AA) [it] it (fun i h=>h.IsValIter it d i AA.length ep) where
 mem:=by simp
 obj:=fun i h st b hb=>by
  obtain⟨oi,he,hc,hdt⟩:=st;have hb':b=it:=by simpa using hb
  subst hb';exact⟨_,he,fun v q=>by rw[hdt] at q;cases q⟩
 keep:=fun i h h' st k=>st.at fun o z=>k it (by simp) o z
 item:=by
  intro X hP hw hK hc i pins s σ H E I hf st hg;subst hP hw hK;obtain⟨hd,hi⟩:=hg;obtain⟨vs,rel,dat⟩:=Lc I.hok hd hod;have ex:AA[i]? =some (AA[i].1,AA[i].2):=Aq hi;obtain⟨u,hu,ru⟩:=Tc rel ex;have hl:AA.length=vs.length:=I0 rel;obtain⟨f0,f1,f2,f3,f4,f5⟩:=hf it (by simp);rw[hl] at st;refine wpAny_pyNext_values_item (knd:=Cc X.prog X.w) st dat hu fun h1 e1 sb=>⟨_,rfl,?_⟩;obtain⟨oi,he,hci,hdt⟩:=id e1;refine Pr (s:={s with heap:=h1}) he hci hdt (by decide) ?_;exact⟨AA[i].2,H,I.turned (t':=s.toks) (fun b o hb e=>(sb.2 b hb).trans e) f0 f1 f3 f4 f5,ru,⟨_,ex,rfl⟩,by rw[hl];exact e1,fun b hb=>by
   have hb':b=it:=by simpa using hb
   rw[hb'];exact f0⟩
 done:=by intro X hP hw hK hc i pins s σ H E I hf st hg;subst hP hw hK;obtain⟨hd,hi⟩:=hg;obtain⟨vs,rel,dat⟩:=Lc I.hok hd hod;have hl:AA.length=vs.length:=I0 rel;obtain⟨f0,f1,f2,f3,f4,f5⟩:=hf it (by simp);rw[hl] at st;exact wpAny_pyNext_values_end (knd:=Cc X.prog X.w) (I.ok.hd hc) st dat (N4.mpr (by lia)) fun h' eb=>⟨rfl,I.turned (t':=s.toks) (fun b o hb e=>eb b o hb e) f0 f1 f3 f4 f5⟩
 self:=fun _ _ _ _ _ st h=>wpAny_pyIter_valiter st h
def kL(tl:TE):TI:=fun σ H R=>tl σ H fun x H1=>∃p d AA,x=.ref p/\H1 p=some (Hy p d)/\H1 d=some (.dK AA)/\∀o,R (L4 d o AA) (upd H1 d (.BR o (.dK AA)))
def nA(tl:TE):TI:=fun σ H R=>tl σ H fun x H1=>∃p d AA,x=.ref p/\H1 p=some (HH p d)/\H1 d=some (.dK AA)/\∀o,R (Uh d o AA) (upd H1 d (.BR o (.dK AA)))
theorem XD{x1:Nat}{l:hY}{tl:TE}(hl:PE X l tl):PI X (.Tuple elts x1 tpos) l (kL tl):=by
 intro pins s σ H R I h;refine Ad (hl pins s σ H _ I h) fun v s1 ⟨x,H1,I1,r,p,d,AA,ex,hp,hd,q⟩=>?_;subst ex;cases r;obtain⟨hvw,_⟩:=(show BO X.prog X.w H1 s1.heap p (Hy p d) from I1.hok p _ hp);obtain⟨o,es,ep,ho,hod,I2⟩:=I1.Zt hd;obtain⟨vs,rel,dat⟩:=Lc I2.hok AN hod;have hlv:AA.length=vs.length:=I0 rel;refine wpAny_pyIter_items (knd:=Cc X.prog X.w) hvw dat ?_;refine⟨s1.heap.objs.size,[s1.heap.objs.size],_,_,_,rfl,I2.kept (t':=s1.toks) (fun b o e=>BB _ e),dJ d _ o AA es ep hod,⟨.none,.none,?_⟩,fun b hb=>?_,q o⟩
 ·rw[hlv];exact Bz _ rfl
 ·have hb':b=s1.heap.objs.size:=by simpa using hb
  rw[hb'];exact I2.Kd (Ab _) (I2.hok.fresh (Ab _))
theorem jV{l:hY}{tl:TE}(hl:PE X l tl):PI X tg l (nA tl):=by
 intro pins s σ H R I h;refine Ad (hl pins s σ H _ I h) fun v s1 ⟨x,H1,I1,r,p,d,AA,ex,hp,hd,q⟩=>?_;subst ex;cases r;obtain⟨hvw,_⟩:=(show BO X.prog X.w H1 s1.heap p (HH p d) from I1.hok p _ hp);obtain⟨o,es,ep,ho,hod,I2⟩:=I1.Zt hd;obtain⟨vs,rel,dat⟩:=Lc I2.hok AN hod;have hlv:AA.length=vs.length:=I0 rel;refine wpAny_pyIter_values (knd:=Cc X.prog X.w) hvw dat ?_;refine⟨s1.heap.objs.size,[s1.heap.objs.size],_,_,_,rfl,I2.kept (t':=s1.toks) (fun b o e=>BB _ e),cY d _ o AA es ep hod,?_,fun b hb=>?_,q o⟩
 ·exact⟨_,Bz _ rfl,rfl,by rw[hlv];rfl⟩
 ·have hb':b=s1.heap.objs.size:=by simpa using hb
  rw[hb'];exact I2.Kd (Ab _) (I2.hok.fresh (Ab _))
theorem dB{Q:VK}(Pv:Nat->Hp->Prop)(h0:Pv 0 (upd H1 D (.lst [])))(hl:∀i H,Pv i H->H d=some (.BR o (.dK AA)))
 (hs:∀i k x p H,AA[i]? =some (k,x)->H p=none->Pv i H->g (.ref p) (ts.map (fun _=>none)++D4 ix σ) (upd H p (.tup [kV k,x])) fun σ2 H2=>Io ts ix σ σ2/\ti σ2 H2 fun b H3=>if b=true then te σ2 H3 fun y H4=>∃ys,H4 D=some (.lst ys)/\ys.length<sizeLine/\Pv (i+1) (upd H4 D (.lst (ys++[y]))) else Pv (i+1) H3)
 (hd:∀H,Pv AA.length H->Q (.ref D) H):Lk ts ix σ (L4 d o AA) g ti te D Q H1:=by
 refine⟨fun i m H=>m=AA.length-i/\i<=AA.length/\Pv i H,⟨AA.length,by simp,CH _,h0⟩,?_⟩;rintro i m H ⟨rfl,hi,p⟩;by_cases hlt:i<AA.length
 ·refine .inr ⟨⟨hl i H p,hlt⟩,Pv (i+1),fun H' p'=>⟨AA.length-(i+1),by lia,rfl,hlt,p'⟩,fun v H' y=>?_⟩;obtain⟨q,k,x,ev,hq,ex,eH⟩:=y;subst ev eH;exact hs i k x q H ex hq p
 ·obtain rfl:i=AA.length:=by lia
  exact .inl ⟨⟨hl _ H p,Ab _⟩,hd H p⟩
theorem fc{Q:VK}(Pv:Nat->Hp->Prop)(h0:Pv 0 (upd H1 D (.lst [])))(hl:∀i H,Pv i H->H d=some (.BR o (.dK AA)))
 (hs:∀i k x H,AA[i]? =some (k,x)->Pv i H->g x (ts.map (fun _=>none)++D4 ix σ) H fun σ2 H2=>Io ts ix σ σ2/\ti σ2 H2 fun b H3=>if b=true then te σ2 H3 fun y H4=>∃ys,H4 D=some (.lst ys)/\ys.length<sizeLine/\Pv (i+1) (upd H4 D (.lst (ys++[y]))) else Pv (i+1) H3)
 (hd:∀H,Pv AA.length H->Q (.ref D) H):Lk ts ix σ (Uh d o AA) g ti te D Q H1:=by
 refine⟨fun i m H=>m=AA.length-i/\i<=AA.length/\Pv i H,⟨AA.length,by simp,CH _,h0⟩,?_⟩;rintro i m H ⟨rfl,hi,p⟩;by_cases hlt:i<AA.length
 ·refine .inr ⟨⟨hl i H p,hlt⟩,Pv (i+1),fun H' p'=>⟨AA.length-(i+1),by lia,rfl,hlt,p'⟩,fun v H' y=>?_⟩;obtain⟨k,ex,eH⟩:=y;subst eH;exact hs i k v _ ex p
 ·obtain rfl:i=AA.length:=by lia
  exact .inl ⟨⟨hl _ H p,Ab _⟩,hd H p⟩
theorem eY{D:Ends}(Pv:Nat->St->Hp->Prop)(h0:Pv 0 σ H)(hl:∀i σ H,Pv i σ H->H d=some (.BR o (.dK AA)))
 (hs:∀i k x p σ H,AA[i]? =some (k,x)->H p=none->Pv i σ H->g (.ref p) σ (upd H p (.tup [kV k,x])) fun σ2 H2=>tb {D with nx:=Pv (i+1),ct:=Pv (i+1),bk:=D.nx} σ2 H2)(hd:∀σ H,Pv AA.length σ H->D.nx σ H):
 ∃W:Nat->Nat->St->Hp->Prop,(∃m,W 0 m σ H)/\∀i m σ H,W i m σ H->
  ((L4 d o AA).stop i H/\D.nx σ H)\/((L4 d o AA).go i H/\∃N:St->Hp->Prop,(∀σ' H',N σ' H'->∃m',m'<m/\W (i+1) m' σ' H')/\∀x H',(L4 d o AA).Jb i H x H'->g x σ H' fun σ2 H2=>tb {D with nx:=N,ct:=N,bk:=D.nx} σ2 H2):=by
 refine⟨fun i m σ H=>m=AA.length-i/\i<=AA.length/\Pv i σ H,⟨AA.length,by simp,CH _,h0⟩,?_⟩;rintro i m σ H ⟨rfl,hi,p⟩;by_cases hlt:i<AA.length
 ·refine .inr ⟨⟨hl i σ H p,hlt⟩,Pv (i+1),fun σ' H' p'=>⟨AA.length-(i+1),by lia,rfl,hlt,p'⟩,fun v H' y=>?_⟩;obtain⟨q,k,x,ev,hq,ex,eH⟩:=y;subst ev eH;exact hs i k x q σ H ex hq p
 ·obtain rfl:i=AA.length:=by lia
  exact .inl ⟨⟨hl _ σ H p,Ab _⟩,hd σ H p⟩
theorem gc{y:Str}{c e:Ya}(hc:X.calm=true)(hk:scope.kind=.function)(h:scope.names.all (fun p=>p.2 !=.cell&&(p.2 !=.free||(p.1==y||p.1==z)))=true)
 (hn:∀q∈scope.names,q.2=.local->scope.names.lookup q.1=some .local)(hcl:closureFor scope X.env=pure [(y,c),(z,e)])(hyz:z≠y)(hce:X.env.cells.lookup y=some c)(hce2:X.env.cells.lookup z=some e)(hx:X.env.kindOf y=some .cell)(hx2:X.env.kindOf z=some .cell)
 (hj:X.N[j]? =some y)(hj2:X.N[k]? =some z)(hr:(rH scope X.env).names.lookup y=some .cell)(hr2:(rH scope X.env).names.lookup z=some .cell):KH X ts [y,z] [j,k] scope [(y,c),(z,e)]:=by
 have hall:∀q∈scope.names,q.2≠.cell/\(q.2=.free->q.1=y\/q.1=z):=fun q hq=>by have:=Jr.mp h q hq;simp only[Du,Bool.or_eq_true,bne_iff_ne,FC] at this;exact⟨this.1,fun e=>this.2.elim (fun q=>absurd e q) id⟩
 have rel:∀q kd,(rH scope X.env).names.lookup q=some kd->(kd=.cell\/kd=.free)->q=y\/q=z:=fun q kd hq hk'=>by
  have hm:=Iu hq;obtain⟨p,hp,e⟩:=BI.mp (show(q,kd)∈scope.names.map _ from hm);obtain⟨n,kq⟩:=p;have hp':=hall (n,kq) hp;by_cases hf:kq=.free
  ·have e1:=hp'.2 hf;have e2:n=q:=by have:=BD Prod.fst e;revert this;dsimp only;split<;>exact id
   rw[<-e2];exact e1
  ·have e3:(n,kq)=(q,kd):=by
    rw[<-e];dsimp only;rw[AF (by
     intro zz;have:(kq==NameKind.free)=true:=by simp only[Du] at zz;exact zz.1.1
     exact hf (by simpa using this))]
   have e4:kq=kd:=BD Prod.snd e3;rcases hk' with z1|z1
   ·exact absurd (e4.trans z1) hp'.1
   ·exact absurd (e4.trans z1) hf
 have l1:List.lookup y [(y,c),(z,e)]=some c:=by rw[Gq,IP]
 have l2:List.lookup z [(y,c),(z,e)]=some e:=by rw[Gq,K0 hyz,Gq,IP]
 refine⟨hc,hcl,fun q hq=>(hall q hq).1,hk,hn,fun q a e'=>?_,fun q hq=>?_,rfl,fun i q m e1 e2=>?_,fun q hq=>?_⟩
 ·by_cases h1:q=y
  ·rw[h1] at e'⊢;rw[l1] at e';rw[<-Ag e'];exact hce
  ·by_cases h2:q=z
   ·rw[h2] at e'⊢;rw[l2] at e';rw[<-Ag e'];exact hce2
   ·rw[Gq,K0 h1,Gq,K0 h2] at e';cases e'
 ·have e:=hq.elim (fun r=>rel q _ r (.inl rfl)) fun r=>rel q _ r (.inr rfl);rcases e with e|e
  ·rw[e];exact⟨c,l1⟩
  ·rw[e];exact⟨_,l2⟩
 ·match i with
  |0=>
   have e3:q=y:=by simpa using e1.symm
   have e4:m=j:=by simpa using e2.symm
   rw[e3,e4];exact hj
  |1=>
   have e3:q=z:=by simpa using e1.symm
   have e4:m=k:=by simpa using e2.symm
   rw[e3,e4];exact hj2
  |i+2=>simp at e1
 ·have e:q=y\/q=z:=by simpa using hq
  rcases e with e|e
  ·rw[e];exact⟨.inr (.inl hx),(by rw[hx];intro q;cases q),.inl hr⟩
  ·rw[e];exact⟨.inr (.inl hx2),(by rw[hx2];intro q;cases q),.inl hr2⟩
theorem qN{y:Str}(h:x≠y)(h2:x≠z)(h3:y≠z):([x]++[y,z]:List Str).Nodup:=by simp[h,h2,h3]
theorem aa{y:Str}{u:V}:Io [x,y] ix σ (((([x,y]:List Str).map (fun _=>(none:Option V))++D4 ix σ).set 0 (some u)).set 1 (some v)):=⟨[some u,some v],rfl,rfl⟩
theorem V3(hc:X.calm=true):DH X (.builtin "sum") (fun xs H Q=>∃(l:Ya)(ns:List Int),xs=[.ref l]/\AJ X.K H l (ns.map V.int)/\Q (.int ns.sum) H):=by
 intro pins s σ H xs us Q I r h;obtain⟨l,ns,rfl,hq,q⟩:=h;obtain⟨u,rfl,rx⟩:=vals1 r;cases rx;obtain⟨AM,rv,pl,hz⟩:=I.list hq;have hh:X.A.handled=none:=I.ok.hd hc;obtain⟨l',e,en⟩:∃l:List (Int×Tok),l.map (fun p=>Value.int p.1 p.2)=AM/\l.map (·.1)=ns:=by
  have:∀(ns:List Int)(us:List AB),Vals (ns.map V.int) us->∃l:List (Int×Tok),l.map (fun p=>Value.int p.1 p.2)=us/\l.map (·.1)=ns:=by
   intro ns
   induction ns with
   |nil=>intro us h;cases h;exact⟨[],rfl,rfl⟩
   |cons n r ih=>
    intro us h
    cases h with
    |cons a t=>obtain⟨l,e,en⟩:=ih _ t;obtain⟨k,ek⟩:=a;exact⟨(n,k)::l,by rw[Av,e,ek],by rw[Av,en]⟩
  exact this ns AM rv
 have ex:intItems l'.toArray=AM.toArray:=by unfold intItems;rw[<-e];simp
 refine sum_intListG hh (xs:=l'.toArray) (by rw[ex];exact pl.isList) fun h' tk t' kk=>?_;refine⟨.int _,H,I.kept kk,⟨t',rfl⟩,?_⟩;rw[preSum_eq];have:((l'.toArray.toList.map (·.1)).take l'.toArray.size)=ns:=by
  show(l'.map (·.1)).take l'.length=ns;rw[en,Fi];have:=BD List.length en;rw[AL] at this
  lia
 rw[this];exact q
noncomputable def II(sep:Str):List Str->Str
 |[p]=>p
 |l=>PySem.Builtin.Str.glued sep l
def rJoin(K:tN):V->List V->Hp->VK->Prop:=fun x vs H Q=>∃(sep:Str)(l:Ya)(zs:List Str),x=.str sep/\vs=[.ref l]/\AJ K H l (zs.map V.str)/\zs.foldl (·+·.length+sep.length) 0<=sizeLine/\(II sep zs).length<=sizeLine/\Q (.str (II sep zs)) H
theorem X4:∀(zs:List Str)(us:List AB),Vals (zs.map V.str) us->∃l:List (Str×Tok),strValues l=us/\l.map (·.1)=zs
 |[],us,h=>by cases h;exact⟨[],rfl,rfl⟩
 |z::zs,us,h=>by
  cases h with
  |cons a t=>obtain⟨l,e,en⟩:=X4 zs _ t;obtain⟨k,ek⟩:=a;exact⟨(z,k)::l,by show Value.str z k::strValues l=_;rw[e,ek],by rw[Av,en]⟩
theorem SU:Ha X "str.join" (rJoin X.K):=by
 intro pins s σ H x vs v us Q I rx rv h;obtain⟨sep,l,zs,rfl,rfl,hq,hz,hz3,q⟩:=h;obtain⟨t,rfl⟩:=rx;obtain⟨u,rfl,ru⟩:=rv.one;cases ru;obtain⟨AM,r,pl,hz2⟩:=I.list hq;obtain⟨l',e,en⟩:=X4 zs AM r;refine I8 F.slot_str_join (LG _ _ _) F.entry_str_join (F.args_str_join_2 _ _) (meets_str_join_list sep t l l' ?_) ⟨by rw[e];exact pl.isList,?_⟩
 ·rw[en];unfold Builtin.Str.tooLong;simpa using hz
 ·match l',en with
  |[],en=>subst en;exact⟨hz3,.str _,H,I.tok _,⟨_,rfl⟩,q⟩
  |[p],en=>subst en;exact⟨.str _,H,I,⟨_,rfl⟩,q⟩
  |p::p2::l,en=>subst en;exact⟨hz3,.str _,H,I.tok _,⟨_,rfl⟩,q⟩
def mx(a b:Str)(tx:TE):TE:=fun σ H Q=>tx σ H fun v H1=>∃z,v=.str z/\z.length<=4000000/\Q (.str (a++z++b)) H1
theorem jz{a b:Str}{x:hY}{tx:TE}{k1 k2:Nat}{p1 p2 p3 p4:Pos}(hx:PE X x tx)(ha:a.length<=1000)(hb:b.length<=1000):PE X (.JoinedStr [.Constant (.str a) k1 p1,.FormattedValue x (-1) none p2,.Constant (.str b) k2 p3] p4) (mx a b tx):=by
 intro pins s σ H Q I h;refine wpAny_JoinedStr ?_;refine VU ⟨a,_,rfl,?_,?_⟩
 ·rw[Hn,A3];show 0+a.length<=_;lia
 refine wpAny_FormattedValue_plain (Ad (hx pins _ σ H _ (I.tok _) h) fun v s1 ⟨y,H1,I1,r,z,ey,hz,q⟩=>?_);subst ey;obtain⟨t,rfl⟩:=r;have fin:∀(u:Tok)(s2:Yf),Inv X pins σ H1 s2->∃y t,Value.str z u=.str y t/\(Str.empty++a++y).length<=sizeLine/\Joins (ax X.prog X.w) X.A X.xe [qZ (.Constant (.str b) k2 p3) X.env] (Str.empty++a++y) (fun out s₁=>out.length<=sizeLine/\EP X pins σ Q (.str out s₁.toks) {s₁ with toks:=s₁.toks+1}) s2:=fun u s2 I2=>by
  refine⟨z,u,rfl,?_,VU ⟨b,_,rfl,?_,?_,?_⟩⟩
  ·rw[Hn,Hn,A3];show 0+a.length+z.length<=_;lia
  ·rw[Hn,Hn,Hn,A3];show 0+a.length+z.length+b.length<=_;lia
  ·rw[Hn,Hn,Hn,A3];show 0+a.length+z.length+b.length<=_;lia
  ·refine⟨.str (Str.empty++a++z++b),H1,(I2.tok _).tok _,⟨_,rfl⟩,?_⟩;have e:Str.empty++a=a:=by obtain⟨c⟩:=a;show(⟨#[]++c⟩:Str)=⟨c⟩;rw[Array.empty_append]
   rw[e];exact q
 exact wpAny_formatField_str (fin t s1 I1) (fin _ _ (I1.tok _)) (by rw[A3];lia)
structure CI(H1:Hp)(D:Ya)(out:List Dt)(H:Hp):Prop where
 same:AO H1 H
 fr:H1 D=none
 lst:∃ys,H D=some (.lst ys)/\Ae (Ex H D) out ys
theorem CI.start(h:H1 D=none):CI H1 D [] (upd H1 D (.lst [])):=⟨Aa h,h,[],AN,Ae.nil⟩
theorem CI.ext{out:List Dt}(c:CI H1 D out H)(s:AO H H'):CI H1 D out H':=by obtain⟨ys,h,r⟩:=c.lst;exact⟨c.same.trans s,c.fr,ys,s _ _ h,r.same (Ex.mono s)⟩
theorem CI.push{out:List Dt}{d:Dt}(c:CI H1 D out H)(r:Rep (Ex H D) d y)(hl:out.length<=200000):∃ys,H D=some (.lst ys)/\ys.length<sizeLine/\CI H1 D (out++[d]) (upd H D (.lst (ys++[y]))):=by
 obtain⟨ys,h,rr⟩:=c.lst;refine⟨ys,h,?_,c.same.upd c.fr,c.fr,ys++[y],AN,?_⟩
 ·have:=rr.1;rw[A3]
  lia
 ·rw[Ex.upd];exact rr.snoc r
theorem CI.done{out:List Dt}(c:CI H1 D out H):Rep H (.lst out) (.ref D):=by obtain⟨ys,h,rr⟩:=c.lst;exact Rep.Fc h (rr.same Ex.sub)
theorem Et(r:Rep H (.lst ds) v):∃a xs,v=.ref a/\H a=some (.lst xs)/\Ae H ds xs:=by
 cases r with
 |lst h hl rr=>exact⟨_,_,rfl,h,hl,rr⟩
theorem Ma(hD:H D=some (.dK AA)){d:Dt}(r:Rep H d v):Rep (Ex H D) d v:=by
 induction r with
 |bl b=>exact .bl b
 |int i=>exact .int i
 |str x=>exact .str x
 |lst h hl _ ih=>exact .lst (Ex.at h (CZ h hD (by intro z;cases z))) hl ih
 |tup h hl _ ih=>exact .tup (Ex.at h (CZ h hD (by intro z;cases z))) hl ih
theorem Hr{f:α->Dt}{ws:List α}{xs:List V}(r:Ae H (ws.map f) xs){x:V}(h:xs[i]? =some x):∃w,ws[i]? =some w/\Rep H (f w) x:=by
 have hl:i<ws.length:=by
  have h1:=(BX.mp h).1;have h2:=r.1;rw[AL] at h2
  lia
 refine⟨ws[i],Aq hl,r.2 i _ x ?_ h⟩;rw[Ax,Aq hl];rfl
theorem Gs{f:α->β}{ws:List α}{w:α}(h:ws[i]? =some w):(ws.take (i+1)).map f=(ws.take i).map f++[f w]:=by rw[EO,h,BS];rfl
theorem take_succ_filter{p:α->Bool}{ws:List α}{w:α}(h:ws[i]? =some w):(ws.take (i+1)).filter p=(ws.take i).filter p++(if p w=true then[w] else[]):=by
 rw[EO,h,OE];congr 1;show List.filter p [w]=_;by_cases z:p w=true
 ·rw[AH z,Gn z];rfl
 ·rw[AF z,Hg z];rfl
theorem Xq{y:Str}{p1 p2:Pos}(hK:X.K=K)(hc:X.calm=true)(hN:X.N.Nodup)(hi:X.N[i]? =some x)(hx:Loc X.env.scope x)(hf:X.fn x=true\/X.env.scope.names.lookup x=some .local)(hj:X.N[j]? =some y)(hy:Loc X.env.scope y)(hg:X.fn y=true\/X.env.scope.names.lookup y=some .local):
 PG X (.Tuple [.Name x p1,.Name y p2] k pos) (UN K 2 (Lj (Dy i) (Lj (Dy j) UB))):=by
 subst hK;exact Le hc (Fn (Bc hN hi hx hf) (Fn (Bc hN hj hy hg) LW))
theorem jA{l:Nat}{y:Str}{p1 p2 p3:Pos}(hK:X.K=K)(hc:X.calm=true)(hN:X.N.Nodup)(hi:X.N[i]? =some x)(hx:Loc X.env.scope x)(hf:X.fn x=true\/X.env.scope.names.lookup x=some .local)(hj:X.N[j]? =some y)(hy:Loc X.env.scope y)(hg:X.fn y=true\/X.env.scope.names.lookup y=some .local)
 (hl:X.N[l]? =some z)(hz:Loc X.env.scope z)(hh:X.fn z=true\/X.env.scope.names.lookup z=some .local):
 PG X (.Tuple [.Name x p1,.Name y p2,.Name z p3] k pos) (UN K 3 (Lj (Dy i) (Lj (Dy j) (Lj (Dy l) UB)))):=by
 subst hK;exact Le hc (Fn (Bc hN hi hx hf) (Fn (Bc hN hj hy hg) (Fn (Bc hN hl hz hh) LW)))
section
variable{o:hY}{es:List hY}{to:TE}{t:TA}{id:String}
theorem lW(K:tN)(hK:X.K=K)(pa:rj T)(slot:Slot T name id)(hty:typeOf (.builtin id)=pure (.type "method_descriptor"))(hm:Np X id r)(ho:PE X o to)(ha:PA X (e::es) t)
 (hbase:qd o name X.env (qZ o X.env)=qZ o X.env:=by rfl)
 (hfew:((qf cpos (dy (e::es) X.env)).all (fun x=> !x.1)&&(rL cpos (qk [] X.env)).all (fun x=>x.1.isSome)&&decide ((e::es).length+([]:List rN).length+(if([]:List rN).isEmpty then 0 else 1)<30))=true:=by rfl)
 (hline:(apos.endLine==cpos.line)=true:=by rfl)(hs:dy (e::es) X.env=(false,qZ e X.env)::dy es X.env:=by rfl)(hplain:(qf cpos (dy es X.env)).any (·.1)=false:=by rfl):
 PE X (.Call (.Attribute o name apos) (e::es) [] cpos) (UU K T r to t):=by
 subst hK;exact JS pa slot hty hm ho ha hbase hfew hline hs hplain
end
theorem eM{xs:List V}{Q:VK}(Pv:Nat->Hp->Prop)(h0:Pv 0 (upd H1 D (.lst [])))(hl:∀i H,i<=xs.length->Pv i H->AJ K H a xs)
 (hs:∀i x p H,xs[i]? =some x->H p=none->Pv i H->g (.ref p) (ts.map (fun _=>none)++D4 ix σ) (upd H p (.tup [.int i,x])) fun σ2 H2=>Io ts ix σ σ2/\ti σ2 H2 fun b H3=>if b=true then te σ2 H3 fun y H4=>∃ys,H4 D=some (.lst ys)/\ys.length<sizeLine/\Pv (i+1) (upd H4 D (.lst (ys++[y]))) else Pv (i+1) H3)
 (hd:∀H,Pv xs.length H->Q (.ref D) H):Lk ts ix σ (Ls K a) g ti te D Q H1:=by
 refine⟨fun i m H=>m=xs.length-i/\i<=xs.length/\Pv i H,⟨xs.length,by simp,CH _,h0⟩,?_⟩;rintro i m H ⟨rfl,hi,p⟩;have q:=hl i H hi p;by_cases hlt:i<xs.length
 ·refine .inr ⟨⟨xs,xs[i],q,by simp[hlt]⟩,Pv (i+1),fun H' p'=>⟨xs.length-(i+1),by lia,rfl,hlt,p'⟩,fun v H' y=>?_⟩;obtain⟨pa,ev,hp,y⟩:=y;obtain⟨x,hx,eH⟩:=y xs q;subst ev eH;exact hs i x pa H hx hp p
 ·obtain rfl:i=xs.length:=by lia
  exact .inl ⟨⟨xs,q,Ab _⟩,hd H p⟩
section
variable{xs:List V}
theorem Ex.ne(h:b≠D):Ex H D b=H b:=by unfold Ex;rw[AF h]
theorem Ex.self:Ex H D D=none:=by unfold Ex;rw[AH rfl]
theorem Inv.mq(I:Inv X pins σ H s)(h:H D=some (.lst xs)):∃o:Obj,(∃(AM:List AB)(n:Nat),Vals xs AM/\o={cls:=.type "list",data:=.seq AM.toArray n})/\xs.length<=sizeLine/\Inv X (pins++[(D,o)]) σ (Ex H D) s:=by
 obtain⟨hz,AM,n,rv,ho⟩:=(show BO X.prog X.w H s.heap D (.lst xs) from I.hok D _ h);have nD:∀b,H b=none->b≠D:=fun b hb z=>by rw[z,h] at hb;cases hb
 refine⟨_,⟨AM,n,rv,rfl⟩,hz,I.ok,I.os,I.bare,⟨I.base.keep,I.base.slot,fun b ob q nn hx=>?_,I.base.there,fun b ys q=>?_,fun b ob u q=>?_,fun b ps q=>?_⟩,I.loc,I.cell,?_,fun x c e=>?_,fun p hp=>?_,fun b ob q=>?_,I.len⟩
 ·have z:=I.base.free b ob q nn hx;rw[Ex.ne (nD b z)];exact z
 ·have z:=I.base.E6 b ys q;rw[Ex.ne (fun y=>by rw[y,h] at z;cases z)];exact z
 ·have z:=I.base.EL b ob u q;rw[Ex.ne (fun y=>by rw[y,h] at z;cases z)];exact z
 ·obtain⟨m,z⟩:=I.base.E5 b ps q;exact⟨m,by rw[Ex.ne (fun y=>by rw[y,h] at z;cases z)];exact z⟩
 ·rw[Ex.ne (nD _ I.free)];exact I.free
 ·rw[Ex.ne (nD _ (I.DJ x c e))];exact I.DJ x c e
 ·rw[<-Bb] at hp;rcases Bh.mp hp with z|z
  ·obtain⟨e,nn,r⟩:=I.pin p z;exact⟨e,by rw[Ex.ne (nD _ nn)];exact nn,r⟩
  ·have e:=Bg.mp z;subst e;refine⟨ho,Ex.self,fun z=>?_,fun z=>?_,fun v z=>nomatch z⟩
   ·have:=I.free;rw[<-z,h] at this;cases this
   ·obtain⟨_,o,ho',_⟩:=I.ok.E4.mem z;by_cases hx:D∈X.ex
    ·exact I.ok.Kj D hx z
    ·have:=I.base.free D o ho' (I.ok.IG D z) hx;rw[h] at this;cases this
 ·by_cases hb:b=D
  ·rw[hb,Ex.self] at q;cases q
  ·rw[Ex.ne hb] at q;refine(I.hok b ob q).Ec (fun _ _ _ z=>z) (fun c z=>?_) fun c ys z=>?_
   ·rw[Ex.ne (fun y=>by rw[y,h] at z;cases z)];exact z
   ·rw[Ex.ne (fun y=>by rw[y,h] at z;cases z)];exact z
theorem Inv.mU{n:Nat}(I:Inv X (pins++[(D,{cls:=.type "list",data:=.seq AM.toArray n})]) σ H s)(rv:Vals xs AM)(hz:xs.length<=sizeLine)(h0:∀o,X.s₀.heap.get? D=some o->D∈X.ex\/X.H₀ D≠none)(hp0:∀p∈X.pn++pins,p.1≠D):H D=none/\Inv X pins σ (upd H D (.lst xs)) s:=by
 obtain⟨e,nn,nl,nf,_⟩:=I.pin (D,{cls:=.type "list",data:=.seq AM.toArray n}) (by rw[<-Bb];exact EB _ (.head _));have nn:H D=none:=nn;refine⟨nn,I.ok,I.os,I.bare,⟨I.base.keep,I.base.slot,fun b ob q n0 hx=>?_,I.base.there,fun b ys q=>?_,fun b ob u q=>?_,fun b ps q=>?_⟩,I.loc,I.cell,?_,fun x c ec=>?_,fun p hp=>?_,fun b ob q=>?_,I.len⟩
 ·have z:=I.base.free b ob q n0 hx;by_cases hb:b=D
  ·subst hb;rcases h0 ob q with y|y
   ·exact absurd y hx
   ·exact absurd n0 y
  ·rw[AQ hb];exact z
 ·have z:=I.base.E6 b ys q;rw[AQ (A2 z nn)];exact z
 ·have z:=I.base.EL b ob u q;rw[AQ (A2 z nn)];exact z
 ·obtain⟨m,z⟩:=I.base.E5 b ps q;exact⟨m,by rw[AQ (A2 z nn)];exact z⟩
 ·rw[AQ (fun z=>nl z.symm)];exact I.free
 ·have hc:=I.cell x c ec;rw[AQ (fun z=>by obtain⟨v,oc,h1,h2⟩:=hc;rw[z] at h1;have e':s.heap.get? D=some {cls:=.type "list",data:=.seq AM.toArray n}:=e;rw[e'] at h1;cases h1;cases h2)];exact I.DJ x c ec
 ·obtain⟨e1,n1,r1⟩:=I.pin p (by rw[<-Bb];exact Hi _ hp);exact⟨e1,by rw[AQ (hp0 p hp)];exact n1,r1⟩
 ·by_cases hb:b=D
  ·subst hb;rw[AN] at q;cases q;exact⟨hz,AM,n,rv,e⟩
  ·rw[AQ hb] at q;refine(I.hok b ob q).Ec (fun _ _ _ z=>z) (fun c z=>?_) fun c ys z=>?_
   ·rw[AQ (A2 z nn)];exact z
   ·rw[AQ (A2 z nn)];exact z
end
theorem Wy(he:PE X e te):PE X e (fun σ H Q=>∃D xs,H D=some (.lst xs)/\te σ (Ex H D) fun v H'=>H' D=none->Q v (upd H' D (.lst xs))):=by
 intro pins s σ H Q I h;obtain⟨D,xs,hD,h⟩:=h;obtain⟨o,⟨AM,n,rv,rfl⟩,hz,I2⟩:=I.mq hD;have h0:∀o,X.s₀.heap.get? D=some o->D∈X.ex\/X.H₀ D≠none:=fun o ho=>by
  by_cases hx:D∈X.ex
  ·exact .inl hx
  ·exact .inr fun z=>by have:=I.base.free D o ho z hx;rw[hD] at this;cases this
 have hp0:∀p∈X.pn++pins,p.1≠D:=fun p hp z=>by obtain⟨_,nn,_⟩:=I.pin p hp;rw[z,hD] at nn;cases nn
 refine Ad (he _ s σ _ _ I2 h) fun v s1 ⟨x,H',I1,r,q⟩=>?_;obtain⟨nn,I3⟩:=I1.mU rv hz h0 hp0;exact⟨x,_,I3,r,q nn⟩
section
variable(O:Nb α)
noncomputable def Lr(a:α):List α->List α
 |[]=>[a]
 |b::l=>if O.lt b a=true then b::Lr a l else a::b::l
def Ik:List α->List α
 |[]=>[]
 |a::l=>Lr O a (Ik l)
theorem Ro(a:α):∀l:List α,(Lr O a l).Perm (a::l)
 |[]=>.refl _
 |b::l=>by
  unfold Lr;split
  ·exact((Ro a l).cons b).trans (.swap a b l)
  ·exact .refl _
theorem I9:∀l:List α,(Ik O l).Perm l
 |[]=>.refl _
 |a::l=>(Ro O a (Ik O l)).trans ((I9 l).cons a)
theorem Ye(a:α):∀l:List α,l.Pairwise (fun x y=>O.lt y x=false)->(Lr O a l).Pairwise (fun x y=>O.lt y x=false)
 |[],_=>U4 _ _
 |b::l,h=>by
  obtain⟨h1,h2⟩:=OD.mp h;unfold Lr;by_cases z:O.lt b a=true
  ·rw[AH z];refine OD.mpr ⟨fun c hc=>?_,Ye a l h2⟩;rcases Ba.mp ((Ro O a l).mem_iff.mp hc) with e|e
   ·rw[e]
    cases y:O.lt a b with
    |false=>rfl
    |true=>have:=O.tr _ _ _ z y;rw[O.ay] at this;cases this
   ·exact h1 c e
  ·rw[AF z];have z':O.lt b a=false:=by simpa using z
   refine OD.mpr ⟨fun c hc=>?_,h⟩;rcases Ba.mp hc with e|e
   ·rw[e];exact z'
   ·cases y:O.lt c a with
    |false=>rfl
    |true=>
     exfalso
     cases w:O.lt a b with
     |true=>have:=O.tr _ _ _ y w;rw[h1 c e] at this;cases this
     |false=>have:=O.BH _ _ w z';subst this;rw[h1 c e] at y;cases y
theorem O7:∀l:List α,(Ik O l).Pairwise (fun x y=>O.lt y x=false)
 |[]=>List.Pairwise.nil
 |a::l=>Ye O a _ (O7 l)
theorem RW:∀l m:List α,l.Perm m->l.Pairwise (fun x y=>O.lt y x=false)->m.Pairwise (fun x y=>O.lt y x=false)->l=m
 |[],m,p,_,_=>p.nil_eq
 |a::l,[],p,_,_=>absurd p.symm.nil_eq (by intro z;cases z)
 |a::l,b::m,p,h1,h2=>by
  obtain⟨a1,a2⟩:=OD.mp h1;obtain⟨b1,b2⟩:=OD.mp h2;have e:a=b:=by
   rcases Ba.mp (p.mem_iff.mp (.head _)) with e|e
   ·exact e
   ·rcases Ba.mp (p.mem_iff.mpr (List.Mem.head m)) with f|f
    ·exact f.symm
    ·exact O.BH _ _ (b1 a e) (a1 b f)
  subst e;rw[RW l m p.cons_inv a2 b2]
theorem Ph{l m:List α}(p:l.Perm m)(h:l.Pairwise (fun x y=>O.lt y x=false)):l=Ik O m:=RW O _ _ (p.trans (I9 O m).symm) h (O7 O m)
theorem hV{l m:List α}(p:l.Perm m):Ik O l=Ik O m:=Ph O ((I9 O l).trans p) (O7 O l)
end
abbrev Ih:List Str->List Str:=Ik Ew
section
open PySem.W
noncomputable def dK:cm:=(Value.none,Value.none)
abbrev SM:=StateT qU Sem
noncomputable def up1(lo b BL:Nat):SM (Option (Option Nat)×Nat):=
 forIn [b:BL] ((none,b):Option (Option Nat)×Nat) fun _ z=>ltAt' (lo+z.2) (lo+z.2-1)>>=fun t=>
  match t with
  |some c=>if c=true then pure (.done (none,z.2)) else pure (.yield (none,z.2+1))
  |none=>pure (.done (some none,z.2))
noncomputable def pL(z:Option (Option Nat)×Nat):SM (Option Nat):=
 match z.1 with
 |some r=>pure r
 |none=>pure (some z.2)
def Kn(lo n BL:Nat):SM (Option Nat):=rP lo (lo+n)>>=fun _=>up1 lo n BL>>=pL
noncomputable def Ux(lo b BL:Nat):SM (Option (Option Nat)×Nat×Nat):=
 forIn [b:BL] ((none,b,0):Option (Option Nat)×Nat×Nat) fun _ z=>ltAt' (lo+z.2.1) (lo+z.2.1-1)>>=fun t=>
  match t with
  |some c=>
   if c=true then
    (if z.2.2>0 then(rP (lo+z.2.1-(z.2.2+1)) (lo+z.2.1)>>=fun _=>pure (.yield (none,z.2.1+1,0))) else pure (.yield (none,z.2.1+1,0)))
   else ltAt' (lo+z.2.1-1) (lo+z.2.1)>>=fun t=>
    match t with
    |some d=>if d=true then pure (.done (none,z.2.1,z.2.2)) else pure (.yield (none,z.2.1+1,z.2.2+1))
    |none=>pure (.done (some none,z.2.1,z.2.2))
  |none=>pure (.done (some none,z.2.1,z.2.2))
def pW(lo BL:Nat)(z:Option (Option Nat)×Nat×Nat):SM (Option Nat):=
 match z.1 with
 |some r=>pure r
 |none=>if z.2.2>0 then(rP (lo+z.2.1-(z.2.2+1)) (lo+z.2.1)>>=fun _=>Kn lo z.2.1 BL) else Kn lo z.2.1 BL
def Pm(lo n BL:Nat):SM (Option Nat):=(liftM (rule "list.sort.descending-run"):SM Unit)>>=fun _=>Ux lo (n+1) BL>>=pW lo BL
def qA(lo BL:Nat)(z:Option (Option Nat)×Nat):SM (Option Nat):=
 match z.1 with
 |some r=>pure r
 |none=>if(z.2==BL)=true then pure (some z.2) else
  if z.2>1 then(ltAt' lo (lo+z.2-1)>>=fun t=>
   match t with
   |some c=>if c=true then pure (some z.2) else rP lo (lo+z.2)>>=fun _=>Pm lo z.2 BL
   |none=>pure none)
  else Pm lo z.2 BL
theorem BG{m m':SM α}{f f':α->SM β}(h:m=m')(g:∀x,f x=f' x):(m>>=f)=(m'>>=f'):=by rw[h,funext g]
theorem HD{a b:Nat}{c:β}{f g:Nat->β->SM (ForInStep β)}(h:∀i z,f i z=g i z):forIn [a:b] c f=forIn [a:b] c g:=by rw[funext fun i=>funext (h i)]
theorem count_eq(lo BL:Nat):countRun' lo BL=(up1 lo 1 BL>>=qA lo BL):=by
 rw[countRun'_eq];refine BG (HD fun i z=>BG rfl fun x=>?_) fun z=>?_
 ·cases x<;>rfl
 ·obtain⟨r,n⟩:=z
  match r with
  |some r=>rfl
  |none=>
   refine DM rfl (fun _=>rfl) fun _=>DM rfl (fun _=>BG rfl fun x=>?_) fun _=>?_;rcases x with _|c
   ·rfl
   refine DM rfl (fun _=>rfl) fun _=>BG rfl fun _=>?_;all_goals
    refine BG rfl fun _=>BG (HD fun i z=>BG rfl fun x=>?_) fun z=>?_
    ·cases x with
     |none=>rfl
     |some c=>refine DM rfl (fun _=>rfl) fun _=>BG rfl fun x=>?_;cases x<;>rfl
    ·obtain⟨r,n,q⟩:=z
     match r with
     |some r=>rfl
     |none=>refine DM rfl (fun _=>BG rfl fun _=>?_) fun _=>?_<;>exact BG rfl fun _=>BG (HD fun i z=>BG rfl fun x=>by cases x<;>rfl) fun z=>by obtain⟨r,n⟩:=z;cases r<;>rfl
section
variable(rk:cm->Nat)
def kv(xs:Array cm)(i:Nat):Nat:=rk (xs.getD i dK)
end
end
variable{xs:Array cm}
section
open PySem.W
section
variable(rk:cm->Nat)
theorem IB{ys:Array cm}(h:xs[i]? =ys[j]?):kv rk xs i=kv rk ys j:=by unfold kv;rw[Gm,Gm,h]
def Up(xs:Array cm)(lo hi:Nat):Prop:=∀i j,lo<=i->i<=j->j<hi->kv rk xs i<=kv rk xs j
def Dn(xs:Array cm)(lo hi:Nat):Prop:=∀i j,lo<=i->i<=j->j<hi->kv rk xs j<=kv rk xs i
def Ev(xs:Array cm)(lo hi:Nat):Prop:=∀i,lo<=i->i<hi->kv rk xs i=kv rk xs (hi-1)
theorem Tb(hj:j<=xs.size)(k:Nat):kv rk (sR xs i j ((j-i)/2)) k=if i<=k/\k<j then kv rk xs (i+j-1-k) else kv rk xs k:=by
 have e:=getElem?_mirror_all (i:=i) hj k;by_cases c:i<=k/\k<j
 ·rw[AH c] at e⊢;exact IB rk e
 ·rw[AF c] at e⊢;exact IB rk e
theorem PM(hj:j<=xs.size)(he:Ev rk xs i j)(k:Nat):kv rk (sR xs i j ((j-i)/2)) k=kv rk xs k:=by
 rw[Tb rk hj];split
 ·rw[he _ (by lia) (by lia),he k (by lia) (by lia)]
 ·rfl
theorem Up.one(xs:Array cm)(lo:Nat):Up rk xs lo (lo+1):=fun i j h1 h2 h3=>by
 have:i=j:=by lia
 rw[this];exact Ab _
end
end
variable{lo:Nat}
section
open PySem.W
section
variable(rk:cm->Nat)
theorem Up.step{n:Nat}(h1:1<=n)(h:Up rk xs lo (lo+n))(hl:¬kv rk xs (lo+n)<kv rk xs (lo+n-1)):Up rk xs lo (lo+(n+1)):=fun i j a b c=>by
 by_cases e:j<lo+n
 ·exact h i j a b e
 ·have e':j=lo+n:=by lia
  subst e';by_cases e2:i=lo+n
  ·rw[e2];exact Ab _
  ·exact BF (h i (lo+n-1) a (by lia) (by lia)) (OM hl)
theorem Dn.step{ys:Array cm}{n:Nat}(h1:1<=n)(hk:∀k,kv rk ys k=kv rk xs k)(h:Dn rk xs lo (lo+n))(hl:kv rk xs (lo+n)<=kv rk xs (lo+n-1)):Dn rk ys lo (lo+(n+1)):=fun i j a b c=>by
 rw[hk,hk];by_cases e:j<lo+n
 ·exact h i j a b e
 ·have e':j=lo+n:=by lia
  subst e';by_cases e2:i=lo+n
  ·rw[e2];exact Ab _
  ·exact BF hl (h i (lo+n-1) a (by lia) (by lia))
end
structure Ok(κ:SortKind)(a0:Array cm)(lo:Nat)(P:Array (Nat×Nat×Nat))(st:qU):Prop where
 perm:(dq st).Perm a0
 fix:∀k,k<lo->(dq st)[k]? =a0[k]?
 kind:kindOf st=κ
 failed:qe st=none
 pend:dA st=P
end
variable{κ:SortKind}{a0:Array cm}{st:qU}
section
open PySem.W
theorem Ok.size{P:Array (Nat×Nat×Nat)}(h:Ok κ a0 lo P st):(dq st).size=a0.size:=h.perm.size_eq
theorem Ok.set{P:Array (Nat×Nat×Nat)}(h:Ok κ a0 lo P st)(hp:xs.Perm (dq st))(hf:∀k,k<lo->xs[k]? =(dq st)[k]?):Ok κ a0 lo P (setArr st xs):=
 ⟨hp.trans h.perm,fun k hk=>(hf k hk).trans (h.fix k hk),h.kind,h.failed,h.pend⟩
theorem Ok.QS{P:Array (Nat×Nat×Nat)}(h:Ok κ a0 lo P st)(hi:lo<=i)(hj:j<=a0.size):Ok κ a0 lo P (setArr st (sR (dq st) i j ((j-i)/2))):=
 h.set (mirror_perm _ _ _ _) fun k hk=>by rw[getElem?_mirror_all (by rw[h.size];exact hj),AF (by lia)]
end
variable{rk:cm->Nat}
section
open PySem.W
section
variable{P:Array (Nat×Nat×Nat)}
def C1(prog:qV)(w:qa)(A:qy)(s:Yf)(κ:SortKind)(rk:cm->Nat)(a0:Array cm):Prop:=
 ∀x y,x∈a0.toList->y∈a0.toList->∀C:Bool->Yf->Prop,C (decide (rk x<rk y)) s->bt (ax prog w) A (keyLt' κ x.1 y.1) C (fun _ _=>False) s
theorem Nj(hc:C1 prog w A s κ rk a0){x y:cm}{Q:Option Bool->qU->Prop}(hk:kindOf st=κ)(hx:x∈a0.toList)(hy:y∈a0.toList)(h:Q (some (decide (rk x<rk y))) st):
 wpS (ax prog w) A E s (lt' x y) Q st:=by
 rw[lt'_eq];refine Ak (Hw ?_);rw[hk];refine Ak (LQ (tJ (C6 (hc x y hx hy (fun c s'=>c=decide (rk x<rk y)/\s'=s) ⟨rfl,rfl⟩) (fun c s' z=>?_) fun _ _ z=>z.elim)));obtain⟨rfl,rfl⟩:=z;exact⟨rfl,Ap h⟩
theorem Ok.at(hB:Ok κ a0 lo P st)(hi:i<a0.size):(dq st)[i]? =some ((dq st).getD i dK)/\(dq st).getD i dK∈a0.toList:=by
 have hi':i<(dq st).size:=by rw[hB.size];exact hi
 have e:(dq st)[i]? =some (dq st)[i]:=GC _ i hi';have e2:(dq st).getD i dK=(dq st)[i]:=by rw[Gm,e];rfl
 rw[e2];exact⟨e,(MF.mp hB.perm).mem_iff.mp (by simp)⟩
theorem NI(hc:C1 prog w A s κ rk a0){Q:Option Bool->qU->Prop}(hB:Ok κ a0 lo P st)(hi:i<a0.size)(hj:j<a0.size)
 (h:Q (some (decide (kv rk (dq st) i<kv rk (dq st) j))) st):wpS (ax prog w) A E s (ltAt' i j) Q st:=by
 rw[ltAt'_eq];refine Ak (Hw ?_);show wpS _ _ _ _ (qm (dq st) i>>=fun x=>qm (dq st) j>>=fun y=>lt' x y) Q st;rw[elem'_eq,elem'_eq,(hB.at hi).1,(hB.at hj).1];exact Ak (Ap (Ak (Ap (Nj hc hB.kind (hB.at hi).2 (hB.at hj).2 h))))
theorem Pw{Q:Unit->qU->Prop}(h:Q () (setArr st (sR (dq st) i j ((j-i)/2)))):wpS (ax prog w) A E s (rP i j) Q st:=by rw[reverseSlice'_eq];exact Jw h
theorem Zu(hc:C1 prog w A s κ rk a0){b BL:Nat}{Q:Option (Option Nat)×Nat->qU->Prop}(hn:lo+BL<=a0.size)(hb:1<=b)(hbn:b<=BL)(hB:Ok κ a0 lo P st)(hs:Up rk (dq st) lo (lo+b))
 (h:∀n,b<=n->n<=BL->Up rk (dq st) lo (lo+n)->(n=BL\/kv rk (dq st) (lo+n)<kv rk (dq st) (lo+n-1))->Q (none,n) st):
 wpS (ax prog w) A E s (up1 lo b BL) Q st:=by
 unfold up1;refine FA (I:=fun x c st'=>st'=st/\c=(none,x)/\Up rk (dq st) lo (lo+x)) ?_ ?_ ⟨rfl,rfl,hs⟩
 ·rintro x c st' h1 h2 ⟨rfl,rfl,hs'⟩;refine Ak (NI hc hB (by dsimp only;lia) (by dsimp only;lia) ?_);by_cases hl:kv rk (dq st') (lo+x)<kv rk (dq st') (lo+x-1)
  ·simp only[hl,LB,CJ];exact Ap (h x h1 (by lia) hs' (.inr hl))
  ·simp only[hl,K8,DL,Bs];exact Ap ⟨rfl,rfl,hs'.step rk (by lia) hl⟩
 ·rintro c st' ⟨rfl,rfl,hs'⟩;rw[show max b BL=BL by lia] at hs'⊢;exact h BL hbn (Ab _) hs' (.inl rfl)
theorem ZY(hc:C1 prog w A s κ rk a0){n BL:Nat}{Q:Option Nat->qU->Prop}(hn:lo+BL<=a0.size)(h1:1<=n)(hnn:n<=BL)(hB:Ok κ a0 lo P st)(hs:Dn rk (dq st) lo (lo+n))
 (h:∀m st',Ok κ a0 lo P st'->1<=m->m<=BL->Up rk (dq st') lo (lo+m)->Q (some m) st'):wpS (ax prog w) A E s (Kn lo n BL) Q st:=by
 unfold Kn;refine Ak (Pw ?_);have hB':=hB.QS (i:=lo) (j:=lo+n) (Ab _) (by lia);refine Ak (Zu hc hn h1 hnn hB' ?_ fun m a b c _=>Ap (h m _ hB' (by lia) b c));intro i j a b c;have hz:lo+n<=(dq st).size:=by rw[hB.size];lia
 show kv rk (sR (dq st) lo (lo+n) _) i<=kv rk (sR (dq st) lo (lo+n) _) j;rw[Tb rk hz,Tb rk hz,AH (by lia),AH (by lia)];exact hs _ _ (by lia) (by lia) (by lia)
theorem oM(hc:C1 prog w A s κ rk a0){n BL:Nat}{Q:Option (Option Nat)×Nat×Nat->qU->Prop}(hn:lo+BL<=a0.size)(h1:1<=n)(hnn:n<=BL)(hB:Ok κ a0 lo P st)(hs:Dn rk (dq st) lo (lo+n))
 (h:∀m q st',Ok κ a0 lo P st'->n<=m->m<=BL->Dn rk (dq st') lo (lo+m)->q+1<=m->Ev rk (dq st') (lo+m-(q+1)) (lo+m)->Q (none,m,q) st'):
 wpS (ax prog w) A E s (Ux lo n BL) Q st:=by
 unfold Ux;refine FA (I:=fun x c st'=>∃q,c=(none,x,q)/\Ok κ a0 lo P st'/\Dn rk (dq st') lo (lo+x)/\q+1<=x/\Ev rk (dq st') (lo+x-(q+1)) (lo+x)) ?_ ?_
  ⟨0,rfl,hB,hs,by lia,fun i a b=>by congr 1;lia⟩
 ·rintro x c st' h2 h3 ⟨q,rfl,hB',hs',hq,he⟩;have hz:lo+x<=(dq st').size:=by rw[hB'.size];lia
  refine Ak (NI hc hB' (by dsimp only;lia) (by dsimp only;lia) ?_);by_cases hl:kv rk (dq st') (lo+x)<kv rk (dq st') (lo+x-1)
  ·simp only[hl,LB,CJ];by_cases hq0:q>0
   ·rw[AH hq0];refine Ak (Pw (Ap ⟨0,rfl,hB'.QS (by lia) (by lia),hs'.step rk (by lia) (PM rk hz he) (Fl hl),by lia,fun i a b=>by congr 1;lia⟩))
   ·rw[AF hq0];exact Ap ⟨0,rfl,hB',hs'.step rk (by lia) (fun _=>rfl) (Fl hl),by lia,fun i a b=>by congr 1;lia⟩
  ·simp only[hl,K8,DL,Bs];refine Ak (NI hc hB' (by lia) (by lia) ?_);by_cases hg:kv rk (dq st') (lo+x-1)<kv rk (dq st') (lo+x)
   ·simp only[hg,LB,CJ];exact Ap (h x q st' hB' h2 (by lia) hs' hq he)
   ·simp only[hg,K8,DL,Bs];have ex:kv rk (dq st') (lo+x)=kv rk (dq st') (lo+x-1):=by lia
    refine Ap ⟨q+1,rfl,hB',hs'.step rk (by lia) (fun _=>rfl) (by lia),by lia,fun i a b=>?_⟩;rw[show lo+(x+1)-1=lo+x by lia,ex];by_cases ei:i=lo+x
    ·rw[ei,ex]
    ·exact he i (by lia) (by lia)
 ·rintro c st' ⟨q,rfl,hB',hs',hq,he⟩;rw[show max n BL=BL by lia] at hs' hq he⊢;exact h BL q st' hB' hnn (Ab _) hs' hq he
theorem YL(hc:C1 prog w A s κ rk a0){n BL:Nat}{Q:Option Nat->qU->Prop}(hn:lo+BL<=a0.size)(hnn:n+1<=BL)(hB:Ok κ a0 lo P st)(hs:Dn rk (dq st) lo (lo+(n+1)))
 (h:∀m st',Ok κ a0 lo P st'->1<=m->m<=BL->Up rk (dq st') lo (lo+m)->Q (some m) st'):wpS (ax prog w) A E s (Pm lo n BL) Q st:=by
 unfold Pm;refine Ak (LQ (Ho ⟨rfl,?_⟩));refine Ak (oM hc hn (by lia) hnn hB hs fun m q st' hB' a b hs' hq he=>?_);have hz:lo+m<=(dq st').size:=by rw[hB'.size];lia
 show wpS _ _ _ _ (if q>0 then _ else _) Q st';by_cases hq0:q>0
 ·rw[AH hq0];refine Ak (Pw (ZY hc hn (by show 1<=m;lia) b (hB'.QS (by dsimp only;lia) (by dsimp only;lia)) (fun i j c d e=>?_) h));show kv rk (sR (dq st') _ _ _) j<=kv rk (sR (dq st') _ _ _) i;rw[PM rk hz he,PM rk hz he];exact hs' i j c d e
 ·rw[AF hq0];exact ZY hc hn (by show 1<=m;lia) b hB' hs' h
theorem jg(hc:C1 prog w A s κ rk a0){BL:Nat}{Q:Option Nat->qU->Prop}(hn:lo+BL<=a0.size)(h1:1<=BL)(hB:Ok κ a0 lo P st)
 (h:∀m st',Ok κ a0 lo P st'->1<=m->m<=BL->Up rk (dq st') lo (lo+m)->Q (some m) st'):wpS (ax prog w) A E s (countRun' lo BL) Q st:=by
 rw[count_eq];refine Ak (Zu hc hn (Ab _) h1 hB (Up.one rk _ _) fun n a b hs ho=>?_);show wpS _ _ _ _ (if(n==BL)=true then _ else _) Q st;by_cases e:n=BL
 ·rw[AH (by simpa using e)];exact Ap (h n st hB a b hs)
 ·rw[AF (by simpa using e)];have hl:=ho.resolve_left e;by_cases g:n>1
  ·show wpS _ _ _ _ (if n>1 then _ else _) Q st;rw[AH g];refine Ak (NI hc hB (by lia) (by dsimp only;lia) ?_);by_cases hr:kv rk (dq st) lo<kv rk (dq st) (lo+n-1)
   ·simp only[hr,LB,CJ];exact Ap (h n st hB a b hs)
   ·simp only[hr,K8,DL,Bs];have hz:lo+n<=(dq st).size:=by rw[hB.size];lia
    have hall:Ev rk (dq st) lo (lo+n):=fun k x y=>by
     have a1:=hs lo k (Ab _) x y;have a2:=hs k (lo+n-1) x (by lia) (by lia)
     lia
    refine Ak (Pw (YL hc hn (by lia) (hB.QS (Ab _) (by lia)) (Dn.step rk (xs:=dq st) (by lia) (PM rk hz hall) (fun i j x y z=>?_) (Fl hl)) h));rw[hall i x (by lia),hall j (by lia) z];exact Ab _
  ·show wpS _ _ _ _ (if n>1 then _ else _) Q st;rw[AF g];have e1:n=1:=by lia
   subst e1;refine YL hc hn (by lia) hB (Dn.step rk (xs:=dq st) (Ab _) (fun _=>rfl) (fun i j x y z=>?_) (Fl hl)) h;have:i=j:=by lia
   rw[this];exact Ab _
end
abbrev G3:=Option (Option Nat)×Nat×Nat
noncomputable def past(left:Bool)(key:cm)(arr:Array cm)(base i:Nat):SM (Option Bool):=
 qm arr (base+i)>>=fun x=>if left=true then lt' x key else lt' key x>>=fun t=>pure (t.map (!·))
noncomputable def Ng(f:Nat->SM (Option Bool))(n lo hi:Nat):SM G3:=
 forIn [0:n] ((none,lo,hi):G3) fun _ z=>if z.2.1>=z.2.2 then pure (.done (none,z.2.1,z.2.2)) else f (z.2.1+(z.2.2-z.2.1)/2)>>=fun t=>
  match t with
  |some c=>if c=true then pure (.yield (none,z.2.1+(z.2.2-z.2.1)/2+1,z.2.2)) else pure (.yield (none,z.2.1,z.2.1+(z.2.2-z.2.1)/2))
  |none=>pure (.done (some none,z.2.1,z.2.2))
noncomputable def UC(z:G3):SM (Option Nat):=
 match z.1 with
 |some r=>pure r
 |none=>pure (some z.2.2)
noncomputable def Li(f:Nat->SM (Option Bool))(n most:Nat)(go:Nat->Nat)(stop:Bool->Bool):SM G3:=
 forIn [0:n] ((none,0,1):G3) fun _ z=>if z.2.2>=most then pure (.done (none,z.2.1,z.2.2)) else f (go z.2.2)>>=fun t=>
  match t with
  |some c=>if stop c=true then pure (.done (none,z.2.1,z.2.2)) else pure (.yield (none,z.2.2,2*z.2.2+1))
  |none=>pure (.done (some none,z.2.1,z.2.2))
def Zl(f:Nat->SM (Option Bool))(n:Nat)(lo hi:Nat->Nat->Nat)(z:G3):SM (Option Nat):=
 match z.1 with
 |some r=>pure r
 |none=>Ng f n (lo z.2.1 z.2.2) (hi z.2.1 z.2.2)>>=UC
def Ub(f:Nat->SM (Option Bool))(n hint:Nat):SM (Option Nat):=f hint>>=fun t=>
 match t with
 |some c=>if c=true then Li f n (n-hint) (fun o=>hint+o) (fun c=> !c)>>=Zl f n (fun l _=>hint+l+1) (fun _ o=>hint+min o (n-hint))
  else Li f n (hint+1) (fun o=>hint-o) (fun c=>c)>>=Zl f n (fun _ o=>hint+1-min o (hint+1)) (fun l _=>hint-l)
 |none=>pure none
noncomputable def JE:Bool->cm->Array cm->Nat->Nat->Nat->SM (Option Nat):=sortPriv%PySem.Builtin.gallop
theorem fG(left:Bool)(key:cm)(arr:Array cm)(base n hint:Nat):JE left key arr base n hint=Ub (past left key arr base) n hint:=by
 refine BG rfl fun x=>?_
 cases x with
 |none=>rfl
 |some c=>
  refine DM rfl (fun _=>?_) fun _=>?_;all_goals
   refine BG (HD fun i z=>DM rfl (fun _=>rfl) fun _=>BG rfl fun x=>?_) fun z=>?_
   ·cases x<;>rfl
   ·obtain⟨r,l,h⟩:=z
    match r with
    |some r=>rfl
    |none=>
     refine BG (HD fun i z=>DM rfl (fun _=>rfl) fun _=>BG rfl fun x=>?_) fun z=>?_
     ·cases x<;>rfl
     ·obtain⟨r,l,h⟩:=z;cases r<;>rfl
section
variable{f:Nat->SM (Option Bool)}{B:Nat->Bool}{n:Nat}
theorem Zf{hi:Nat}{Q:G3->qU->Prop}(hf:∀i,i<n->∀R:Option Bool->qU->Prop,R (some (B i)) st->wpS M A E s (f i) R st)(hm:∀i j,i<=j->j<n->B j=true->B i=true)
 (h1:lo<=hi)(h2:hi<=n)(h3:∀i,i<lo->B i=true)(h4:∀i,hi<=i->i<n->B i=false)
 (h:∀l k,k<=n->(∀i,i<k->B i=true)->(∀i,k<=i->i<n->B i=false)->Q (none,l,k) st):wpS M A E s (Ng f n lo hi) Q st:=by
 unfold Ng;refine FA (I:=fun x c st'=>st'=st/\∃l r,c=(none,l,r)/\l<=r/\r<=n/\r-l<=n-x/\(∀i,i<l->B i=true)/\∀i,r<=i->i<n->B i=false) ?_ ?_ ⟨rfl,lo,hi,rfl,h1,h2,by lia,h3,h4⟩
 ·rintro x c st' _ hx ⟨rfl,l,r,rfl,a1,a2,a3,a4,a5⟩;dsimp only;by_cases hg:l>=r
  ·rw[AH hg];have e:l=r:=by lia
   subst e;exact Ap (h l l a2 a4 a5)
  ·rw[AF hg];refine Ak (hf _ (by lia) _ ?_)
   cases e:B (l+(r-l)/2) with
   |true=>refine Ap ⟨rfl,_,_,rfl,by lia,a2,by lia,fun i hi=>hm i (l+(r-l)/2) (by lia) (by lia) e,a5⟩
   |false=>
    refine Ap ⟨rfl,_,_,rfl,by lia,by lia,by lia,a4,fun i hi hn=>?_⟩
    cases e2:B i with
    |false=>rfl
    |true=>rw[hm _ i hi hn e2] at e;cases e
 ·rintro c st' ⟨rfl,l,r,rfl,a1,a2,a3,a4,a5⟩;have e:l=r:=by lia
  subst e;exact h l l a2 a4 a5
theorem YA{most:Nat}{go:Nat->Nat}{stop:Bool->Bool}{Q:G3->qU->Prop}(J:Nat->Prop)(hf:∀i,i<n->∀R:Option Bool->qU->Prop,R (some (B i)) st->wpS M A E s (f i) R st)(hmost:0<most)(hmn:most<=n)(hgo:∀o,o<most->go o<n)
 (h0:J 0)(hJ:∀o,o<most->stop (B (go o))=false->J o)
 (h:∀l o,l<o->l<most->J l->(o>=most\/(o<most/\stop (B (go o))=true))->Q (none,l,o) st):wpS M A E s (Li f n most go stop) Q st:=by
 unfold Li;refine FA (I:=fun x c st'=>st'=st/\∃l o,c=(none,l,o)/\l<o/\l<most/\J l/\x+1<=o) ?_ ?_ ⟨rfl,0,1,rfl,by lia,hmost,h0,by lia⟩
 ·rintro x c st' _ hx ⟨rfl,l,o,rfl,a1,a2,a3,a4⟩;dsimp only;by_cases hg:o>=most
  ·rw[AH hg];exact Ap (h l o a1 a2 a3 (.inl hg))
  ·rw[AF hg];refine Ak (hf _ (hgo o (by lia)) _ ?_);dsimp only
   cases e:stop (B (go o)) with
   |true=>rw[AH rfl];exact Ap (h l o a1 a2 a3 (.inr ⟨by lia,e⟩))
   |false=>rw[AF (by simp)];exact Ap ⟨rfl,o,2*o+1,rfl,by lia,by lia,hJ o (by lia) e,by lia⟩
 ·rintro c st' ⟨rfl,l,o,rfl,a1,a2,a3,a4⟩;exact h l o a1 a2 a3 (.inl (by lia))
theorem mH{hint:Nat}{Q:Option Nat->qU->Prop}(hf:∀i,i<n->∀R:Option Bool->qU->Prop,R (some (B i)) st->wpS M A E s (f i) R st)(hm:∀i j,i<=j->j<n->B j=true->B i=true)(hh:hint<n)
 (h:∀k,k<=n->(∀i,i<k->B i=true)->(∀i,k<=i->i<n->B i=false)->Q (some k) st):wpS M A E s (Ub f n hint) Q st:=by
 have hm':∀i j,i<=j->j<n->B i=false->B j=false:=fun i j a b c=>by
  cases e:B j with
  |false=>rfl
  |true=>rw[hm i j a b e] at c;cases c
 unfold Ub;refine Ak (hf _ hh _ ?_)
 cases e:B hint with
 |true=>
  show wpS _ _ _ _ (Li f n (n-hint) _ _>>=_) Q st;refine Ak (YA (B:=B) (fun l=>B (hint+l)=true) hf (by lia) (by lia) (fun o ho=>by lia) e (fun o ho hs=>by simpa using hs) fun l o a1 a2 a3 a4=>?_);show wpS _ _ _ _ (Ng f n (hint+l+1) (hint+min o (n-hint))>>=UC) Q st;refine Ak (Zf hf hm (by lia) (by lia) (fun i hi=>hm i (hint+l) (by lia) (by lia) a3) (fun i hi hn=>?_) fun l k b1 b2 b3=>Ap (h k b1 b2 b3));rcases a4 with c|⟨c1,c2⟩
  ·lia
  ·exact hm' (hint+o) i (by lia) hn (by simpa using c2)
 |false=>
  show wpS _ _ _ _ (Li f n (hint+1) _ _>>=_) Q st;refine Ak (YA (B:=B) (fun l=>B (hint-l)=false) hf (by lia) (by lia) (fun o ho=>by lia) e (fun o ho hs=>hs) fun l o a1 a2 a3 a4=>?_);show wpS _ _ _ _ (Ng f n (hint+1-min o (hint+1)) (hint-l)>>=UC) Q st;refine Ak (Zf hf hm (by lia) (by lia) (fun i hi=>?_) (fun i hi hn=>hm' (hint-l) i (by lia) hn a3) fun l k b1 b2 b3=>Ap (h k b1 b2 b3));rcases a4 with c|⟨c1,c2⟩
  ·lia
  ·exact hm i (hint-o) (by lia) (by lia) c2
end
end
variable{arr:Array cm}
section
open PySem.W
theorem DP{Q:cm->qU->Prop}(hi:i<arr.size)(h:Q (arr.getD i dK) st):wpS M A E s (qm arr i) Q st:=by
 have e:arr[i]? =some (arr.getD i dK):=by rw[Gm,GC _ i hi];rfl
 rw[elem'_eq,e];exact Ap h
theorem getD_mem(hi:i<arr.size):arr.getD i dK∈arr.toList:=by rw[Gm,GC _ i hi];simp
theorem LO(hc:C1 prog w A s κ rk a0){left:Bool}{key:cm}{base n hint:Nat}{Q:Option Nat->qU->Prop}(hk:kindOf st=κ)(hkey:key∈a0.toList)(ha:∀x∈arr.toList,x∈a0.toList)
 (hn:base+n<=arr.size)(hh:hint<n)(hs:Up rk arr base (base+n))
 (h:∀k,k<=n->(∀i,i<k->(kv rk arr (base+i)<rk key\/(left=false/\kv rk arr (base+i)=rk key)))->(∀i,k<=i->i<n->(rk key<kv rk arr (base+i)\/(left=true/\kv rk arr (base+i)=rk key)))->Q (some k) st):
 wpS (ax prog w) A E s (JE left key arr base n hint) Q st:=by
 rw[fG];refine mH (B:=fun i=>if left=true then decide (kv rk arr (base+i)<rk key) else !decide (rk key<kv rk arr (base+i))) (fun i hi R hR=>?_) (fun i j a b c=>?_) hh fun k a b c=>h k a (fun i hi=>?_) fun i hi hn'=>?_
 ·unfold past;have hz:base+i<arr.size:=by lia
  refine Ak (DP hz ?_)
  cases left with
  |true=>exact Nj hc hk (ha _ (getD_mem hz)) hkey hR
  |false=>exact Ak (Nj hc hk hkey (ha _ (getD_mem hz)) (Ap hR))
 ·have:=hs (base+i) (base+j) (by lia) (by lia) (by lia)
  cases left with
  |true=>simp only[CJ,OG] at c⊢;lia
  |false=>simp only[DL,Bs,Bool.not_eq_true',U2] at c⊢;lia
 ·have:=b i hi
  cases left with
  |true=>simp only[CJ,OG] at this;exact .inl this
  |false=>simp only[DL,Bs,Bool.not_eq_true',U2] at this;simp;lia
 ·have:=c i hi hn'
  cases left with
  |true=>simp only[CJ,U2] at this;simp;lia
  |false=>simp only[DL,Bs,Bool.not_eq_false',OG] at this;exact .inl this
def SL(rk:cm->Nat)(l:List cm):Prop:=l.Pairwise fun x y=>rk x<=rk y
theorem SL.app{l m:List cm}:SL rk (l++m)↔SL rk l/\SL rk m/\∀x∈l,∀y∈m,rk x<=rk y:=List.pairwise_append
structure Mi(rk:cm->Nat)(out p q:List cm):Prop where
 l:SL rk (out++p)
 r:SL rk (out++q)
theorem Mi.swap{out p q:List cm}(h:Mi rk out p q):Mi rk out q p:=⟨h.r,h.l⟩
theorem Mi.Tt{out p u q:List cm}(h:Mi rk out p (u++q))(hu:∀x∈u,∀y∈p,rk x<=rk y):Mi rk (out++u) p q:=by
 refine⟨?_,by rw[Bb];exact h.r⟩;obtain⟨a,b,c⟩:=SL.app.mp h.l;obtain⟨a',b',c'⟩:=SL.app.mp h.r;refine SL.app.mpr ⟨SL.app.mpr ⟨a,(SL.app.mp b').1,fun x hx y hy=>c' x hx y (Hi _ hy)⟩,b,fun x hx y hy=>?_⟩;rcases Bh.mp hx with z|z
 ·exact c x z y hy
 ·exact hu x z y hy
theorem M6(h:i<xs.size):kv rk xs i=rk (xs.toList[i]'(by simpa using h)):=by unfold kv;rw[Gm,GC _ i h];simp
theorem LU(h:Up rk xs 0 xs.size):∀y∈xs.toList.drop i,kv rk xs i<=rk y:=by
 intro y hy;obtain⟨j,hj,e⟩:=IK.mp hy;rw[EC] at hj;have hl:xs.toList.length=xs.size:=by simp
 rw[List.getElem_drop] at e;rw[<-e,<-M6 (rk:=rk) (i:=i+j) (by lia)];exact h _ _ (CH _) (by lia) (by lia)
theorem O6(h:i<xs.size):xs.toList.drop i=xs.getD i dK::xs.toList.drop (i+1):=by
 have hl:xs.toList.length=xs.size:=by simp
 rw[Kv (by lia)];congr 1;rw[Gm,GC _ i h];simp
theorem Pn(h:Up rk xs 0 xs.size):SL rk xs.toList:=by
 refine N3.mpr fun i j hi hj hij=>?_;have hl:xs.toList.length=xs.size:=by simp
 rw[<-M6 (rk:=rk) (by lia),<-M6 (rk:=rk) (by lia)];exact h _ _ (CH _) (by lia) (by lia)
theorem jt(hk:i+k<=xs.size){y:cm}(h:y∈(xs.toList.drop i).take k):∃j,j<k/\y=xs.getD (i+j) dK:=by
 obtain⟨j,hj,e⟩:=IK.mp h;rw[Bl] at hj;have hl:xs.toList.length=xs.size:=by simp
 refine⟨j,by lia,?_⟩;rw[List.getElem_take,List.getElem_drop] at e;rw[<-e,Gm,GC _ (i+j) (by lia)];simp
theorem Mu(xs:Array cm)(i j:Nat):(xs.extract i j).toList=(xs.toList.drop i).take (j-i):=by rw[VL]
theorem LM(xs:Array cm)(i:Nat):(xs.extract i xs.size).toList=xs.toList.drop i:=by rw[Mu,Fi (by simp)]
structure Mg(rk:cm->Nat)(a b out:Array cm)(ia ib:Nat):Prop where
 mi:Mi rk out.toList (a.toList.drop ia) (b.toList.drop ib)
 pm:out.toList.Perm (a.toList.take ia++b.toList.take ib)
 ha:ia+1<a.size
 hb:ib<b.size
end
variable{out:Array cm}
section
open PySem.W
section
variable{a b:Array cm}
structure Me(rk:cm->Nat)(a b out:Array cm):Prop where
 sl:SL rk out.toList
 pm:out.toList.Perm (a.toList++b.toList)
end
end
variable{ia ib:Nat}
section
open PySem.W
section
variable{a b:Array cm}
noncomputable def FT(a b out:Array cm)(ia ib:Nat):Array cm:=out++a.extract ia a.size++b.extract ib b.size
noncomputable def KZ(a b out:Array cm)(ia ib:Nat):Array cm:=out++b.extract ib b.size++a.extract ia a.size
theorem Ri{o a b:List cm}(h:o.Perm (a.take i++b.take j)):(o++(a.drop i++b.drop j)).Perm (a++b):=by
 have e:a++b=(a.take i++a.drop i)++(b.take j++b.drop j):=by rw[Dr,Dr]
 rw[e];refine(h.append_right _).trans ?_;rw[Bb,Bb];refine Qf _ ?_;rw[<-Bb,<-Bb];exact VA _ Iq
theorem P6(mi:Mi rk out.toList (a.toList.drop ia) (b.toList.drop ib))(pm:out.toList.Perm (a.toList.take ia++b.toList.take ib))(hb:ib=b.size):Me rk a b (FT a b out ia ib):=by
 have e:b.toList.drop ib=[]:=by rw[hb];simp
 have e2:(FT a b out ia ib).toList=out.toList++(a.toList.drop ia++b.toList.drop ib):=by unfold FT;rw[F9,F9,LM,LM,Bb]
 refine⟨?_,by rw[e2];exact Ri pm⟩;rw[e2,e,C5];exact mi.l
theorem ou(mi:Mi rk out.toList (a.toList.drop ia) (b.toList.drop ib))(pm:out.toList.Perm (a.toList.take ia++b.toList.take ib))(ha:ia=a.size):Me rk a b (FT a b out ia ib):=by
 have e:a.toList.drop ia=[]:=by rw[ha];simp
 have e2:(FT a b out ia ib).toList=out.toList++(a.toList.drop ia++b.toList.drop ib):=by unfold FT;rw[F9,F9,LM,LM,Bb]
 refine⟨?_,by rw[e2];exact Ri pm⟩;rw[e2,e,RB];exact mi.r
theorem P0(mi:Mi rk out.toList (a.toList.drop ia) (b.toList.drop ib))(pm:out.toList.Perm (a.toList.take ia++b.toList.take ib))(ha:ia+1=a.size)(hl:∀y∈b.toList,rk y<=kv rk a (a.size-1)):Me rk a b (KZ a b out ia ib):=by
 have e:a.toList.drop ia=[a.getD ia dK]:=by rw[O6 (by lia),ha];simp
 have e2:(KZ a b out ia ib).toList=out.toList++(b.toList.drop ib++a.toList.drop ia):=by unfold KZ;rw[F9,F9,LM,LM,Bb]
 refine⟨?_,by rw[e2];exact(Qf _ Iq).trans (Ri pm)⟩;rw[e2,e,<-Bb];refine SL.app.mpr ⟨mi.r,U4 _ _,fun x hx y hy=>?_⟩;rw[Bg] at hy;rcases Bh.mp hx with z|z
 ·exact(SL.app.mp mi.l).2.2 x z y (by rw[e,hy];exact Bg.mpr rfl)
 ·have:=hl x (Jm z);rw[hy];unfold kv at this
  rwa [show a.size-1=ia by lia] at this
end
end
variable{out':Array cm}
section
open PySem.W
section
variable{a b:Array cm}
theorem Nd(mi:Mi rk out.toList (a.toList.drop ia) (b.toList.drop ib))(pm:out.toList.Perm (a.toList.take ia++b.toList.take ib))(k:Nat)(hk:ib+k<=b.size)(e:out'.toList=out.toList++(b.toList.drop ib).take k)(hle:∀i,i<k->∀y∈a.toList.drop ia,kv rk b (ib+i)<=rk y):
 Mi rk out'.toList (a.toList.drop ia) (b.toList.drop (ib+k))/\out'.toList.Perm (a.toList.take ia++b.toList.take (ib+k)):=by
 rw[e];constructor
 ·have e3:b.toList.drop ib=(b.toList.drop ib).take k++b.toList.drop (ib+k):=by rw[<-List.drop_drop,Dr]
  rw[e3] at mi;refine mi.Tt fun x hx y hy=>?_;obtain⟨j,hj,rfl⟩:=jt hk hx;exact hle j hj y hy
 ·have e3:b.toList.take (ib+k)=b.toList.take ib++(b.toList.drop ib).take k:=List.take_add;rw[e3,<-Bb];exact pm.append_right _
theorem T6(mi:Mi rk out.toList (a.toList.drop ia) (b.toList.drop ib))(pm:out.toList.Perm (a.toList.take ia++b.toList.take ib))(k:Nat)(hk:ia+k<=a.size)(e:out'.toList=out.toList++(a.toList.drop ia).take k)(hle:∀i,i<k->∀y∈b.toList.drop ib,kv rk a (ia+i)<=rk y):
 Mi rk out'.toList (a.toList.drop (ia+k)) (b.toList.drop ib)/\out'.toList.Perm (a.toList.take (ia+k)++b.toList.take ib):=by
 have:=Nd (a:=b) (b:=a) mi.swap (pm.trans Iq) k hk e hle;exact⟨this.1.swap,this.2.trans Iq⟩
theorem Mx(h:i<xs.size)(out:Array cm):(out.push (xs.getD i dK)).toList=out.toList++(xs.toList.drop i).take 1:=by rw[MS,O6 h];rfl
theorem YI(i k:Nat)(out:Array cm):(out++xs.extract i (i+k)).toList=out.toList++(xs.toList.drop i).take k:=by rw[F9,Mu,Nat.add_sub_cancel_left]
end
abbrev A4:=Option (Array cm)×Array cm×Nat×Nat×Nat
abbrev A5:=Option (Array cm)×Array cm×Nat×Nat×Nat×Nat
abbrev A6:=Option (Array cm)×Array cm×Nat×Nat×Nat×Nat×Nat
noncomputable def NB:Nat->SM Unit:=sortPriv%PySem.Builtin.setMinGallop
def lo1(a b:Array cm)(mg:Nat)(out:Array cm)(ia ib:Nat):SM A5:=
 forIn [0:a.size+b.size] ((none,out,ia,ib,0,0):A5) fun _ z=>qm b z.2.2.2.1>>=fun y=>qm a z.2.2.1>>=fun x=>lt' y x>>=fun t=>
  match t with
  |some c=>
   if c=true then(qm b z.2.2.2.1>>=fun y=>
    if(z.2.2.2.1+1==b.size)=true then pure (.done (some (FT a b (z.2.1.push y) z.2.2.1 (z.2.2.2.1+1)),z.2.1.push y,z.2.2.1,z.2.2.2.1+1,0,z.2.2.2.2.2+1))
    else if z.2.2.2.2.2+1>=mg then pure (.done (none,z.2.1.push y,z.2.2.1,z.2.2.2.1+1,0,z.2.2.2.2.2+1))
    else pure (.yield (none,z.2.1.push y,z.2.2.1,z.2.2.2.1+1,0,z.2.2.2.2.2+1)))
   else(qm a z.2.2.1>>=fun x=>
    if(z.2.2.1+1+1==a.size)=true then pure (.done (some (KZ a b (z.2.1.push x) (z.2.2.1+1) z.2.2.2.1),z.2.1.push x,z.2.2.1+1,z.2.2.2.1,z.2.2.2.2.1+1,0))
    else if z.2.2.2.2.1+1>=mg then pure (.done (none,z.2.1.push x,z.2.2.1+1,z.2.2.2.1,z.2.2.2.2.1+1,0))
    else pure (.yield (none,z.2.1.push x,z.2.2.1+1,z.2.2.2.1,z.2.2.2.2.1+1,0)))
  |none=>pure (.done (some (FT a b z.2.1 z.2.2.1 z.2.2.2.1),z.2.1,z.2.2.1,z.2.2.2.1,z.2.2.2.2.1,z.2.2.2.2.2))
def QI(a b:Array cm)(mg ac bc:Nat)(out:Array cm)(ia ib:Nat):SM (ForInStep A6):=
 qm a ia>>=fun x=>
  if(ia+1+1==a.size)=true then pure (.done (some (KZ a b (out.push x) (ia+1) ib),out.push x,ia+1,ib,mg,ac,bc))
  else if(decide (ac<7)&&decide (bc<7))=true then pure (.done (none,out.push x,ia+1,ib,mg,ac,bc))
  else pure (.yield (none,out.push x,ia+1,ib,mg,ac,bc))
def QJ(a b:Array cm)(mg ac bc:Nat)(out:Array cm)(ia ib:Nat):SM (ForInStep A6):=
 qm b ib>>=fun y=>
  if(ib+1==b.size)=true then pure (.done (some (FT a b (out.push y) ia (ib+1)),out.push y,ia,ib+1,mg,ac,bc))
  else qm a ia>>=fun x=>JE true x b (ib+1) (b.size-(ib+1)) 0>>=fun t=>
   match t with
   |some k=>
    if k>0 then
     (if(ib+1+k==b.size)=true then pure (.done (some (FT a b (out.push y++b.extract (ib+1) (ib+1+k)) ia (ib+1+k)),out.push y++b.extract (ib+1) (ib+1+k),ia,ib+1+k,mg,ac,k))
     else QI a b mg ac k (out.push y++b.extract (ib+1) (ib+1+k)) ia (ib+1+k))
    else QI a b mg ac k (out.push y) ia (ib+1)
   |none=>pure (.done (some (FT a b (out.push y) ia (ib+1)),out.push y,ia,ib+1,mg,ac,bc))
def FX(a b:Array cm)(mg ac bc:Nat)(out:Array cm)(ia ib:Nat):SM (ForInStep A6):=
 NB mg>>=fun _=>qm b ib>>=fun y=>JE false y a ia (a.size-ia) 0>>=fun t=>
  match t with
  |some k=>
   if k>0 then
    (if(ia+k+1==a.size)=true then pure (.done (some (KZ a b (out++a.extract ia (ia+k)) (ia+k) ib),out++a.extract ia (ia+k),ia+k,ib,mg,k,bc))
    else if(ia+k==a.size)=true then pure (.done (some (FT a b (out++a.extract ia (ia+k)) (ia+k) ib),out++a.extract ia (ia+k),ia+k,ib,mg,k,bc))
    else QJ a b mg k bc (out++a.extract ia (ia+k)) (ia+k) ib)
   else QJ a b mg k bc out ia ib
  |none=>pure (.done (some (FT a b out ia ib),out,ia,ib,mg,ac,bc))
def Ue(a b:Array cm)(out:Array cm)(ia ib mg ac bc:Nat):SM A6:=
 forIn [0:a.size+b.size] ((none,out,ia,ib,mg,ac,bc):A6) fun _ z=>if z.2.2.2.2.1>1 then FX a b (z.2.2.2.2.1-1) z.2.2.2.2.2.1 z.2.2.2.2.2.2 z.2.1 z.2.2.1 z.2.2.2.1 else FX a b z.2.2.2.2.1 z.2.2.2.2.2.1 z.2.2.2.2.2.2 z.2.1 z.2.2.1 z.2.2.2.1
def qP(z:A6):SM (ForInStep A4):=
 match z.1 with
 |some r=>pure (.done (some r,z.2.1,z.2.2.1,z.2.2.2.1,z.2.2.2.2.1))
 |none=>NB (z.2.2.2.2.1+1)>>=fun _=>pure (.yield (none,z.2.1,z.2.2.1,z.2.2.2.1,z.2.2.2.2.1+1))
def qE(a b:Array cm)(mg:Nat)(z:A5):SM (ForInStep A4):=
 match z.1 with
 |some r=>pure (.done (some r,z.2.1,z.2.2.1,z.2.2.2.1,mg))
 |none=>(liftM (rule "list.sort.gallop"):SM Unit)>>=fun _=>Ue a b z.2.1 z.2.2.1 z.2.2.2.1 (mg+1) z.2.2.2.2.1 z.2.2.2.2.2>>=qP
def bG(a b:Array cm)(out:Array cm)(ia ib mg:Nat):SM A4:=
 forIn [0:a.size+b.size] ((none,out,ia,ib,mg):A4) fun _ z=>lo1 a b z.2.2.2.2 z.2.1 z.2.2.1 z.2.2.2.1>>=qE a b z.2.2.2.2
noncomputable def qI(z:A4):SM (Array cm):=
 match z.1 with
 |some r=>pure r
 |none=>liftM (qp "internal:list.sort.merge-bound" :Sem (Array cm))
def low(a b:Array cm):SM (Array cm):=
 (liftM (rule "list.sort.merge-lo"):SM Unit)>>=fun _=>qm b 0>>=fun y=>
  if(1==b.size)=true then pure (FT a b #[y] 0 1)
  else if(0+1==a.size)=true then pure (KZ a b #[y] 0 1)
  else get>>=fun st=>bG a b #[y] 0 1 (gallopOf st)>>=qI
noncomputable def R0:Array cm->Array cm->SM (Array cm):=sortPriv%PySem.Builtin.mergeLo
theorem ko(a b:Array cm):R0 a b=low a b:=by
 refine BG rfl fun _=>BG rfl fun y=>DM rfl (fun _=>rfl) fun _=>DM rfl (fun _=>rfl) fun _=>BG rfl fun st=>BG (HD fun i z=>BG (HD fun i z=>?_) fun z'=>?_) fun z=>?_
 ·refine BG rfl fun y=>BG rfl fun x=>BG rfl fun t=>?_;cases t<;>rfl
 ·obtain⟨r,o,ia,ib,ac,bc⟩:=z'
  match r with
  |some r=>rfl
  |none=>
   refine BG rfl fun _=>BG (HD fun i z=>?_) fun z=>?_
   ·refine DM rfl (fun _=>?_) fun _=>?_;all_goals
     refine BG rfl fun _=>BG rfl fun y=>BG rfl fun t=>?_
     cases t with
     |none=>rfl
     |some k=>
      refine DM rfl (fun _=>DM rfl (fun _=>rfl) fun _=>DM rfl (fun _=>rfl) fun _=>?_) fun _=>?_;all_goals
       refine BG rfl fun y=>DM rfl (fun _=>rfl) fun _=>BG rfl fun x=>BG rfl fun t=>?_;cases t<;>rfl
   ·obtain⟨r,o,ia,ib,mg,ac,bc⟩:=z;cases r<;>rfl
 ·obtain⟨r,z⟩:=z;cases r<;>rfl
structure Sm(st st':qU):Prop where
 k:kindOf st'=kindOf st
 a:dq st'=dq st
 p:dA st'=dA st
 f:qe st'=qe st
theorem Sm.JY(st:qU):Sm st st:=⟨rfl,rfl,rfl,rfl⟩
theorem Sm.trans{x y z:qU}(h:Sm x y)(g:Sm y z):Sm x z:=⟨g.k.trans h.k,g.a.trans h.a,g.p.trans h.p,g.f.trans h.f⟩
theorem O0{m:Nat}{Q:Unit->qU->Prop}(h:∀st',Sm st st'->Q () st'):wpS M A E s (NB m) Q st:=
 Jw (f:=fun z=>SortSt.mk' (kindOf z) (dq z) (dA z) m (qe z)) (h _ ⟨rfl,rfl,rfl,rfl⟩)
def Uj(rk:cm->Nat)(a b:Array cm)(N:Nat)(z:A6):Prop:=z.1=none/\Mg rk a b z.2.1 z.2.2.1 z.2.2.2.1/\N<=z.2.2.1+z.2.2.2.1
def bE(rk:cm->Nat)(a b:Array cm)(N:Nat)(z:A6):Prop:=(∃r,z.1=some r/\Me rk a b r)\/Uj rk a b N z
def Ur(rk:cm->Nat)(a b:Array cm)(N:Nat):ForInStep A6->Prop
 |.done z=>bE rk a b N z
 |.yield z=>Uj rk a b N z
section
variable{a b:Array cm}
structure F3(rk:cm->Nat)(a0 a b:Array cm):Prop where
 MC:∀x∈a.toList,x∈a0.toList
 MA:∀x∈b.toList,x∈a0.toList
 ua:Up rk a 0 a.size
 ub:Up rk b 0 b.size
 na:0<a.size
 nb:0<b.size
 first:∀y∈a.toList,kv rk b 0<=rk y
 last:∀y∈b.toList,rk y<=kv rk a (a.size-1)
theorem Up.part(h:Up rk xs 0 xs.size){n:Nat}(hn:i+n<=xs.size):Up rk xs i (i+n):=fun x y a b c=>h x y (CH _) b (by lia)
theorem oC(hc:C1 prog w A s κ rk a0)(T:F3 rk a0 a b)(hk:kindOf st=κ){mg:Nat}{N:Nat}(g:Mg rk a b out ia ib)(hN:N<=ia+ib){Q:A5->qU->Prop}
 (h1:∀r z,Me rk a b r->Q (some r,z) st)(h2:∀out ia ib ac bc,Mg rk a b out ia ib->N+1<=ia+ib->Q (none,out,ia,ib,ac,bc) st):wpS (ax prog w) A E s (lo1 a b mg out ia ib) Q st:=by
 unfold lo1;refine FA (I:=fun x c st'=>st'=st/\∃out ia ib ac bc,c=(none,out,ia,ib,ac,bc)/\Mg rk a b out ia ib/\N+x<=ia+ib) ?_ ?_ ⟨rfl,out,ia,ib,0,0,rfl,g,hN⟩
 ·rintro x c st' _ hx ⟨rfl,out,ia,ib,ac,bc,rfl,g,hx2⟩;have ha:ia<a.size:=by have:=g.ha;lia
  refine Ak (DP g.hb (Ak (DP ha (Ak (Nj hc hk (T.MA _ (getD_mem g.hb)) (T.MC _ (getD_mem ha)) ?_)))));by_cases hl:rk (b.getD ib dK)<rk (a.getD ia dK)
  ·simp only[hl,LB,CJ];refine Ak (DP g.hb ?_);obtain⟨m1,m2⟩:=Nd g.mi g.pm 1 (by have:=g.hb;lia) (Mx g.hb out) (fun i hi y hy=>by
    have e:i=0:=by lia
    subst e;exact BF (Fl hl) (LU T.ua y hy));by_cases e:ib+1=b.size
   ·rw[AH (by simpa using e)];exact Ap (h1 _ _ (P6 m1 m2 e))
   ·rw[AF (by simpa using e)];have g2:Mg rk a b (out.push (b.getD ib dK)) ia (ib+1):=⟨m1,m2,g.ha,by have:=g.hb;lia⟩;by_cases e2:bc+1>=mg
    ·rw[AH e2];exact Ap (h2 _ _ _ _ _ g2 (by lia))
    ·rw[AF e2];exact Ap ⟨rfl,_,_,_,_,_,rfl,g2,by lia⟩
  ·simp only[hl,K8,DL,Bs];refine Ak (DP ha ?_);obtain⟨m1,m2⟩:=T6 g.mi g.pm 1 (by lia) (Mx ha out) (fun i hi y hy=>by
    have e:i=0:=by lia
    subst e;exact BF (OM hl) (LU T.ub y hy));by_cases e:ia+1+1=a.size
   ·rw[AH (by simpa using e)];exact Ap (h1 _ _ (P0 m1 m2 e T.last))
   ·rw[AF (by simpa using e)];have g2:Mg rk a b (out.push (a.getD ia dK)) (ia+1) ib:=⟨m1,m2,by have:=g.ha;lia,g.hb⟩;by_cases e2:ac+1>=mg
    ·rw[AH e2];exact Ap (h2 _ _ _ _ _ g2 (by lia))
    ·rw[AF e2];exact Ap ⟨rfl,_,_,_,_,_,rfl,g2,by lia⟩
 ·rintro c st' ⟨rfl,out,ia,ib,ac,bc,rfl,g,hx2⟩;refine h2 _ _ _ _ _ g ?_;have:=T.na
  lia
end
end
variable{ac bc:Nat}
section
open PySem.W
section
variable{a b:Array cm}
theorem Z0(T:F3 rk a0 a b){mg:Nat}{N:Nat}(g:Mg rk a b out ia ib)(hN:N<=ia+ib)(hle:∀y∈b.toList.drop ib,kv rk a ia<=rk y){Q:ForInStep A6->qU->Prop}
 (h:∀z,Ur rk a b N z->Q z st):wpS (ax prog w) A E s (QI a b mg ac bc out ia ib) Q st:=by
 have ha:ia<a.size:=by have:=g.ha;lia
 unfold QI;refine Ak (DP ha ?_);obtain⟨m1,m2⟩:=T6 g.mi g.pm 1 (by lia) (Mx ha out) (fun i hi y hy=>by
  have e:i=0:=by lia
  subst e;exact hle y hy);by_cases e:ia+1+1=a.size
 ·rw[AH (by simpa using e)];exact Ap (h _ (.inl ⟨_,rfl,P0 m1 m2 e T.last⟩))
 ·rw[AF (by simpa using e)];have g2:Mg rk a b (out.push (a.getD ia dK)) (ia+1) ib:=⟨m1,m2,by have:=g.ha;lia,g.hb⟩;by_cases e3:(decide (ac<7)&&decide (bc<7))=true
  ·rw[AH e3];exact Ap (h _ (.inr ⟨rfl,g2,by show N<=ia+1+ib;lia⟩))
  ·rw[AF e3];exact Ap (h _ ⟨rfl,g2,by show N<=ia+1+ib;lia⟩)
theorem Zd(hc:C1 prog w A s κ rk a0)(T:F3 rk a0 a b)(hk:kindOf st=κ){mg:Nat}{N:Nat}(g:Mg rk a b out ia ib)(hN:N<=ia+ib)(hle:∀y∈a.toList.drop ia,kv rk b ib<=rk y){Q:ForInStep A6->qU->Prop}
 (h:∀z,Ur rk a b N z->Q z st):wpS (ax prog w) A E s (QJ a b mg ac bc out ia ib) Q st:=by
 have ha:ia<a.size:=by have:=g.ha;lia
 unfold QJ;refine Ak (DP g.hb ?_);obtain⟨m1,m2⟩:=Nd g.mi g.pm 1 (by have:=g.hb;lia) (Mx g.hb out) (fun i hi y hy=>by
  have e:i=0:=by lia
  subst e;exact hle y hy);by_cases e:ib+1=b.size
 ·rw[AH (by simpa using e)];exact Ap (h _ (.inl ⟨_,rfl,P6 m1 m2 e⟩))
 ·rw[AF (by simpa using e)];have hb:=g.hb;have g2:Mg rk a b (out.push (b.getD ib dK)) ia (ib+1):=⟨m1,m2,g.ha,by lia⟩;refine Ak (DP ha (Ak (LO hc hk (T.MC _ (getD_mem ha)) T.MA (by lia) (by lia) (T.ub.part (by lia)) fun k k1 k2 k3=>?_)));dsimp only;have rest:∀y∈b.toList.drop (ib+1+k),kv rk a ia<=rk y:=fun y hy=>by
   by_cases hz:ib+1+k<b.size
   ·have h1:=k3 k (Ab _) (by lia);have h2:=LU T.ub y hy;have h3:rk (a.getD ia dK)<=kv rk b (ib+1+k):=by rcases h1 with z|⟨_,z⟩<;>lia
    exact BF h3 h2
   ·rw[Kw (by simp;lia)] at hy;cases hy
  by_cases k0:k>0
  ·rw[AH k0];obtain⟨n1,n2⟩:=Nd m1 m2 k (by lia) (YI (xs:=b) (ib+1) k (out.push (b.getD ib dK))) (fun i hi y hy=>by
    have h1:=k2 i hi;have h2:=LU T.ua y hy;have h3:kv rk b (ib+1+i)<=rk (a.getD ia dK):=by rcases h1 with z|⟨_,z⟩<;>lia
    exact BF h3 h2);by_cases e2:ib+1+k=b.size
   ·rw[AH (by simpa using e2)];exact Ap (h _ (.inl ⟨_,rfl,P6 n1 n2 e2⟩))
   ·rw[AF (by simpa using e2)];exact Z0 T ⟨n1,n2,g.ha,by lia⟩ (by lia) rest h
  ·rw[AF k0];have k00:k=0:=by lia
   subst k00;exact Z0 T g2 (by lia) rest h
theorem Zj(hc:C1 prog w A s κ rk a0)(T:F3 rk a0 a b)(hk:kindOf st=κ){mg:Nat}{N:Nat}(g:Mg rk a b out ia ib)(hN:N<=ia+ib){Q:ForInStep A6->qU->Prop}
 (h:∀z st',Sm st st'->Ur rk a b N z->Q z st'):wpS (ax prog w) A E s (FX a b mg ac bc out ia ib) Q st:=by
 have ha:=g.ha;have hb:=g.hb;unfold FX;refine Ak (O0 fun st' sm=>Ak (DP g.hb (Ak (LO hc (sm.k.trans hk) (T.MA _ (getD_mem g.hb)) T.MC (by lia) (by lia) (T.ua.part (by lia)) fun k k1 k2 k3=>?_))));dsimp only;have rest:∀y∈a.toList.drop (ia+k),kv rk b ib<=rk y:=fun y hy=>by
  by_cases hz:ia+k<a.size
  ·have h1:=k3 k (Ab _) (by lia);have h2:=LU T.ua y hy;have h3:rk (b.getD ib dK)<=kv rk a (ia+k):=by rcases h1 with z|⟨_,z⟩<;>lia
   exact BF h3 h2
  ·rw[Kw (by simp;lia)] at hy;cases hy
 by_cases k0:k>0
 ·rw[AH k0];obtain⟨n1,n2⟩:=T6 g.mi g.pm k (by lia) (YI (xs:=a) ia k out) (fun i hi y hy=>by
   have h1:=k2 i hi;have h2:=LU T.ub y hy;have h3:kv rk a (ia+i)<=rk (b.getD ib dK):=by rcases h1 with z|⟨_,z⟩<;>lia
   exact BF h3 h2);by_cases e1:ia+k+1=a.size
  ·rw[AH (by simpa using e1)];exact Ap (h _ _ sm (.inl ⟨_,rfl,P0 n1 n2 e1 T.last⟩))
  ·rw[AF (by simpa using e1)];by_cases e2:ia+k=a.size
   ·rw[AH (by simpa using e2)];exact Ap (h _ _ sm (.inl ⟨_,rfl,ou n1 n2 e2⟩))
   ·rw[AF (by simpa using e2)];exact Zd hc T (sm.k.trans hk) ⟨n1,n2,by lia,g.hb⟩ (by lia) rest fun z hz=>h z _ sm hz
 ·rw[AF k0];have k00:k=0:=by lia
  subst k00;exact Zd hc T (sm.k.trans hk) g hN rest fun z hz=>h z _ sm hz
theorem oN(hc:C1 prog w A s κ rk a0)(T:F3 rk a0 a b)(hk:kindOf st=κ){mg:Nat}{N:Nat}(g:Mg rk a b out ia ib)(hN:N<=ia+ib){Q:A6->qU->Prop}
 (h:∀z st',Sm st st'->bE rk a b N z->Q z st'):wpS (ax prog w) A E s (Ue a b out ia ib mg ac bc) Q st:=by
 unfold Ue;refine FA (I:=fun x c st'=>Sm st st'/\Uj rk a b N c) ?_ ?_ ⟨Sm.JY _,rfl,g,hN⟩
 ·rintro x c st' _ hx ⟨sm,c1,c2,c3⟩;by_cases e3:c.2.2.2.2.1>1
  ·rw[AH e3];refine Zj hc T (sm.k.trans hk) c2 c3 fun z st'' s2 hz=>?_
   cases z with
   |done z=>exact h z _ (sm.trans s2) hz
   |yield z=>exact⟨sm.trans s2,hz⟩
  ·rw[AF e3];refine Zj hc T (sm.k.trans hk) c2 c3 fun z st'' s2 hz=>?_
   cases z with
   |done z=>exact h z _ (sm.trans s2) hz
   |yield z=>exact⟨sm.trans s2,hz⟩
 ·rintro c st' ⟨sm,hz⟩;exact h c st' sm (.inr hz)
theorem nh(hc:C1 prog w A s κ rk a0)(T:F3 rk a0 a b)(hk:kindOf st=κ){Q:Array cm->qU->Prop}(h:∀r st',Sm st st'->Me rk a b r->Q r st'):wpS (ax prog w) A E s (R0 a b) Q st:=by
 rw[ko];unfold low;have nb:=T.nb;have na:=T.na;refine Ak (LQ (Ho ⟨rfl,?_⟩));refine Ak (DP nb ?_);obtain⟨m1,m2⟩:=Nd (rk:=rk) (a:=a) (b:=b) (out:= #[]) (ia:=0) (ib:=0) ⟨Pn T.ua,Pn T.ub⟩ (OT _) 1 (by lia) (Mx nb #[]) (fun i hi y hy=>by
  have e:i=0:=by lia
  subst e;exact T.first y hy);by_cases e1:1=b.size
 ·rw[AH (by simpa using e1)];exact Ap (h _ _ (Sm.JY _) (P6 m1 m2 e1))
 ·rw[AF (by simpa using e1)];by_cases e2:0+1=a.size
  ·rw[AH (by simpa using e2)];exact Ap (h _ _ (Sm.JY _) (P0 m1 m2 e2 T.last))
  ·rw[AF (by simpa using e2)];refine Ak (Hw (Ak ?_));unfold bG;refine FA (I:=fun x c st'=>Sm st st'/\∃out ia ib mg,c=(none,out,ia,ib,mg)/\Mg rk a b out ia ib/\x+1<=ia+ib) ?_ ?_ ⟨Sm.JY _,_,0,1,_,rfl,⟨m1,m2,by lia,by lia⟩,by lia⟩
   ·rintro x c st' _ hx ⟨sm,out,ia,ib,mg,rfl,g,hx2⟩;refine Ak (oC hc T (sm.k.trans hk) g hx2 (fun r z hr=>Ap ?_) fun out ia ib ac bc g2 hx3=>?_)
    ·exact Ap (h r _ sm hr)
    ·refine Ak (LQ (Ho ⟨rfl,?_⟩));refine Ak (oN hc T (sm.k.trans hk) g2 hx3 fun z st2 s2 hz=>?_);obtain⟨r,o,ia',ib',mg',ac',bc'⟩:=z;rcases hz with⟨r',rfl,hr⟩|⟨rfl,g3,hx4⟩
     ·exact Ap (Ap (h r' _ (sm.trans s2) hr))
     ·exact Ak (O0 fun st3 s3=>Ap ⟨(sm.trans s2).trans s3,o,ia',ib',_,rfl,g3,hx4⟩)
   ·rintro c st' ⟨sm,out,ia,ib,mg,rfl,g,hx2⟩;exfalso;have:=g.ha;have:=g.hb
    lia
end
structure Mj(rk:cm->Nat)(p q o:List cm):Prop where
 l:SL rk (p++o)
 r:SL rk (q++o)
theorem Mj.swap{p q o:List cm}(h:Mj rk p q o):Mj rk q p o:=⟨h.r,h.l⟩
theorem Mj.Tt{p q u o:List cm}(h:Mj rk p (q++u) o)(hu:∀x∈p,∀y∈u,rk x<=rk y):Mj rk p q (u++o):=by
 refine⟨?_,by rw[<-Bb];exact h.r⟩;obtain⟨a,b,c⟩:=SL.app.mp h.l;obtain⟨a',b',c'⟩:=SL.app.mp h.r;refine SL.app.mpr ⟨a,SL.app.mpr ⟨(SL.app.mp a').2.1,b,fun x hx y hy=>c' x (EB _ hx) y hy⟩,fun x hx y hy=>?_⟩;rcases Bh.mp hy with z|z
 ·exact hu x hx y z
 ·exact c x hx y z
theorem PN(h:Up rk xs 0 xs.size){n:Nat}(hn:n<=i+1)(hi:i<xs.size):∀y∈xs.toList.take n,rk y<=kv rk xs i:=by
 intro y hy;obtain⟨j,hj,e⟩:=IK.mp hy;rw[Bl] at hj;have hl:xs.toList.length=xs.size:=by simp
 rw[List.getElem_take] at e;rw[<-e,<-M6 (rk:=rk) (i:=j) (by lia)];exact h _ _ (CH _) (by lia) (by lia)
theorem IX{m n:Nat}(hn:n<=xs.size){y:cm}(h:y∈(xs.toList.take n).drop m):∃j,m<=j/\j<n/\y=xs.getD j dK:=by
 obtain⟨j,hj,e⟩:=IK.mp h;rw[EC,Bl] at hj;have hl:xs.toList.length=xs.size:=by simp
 refine⟨m+j,by lia,by lia,?_⟩;rw[List.getElem_drop,List.getElem_take] at e;rw[<-e,Gm,GC _ (m+j) (by lia)];simp
theorem Md{n:Nat}(h:n<xs.size)(out:Array cm):(out.push (xs.getD n dK)).toList.reverse=(xs.toList.take (n+1)).drop n++out.toList.reverse:=by
 have hl:xs.toList.length=xs.size:=by simp
 have e:(xs.toList.take (n+1)).drop n=[xs.getD n dK]:=by rw[List.drop_take,O6 h];simp
 rw[e,MS,List.reverse_append];rfl
theorem XY(m n:Nat)(out:Array cm):(out++(xs.extract m n).reverse).toList.reverse=(xs.toList.take n).drop m++out.toList.reverse:=by rw[F9,List.reverse_append,VJ,List.reverse_reverse,Mu,List.drop_take]
structure Mh(rk:cm->Nat)(a b out:Array cm)(na nb:Nat):Prop where
 mi:Mj rk (a.toList.take na) (b.toList.take nb) out.toList.reverse
 pm:out.toList.reverse.Perm (a.toList.drop na++b.toList.drop nb)
 ha:0<na
 la:na<=a.size
 hb:1<nb
 lb:nb<=b.size
end
variable{na nb:Nat}
section
open PySem.W
section
variable{a b:Array cm}
noncomputable def Ge(a b out:Array cm)(na nb:Nat):Array cm:=a.extract 0 na++b.extract 0 nb++out.reverse
noncomputable def Ke(a b out:Array cm)(na nb:Nat):Array cm:=b.extract 0 nb++a.extract 0 na++out.reverse
theorem Oj(xs:Array cm)(i:Nat):(xs.extract 0 i).toList=xs.toList.take i:=by rw[Mu];simp
theorem Rb{o a b:List cm}(h:o.Perm (a.drop i++b.drop j)):(a.take i++b.take j++o).Perm (a++b):=by
 have e:a++b=(a.take i++a.drop i)++(b.take j++b.drop j):=by rw[Dr,Dr]
 rw[e];refine(h.append_left _).trans ?_;rw[Bb,Bb];refine Qf _ ?_;rw[<-Bb,<-Bb];exact VA _ Iq
theorem Oh:(Ge a b out na nb).toList=a.toList.take na++b.toList.take nb++out.toList.reverse:=by unfold Ge;rw[F9,F9,Oj,Oj,VJ]
theorem WJ:(Ke a b out na nb).toList=b.toList.take nb++a.toList.take na++out.toList.reverse:=by unfold Ke;rw[F9,F9,Oj,Oj,VJ]
theorem QA(mi:Mj rk (a.toList.take na) (b.toList.take nb) out.toList.reverse)(pm:out.toList.reverse.Perm (a.toList.drop na++b.toList.drop nb))(ha:na=0):Me rk a b (Ge a b out na nb):=by refine⟨?_,by rw[Oh];exact Rb pm⟩;rw[Oh,ha,K3,RB];exact mi.r
theorem oz(mi:Mj rk (a.toList.take na) (b.toList.take nb) out.toList.reverse)(pm:out.toList.reverse.Perm (a.toList.drop na++b.toList.drop nb))(hb:nb=0):Me rk a b (Ge a b out na nb):=by refine⟨?_,by rw[Oh];exact Rb pm⟩;rw[Oh,hb,K3,C5];exact mi.l
theorem QB(mi:Mj rk (a.toList.take na) (b.toList.take nb) out.toList.reverse)(pm:out.toList.reverse.Perm (a.toList.drop na++b.toList.drop nb))(hb:nb=1)(hz:0<b.size)(hl:∀y∈a.toList,kv rk b 0<=rk y):Me rk a b (Ke a b out na nb):=by
 have e:b.toList.take nb=[b.getD 0 dK]:=by have:=O6 (xs:=b) (i:=0) hz;rw[OS] at this;rw[hb,this];rfl
 refine⟨?_,?_⟩
 ·rw[WJ,e,Bb];refine SL.app.mpr ⟨U4 _ _,mi.l,fun x hx y hy=>?_⟩;rw[Bg] at hx;rw[hx];rcases Bh.mp hy with z|z
  ·exact hl y (Hh z)
  ·exact(SL.app.mp mi.r).2.2 _ (by rw[e];exact Bg.mpr rfl) y z
 ·rw[WJ];exact(Iq.append_right _).trans (Rb pm)
theorem Pz(mi:Mj rk (a.toList.take na) (b.toList.take nb) out.toList.reverse)(pm:out.toList.reverse.Perm (a.toList.drop na++b.toList.drop nb))(m:Nat)(hm:m<=nb)(hnb:nb<=b.size)(e:out'.toList.reverse=(b.toList.take nb).drop m++out.toList.reverse)(hle:∀i,m<=i->i<nb->∀y∈a.toList.take na,rk y<=kv rk b i):
 Mj rk (a.toList.take na) (b.toList.take m) out'.toList.reverse/\out'.toList.reverse.Perm (a.toList.drop na++b.toList.drop m):=by
 have e3:b.toList.take nb=b.toList.take m++(b.toList.take nb).drop m:=by
  have:=(Dr m (b.toList.take nb)).symm
  rwa [RG,K1 hm] at this
 rw[e];constructor
 ·rw[e3] at mi;refine mi.Tt fun x hx y hy=>?_;obtain⟨j,h1,h2,rfl⟩:=IX hnb hy;exact hle j h1 h2 x hx
 ·have e4:b.toList.drop m=(b.toList.take nb).drop m++b.toList.drop nb:=by
   have e5:b.toList=b.toList.take nb++b.toList.drop nb:=(Dr _ _).symm;have hl:m<=(b.toList.take nb).length:=by rw[Bl];simp;lia
   conv=>lhs;rw[e5]
   rw[Qa hl]
  rw[e4];refine(pm.append_left _).trans ?_;rw[<-Bb,<-Bb];exact VA _ Iq
theorem P7(mi:Mj rk (a.toList.take na) (b.toList.take nb) out.toList.reverse)(pm:out.toList.reverse.Perm (a.toList.drop na++b.toList.drop nb))(m:Nat)(hm:m<=na)(hna:na<=a.size)(e:out'.toList.reverse=(a.toList.take na).drop m++out.toList.reverse)(hle:∀i,m<=i->i<na->∀y∈b.toList.take nb,rk y<=kv rk a i):
 Mj rk (a.toList.take m) (b.toList.take nb) out'.toList.reverse/\out'.toList.reverse.Perm (a.toList.drop m++b.toList.drop nb):=by
 have:=Pz (a:=b) (b:=a) mi.swap (pm.trans Iq) m hm hna e hle;exact⟨this.1.swap,this.2.trans Iq⟩
end
abbrev B4:=Option (Array cm)×Nat×Nat×Array cm×Nat
abbrev B5:=Option (Array cm)×Nat×Nat×Array cm×Nat×Nat
abbrev B6:=Option (Array cm)×Nat×Nat×Array cm×Nat×Nat×Nat
def DA(a b:Array cm)(mg na nb:Nat)(out:Array cm):SM B5:=
 forIn [0:a.size+b.size] ((none,na,nb,out,0,0):B5) fun _ z=>qm b (z.2.2.1-1)>>=fun y=>qm a (z.2.1-1)>>=fun x=>lt' y x>>=fun t=>
  match t with
  |some c=>
   if c=true then(qm a (z.2.1-1)>>=fun x=>
    if(z.2.1-1==0)=true then pure (.done (some (Ge a b (z.2.2.2.1.push x) (z.2.1-1) z.2.2.1),z.2.1-1,z.2.2.1,z.2.2.2.1.push x,z.2.2.2.2.1+1,0))
    else if z.2.2.2.2.1+1>=mg then pure (.done (none,z.2.1-1,z.2.2.1,z.2.2.2.1.push x,z.2.2.2.2.1+1,0))
    else pure (.yield (none,z.2.1-1,z.2.2.1,z.2.2.2.1.push x,z.2.2.2.2.1+1,0)))
   else(qm b (z.2.2.1-1)>>=fun y=>
    if(z.2.2.1-1==1)=true then pure (.done (some (Ke a b (z.2.2.2.1.push y) z.2.1 (z.2.2.1-1)),z.2.1,z.2.2.1-1,z.2.2.2.1.push y,0,z.2.2.2.2.2+1))
    else if z.2.2.2.2.2+1>=mg then pure (.done (none,z.2.1,z.2.2.1-1,z.2.2.2.1.push y,0,z.2.2.2.2.2+1))
    else pure (.yield (none,z.2.1,z.2.2.1-1,z.2.2.2.1.push y,0,z.2.2.2.2.2+1)))
  |none=>pure (.done (some (Ge a b z.2.2.2.1 z.2.1 z.2.2.1),z.2.1,z.2.2.1,z.2.2.2.1,z.2.2.2.2.1,z.2.2.2.2.2))
def Jf(a b:Array cm)(mg ac bc na nb:Nat)(out:Array cm):SM (ForInStep B6):=
 qm a (na-1)>>=fun x=>
  if(na-1==0)=true then pure (.done (some (Ge a b (out.push x) (na-1) nb),na-1,nb,out.push x,mg,ac,bc))
  else if(decide (ac<7)&&decide (bc<7))=true then pure (.done (none,na-1,nb,out.push x,mg,ac,bc))
  else pure (.yield (none,na-1,nb,out.push x,mg,ac,bc))
def Ek(a b:Array cm)(mg ac bc na nb:Nat)(out:Array cm):SM (ForInStep B6):=
 qm b (nb-1)>>=fun y=>
  if(nb-1==1)=true then pure (.done (some (Ke a b (out.push y) na (nb-1)),na,nb-1,out.push y,mg,ac,bc))
  else qm a (na-1)>>=fun x=>JE true x b 0 (nb-1) (nb-1-1)>>=fun t=>
   match t with
   |some k=>
    if nb-1-k>0 then
     (if(k==1)=true then pure (.done (some (Ke a b (out.push y++(b.extract k (nb-1)).reverse) na k),na,k,out.push y++(b.extract k (nb-1)).reverse,mg,ac,nb-1-k))
     else if(k==0)=true then pure (.done (some (Ge a b (out.push y++(b.extract k (nb-1)).reverse) na k),na,k,out.push y++(b.extract k (nb-1)).reverse,mg,ac,nb-1-k))
     else Jf a b mg ac (nb-1-k) na k (out.push y++(b.extract k (nb-1)).reverse))
    else Jf a b mg ac (nb-1-k) na (nb-1) (out.push y)
   |none=>pure (.done (some (Ge a b (out.push y) na (nb-1)),na,nb-1,out.push y,mg,ac,bc))
def Fb(a b:Array cm)(mg ac bc na nb:Nat)(out:Array cm):SM (ForInStep B6):=
 NB mg>>=fun _=>qm b (nb-1)>>=fun y=>JE false y a 0 na (na-1)>>=fun t=>
  match t with
  |some k=>
   if na-k>0 then
    (if(k==0)=true then pure (.done (some (Ge a b (out++(a.extract k na).reverse) k nb),k,nb,out++(a.extract k na).reverse,mg,na-k,bc))
    else Ek a b mg (na-k) bc k nb (out++(a.extract k na).reverse))
   else Ek a b mg (na-k) bc na nb out
  |none=>pure (.done (some (Ge a b out na nb),na,nb,out,mg,ac,bc))
def Ku(a b:Array cm)(na nb:Nat)(out:Array cm)(mg ac bc:Nat):SM B6:=
 forIn [0:a.size+b.size] ((none,na,nb,out,mg,ac,bc):B6) fun _ z=>if z.2.2.2.2.1>1 then Fb a b (z.2.2.2.2.1-1) z.2.2.2.2.2.1 z.2.2.2.2.2.2 z.2.1 z.2.2.1 z.2.2.2.1 else Fb a b z.2.2.2.2.1 z.2.2.2.2.2.1 z.2.2.2.2.2.2 z.2.1 z.2.2.1 z.2.2.2.1
def qF(z:B6):SM (ForInStep B4):=
 match z.1 with
 |some r=>pure (.done (some r,z.2.1,z.2.2.1,z.2.2.2.1,z.2.2.2.2.1))
 |none=>NB (z.2.2.2.2.1+1)>>=fun _=>pure (.yield (none,z.2.1,z.2.2.1,z.2.2.2.1,z.2.2.2.2.1+1))
def Ui(a b:Array cm)(mg:Nat)(z:B5):SM (ForInStep B4):=
 match z.1 with
 |some r=>pure (.done (some r,z.2.1,z.2.2.1,z.2.2.2.1,mg))
 |none=>(liftM (rule "list.sort.gallop"):SM Unit)>>=fun _=>Ku a b z.2.1 z.2.2.1 z.2.2.2.1 (mg+1) z.2.2.2.2.1 z.2.2.2.2.2>>=qF
def QL(a b:Array cm)(na nb:Nat)(out:Array cm)(mg:Nat):SM B4:=
 forIn [0:a.size+b.size] ((none,na,nb,out,mg):B4) fun _ z=>DA a b z.2.2.2.2 z.2.1 z.2.2.1 z.2.2.2.1>>=Ui a b z.2.2.2.2
noncomputable def Nv(z:B4):SM (Array cm):=
 match z.1 with
 |some r=>pure r
 |none=>liftM (qp "internal:list.sort.merge-bound" :Sem (Array cm))
def high(a b:Array cm):SM (Array cm):=
 (liftM (rule "list.sort.merge-hi"):SM Unit)>>=fun _=>qm a (a.size-1)>>=fun x=>
  if(a.size-1==0)=true then pure (Ge a b #[x] (a.size-1) b.size)
  else if(b.size==1)=true then pure (Ke a b #[x] (a.size-1) b.size)
  else get>>=fun st=>QL a b (a.size-1) b.size #[x] (gallopOf st)>>=Nv
noncomputable def Rv:Array cm->Array cm->SM (Array cm):=sortPriv%PySem.Builtin.mergeHi
theorem jT(a b:Array cm):Rv a b=high a b:=by
 refine BG rfl fun _=>BG rfl fun y=>DM rfl (fun _=>rfl) fun _=>DM rfl (fun _=>rfl) fun _=>BG rfl fun st=>BG (HD fun i z=>BG (HD fun i z=>?_) fun z'=>?_) fun z=>?_
 ·refine BG rfl fun y=>BG rfl fun x=>BG rfl fun t=>?_;cases t<;>rfl
 ·obtain⟨r,na,nb,o,ac,bc⟩:=z'
  match r with
  |some r=>rfl
  |none=>
   refine BG rfl fun _=>BG (HD fun i z=>?_) fun z=>?_
   ·refine DM rfl (fun _=>?_) fun _=>?_;all_goals
     refine BG rfl fun _=>BG rfl fun y=>BG rfl fun t=>?_
     cases t with
     |none=>rfl
     |some k=>
      refine DM rfl (fun _=>DM rfl (fun _=>rfl) fun _=>?_) fun _=>?_;all_goals
       refine BG rfl fun y=>DM rfl (fun _=>rfl) fun _=>BG rfl fun x=>BG rfl fun t=>?_;cases t<;>rfl
   ·obtain⟨r,z⟩:=z;cases r<;>rfl
 ·obtain⟨r,z⟩:=z;cases r<;>rfl
def Ut(rk:cm->Nat)(a b:Array cm)(N:Nat)(z:B6):Prop:=z.1=none/\Mh rk a b z.2.2.2.1 z.2.1 z.2.2.1/\z.2.1+z.2.2.1<=N
def bC(rk:cm->Nat)(a b:Array cm)(N:Nat)(z:B6):Prop:=(∃r,z.1=some r/\Me rk a b r)\/Ut rk a b N z
def UT(rk:cm->Nat)(a b:Array cm)(N:Nat):ForInStep B6->Prop
 |.done z=>bC rk a b N z
 |.yield z=>Ut rk a b N z
section
variable{a b:Array cm}
theorem nu(hc:C1 prog w A s κ rk a0)(T:F3 rk a0 a b)(hk:kindOf st=κ){mg:Nat}{N:Nat}(g:Mh rk a b out na nb)(hN:na+nb<=N){Q:B5->qU->Prop}
 (h1:∀r z,Me rk a b r->Q (some r,z) st)(h2:∀out na nb ac bc,Mh rk a b out na nb->na+nb+1<=N->Q (none,na,nb,out,ac,bc) st):wpS (ax prog w) A E s (DA a b mg na nb out) Q st:=by
 unfold DA;refine FA (I:=fun x c st'=>st'=st/\∃out na nb ac bc,c=(none,na,nb,out,ac,bc)/\Mh rk a b out na nb/\na+nb+x<=N) ?_ ?_ ⟨rfl,out,na,nb,0,0,rfl,g,hN⟩
 ·rintro x c st' _ hx ⟨rfl,out,na,nb,ac,bc,rfl,g,hx2⟩;obtain⟨gm,gp,g1,g2,g3,g4⟩:=g;have ha:na-1<a.size:=by lia
  have hb:nb-1<b.size:=by lia
  refine Ak (DP hb (Ak (DP ha (Ak (Nj hc hk (T.MA _ (getD_mem hb)) (T.MC _ (getD_mem ha)) ?_)))));have pa:=Md ha out;have pb:=Md hb out;rw[show na-1+1=na by lia] at pa;rw[show nb-1+1=nb by lia] at pb;by_cases hl:rk (b.getD (nb-1) dK)<rk (a.getD (na-1) dK)
  ·simp only[hl,LB,CJ];refine Ak (DP ha ?_);obtain⟨m1,m2⟩:=P7 gm gp (na-1) (by lia) g2 pa (fun i h1 h2 y hy=>by
    have e:i=na-1:=by lia
    subst e;exact BF (PN T.ub (by lia) hb y hy) (Fl hl));by_cases e:na-1=0
   ·rw[AH (by simpa using e)];exact Ap (h1 _ _ (QA m1 m2 e))
   ·rw[AF (by simpa using e)];have g':Mh rk a b (out.push (a.getD (na-1) dK)) (na-1) nb:=⟨m1,m2,by lia,by lia,g3,g4⟩;by_cases e2:ac+1>=mg
    ·rw[AH e2];exact Ap (h2 _ _ _ _ _ g' (by lia))
    ·rw[AF e2];exact Ap ⟨rfl,_,_,_,_,_,rfl,g',by lia⟩
  ·simp only[hl,K8,DL,Bs];refine Ak (DP hb ?_);obtain⟨m1,m2⟩:=Pz gm gp (nb-1) (by lia) g4 pb (fun i h1 h2 y hy=>by
    have e:i=nb-1:=by lia
    subst e;exact BF (PN T.ua (by lia) ha y hy) (OM hl));by_cases e:nb-1=1
   ·rw[AH (by simpa using e)];exact Ap (h1 _ _ (QB m1 m2 e T.nb T.first))
   ·rw[AF (by simpa using e)];have g':Mh rk a b (out.push (b.getD (nb-1) dK)) na (nb-1):=⟨m1,m2,g1,g2,by lia,by lia⟩;by_cases e2:bc+1>=mg
    ·rw[AH e2];exact Ap (h2 _ _ _ _ _ g' (by lia))
    ·rw[AF e2];exact Ap ⟨rfl,_,_,_,_,_,rfl,g',by lia⟩
 ·rintro c st' ⟨rfl,out,na,nb,ac,bc,rfl,g,hx2⟩;refine h2 _ _ _ _ _ g ?_;have:=T.na
  lia
theorem Zz(T:F3 rk a0 a b){mg:Nat}{N:Nat}(g:Mh rk a b out na nb)(hN:na+nb<=N)(hle:∀y∈b.toList.take nb,rk y<=kv rk a (na-1)){Q:ForInStep B6->qU->Prop}
 (h:∀z,UT rk a b N z->Q z st):wpS (ax prog w) A E s (Jf a b mg ac bc na nb out) Q st:=by
 obtain⟨gm,gp,g1,g2,g3,g4⟩:=g;have ha:na-1<a.size:=by lia
 have pa:=Md ha out;rw[show na-1+1=na by lia] at pa;unfold Jf;refine Ak (DP ha ?_);obtain⟨m1,m2⟩:=P7 gm gp (na-1) (by lia) g2 pa (fun i h1 h2 y hy=>by
  have e:i=na-1:=by lia
  subst e;exact hle y hy);by_cases e:na-1=0
 ·rw[AH (by simpa using e)];exact Ap (h _ (.inl ⟨_,rfl,QA m1 m2 e⟩))
 ·rw[AF (by simpa using e)];have g':Mh rk a b (out.push (a.getD (na-1) dK)) (na-1) nb:=⟨m1,m2,by lia,by lia,g3,g4⟩;by_cases e3:(decide (ac<7)&&decide (bc<7))=true
  ·rw[AH e3];exact Ap (h _ (.inr ⟨rfl,g',by show na-1+nb<=N;lia⟩))
  ·rw[AF e3];exact Ap (h _ ⟨rfl,g',by show na-1+nb<=N;lia⟩)
theorem ZW(hc:C1 prog w A s κ rk a0)(T:F3 rk a0 a b)(hk:kindOf st=κ){mg:Nat}{N:Nat}(g:Mh rk a b out na nb)(hN:na+nb<=N)(hle:∀y∈a.toList.take na,rk y<=kv rk b (nb-1)){Q:ForInStep B6->qU->Prop}
 (h:∀z,UT rk a b N z->Q z st):wpS (ax prog w) A E s (Ek a b mg ac bc na nb out) Q st:=by
 obtain⟨gm,gp,g1,g2,g3,g4⟩:=g;have ha:na-1<a.size:=by lia
 have hb:nb-1<b.size:=by lia
 have pb:=Md hb out;rw[show nb-1+1=nb by lia] at pb;unfold Ek;refine Ak (DP hb ?_);obtain⟨m1,m2⟩:=Pz gm gp (nb-1) (by lia) g4 pb (fun i h1 h2 y hy=>by
  have e:i=nb-1:=by lia
  subst e;exact hle y hy);by_cases e:nb-1=1
 ·rw[AH (by simpa using e)];exact Ap (h _ (.inl ⟨_,rfl,QB m1 m2 e T.nb T.first⟩))
 ·rw[AF (by simpa using e)];have g':Mh rk a b (out.push (b.getD (nb-1) dK)) na (nb-1):=⟨m1,m2,g1,g2,by lia,by lia⟩;refine Ak (DP ha (Ak (LO hc hk (T.MC _ (getD_mem ha)) T.MA (by lia) (by lia) (T.ub.part (by lia)) fun k k1 k2 k3=>?_)));simp only[Nat.zero_add] at k2 k3;dsimp only;have rest:∀y∈b.toList.take k,rk y<=kv rk a (na-1):=fun y hy=>by obtain⟨j,_,j2,rfl⟩:=IX (xs:=b) (m:=0) (n:=k) (by lia) hy;have h1:=k2 j j2;show kv rk b j<=rk (a.getD (na-1) dK);rcases h1 with z|⟨_,z⟩<;>lia
  by_cases k0:nb-1-k>0
  ·rw[AH k0];obtain⟨n1,n2⟩:=Pz m1 m2 k k1 (by lia) (XY (xs:=b) k (nb-1) (out.push (b.getD (nb-1) dK))) (fun i h1 h2 y hy=>by
    have h3:=k3 i h1 h2;have h4:=PN T.ua (i:=na-1) (by lia) ha y hy;have h5:rk (a.getD (na-1) dK)<=kv rk b i:=by rcases h3 with z|⟨_,z⟩<;>lia
    exact BF h4 h5);by_cases e1:k=1
   ·rw[AH (by simpa using e1)];exact Ap (h _ (.inl ⟨_,rfl,QB n1 n2 e1 T.nb T.first⟩))
   ·rw[AF (by simpa using e1)];by_cases e2:k=0
    ·rw[AH (by simpa using e2)];exact Ap (h _ (.inl ⟨_,rfl,oz n1 n2 e2⟩))
    ·rw[AF (by simpa using e2)];exact Zz T ⟨n1,n2,g1,g2,by lia,by lia⟩ (by lia) rest h
  ·rw[AF k0];have k00:k=nb-1:=by lia
   subst k00;exact Zz T g' (by lia) rest h
theorem ZT(hc:C1 prog w A s κ rk a0)(T:F3 rk a0 a b)(hk:kindOf st=κ){mg:Nat}{N:Nat}(g:Mh rk a b out na nb)(hN:na+nb<=N){Q:ForInStep B6->qU->Prop}
 (h:∀z st',Sm st st'->UT rk a b N z->Q z st'):wpS (ax prog w) A E s (Fb a b mg ac bc na nb out) Q st:=by
 obtain⟨gm,gp,g1,g2,g3,g4⟩:=id g;have ha:na-1<a.size:=by lia
 have hb:nb-1<b.size:=by lia
 unfold Fb;refine Ak (O0 fun st' sm=>Ak (DP hb (Ak (LO hc (sm.k.trans hk) (T.MA _ (getD_mem hb)) T.MC (by lia) (by lia) (T.ua.part (by lia)) fun k k1 k2 k3=>?_))));simp only[Nat.zero_add] at k2 k3;dsimp only;have rest:∀y∈a.toList.take k,rk y<=kv rk b (nb-1):=fun y hy=>by obtain⟨j,_,j2,rfl⟩:=IX (xs:=a) (m:=0) (n:=k) (by lia) hy;have h1:=k2 j j2;show kv rk a j<=rk (b.getD (nb-1) dK);rcases h1 with z|⟨_,z⟩<;>lia
 by_cases k0:na-k>0
 ·rw[AH k0];obtain⟨n1,n2⟩:=P7 gm gp k k1 g2 (XY (xs:=a) k na out) (fun i h1 h2 y hy=>by
   have h3:=k3 i h1 h2;have h4:=PN T.ub (i:=nb-1) (by lia) hb y hy;have h5:rk (b.getD (nb-1) dK)<=kv rk a i:=by rcases h3 with z|⟨_,z⟩<;>lia
   exact BF h4 h5);by_cases e2:k=0
  ·rw[AH (by simpa using e2)];exact Ap (h _ _ sm (.inl ⟨_,rfl,QA n1 n2 e2⟩))
  ·rw[AF (by simpa using e2)];exact ZW hc T (sm.k.trans hk) ⟨n1,n2,by lia,by lia,g3,g4⟩ (by lia) rest fun z hz=>h z _ sm hz
 ·rw[AF k0];have k00:k=na:=by lia
  subst k00;exact ZW hc T (sm.k.trans hk) g hN rest fun z hz=>h z _ sm hz
theorem nH(hc:C1 prog w A s κ rk a0)(T:F3 rk a0 a b)(hk:kindOf st=κ){mg:Nat}{N:Nat}(g:Mh rk a b out na nb)(hN:na+nb<=N){Q:B6->qU->Prop}
 (h:∀z st',Sm st st'->bC rk a b N z->Q z st'):wpS (ax prog w) A E s (Ku a b na nb out mg ac bc) Q st:=by
 unfold Ku;refine FA (I:=fun x c st'=>Sm st st'/\Ut rk a b N c) ?_ ?_ ⟨Sm.JY _,rfl,g,hN⟩
 ·rintro x c st' _ hx ⟨sm,c1,c2,c3⟩;by_cases e3:c.2.2.2.2.1>1
  ·rw[AH e3];refine ZT hc T (sm.k.trans hk) c2 c3 fun z st'' s2 hz=>?_
   cases z with
   |done z=>exact h z _ (sm.trans s2) hz
   |yield z=>exact⟨sm.trans s2,hz⟩
  ·rw[AF e3];refine ZT hc T (sm.k.trans hk) c2 c3 fun z st'' s2 hz=>?_
   cases z with
   |done z=>exact h z _ (sm.trans s2) hz
   |yield z=>exact⟨sm.trans s2,hz⟩
 ·rintro c st' ⟨sm,hz⟩;exact h c st' sm (.inr hz)
theorem kS(hc:C1 prog w A s κ rk a0)(T:F3 rk a0 a b)(hk:kindOf st=κ){Q:Array cm->qU->Prop}(h:∀r st',Sm st st'->Me rk a b r->Q r st'):wpS (ax prog w) A E s (Rv a b) Q st:=by
 rw[jT];unfold high;have nb:=T.nb;have na:=T.na;have ha:a.size-1<a.size:=by lia
 refine Ak (LQ (Ho ⟨rfl,?_⟩));refine Ak (DP ha ?_);have pa:=Md ha #[];rw[show a.size-1+1=a.size by lia] at pa;have ta:a.toList.take a.size=a.toList:=Fi (by simp);have tb:b.toList.take b.size=b.toList:=Fi (by simp);obtain⟨m1,m2⟩:=P7 (rk:=rk) (a:=a) (b:=b) (out:= #[]) (na:=a.size) (nb:=b.size) ⟨by rw[ta];show SL rk (a.toList++[]);rw[C5];exact Pn T.ua,by rw[tb];show SL rk (b.toList++[]);rw[C5];exact Pn T.ub⟩
  (by rw[Kw (by simp),Kw (by simp)];exact OT _) (a.size-1) (by lia) (Ab _) pa (fun i h1 h2 y hy=>by
  have e:i=a.size-1:=by lia
  subst e;exact T.last y (Hh hy));by_cases e1:a.size-1=0
 ·rw[AH (by simpa using e1)];exact Ap (h _ _ (Sm.JY _) (QA m1 m2 e1))
 ·rw[AF (by simpa using e1)];by_cases e2:b.size=1
  ·rw[AH (by simpa using e2)];exact Ap (h _ _ (Sm.JY _) (QB m1 m2 e2 T.nb T.first))
  ·rw[AF (by simpa using e2)];refine Ak (Hw (Ak ?_));unfold QL;refine FA (I:=fun x c st'=>Sm st st'/\∃out na nb mg,c=(none,na,nb,out,mg)/\Mh rk a b out na nb/\na+nb+x+1<=a.size+b.size) ?_ ?_ ⟨Sm.JY _,_,_,_,_,rfl,⟨m1,m2,by lia,by lia,by lia,Ab _⟩,by lia⟩
   ·rintro x c st' _ hx ⟨sm,out,na,nb,mg,rfl,g,hx2⟩;refine Ak (nu (N:=a.size+b.size-x-1) hc T (sm.k.trans hk) g (by lia) (fun r z hr=>Ap ?_) fun out na nb ac bc g2 hx3=>?_)
    ·exact Ap (h r _ sm hr)
    ·refine Ak (LQ (Ho ⟨rfl,?_⟩));refine Ak (nH (N:=a.size+b.size-x-2) hc T (sm.k.trans hk) g2 (by lia) fun z st2 s2 hz=>?_);obtain⟨r,na',nb',o,mg',ac',bc'⟩:=z;rcases hz with⟨r',rfl,hr⟩|⟨rfl,g3,hx4⟩
     ·exact Ap (Ap (h r' _ (sm.trans s2) hr))
     ·have g5:0<na':=g3.ha;have hx5:na'+nb'<=a.size+b.size-x-2:=hx4;exact Ak (O0 fun st3 s3=>Ap ⟨(sm.trans s2).trans s3,o,na',nb',_,rfl,g3,by lia⟩)
   ·rintro c st' ⟨sm,out,na,nb,mg,rfl,g,hx2⟩;exfalso
    lia
end
section
variable(rk:cm->Nat)
theorem ZM{src d:Nat}(hs:src<xs.size)(hd:d<=src)(k:Nat):kv rk (bubble xs src d) k=if k=src-d then kv rk xs src else if src-d<k/\k<=src then kv rk xs (k-1) else kv rk xs k:=by
 have e:=getElem?_bubble hs d hd k;by_cases h1:k=src-d
 ·rw[AH h1] at e⊢;exact IB rk e
 ·rw[AF h1] at e⊢;by_cases h2:src-d<k/\k<=src
  ·rw[AH h2] at e⊢;exact IB rk e
  ·rw[AF h2] at e⊢;exact IB rk e
end
section
variable{P:Array (Nat×Nat×Nat)}
theorem gw(hc:C1 prog w A s κ rk a0){n ok:Nat}{Q:Bool->qU->Prop}(hn:lo+n<=a0.size)(h1:1<=ok)(hok:ok<=n)(hB:Ok κ a0 lo P st)(hs:Up rk (dq st) lo (lo+ok))
 (h:∀st',Ok κ a0 lo P st'->Up rk (dq st') lo (lo+n)->Q true st'):wpS (ax prog w) A E s (binarySort' lo n ok) Q st:=by
 rw[binarySort'_eq];refine Ak (rm (FA (I:=fun k c st'=>c=(none,())/\Ok κ a0 lo P st'/\Up rk (dq st') lo (lo+min k n))
  (Q:=fun c st'=>c=(none,())/\Ok κ a0 lo P st'/\Up rk (dq st') lo (lo+n)) ?_ ?_ ⟨rfl,hB,by rw[show min (max ok 1) n=ok by lia];exact hs⟩) ?_)
 ·rintro k c st' hak hkn ⟨rfl,hB',hs'⟩;rw[show min k n=k by lia] at hs';have hk:lo+k<a0.size:=by lia
  refine Ak (rm (FA (I:=fun x c st''=>st''=st'/\∃l r,c=(none,l,r)/\l<=r/\r<=k/\r-l<=k-x/\
   (∀i,i<l->kv rk (dq st') (lo+i)<=kv rk (dq st') (lo+k))/\(∀i,r<=i->i<k->kv rk (dq st') (lo+k)<kv rk (dq st') (lo+i)))
   (Q:=fun c st''=>st''=st'/\∃l r,c=(none,l,r)/\l<=k/\
    (∀i,i<l->kv rk (dq st') (lo+i)<=kv rk (dq st') (lo+k))/\(∀i,l<=i->i<k->kv rk (dq st') (lo+k)<kv rk (dq st') (lo+i))) ?_ ?_ ⟨rfl,0,k,rfl,by lia,by lia,by lia,fun i hi=>by lia,fun i h1 h2=>by lia⟩) ?_)
  ·rintro x c st'' _ hxk ⟨rfl,l,r,rfl,hlr,hrk,hm,hlo,hhi⟩;dsimp only;by_cases hge:l>=r
   ·rw[AH hge];have:l=r:=by lia
    subst this;exact Ap ⟨rfl,l,l,rfl,hrk,hlo,hhi⟩
   ·rw[AF hge];refine Ak (NI hc hB' hk (by lia) ?_);by_cases hl:kv rk (dq st'') (lo+k)<kv rk (dq st'') (lo+(l+r)/2)
    ·simp only[hl,LB,CJ];refine Ap ⟨rfl,l,(l+r)/2,rfl,by lia,by lia,by lia,hlo,fun i a b=>?_⟩;exact C3 hl (hs' _ _ (by lia) (by lia) (by lia))
    ·simp only[hl,K8,DL,Bs];refine Ap ⟨rfl,(l+r)/2+1,r,rfl,by lia,by lia,by lia,fun i a=>?_,hhi⟩;exact BF (hs' (lo+i) (lo+(l+r)/2) (by lia) (by lia) (by lia)) (OM hl)
  ·rintro c st'' ⟨rfl,l,r,rfl,hlr,hrk,hm,hlo,hhi⟩;have:l=r:=by lia
   subst this;exact⟨rfl,l,l,rfl,hrk,hlo,hhi⟩
  ·rintro c st'' ⟨rfl,l,r,rfl,hlk,hlo,hhi⟩;show wpS _ _ _ _ (moveDown' (lo+k) (lo+l)>>=fun _=>pure (ForInStep.yield (none,()))) _ _;rw[moveDown'_eq];have hks:lo+k<(dq st'').size:=by rw[hB'.size];exact hk
   refine Ak (Jw (Ap ⟨rfl,hB'.set (bubble_perm _ _ _) (fun j hj=>?_),?_⟩))
   ·rw[getElem?_bubble hks _ (by lia),AF (by lia),AF (by lia)]
   ·rw[show min (k+1) n=k+1 by lia];intro i j a b c;show kv rk (bubble (dq st'') (lo+k) (lo+k-(lo+l))) i<=kv rk (bubble (dq st'') (lo+k) (lo+k-(lo+l))) j;rw[ZM rk hks (by lia),ZM rk hks (by lia),show lo+k-(lo+k-(lo+l))=lo+l by lia];have lo':∀i,lo<=i->i<lo+l->kv rk (dq st'') i<=kv rk (dq st'') (lo+k):=fun i x y=>by
     have:=hlo (i-lo) (by lia)
     rwa [show lo+(i-lo)=i by lia] at this
    have hi':∀i,lo+l<=i->i<lo+k->kv rk (dq st'') (lo+k)<kv rk (dq st'') i:=fun i x y=>by
     have:=hhi (i-lo) (by lia) (by lia)
     rwa [show lo+(i-lo)=i by lia] at this
    repeat' split
    all_goals first
     |(exfalso;lia)
     |exact Ab _
     |exact lo' _ (by lia) (by lia)
     |exact Fl (hi' _ (by lia) (by lia))
     |exact hs' _ _ (by lia) (by lia) (by lia)
 ·rintro c st' ⟨hc',hB',hs'⟩;refine⟨hc',hB',?_⟩
  rwa [show min (max (max ok 1) n) n=n by lia] at hs'
 ·rintro c st' ⟨rfl,hB',hs'⟩;exact Ap (h st' hB' hs')
end
noncomputable def wr(sa:Nat)(xs:Array cm)(l:List (cm×Nat)):Array cm:=l.foldl (fun a x=>match x with|(p,j)=>a.setIfInBounds (sa+j) p) xs
theorem Yh:∀(l:List cm)(n sa:Nat)(xs:Array cm)(p m q:List cm),xs.toList=p++m++q->p.length=sa+n->m.length=l.length->(wr sa xs (l.zipIdx n)).toList=p++l++q
 |[],n,sa,xs,p,m,q,e,hp,hm=>by have:m=[]:=Qc.mp hm;subst this;exact e
 |x::l,n,sa,xs,p,m,q,e,hp,hm=>by
  match m,hm with
  |y::m,hm=>
   have hm':m.length=l.length:=by simpa using hm
   have:=Yh l (n+1) sa (xs.setIfInBounds (sa+n) x) (p++[x]) m q (by rw[Array.toList_setIfInBounds,e,<-hp];simp) (by simp;lia) hm';rw[List.zipIdx_cons];show(wr sa (xs.setIfInBounds (sa+n) x) (l.zipIdx (n+1))).toList=_;rw[this];simp
def S2(i sa na pw sb nb:Nat)(st:qU):SM Bool:=
 set (qz st (((dA st).setIfInBounds i (sa,na+nb,pw)).eraseIdxIfInBounds (i+1)))>>=fun _=>qm (dq st) sb>>=fun y=>JE false y (dq st) sa na 0>>=fun t=>
  match t with
  |some k=>
   if(na-k==0)=true then pure true
   else qm (dq st) (sa+k+(na-k)-1)>>=fun x=>JE true x (dq st) sb nb (nb-1)>>=fun t=>
    match t with
    |some m=>
     if(m==0)=true then pure true
     else if na-k<=m then(R0 ((dq st).extract (sa+k) sb) ((dq st).extract sb (sb+m))>>=fun r=>modify (fun z=>setArr z (wr (sa+k) (dq z) r.toList.zipIdx))>>=fun _=>get>>=fun z=>pure (qe z).isNone)
      else(Rv ((dq st).extract (sa+k) sb) ((dq st).extract sb (sb+m))>>=fun r=>modify (fun z=>setArr z (wr (sa+k) (dq z) r.toList.zipIdx))>>=fun _=>get>>=fun z=>pure (qe z).isNone)
    |none=>pure false
  |none=>pure false
theorem dU{Q:Bool->qU->Prop}{sa pw sb pb:Nat}(h1:(dA st)[i]? =some (sa,na,pw))(h2:(dA st)[i+1]? =some (sb,nb,pb))
 (h:wpS M A E s (S2 i sa na pw sb nb st) Q st):wpS M A E s (sj i) Q st:=by
 have e:sj i=(get>>=fun st:qU=>(match((dA st)[i]?,(dA st)[i+1]?) with
  |(some (sa,na,pw),some (sb,nb,_))=>S2 i sa na pw sb nb st
  |_=>liftM (qp "internal:list.sort.pending" :Sem Bool):SM Bool)):=by
  refine BG rfl fun st=>?_
  cases(dA st)[i]?with
  |none=>rfl
  |some x=>
   cases(dA st)[i+1]?with
   |none=>rfl
   |some y=>
    refine BG rfl fun _=>BG rfl fun _=>BG rfl fun t=>?_
    cases t with
    |none=>rfl
    |some k=>refine DM rfl (fun _=>rfl) fun _=>BG rfl fun _=>BG rfl fun t=>?_;cases t<;>rfl
 rw[e];refine Ak (Hw ?_);rw[h1,h2];exact h
noncomputable def seg(xs:Array cm)(lo hi:Nat):List cm:=(xs.toList.take hi).drop lo
theorem TQ{hi:Nat}(hh:hi<=xs.size):Up rk xs lo hi↔SL rk (seg xs lo hi):=by
 have hl:xs.toList.length=xs.size:=by simp
 have at_:∀i (h:i<(seg xs lo hi).length),rk (seg xs lo hi)[i]=kv rk xs (lo+i):=fun i h=>by have h':=h;unfold seg at h';rw[EC,Bl] at h';rw[M6 (by lia)];congr 1;refine Ag ?_;rw[<-Aq,<-Aq];unfold seg;rw[Kx,Qo,AH (by lia)]
 have len:(seg xs lo hi).length=hi-lo:=by unfold seg;rw[EC,Bl];lia
 constructor
 ·intro h;refine N3.mpr fun i j hi' hj' hij=>?_;rw[at_ i hi',at_ j hj'];exact h _ _ (by lia) (by lia) (by lia)
 ·intro h i j a b c;by_cases e:i=j
  ·subst e;exact Ab _
  ·have:=N3.mp h (i-lo) (j-lo) (by lia) (by lia) (by lia);rw[at_ _ (by lia),at_ _ (by lia)] at this
   rwa [show lo+(i-lo)=i by lia,show lo+(j-lo)=j by lia] at this
theorem O5(xs:Array cm){a b c:Nat}(h1:a<=b)(h2:b<=c)(h3:c<=xs.size):seg xs a c=seg xs a b++seg xs b c:=by
 have hl:xs.toList.length=xs.size:=by simp
 unfold seg;have e:xs.toList.take c=xs.toList.take b++(xs.toList.take c).drop b:=by
  have:=(Dr b (xs.toList.take c)).symm
  rwa [RG,K1 h2] at this
 conv=>lhs;rw[e]
 rw[Qa (by rw[Bl];lia)]
theorem Sd(xs:Array cm){a b:Nat}(h:b<=xs.size):(seg xs a b).length=b-a:=by
 have hl:xs.toList.length=xs.size:=by simp
 unfold seg;rw[EC,Bl]
 lia
theorem LX(xs:Array cm)(a b:Nat):(xs.extract a b).toList=seg xs a b:=by rw[Mu];unfold seg;rw[List.drop_take]
theorem Yq{a b:Nat}(hb:b<=xs.size)(hi:i<b-a):kv rk (xs.extract a b) i=kv rk xs (a+i):=by refine IB rk ?_;rw[Array.getElem?_extract,AH (by lia)]
structure Nz(rk:cm->Nat)(xs ys:Array cm)(lo hi:Nat):Prop where
 pm:ys.Perm xs
 up:Up rk ys lo hi
 out:∀k,k<lo\/hi<=k->ys[k]? =xs[k]?
theorem lG{ys:Array cm}{p q hi:Nat}{r:List cm}(h1:lo<=p)(h2:p<=q)(h3:q<=hi)(h4:hi<=xs.size)(hr:r.Perm (seg xs p q))(hs:SL rk (seg xs lo p++r++seg xs q hi))(e:ys.toList=xs.toList.take p++r++xs.toList.drop q):
 Nz rk xs ys lo hi:=by
 have hl:xs.toList.length=xs.size:=by simp
 have ep:xs.toList.take p=xs.toList.take lo++seg xs lo p:=by
  have:=(Dr lo (xs.toList.take p)).symm
  rwa [RG,K1 h1] at this
 have eq':xs.toList.drop q=seg xs q hi++xs.toList.drop hi:=by
  have e5:xs.toList=xs.toList.take hi++xs.toList.drop hi:=(Dr _ _).symm;have hl':q<=(xs.toList.take hi).length:=by rw[Bl];lia
  conv=>lhs;rw[e5]
  rw[Qa hl'];rfl
 have rl:r.length=q-p:=by rw[hr.length_eq,Sd xs (by lia)]
 have pm:ys.Perm xs:=by
  refine MF.mpr ?_;rw[e];have e6:xs.toList=xs.toList.take p++seg xs p q++xs.toList.drop q:=by
   have e7:xs.toList.drop p=seg xs p q++xs.toList.drop q:=by
    have e5:xs.toList=xs.toList.take q++xs.toList.drop q:=(Dr _ _).symm;have hl':p<=(xs.toList.take q).length:=by rw[Bl];lia
    conv=>lhs;rw[e5]
    rw[Qa hl'];rfl
   rw[Bb,<-e7,Dr]
  conv=>rhs;rw[e6]
  exact(hr.append_left _).append_right _
 have sz:ys.size=xs.size:=pm.size_eq;have el:ys.toList=xs.toList.take lo++(seg xs lo p++r++seg xs q hi)++xs.toList.drop hi:=by rw[e,ep,eq'];simp only[Bb]
 have ml:(seg xs lo p++r++seg xs q hi).length=hi-lo:=by
  rw[A7,A7,rl,Sd xs (by lia),Sd xs h4]
  lia
 have tl:(xs.toList.take lo).length=lo:=by rw[Bl];lia
 refine⟨pm,(TQ (by lia)).mpr ?_,fun k hk=>?_⟩
 ·have:seg ys lo hi=seg xs lo p++r++seg xs q hi:=by unfold seg;rw[el,Bb,List.take_append,Fi (by lia),List.drop_append,Kw (by lia),RB,tl,ER,OS];rw[List.take_append,Fi (by lia),ml,ER,K3,C5];rfl
  rw[this];exact hs
 ·rw[<-F7,<-F7,el];rcases hk with hk|hk
  ·rw[Bb,DC (by lia),Qo,AH hk]
  ·rw[Cv (by rw[A7];lia),A7,tl,ml,Kx];congr 1
   lia
theorem eF(hc:C1 prog w A s κ rk a0){sa pw pb:Nat}{Q:Bool->qU->Prop}(hk:kindOf st=κ)(hf:qe st=none)(hp:(dq st).Perm a0)
 (h1:(dA st)[i]? =some (sa,na,pw))(h2:(dA st)[i+1]? =some (sa+na,nb,pb))(na0:0<na)(nb0:0<nb)(hz:sa+na+nb<=(dq st).size)(ua:Up rk (dq st) sa (sa+na))(ub:Up rk (dq st) (sa+na) (sa+na+nb))
 (h:∀st':qU,kindOf st'=κ->qe st'=none->dA st'=((dA st).setIfInBounds i (sa,na+nb,pw)).eraseIdxIfInBounds (i+1)->Nz rk (dq st) (dq st') sa (sa+na+nb)->Q true st'):
 wpS (ax prog w) A E s (sj i) Q st:=by
 refine dU h1 h2 ?_;unfold S2;generalize eP:((dA st).setIfInBounds i (sa,na+nb,pw)).eraseIdxIfInBounds (i+1)=P';rw[eP] at h;have inx:∀x∈(dq st).toList,x∈a0.toList:=fun x hx=>(MF.mp hp).mem_iff.mp hx;generalize eX:dq st=xs at*;have hb:sa+na<xs.size:=by lia
 refine Ak (show wpS _ _ _ _ (set (qz st P'):SM PUnit) _ _ from ?_);unfold wpS;rw[StateT.run_set];refine Af ⟨rfl,?_⟩;show wpS _ _ _ _ _ _ (qz st P');have k1:kindOf (qz st P')=κ:=hk;refine Ak (DP hb (Ak (LO hc k1 (inx _ (getD_mem hb)) inx (by lia) na0 ua fun k a1 a2 a3=>?_)));dsimp only;have Ec:Nz rk xs xs sa (sa+na+nb)->Q true (qz st P'):=fun g=>h _ k1 hf rfl (by rw[show dq (qz st P')=xs from eX];exact g);have cat:(kv rk xs (sa+na-1)<=kv rk xs (sa+na))->Nz rk xs xs sa (sa+na+nb):=fun hle=>⟨Array.Perm.refl _,fun x y b1 b2 b3=>by
  by_cases c1:y<sa+na
  ·exact ua x y b1 b2 c1
  ·by_cases c2:sa+na<=x
   ·exact ub x y c2 b2 b3
   ·exact BF (ua x (sa+na-1) b1 (by lia) (by lia)) (BF hle (ub (sa+na) y (Ab _) (by lia) b3)),fun _ _=>rfl⟩;by_cases e1:na-k=0
 ·rw[AH (by simpa using e1)];refine Ap (Ec (cat ?_));have:=a2 (na-1) (by lia);rw[show sa+(na-1)=sa+na-1 by lia] at this;show kv rk xs (sa+na-1)<=rk (xs.getD (sa+na) dK);rcases this with z|⟨_,z⟩<;>lia
 ·rw[AF (by simpa using e1)];rw[show sa+k+(na-k)-1=sa+na-1 by lia];have hl:sa+na-1<xs.size:=by lia
  refine Ak (DP hl (Ak (LO hc k1 (inx _ (getD_mem hl)) inx hz (by lia) ub fun m b1 b2 b3=>?_)));dsimp only;by_cases e2:m=0
  ·rw[AH (by simpa using e2)];refine Ap (Ec (cat ?_));have:=b3 0 (by lia) nb0;rw[Nat.add_zero] at this;show rk (xs.getD (sa+na-1) dK)<=_;rcases this with z|⟨_,z⟩<;>lia
  ·rw[AF (by simpa using e2)];have sx:(xs.extract (sa+k) (sa+na)).size=na-k:=by rw[Array.size_extract];lia
   have sy:(xs.extract (sa+na) (sa+na+m)).size=m:=by rw[Array.size_extract];lia
   have kx:∀j,j<na-k->kv rk (xs.extract (sa+k) (sa+na)) j=kv rk xs (sa+k+j):=fun j hj=>Yq (by lia) (by lia);have ky:∀j,j<m->kv rk (xs.extract (sa+na) (sa+na+m)) j=kv rk xs (sa+na+j):=fun j hj=>Yq (by lia) (by lia);have T:F3 rk a0 (xs.extract (sa+k) (sa+na)) (xs.extract (sa+na) (sa+na+m)):=by
    refine⟨fun x hx=>inx x ?_,fun x hx=>inx x ?_,fun x y _ c2 c3=>?_,fun x y _ c2 c3=>?_,by lia,by lia,fun y hy=>?_,fun y hy=>?_⟩
    ·rw[LX] at hx;exact Hh (Jm hx)
    ·rw[LX] at hx;exact Hh (Jm hx)
    ·rw[kx x (by lia),kx y (by lia)];exact ua _ _ (by lia) (by lia) (by lia)
    ·rw[ky x (by lia),ky y (by lia)];exact ub _ _ (by lia) (by lia) (by lia)
    ·rw[LX] at hy;obtain⟨j,j1,j2,rfl⟩:=IX (by lia) hy;rw[ky 0 (by lia),Nat.add_zero];have:=a3 (j-sa) (by lia) (by lia);rw[show sa+(j-sa)=j by lia] at this;show rk (xs.getD (sa+na) dK)<=kv rk xs j;rcases this with z|⟨_,z⟩<;>lia
    ·rw[LX] at hy;obtain⟨j,j1,j2,rfl⟩:=IX (by lia) hy;rw[sx,kx (na-k-1) (by lia),show sa+k+(na-k-1)=sa+na-1 by lia];have:=b2 (j-(sa+na)) (by lia);rw[show sa+na+(j-(sa+na))=j by lia] at this;show kv rk xs j<=rk (xs.getD (sa+na-1) dK);rcases this with z|⟨_,z⟩<;>lia
   have fin:∀r st',Sm (qz st P') st'->Me rk (xs.extract (sa+k) (sa+na)) (xs.extract (sa+na) (sa+na+m)) r->Nz rk xs (wr (sa+k) (dq st') r.toList.zipIdx) sa (sa+na+nb):=fun r st' sm me=>by
    have ea:dq st'=xs:=sm.a.trans eX;have pr:=me.pm;rw[LX,LX,<-O5 xs (by lia) (by lia) (by lia)] at pr;have hL:xs.toList.length=xs.size:=by simp
    refine lG (r:=r.toList) (p:=sa+k) (q:=sa+na+m) (by lia) (by lia) (by lia) hz pr ?_ ?_
    ·have cross:∀x∈seg xs sa (sa+k),∀y∈seg xs (sa+na) (sa+na+nb),rk x<=rk y:=fun x hx y hy=>by
      obtain⟨i1,c1,c2,rfl⟩:=IX (by lia) hx;obtain⟨j1,d1,d2,rfl⟩:=IX hz hy;have f1:=a2 (i1-sa) (by lia);rw[show sa+(i1-sa)=i1 by lia] at f1;have f2:=ub (sa+na) j1 (Ab _) d1 d2;have f3:kv rk xs i1<=kv rk xs (sa+na):=by show kv rk xs i1<=rk (xs.getD (sa+na) dK);rcases f1 with z|⟨_,z⟩<;>lia
      exact BF f3 f2
     have cross2:∀x∈seg xs sa (sa+na),∀y∈seg xs (sa+na+m) (sa+na+nb),rk x<=rk y:=fun x hx y hy=>by
      obtain⟨i1,c1,c2,rfl⟩:=IX (by lia) hx;obtain⟨j1,d1,d2,rfl⟩:=IX hz hy;have f1:=b3 (j1-(sa+na)) (by lia) (by lia);rw[show sa+na+(j1-(sa+na))=j1 by lia] at f1;have f2:=ua i1 (sa+na-1) c1 (by lia) (by lia);have f3:kv rk xs (sa+na-1)<=kv rk xs j1:=by show rk (xs.getD (sa+na-1) dK)<=kv rk xs j1;rcases f1 with z|⟨_,z⟩<;>lia
      exact BF f2 f3
     have sA:=(TQ (rk:=rk) (lo:=sa) (hi:=sa+na) (by lia)).mp ua;have sB:=(TQ (rk:=rk) (lo:=sa+na) (hi:=sa+na+nb) hz).mp ub;have spA:seg xs sa (sa+na)=seg xs sa (sa+k)++seg xs (sa+k) (sa+na):=O5 xs (by lia) (by lia) (by lia);have spB:seg xs (sa+na) (sa+na+nb)=seg xs (sa+na) (sa+na+m)++seg xs (sa+na+m) (sa+na+nb):=O5 xs (by lia) (by lia) hz;have spM:seg xs (sa+k) (sa+na+m)=seg xs (sa+k) (sa+na)++seg xs (sa+na) (sa+na+m):=O5 xs (by lia) (by lia) (by lia);rw[spA] at sA;rw[spB] at sB;obtain⟨u1,u2,u3⟩:=SL.app.mp sA;obtain⟨v1,v2,v3⟩:=SL.app.mp sB;refine SL.app.mpr ⟨SL.app.mpr ⟨u1,me.sl,fun x hx y hy=>?_⟩,v2,fun x hx y hy=>?_⟩
     ·have hy':=pr.mem_iff.mp hy;rw[spM] at hy';rcases Bh.mp hy' with z|z
      ·exact u3 x hx y z
      ·exact cross x hx y (by rw[spB];exact Hi _ z)
     ·rcases Bh.mp hx with z|z
      ·exact cross x z y (by rw[spB];exact EB _ hy)
      ·have hx':=pr.mem_iff.mp z;rw[spM] at hx';rcases Bh.mp hx' with z|z
       ·exact cross2 x (by rw[spA];exact EB _ z) y hy
       ·exact v3 x z y hy
    ·rw[ea];refine Yh r.toList 0 (sa+k) xs (xs.toList.take (sa+k)) (seg xs (sa+k) (sa+na+m)) (xs.toList.drop (sa+na+m)) ?_ ?_ pr.length_eq.symm
     ·have e7:xs.toList.take (sa+na+m)=xs.toList.take (sa+k)++seg xs (sa+k) (sa+na+m):=by
       have:=(Dr (sa+k) (xs.toList.take (sa+na+m))).symm
       rwa [RG,K1 (by lia)] at this
      rw[<-e7,Dr]
     ·rw[Bl];lia
   by_cases e3:na-k<=m
   ·rw[AH e3];refine Ak (nh hc T k1 fun r st' sm me=>Ak (Jw (Ak (Hw (Ap ?_)))));have ff:qe st'=none:=sm.f.trans hf;show Q (qe st').isNone _;rw[ff];exact h _ (sm.k.trans k1) ff sm.p (fin r st' sm me)
   ·rw[AF e3];refine Ak (kS hc T k1 fun r st' sm me=>Ak (Jw (Ak (Hw (Ap ?_)))));have ff:qe st'=none:=sm.f.trans hf;show Q (qe st').isNone _;rw[ff];exact h _ (sm.k.trans k1) ff sm.p (fin r st' sm me)
section
variable(rk:cm->Nat)
def Chain(xs:Array cm):Nat->List (Nat×Nat×Nat)->Nat->Prop
 |b,[],e=>b=e
 |b,(s,n,_)::r,e=>s=b/\0<n/\Up rk xs s (s+n)/\Chain xs (s+n) r e
end
theorem Chain.le{xs:Array cm}:∀{b e:Nat}{p:List (Nat×Nat×Nat)},Chain rk xs b p e->b+p.length<=e
 |b,e,[],h=>by have h':b=e:=h;simp;lia
 |b,e,(s,n,_)::r,⟨h1,h2,_,h3⟩=>by
  have:=Chain.le h3;simp only[CP]
  lia
theorem Chain.app{xs:Array cm}{e:Nat}{q:List (Nat×Nat×Nat)}:∀{b:Nat}{p:List (Nat×Nat×Nat)},Chain rk xs b (p++q) e↔∃m,Chain rk xs b p m/\Chain rk xs m q e
 |b,[]=>⟨fun h=>⟨b,rfl,h⟩,fun⟨m,h1,h2⟩=>by have h1':b=m:=h1;subst h1';exact h2⟩
 |b,(s,n,_)::r=>⟨fun⟨h1,h2,h3,h4⟩=>by obtain⟨m,a,c⟩:=Chain.app.mp h4;exact⟨m,⟨h1,h2,h3,a⟩,c⟩,fun⟨m,⟨h1,h2,h3,a⟩,c⟩=>⟨h1,h2,h3,Chain.app.mpr ⟨m,a,c⟩⟩⟩
theorem Chain.same{xs ys:Array cm}:∀{b e:Nat}{p:List (Nat×Nat×Nat)},(∀k,b<=k->k<e->ys[k]? =xs[k]?)->Chain rk xs b p e->Chain rk ys b p e
 |b,e,[],_,h=>h
 |b,e,(s,n,_)::r,hk,⟨h1,h2,h3,h4⟩=>by have hl:=Chain.le h4;refine⟨h1,h2,fun i j a c d=>?_,Chain.same (fun k a c=>hk k (by lia) c) h4⟩;rw[IB rk (hk i (by lia) (by lia)),IB rk (hk j (by lia) (by lia))];exact h3 i j a c d
theorem Chain.pw{xs:Array cm}{f:Nat×Nat×Nat->Nat×Nat×Nat}(hf:∀x,(f x).1=x.1/\(f x).2.1=x.2.1):∀{b e:Nat}{p:List (Nat×Nat×Nat)}{i:Nat},Chain rk xs b p e->Chain rk xs b (p.modify i f) e
 |b,e,[],i,h=>by cases i<;>exact h
 |b,e,x::r,0,h=>by obtain⟨s,n,q⟩:=x;obtain⟨e1,e2⟩:=hf (s,n,q);show Chain rk xs b (f (s,n,q)::r) e;generalize f (s,n,q)=y at e1 e2;obtain⟨s',n',q'⟩:=y;dsimp only at e1 e2;subst e1;subst e2;exact h
 |b,e,(s,n,q)::r,i+1,⟨h1,h2,h3,h4⟩=>⟨h1,h2,h3,Chain.pw hf h4⟩
structure RS(κ:SortKind)(rk:cm->Nat)(a0:Array cm)(lo:Nat)(st:qU):Prop where
 kind:kindOf st=κ
 failed:qe st=none
 perm:(dq st).Perm a0
 chain:Chain rk (dq st) 0 (dA st).toList lo
theorem Zs(hc:C1 prog w A s κ rk a0){Q:Bool->qU->Prop}(R:RS κ rk a0 lo st)(hlo:lo<=a0.size)(hi:i+1<(dA st).size)
 (h:∀st',RS κ rk a0 lo st'->(dA st').size+1=(dA st).size->(∀k,lo<=k->(dq st')[k]? =(dq st)[k]?)->Q true st'):wpS (ax prog w) A E s (sj i) Q st:=by
 have hL:(dA st).toList.length=(dA st).size:=by simp
 have hsz:(dq st).size=a0.size:=R.perm.size_eq;have e1:(dA st).toList=(dA st).toList.take i++((dA st).toList[i]'(by lia)::(dA st).toList[i+1]'(by lia)::(dA st).toList.drop (i+2)):=by rw[<-Kv,<-Kv,Dr]
 generalize ex:(dA st).toList[i]'(by lia)=x at e1;generalize ey:(dA st).toList[i+1]'(by lia)=y at e1;generalize ep:(dA st).toList.take i=p at e1;generalize eq':(dA st).toList.drop (i+2)=q at e1;obtain⟨sa,na,pw⟩:=x;obtain⟨sb,nb,pb⟩:=y;have ch:=R.chain;rw[e1] at ch;obtain⟨m,c1,c2,c3,c4,c5,c6,c7,c8⟩:=Chain.app.mp ch;subst c2;subst c5;have l1:=c1.le;have l2:=c8.le;have g1:(dA st)[i]? =some (sa,na,pw):=by rw[<-F7,Aq (by lia),ex]
 have g2:(dA st)[i+1]? =some (sa+na,nb,pb):=by rw[<-F7,Aq (by lia),ey]
 refine eF hc R.kind R.failed R.perm g1 g2 c3 c6 (by lia) c4 c7 fun st' k1 k2 k3 k4=>?_;have pl:p.length=i:=by rw[<-ep,Bl];lia
 have e2:(dA st').toList=p++((sa,na+nb,pw)::q):=by
  rw[k3,Array.toList_eraseIdxIfInBounds,Array.toList_setIfInBounds,e1,<-pl];simp[List.eraseIdx_append];intro z
  lia
 refine h st' ⟨k1,k2,k4.pm.trans R.perm,?_⟩ ?_ fun k hk=>k4.out k (.inr (by lia))
 ·rw[e2];refine Chain.app.mpr ⟨sa,c1.same fun k _ b=>k4.out k (.inl b),rfl,by lia,?_,?_⟩
  ·rw[show sa+(na+nb)=sa+na+nb by lia];exact k4.up
  ·rw[show sa+(na+nb)=sa+na+nb by lia];exact c8.same fun k a _=>k4.out k (.inr a)
 ·have h1:=BD List.length e1;have h2:=BD List.length e2;simp only[A7,CP,Em] at h1 h2
  lia
theorem km(hc:C1 prog w A s κ rk a0){Q:Unit->qU->Prop}(hk:kindOf st=κ)(hf:qe st=none)(ha:dq st=a0)(hp:dA st= #[])(h2:2<=a0.size)
 (h:∀st':qU,(dq st').Perm a0->qe st'=none->Up rk (dq st') 0 a0.size->Q () st'):wpS (ax prog w) A E s sortRuns' Q st:=by
 rw[sortRuns'_eq];refine Ak (Hw ?_);dsimp only;rw[ha];generalize minRun' a0.size a0.size 0=mr;refine Ak (rm (FA
  (I:=fun x c st'=>∃lo,c=(none,lo)/\x<=lo/\lo<=a0.size/\RS κ rk a0 lo st')
  (Q:=fun c st'=>c=(none,a0.size)/\RS κ rk a0 a0.size st') ?step ?fin ⟨0,rfl,Ab _,CH _,hk,hf,by rw[ha],by rw[hp];rfl⟩) ?post);case fin=>
  rintro c st' ⟨lo,rfl,x1,x2,R⟩;have:lo=a0.size:=by lia
  subst this;exact⟨rfl,R⟩
 case step=>
  rintro x c st' _ hx ⟨lo,rfl,x1,x2,R⟩;dsimp only;by_cases hl:lo>=a0.size
  ·rw[AH hl];have:lo=a0.size:=by lia
   subst this;exact Ap ⟨rfl,R⟩
  ·rw[AF hl];have hsz:(dq st').size=a0.size:=R.perm.size_eq;have hc':C1 prog w A s κ rk (dq st'):=fun x y hx hy C hC=>hc x y ((MF.mp R.perm).mem_iff.mp hx) ((MF.mp R.perm).mem_iff.mp hy) C hC;have B0:Ok κ (dq st') lo (dA st') st':=⟨Array.Perm.refl _,fun _ _=>rfl,R.kind,R.failed,rfl⟩;have rest:∀n st2,Ok κ (dq st') lo (dA st') st2->1<=n->lo+n<=a0.size->Up rk (dq st2) lo (lo+n)->RS κ rk a0 lo st2:=fun n st2 B n1 n2 u=>
    ⟨B.kind,B.failed,B.perm.trans R.perm,by rw[B.pend];exact R.chain.same fun k _ b=>B.fix k b⟩;have tail:∀n (st2:qU),RS κ rk a0 lo st2->1<=n->lo+n<=a0.size->Up rk (dq st2) lo (lo+n)->RS κ rk a0 (lo+n) (qz st2 ((dA st2).push (lo,n,0))):=fun n st2 R2 n1 n2 u=>
    ⟨R2.kind,R2.failed,R2.perm,by show Chain rk (dq st2) 0 ((dA st2).push (lo,n,0)).toList (lo+n);rw[MS];exact Chain.app.mpr ⟨lo,R2.chain,rfl,by lia,u,rfl⟩⟩;refine Ak (jg (P:=dA st') hc' (by lia) (by lia) B0 fun m st2 B2 m1 m2 u2=>?_);dsimp only;rcases Decidable.em (m<mr) with hm|hm;rw[AH hm];refine Ak (LQ (Ho ⟨rfl,?_⟩));refine Ak (gw (P:=dA st') hc' (by lia) m1 (by lia) B2 u2 fun st3 B3 u3=>?_);simp only[RN,DL,Bs];have n2:lo+min (a0.size-lo) mr<=a0.size:=by lia
   have n1:1<=min (a0.size-lo) mr:=by lia
   generalize min (a0.size-lo) mr=n at n1 n2 u3⊢
   rotate_left
   rw[AF hm];have n2:lo+m<=a0.size:=by lia
   have n1:=m1;have B3:=B2;have u3:=u2;generalize st2=st3 at B3 u3⊢;generalize m=n at n1 n2 u3⊢;all_goals
    refine Ak (Hw ?_);have R3:=rest n st3 B3 n1 n2 u3
    cases eb:(dA st3).back? with
    |none=>exact Ak (Jw (Ap ⟨_,rfl,by lia,n2,tail n st3 R3 n1 n2 u3⟩))
    |some t=>
     obtain⟨s1,m1',pw1⟩:=t;dsimp only;generalize power' _ _ _ _=pw;refine Ak (rm (FA (I:=fun _ c st4=>c=(none,())/\RS κ rk a0 lo st4/\Up rk (dq st4) lo (lo+n)) (Q:=fun c st4=>c=(none,())/\RS κ rk a0 lo st4/\Up rk (dq st4) lo (lo+n)) ?_ (fun _ _ hh=>hh) ⟨rfl,R3,u3⟩) ?_)
     ·rintro y c st4 _ _ ⟨rfl,R4,u4⟩;refine Ak (Hw ?_);by_cases e:(dA st4).size>1
      ·rw[AH e];have hidx:(dA st4)[(dA st4).size-2]? =some ((dA st4)[(dA st4).size-2]'(by lia)):=GC ..;rw[hidx];generalize(dA st4)[(dA st4).size-2]'(by lia)=o;obtain⟨o1,o2,o3⟩:=o;dsimp only;by_cases eo:o3<=pw
       ·rw[AH eo];exact Ap ⟨rfl,R4,u4⟩
       ·rw[AF eo];refine Ak (Zs hc R4 x2 (by lia) fun st5 R5 s5 k5=>?_);exact Ap ⟨rfl,R5,fun i j a b c=>by rw[IB rk (k5 i a),IB rk (k5 j (by lia))];exact u4 i j a b c⟩
      ·rw[AF e];exact Ap ⟨rfl,R4,u4⟩
     ·rintro c st4 ⟨rfl,R4,u4⟩;refine Ak (Jw (Ak (Jw (Ap ⟨_,rfl,by lia,n2,tail n _ ⟨R4.kind,R4.failed,R4.perm,?_⟩ n1 n2 u4⟩))));show Chain rk (dq st4) 0 ((dA st4).modify _ _).toList lo;rw[Array.toList_modify];exact Chain.pw (f:=fun x=>(x.1,x.2.1,pw)) (fun _=>⟨rfl,rfl⟩) R4.chain
 case post=>
  rintro c st' ⟨rfl,R⟩;dsimp only;have fin:∀st2:qU,RS κ rk a0 a0.size st2->(dA st2).size<=1->Q () st2:=fun st2 R2 hs=>by
   refine h st2 R2.perm R2.failed ?_;have ch:=R2.chain;have hL:(dA st2).toList.length=(dA st2).size:=by simp
   generalize(dA st2).toList=p at ch hL
   match p,ch with
   |[],ch=>have z:0=a0.size:=ch;lia
   |[(a,n,_)],ch=>obtain⟨z1,z2,z3,z4⟩:=ch;have z5:a+n=a0.size:=z4;subst z1;rw[<-z5];exact z3
   |_::_::_,ch=>simp at hL;lia
  refine Ak (rm (FA (I:=fun x c st2=>c=(none,())/\RS κ rk a0 a0.size st2/\(dA st2).size<=max 1 (a0.size-x)) (Q:=fun c st2=>c=(none,())/\RS κ rk a0 a0.size st2/\(dA st2).size<=1) ?_ ?_ ⟨rfl,R,?_⟩) ?_)
  ·rintro x c st2 _ hx ⟨rfl,R2,hs⟩;refine Ak (Hw ?_);by_cases e:(dA st2).size<=1
   ·rw[AH e];exact Ap ⟨rfl,R2,e⟩
   ·rw[AF e];have go:∀i,i+1<(dA st2).size->wpS (ax prog w) A E s (sj i) (fun b st3=>b=true/\RS κ rk a0 a0.size st3/\(dA st3).size<=max 1 (a0.size-(x+1))) st2:=fun i hi=>Zs hc R2 (Ab _) hi fun st3 R3 s3 _=>⟨rfl,R3,by lia⟩;refine Ak (rm (go _ ?_) fun b st3 hb=>?_)
    ·repeat' split
     all_goals lia
    ·obtain⟨rfl,R3,s3⟩:=hb;exact Ap ⟨rfl,R3,s3⟩
  ·rintro c st2 ⟨rfl,R2,hs⟩;exact⟨rfl,R2,by lia⟩
  ·have:=R.chain.le;simp only[Em] at this
   lia
  ·rintro c st2 ⟨rfl,R2,hs⟩;exact Ap (fin st2 R2 hs)
end
section
open PySem.Calls PySem.W
noncomputable def DR(w:qa):Bool:=w.params.followText "set-order"
noncomputable def tx:AB->Str
 |.str z _=>z
 |_=>""
def Ed(prog:qV)(w:qa)(h:qY)(a:Ya)(zs:List Str):Prop:=
 ∃o es ep t,h.get? a=some o/\o.ExactSet/\o.data=.set es ep t/\ElemsOf (strKind prog w) es.toList/\(es.toList.map fun e=>tx e.2).Perm zs/\zs.Nodup/\zs.length<qt/\t.fits es.size=true/\t.led= !DR w/\(es.size=0\/t.plain=false)
theorem Tu{v:AB}(h:(strKind prog w).is z v=true):∃t,v=.str z t:=Value.isStrOf_shape h
theorem Se(prog:qV)(w:qa)(z:Str)(t:Tok):(strKind prog w).is z (.str z t)=true:=strKind_is _ _ _ _
theorem df(t:SetTable)(es:Array (Int×AB))(h:Int)(x:AB):(layNew t es h x).2.1.led=t.led:=by
 unfold layNew;split
 ·dsimp only;unfold SetTable.orStandIn;split<;>rfl
 ·rfl
end
variable{t:SetTable}
section
open PySem.Calls PySem.W
theorem iX{m f v:Nat}{l p:Bool}{hs:Array Int}{o:Array Nat}(h:SetTable.laid m f v l p hs=some (t,o)):t.led=l/\t.plain=p:=by
 unfold SetTable.laid at h
 cases e:SetTable.layClean m hs with
 |none=>rw[e] at h;cases h
 |some ow=>rw[e] at h;cases Ag h;exact⟨rfl,rfl⟩
theorem fB(t:SetTable)(es:Array (Int×AB))(n:Nat):(relayAll t es n).2.1.led=t.led/\(t.plain=false->(relayAll t es n).2.1.plain=false):=by
 unfold relayAll;split
 ·rename_i t' order e;have:=iX e;dsimp only;split
  ·exact⟨this.1,fun hp=>by rw[this.2,hp]⟩
  ·exact⟨rfl,fun _=>rfl⟩
 ·exact⟨rfl,fun _=>rfl⟩
theorem ZJ{es:List (Int×AB)}(hel:ElemsOf (strKind prog w) es)(z:Str):(∃e∈es,(strKind prog w).is z e.2=true)↔z∈es.map fun e=>tx e.2:=by
 constructor
 ·rintro⟨e,he,h⟩;obtain⟨t,ht⟩:=Tu h;exact BI.mpr ⟨e,he,by rw[ht];rfl⟩
 ·intro h;obtain⟨e,he,rfl⟩:=BI.mp h;obtain⟨⟨k,hk,_⟩,_⟩:=hel e he;obtain⟨t,ht⟩:=Tu hk;refine⟨e,he,?_⟩;rw[ht];exact Se prog w k t
end
variable{es:Array (Int×AB)}
section
open PySem.Calls PySem.W
theorem Wl(ho:h.get? a=some o)(hd:o.data=.set es ep t)(es':Array (Int×AB))(t':SetTable):
 (h.update a (Obj.putSet es' t')).get? a=some {o with data:=.set es' (ep+1) t'}:=by
 have:=Ir (Obj.putSet es' t') ho (by rw[putSet_of es' t' hd];rfl);rw[putSet_of es' t' hd] at this;exact this
theorem XH{g:Bool->Sem Unit}(hg:∀(b:Bool)(s₁:Yf)(Q':Unit->Yf->Prop),Q' () s₁->bt (ax prog w) A (g b) Q' E s₁)
 (ho:s.heap.get? a=some o)(hex:o.ExactSet)(hd:o.data=.set es ep t)
 {es1:Array (Int×AB)}{t2:SetTable}(hel:ElemsOf (strKind prog w) es1.toList)(hm:(es1.toList.map fun e=>tx e.2).Perm zs)(hnd:zs.Nodup)(hb:zs.length<qt)(hf:t2.fits es1.size=true)(hl:t2.led= !DR w)(hp:t2.plain=false){dm:Bool}{R:Option Bool->Yf->Prop}
 (h:∀h',Heap.SameBut a s.heap h'->Ed prog w h' a zs->R (some true) {s with heap:=h'}):
 bt (ax prog w) A (do
  storeSet a es1 t2
  if(!dm&&t2.tooFull)=true then do
     g (relayAll t2 es1 (SetTable.grown es1.size)).2.2
     storeSet a (relayAll t2 es1 (SetTable.grown es1.size)).1 (relayAll t2 es1 (SetTable.grown es1.size)).2.1
     pure (some true)
   else pure (some true)) R E s:=by
 have hsz:es1.size=zs.length:=by rw[<-hm.length_eq,AL,Em]
 refine AK (wpAny_storeSet_of ho hd ?_ (fits_of_scanBound (by lia)));have ho1:=Wl ho hd es1 t2;have hsb1:=VP s.heap a (Obj.putSet es1 t2);split
 ·have rp:=relayAll_perm t2 es1 (SetTable.grown es1.size);have rf:=relayAll_fits t2 es1 (SetTable.grown es1.size);have rl:=fB t2 es1 (SetTable.grown es1.size);generalize relayAll t2 es1 (SetTable.grown es1.size)=Rl at rp rf rl⊢;obtain⟨es2,t3,gv⟩:=Rl;dsimp only at rp rf rl⊢;have hz2:es2.size=es1.size:=by rw[<-Em,rp.length_eq,Em]
  refine AK (hg _ _ _ (AK (wpAny_storeSet_of ho1 rfl ?_ (fits_of_scanBound (by lia)))));have ho2:=Wl ho1 rfl es2 t3;refine Af (h _ (hsb1.trans (VP _ a _)) ⟨_,es2,_,t3,ho2,hex,rfl,hel.perm rp,(rp.map _).trans hm,hnd,hb,rf,rl.1.trans hl,.inr (rl.2 hp)⟩)
 ·exact Af (h _ hsb1 ⟨_,es1,_,t2,ho1,hex,rfl,hel,hm,hnd,hb,hf,hl,.inr hp⟩)
noncomputable def E7(zs:List Str)(z:Str):List Str:=if z∈zs then zs else zs++[z]
theorem oV{tk:Tok}{Q:Bool->Yf->Prop}(hS:Ed prog w s.heap a zs)(hroom:zs.length+1<qt)
 (h:∀b h',Heap.SameBut a s.heap h'->Ed prog w h' a (E7 zs z)->Q b {s with heap:=h'}):bt (ax prog w) A (setAddHashed a (.str z tk) ((strKind prog w).hash z)) Q E s:=by
 obtain⟨o,es,ep,t,ho,hex,hd,hel,hm,hnd,hb,hf,hl,hp⟩:=hS;have hsz:es.size=zs.length:=by rw[<-hm.length_eq,AL,Em]
 have hkey:=Se prog w z tk;unfold setAddHashed setAddHashedIn;refine GB (AK (MR ho hd hf ?_));dsimp only;rw[byScan_of (knd:=strKind prog w) rfl (by lia) hel];simp only[↓reduceIte];unfold setAddByScan;refine AK (AK (Ho (AK (wpAny_setScan_of hkey ho hd hf hel ?_))))
 cases hr:List.findIdx? (fun e=>(strKind prog w).is z e.2) es.toList with
 |some j=>
  dsimp only;obtain⟨hj,hpj,_⟩:=List.findIdx?_eq_some_iff_getElem.mp hr;have hz:z∈zs:=hm.mem_iff.mp ((ZJ hel z).mp ⟨_,Fj hj,hpj⟩);have e:s={s with heap:=s.heap}:=by cases s;rfl
  refine Af (Af ?_);rw[e];refine h _ s.heap (Heap.SameBut.refl a s.heap) ?_;unfold E7;rw[AH hz];exact⟨o,es,ep,t,ho,hex,hd,hel,hm,hnd,hb,hf,hl,hp⟩
 |none=>
  dsimp only;have hz:z∉zs:=fun hz=>by obtain⟨e,he,hpe⟩:=(ZJ hel z).mpr (hm.mem_iff.mpr hz);have:=List.findIdx?_eq_none_iff.mp hr e he;rw[hpe] at this;cases this
  have hgw:∀(b:Bool){s₁:Yf}{Q':Unit->Yf->Prop},Q' () s₁->bt (ax prog w) A (match b with|true=>rule "set.scan.the-table-gave-way" |false=>pure ()) Q' E s₁:=
   fun b s₁ Q' hq=>by cases b<;>first|exact Af hq|exact Ho hq
  have lp:=layNew_perm t es ((strKind prog w).hash z) (.str z tk);have lf:=layNew_fits t es ((strKind prog w).hash z) (.str z tk);have ll:=df t es ((strKind prog w).hash z) (.str z tk);generalize layNew t es ((strKind prog w).hash z) (.str z tk)=L at lp lf ll⊢;obtain⟨es1,t1,dm,gv⟩:=L;dsimp only at lp lf ll⊢;rw[MS] at lp;have hel1:ElemsOf (strKind prog w) es1.toList:=(hel.push hkey rfl).perm lp;have hm1:(es1.toList.map fun e=>tx e.2).Perm (E7 zs z):=by unfold E7;rw[AF hz];refine(lp.map _).trans ?_;rw[BS];exact hm.append_right _
  have hnd1:(E7 zs z).Nodup:=by unfold E7;rw[AF hz];refine OJ.mpr ⟨hnd,by simp,fun x hx y hy=>?_⟩;rw[Bg] at hy;intro e;rw[<-hy,<-e] at hz;exact hz hx
  have hb1:(E7 zs z).length<qt:=by unfold E7;rw[AF hz,A7];exact hroom
  refine AK (hgw _ ?_);split
  ·refine AK ?_;rw[hashByValue_scannable 8 rfl];refine Af ?_;refine XH (zs:=E7 zs z) ?_ ho hex hd hel1 hm1 hnd1 hb1 (SetTable.fits_plain_off lf) (ll.trans hl) rfl ?_
   ·intro b s₁ Q' hq;cases b<;>first|exact Af hq|exact Ho hq
   ·intro h' hsb hS';dsimp only;exact Af (h _ h' hsb hS')
  ·rename_i np;refine AK (Af ?_);simp only[↓reduceIte];refine XH (zs:=E7 zs z) ?_ ho hex hd hel1 hm1 hnd1 hb1 lf (ll.trans hl) (by simpa using np) ?_
   ·intro b s₁ Q' hq;cases b<;>first|exact Af hq|exact Ho hq
   ·intro h' hsb hS';dsimp only;exact Af (h _ h' hsb hS')
def FU:List Str->List Str->List Str
 |σ,[]=>σ
 |σ,z::r=>FU (E7 σ z) r
theorem Xi(σ:List Str)(z:Str):(E7 σ z).length<=σ.length+1:=by
 unfold E7;split
 ·lia
 ·simp
theorem Ed.at(x:Ed prog w h a zs)(e:∀o,h.get? a=some o->h'.get? a=some o):Ed prog w h' a zs:=by obtain⟨o,es,ep,t,ho,r⟩:=x;exact⟨o,es,ep,t,e _ ho,r⟩
end
variable{I:Ya}
section
open PySem.Calls PySem.W
theorem il{wr:List Ya}{G:Array rR->Array rR->Prop}{n:Nat}{P:Nat->AB->Prop}{St:Nat->Yf->Prop}
 (W:WalksS prog w A.in1 I fp wr G n P St)(S:Ya)(hSf:S∉fp)(ys:List Str)(hy:ys.length=n)(hval:∀i v z,P i v->ys[i]? =some z->∃t,v=.str z t):
 ∀(k i:Nat)(s:Yf)(σ:List Str),n-i=k->i<=n->St i s->σ.length+(n-i)+1<qt->Ed prog w s.heap S σ->
  (∀s',Moved (S::wr) G s s'->Ed prog w s'.heap S (FU σ (ys.drop i))->R (.ok (.ret .none)) s')->
  qw (ax prog w) A (.builtin "set.update.loop" ⟨[.ref S,.ref I],[]⟩) R s:=by
 have hSw:S∉wr:=fun h=>hSf (W.sub _ h);have hsub:∀b∈wr,b∈S::wr:=fun b hb=>DE _ hb;intro k
 induction k with
 |zero=>
  intro i s σ hk hi hst hb hS hR;have hin:i=n:=by lia
  subst hin;refine IQ F.entry_set_update_loop ?_;rw[MK U6 _];show bt _ A.in1 (qv (.ref I)>>=_) _ _ s;refine AK (W.done s _ _ hst fun s' hm=>?_);show bt _ A.in1 (ret Value.none) _ _ s';rw[Kw (by lia)] at hR;exact Af (hR s' (hm.mono hsub) (hS.at fun o e=>hm.heap S o hSw e))
 |succ k ih=>
  intro i s σ hk hi hst hb hS hR;have hlt:i<n:=by lia
  refine IQ F.entry_set_update_loop ?_;rw[MK U6 _];show bt _ A.in1 (qv (.ref I)>>=_) _ _ s;refine AK (W.item i s _ _ hlt hst fun v s' hP hst' hm=>?_);obtain⟨t,rfl⟩:=hval i v (ys[i]'(by lia)) hP (Aq _);have hd:ys.drop i=ys[i]'(by lia)::ys.drop (i+1):=Kv (by lia);rw[hd] at hR;generalize ys[i]'(by lia)=z at hR⊢;have hS':Ed prog w s'.heap S σ:=hS.at fun o e=>hm.heap S o hSw e;show bt _ A.in1 (rS [Value.str z t] (setAdd S (.str z t))>>=_) _ _ s';refine AK (GB ?_);unfold setAdd;refine GB (AK ((strKind prog w).pyHash (k:=z) (Se prog w z t) ?_));refine oV (s:={s' with toks:=s'.toks+1}) hS' (by lia) fun b h' hsb hS2=>?_;refine Af ⟨OV U6 _,ih (i+1) _ (E7 σ z) (by lia) hlt (W.frame _ s' _ _ hst' (Eo _) fun b hb o e=>?_) (by have:=Xi σ z;lia) hS2 fun s'' hm'' hS''=>?_⟩
  ·rw[hsb.2 b (fun h:b=S=>hSf (by rw[<-h];exact hb))];exact e
  ·refine hR s'' (Moved.trans W.gtrans ((hm.mono hsub).then_heap (Eo _) fun b o hb e=>?_) hm'') hS'';rw[hsb.2 b (fun h:b=S=>hb (by rw[h];exact Di))];exact e
theorem sub_tuple_set:isSubtype (.type "tuple") (.type "set")=pure false:=by rw[sk];kernel_rfl
theorem sub_tuple_frozenset:isSubtype (.type "tuple") (.type "frozenset")=pure false:=by rw[sk];kernel_rfl
theorem eQ(a:AB){Q₁:AB->Yf->Prop}
 (h:Q₁ (.ref s.heap.objs.size) {s with heap:=s.heap.push {cls:=.type "set",dict:=none,data:=.set #[] 0 (.fresh 0 0 (!DR w))}}):
 qw (ax prog w) A (.call (.builtin "set.__new__") ⟨[.type "set",a],[]⟩) (wants Q₁ E) s:=by
 refine sY ?_;show bt _ A.in1 (do checkBuiltinCall "set.__new__" ⟨[.type "set",a],[]⟩;again (.builtin "set.__new__" ⟨[.type "set",a],[]⟩)) _ _ s;refine AK (wpAny_of_eq (PySem.F.newCall_set_1 a) (Af ⟨OV tW _,IQ PySem.F.entry_set_new ?_⟩));rw[MK tW _];unfold Builtin.«set.__new__» Builtin.Frozenset.newClass;have hsub:=sub_set_self;obtain⟨hp,g,d,tk,os⟩:=s;dsimp only
 wp_walk
 refine sO (Af ?_);dsimp only;simp only[newObj];refine AK (wpAny_alloc (Af ?_));exact Af h
set_option maxRecDepth 100000 in
theorem cL{l:Ya}{items:Array AB}{ys:List Str}(hh:A.handled=none)(hl:s.heap.IsTuple l items)(hy:ys.length=items.size)(hi:∀(i:Nat)(v:AB) z,items[i]? =some v->ys[i]? =some z->∃t,v=.str z t)(hb:items.size+1<qt)
 (h:∀(h':qY)(tk:Nat),Ed prog w h' s.heap.objs.size (FU [] ys)->(∀b o,s.heap.get? b=some o->h'.get? b=some o)->Q (.ref s.heap.objs.size) {s with heap:=h',toks:=tk}):
 bt (ax prog w) A (call (.type "set") [.ref l]) Q E s:=by
 obtain⟨c,tl,hmro⟩:=Jn.mro;have hmade:=Jn.made;have hsub:=Jn.sub;refine Mc (sY ?_);show bt _ _ (callAny (.type "set") _) _ _ _;refine Af ⟨OF _ (by ac_rfl),IQ PySem.F.entry_type_call ?_⟩;rw[Around.under_plain (weight_type_call_type "set" [.ref l] []) rfl];have h1:=Jn.notType;have h2:=Jn.canCreate;have hct:=PySem.F.typeCall_set_1 (.ref l);repeat (any_goals (first|assumption|wp_step))
 generalize eO:({cls:=.type "set",dict:=none,data:=.set #[] 0 (.fresh 0 0 (!DR w))}:Obj)=o0;refine K9 (eQ (.ref l) (E:=E) (Q₁:=fun obj s₁=>obj=.ref s.heap.objs.size/\s₁={s with heap:=s.heap.push o0}) ⟨rfl,by rw[eO]⟩) fun r s₁ hr=>?_
 cases r with
 |error e=>exact hr
 |ok fl=>
  cases fl with
  |ret obj=>
   obtain⟨rfl,rfl⟩:=hr;have hcls:o0.cls=.type "set" :=by rw[<-eO]
   have hS:(s.heap.push o0).get? s.heap.objs.size=some o0:=Bz _ (by rw[<-eO];rfl);have hT:Shared.TypeIs {s with heap:=s.heap.push o0} (.ref s.heap.objs.size) "set" :=⟨_,hS,hcls⟩;have hli:=Jn.init.lookup;have hbi:=Jn.init.bind (.ref s.heap.objs.size);repeat (any_goals (first|assumption|wp_step))
   refine K9 (VG (R:=wants (fun r s₂=>r=.none/\∃h' tk,s₂={s with heap:=h',toks:=tk}/\Ed prog w h' s.heap.objs.size (FU [] ys)/\(∀b o,s.heap.get? b=some o->h'.get? b=some o)) E) Jn.init.plain PySem.F.entry_set_init (check_set_init_1 hT ?_)) fun r₂ s₂ hr₂=>?_
   ·subst eO;obtain⟨ol,hol,hcl,nl,hdl⟩:=hl;obtain⟨ocls,odict,odata,oslots⟩:=ol;simp only at hcl hdl;subst hcl;subst hdl;have hol':=BB {cls:=.type "set",dict:=none,data:=.set #[] 0 (.fresh 0 0 (!DR w))} hol;have hsls:=sub_tuple_set;have hslf:=sub_tuple_frozenset;have hne:(Value.type "tuple" ==Value.type "dict")=false:=by decide
    have hl1:(s.heap.push {cls:=.type "set",dict:=none,data:=.set #[] 0 (.fresh 0 0 (!DR w))}).IsTuple l items:=⟨_,hol',rfl,nl,rfl⟩;unfold Builtin.«set.__init__» noKeywords Builtin.Frozenset.updateFrom;generalize hPI:pyIter=PI
    wp_walk
    subst hPI;refine wpAny_pyIter_tuple hl1 ?_;refine AK (wpAny_runValue ?_);have hlS:l<s.heap.objs.size:=Ay hol;have hh3:A.in1.in1.in1.handled=none:=by simp[hh]
    have hneI:l≠(s.heap.push {cls:=.type "set",dict:=none,data:=.set #[] 0 (.fresh 0 0 (!DR w))}).objs.size:=by rw[Gr];exact BM (OH hlS)
    have hSf:s.heap.objs.size∉[(s.heap.push {cls:=.type "set",dict:=none,data:=.set #[] 0 (.fresh 0 0 (!DR w))}).objs.size,l]:=by rw[Gr];simp only[Ba,Bg,Iy,J7,not_or];exact⟨BM (MU _),En hlS⟩
    refine il ((Walks.tuple hh3 _ l hneI items).toS) s.heap.objs.size hSf ys hy hi (items.size-0) 0 _ [] (by lia) (CH _) ⟨⟨_,Bz _ rfl,rfl,rfl⟩,(hl1.push _)⟩ (by simpa using hb) ?hS0 ?hR;case hS0=>exact⟨_,#[],0,_,BB _ hS,⟨rfl,rfl,rfl⟩,rfl,fun e he=>by simp at he,OT _,MW,by unfold qt;simp,rfl,rfl,.inl rfl⟩
    case hR=>
     intro s' hm hS';obtain⟨h',g',d',tk',os'⟩:=s';have eg:g'=s.gens:=hm.gens;have ed:d'=s.drawn:=hm.drawn;have eo:os'=s.os:=hm.os;subst eg;subst ed;subst eo;refine Af ?_;refine Af ⟨rfl,h',tk',rfl,hS',fun b o e=>?_⟩;have hb:=Ay e;have hb1:b≠s.heap.objs.size:=BM hb;have hb2:b≠(s.heap.push {cls:=.type "set",dict:=none,data:=.set #[] 0 (.fresh 0 0 (!DR w))}).objs.size:=by rw[Gr];exact BM (OH hb)
     exact hm.heap b o (by simp only[Ba,Bg,Iy,J7,not_or];exact⟨hb1,hb2⟩) (BB _ (BB _ e))
   ·cases r₂ with
    |error e=>exact hr₂
    |ok fl₂=>
     cases fl₂ with
     |ret r=>
      obtain⟨rfl,h',tk,rfl,hS',hk'⟩:=hr₂;repeat (any_goals (first|assumption|wp_step))
      exact h _ _ hS' hk'
     |_=>exact hr₂.elim
  |_=>exact hr.elim
theorem OY:Slot "set_iterator" "__next__" "set_iterator.__next__" :=
 .of (owner:="set_iterator") (n:="__next__") (by rw[typeLookup_type,builtinLookup_eq_fast];kernel_rfl) (by ac_rfl) (by ac_rfl)
  (by ac_rfl) (by first|exact .inl (by ac_rfl)|exact .inr (by ac_rfl)) (by rw[sk];kernel_rfl)
theorem cJ:entryFor table "set_iterator.__next__" =some Builtin.«set_iterator.__next__»:=entryFor_of_tree (by kernel_rfl)
theorem gh:Manifest.owners.lookup (String.ofList ['r','o','t','a','r','e','t','i','_','t','e','s'].reverse)=some Manifest.sig_set_iterator:=by kernel_rfl
theorem cQ(a:AB):argsOk "set_iterator.__next__" ⟨[a],[]⟩:=by
 unfold argsOk;rw[signature?_of (id:="set_iterator.__next__") (n:=['_','_','t','x','e','n','_','_']) (o:=['r','o','t','a','r','e','t','i','_','t','e','s']) (by kernel_rfl) gh]
 kernel_rfl
theorem cG:entryFor table "set.__iter__" =some Builtin.«frozenset.__iter__»:=entryFor_alias (id':="frozenset.__iter__") (by kernel_rfl) rfl (by ac_rfl) (by kernel_rfl)
section
theorem PJ{Q:Bool->Yf->Prop}(h:Q (DR w) s):bt (ax prog w) A setsByText Q E s:=AK (sO (Af h))
theorem dN{src:Source}{n:Nat}{Q:Nat->Yf->Prop}(hn:n≠0)(h:∀i d,i<n->Q i {s with drawn:=d}):bt (ax prog w) A (choose src n) Q E s:=fun Γ p _=>by show Sem.wp _ Γ (.choose src n .pure) _ _ p s;rw[Sem.wp_choose];refine⟨hn,?_⟩;rw[Sem.wp_pure];exact h _ _ (Nat.mod_lt _ (Nat.pos_of_ne_zero hn))
theorem RZ{α:Type}:∀(xs:List α)(i:Nat)(h:i<xs.length),(xs[i]::xs.eraseIdx i).Perm xs
 |x::xs,0,_=>OT _
 |x::xs,i+1,h=>by have ih:=RZ xs i (by simpa using h);show(xs[i]'(by simpa using h)::x::xs.eraseIdx i).Perm (x::xs);exact(List.Perm.swap _ _ _).trans (ih.cons x)
theorem WR:∀(n:Nat)(xs:List Nat)(s:Yf)(Q:List Nat->Yf->Prop),n=xs.length->(∀ys d,ys.Perm xs->Q ys {s with drawn:=d})->bt (ax prog w) A (drawOrder n xs) Q E s
 |0,xs,s,Q,hn,h=>by have:xs=[]:=Qc.mp hn.symm;subst this;exact Af (h [] s.drawn (OT _))
 |n+1,[],s,Q,hn,h=>by cases hn
 |n+1,x::xs,s,Q,hn,h=>by unfold drawOrder;refine AK (dN (by simp) fun i d hi=>?_);have e:(x::xs)[i]? =some ((x::xs)[i]'hi):=Aq hi;rw[e];refine AK (WR n _ _ _ (by rw[List.length_eraseIdx_of_lt hi];simp at hn⊢;exact hn) fun ys d hp=>Af (h _ d ?_));exact(hp.cons _).trans (RZ _ i hi)
def C8(h:qY)(I:Ya)(first:AB)(i n ep:Nat)(a:Ya):Prop:=h.get? I=some {cls:=.type "set_iterator",dict:=none,data:=.fields #[first,.int i 0,.ref a,.int n 0,.int ep 0],slots:= #[]}
def FZ(h:qY)(a:Ya)(o:Obj)(es:Array (Int×AB))(ep:Nat)(t:SetTable):Prop:=h.get? a=some o/\o.ExactSet/\o.data=.set es ep t/\t.fits es.size=true
theorem C8.typeIs{first:AB}{n:Nat}(it:C8 s.heap I first i n ep a):s.TypeIs (.ref I) "set_iterator" :=⟨_,it,rfl⟩
set_option hygiene false in
local macro_rules| `(tactic|trivial)=> `(tactic|(
 unfold qv;refine AK (tJ (wpAny_callSpecial?_slot (name:=Str.ofString "__next__") it.typeIs OY (OL OY it.typeIs cJ ?_ (cQ _))));obtain⟨ho,hex,hd,hf⟩:=sa;unfold Builtin.«set_iterator.__next__» slotArgs;simp only[List.isEmpty_nil,RN,DL,↓reduceIte,bind_assoc,K2,Jo];refine AK (Af ?_);refine AK (wpAny_fieldsOf it rfl ?_);dsimp only;refine AK (wpAny_setEntries_of ho hd hf ?_);simp only[Jo,DL,↓reduceIte]))
theorem V7{slot given:Nat}{Q:Option (AB×Nat)->Yf->Prop}(hb:DR w=true)(sa:FZ s.heap a o es ep t)
 (h:Q (((pickOrder (w.params.setOrder a ep) es)[given]?).map fun e=>(e.2,slot)) s):bt (ax prog w) A (setNext a slot given ep) Q E s:=by
 obtain⟨ho,hex,hd,hf⟩:=sa;unfold setNext;refine AK (MR ho hd hf ?_);dsimp only;refine AK (PJ ?_);rw[hb];simp only[CJ,Jo,DL,Bs];refine AK ?_;unfold setWalk;refine AK (MR ho hd hf ?_);dsimp only;refine AK (PJ ?_);rw[hb];simp only[CJ];exact AK (sO (Af (Af h)))
theorem Wx{slot given:Nat}{Q:Option (AB×Nat)->Yf->Prop}(hb:DR w=false)(sa:FZ s.heap a o es ep t)(hn:es.size<=1)(hl:t.led=true)
 (h:Q (match es[SetTable.below t.place slot]?,t.place[SetTable.below t.place slot]?with|some (_,x),some j=>some (x,j+1)|_,_=>none) s):bt (ax prog w) A (setNext a slot given ep) Q E s:=by
 obtain⟨ho,hex,hd,hf⟩:=sa;unfold setNext;refine AK (MR ho hd hf ?_);dsimp only;refine AK (PJ ?_);rw[hb];simp only[DL,Bs];show bt _ _ (if(!t.plain&&decide (es.size>1))=true then _ else _) _ _ _;rw[AF (by simp;lia)];refine AK (show bt _ _ (if(!t.led&& !es.isEmpty)=true then _ else pure ()) _ _ _ from ?_);rw[hl];simp only[RN,MX,DL,Bs];refine Af (Af ?_);exact h
theorem SV{first:AB}{n:Nat}{Q:Option AB->Yf->Prop}(hh:A.handled=none)(it:C8 s.heap I first i n ep a)(hQ:∀h',Heap.ExtBut I s.heap h'->Q none {s with heap:=h'}):
 bt (ax prog w) A.in1 (do
  setField (.ref I) 2 Value.none
  let __do_lift<-newExc (Value.type "StopIteration") []
  raiseNew __do_lift)
 (fun fin s'=>∃v,fin=Fin.done (Flow.ret v)/\bt (ax prog w) A (pure (some v)) Q E s')
 (fun e s'=>bt (ax prog w) A (do
  let __do_lift<-sq e (Value.type "StopIteration")
  if __do_lift=true then pure none else throw e) Q E s') s:=by
 refine AK (OR it rfl (by simp) ?_);refine AK ?_;simp only[newExc,newTuple];refine AK (IL ?_ (by size_fits));refine AK (m:=firstArgMember _ _) (wpAny_of_eq (a:=Value.none) (by first|rfl|(simp only[firstArgMember];rfl)) ?_);refine IL ?_ (by size_fits);simp only[raiseNew];refine AK (wpAny_handled ?_);first|rw[show A.in1.handled=none from hh]|rw[hh]
 refine AK (Af (wpAny_throw ?_));refine AK (wpAny_isInstance (T:="StopIteration") (b:=true) ⟨_,Bz _ rfl,rfl⟩ isSubtype_stop ?_);exact Af (hQ _ (((VP ..).extBut.push _).push _))
theorem jY{Q:Option AB->Yf->Prop}{x:Int×AB}(hb:DR w=true)(it:C8 s.heap I (.int 0 0) i es.size ep a)(sa:FZ s.heap a o es ep t)
 (hx:(pickOrder (w.params.setOrder a ep) es)[i]? =some x)(h:∀h',C8 h' I (.int 0 0) (i+1) es.size ep a->Heap.SameBut I s.heap h'->Q (some x.2) {s with heap:=h'}):bt (ax prog w) A (qv (.ref I)) Q E s:=by
 have sa0:=sa;trivial;refine AK (V7 hb sa0 ?_);rw[show(i:Int).toNat=i from Hj i,show(ep:Int).toNat=ep from Hj ep,hx];dsimp only[Option.map];refine AK (MN it (by simp) fun h1 i1 b1=>AK (MN i1 (by simp) fun h2 i2 b2=>Af ⟨_,rfl,Af (h h2 ?_ (b1.trans b2))⟩));simpa[C8,qu] using i2
theorem f9{Q:Option AB->Yf->Prop}(hh:A.handled=none)(hb:DR w=true)(it:C8 s.heap I (.int 0 0) i es.size ep a)(sa:FZ s.heap a o es ep t)
 (hx:(pickOrder (w.params.setOrder a ep) es)[i]? =none)(h:∀h',Heap.ExtBut I s.heap h'->Q none {s with heap:=h'}):bt (ax prog w) A (qv (.ref I)) Q E s:=by
 have sa0:=sa;trivial;refine AK (V7 hb sa0 ?_);rw[show(i:Int).toNat=i from Hj i,show(ep:Int).toNat=ep from Hj ep,hx];exact SV hh it h
theorem ke{sl:Nat}{Q:Option AB->Yf->Prop}{x:Int×AB}(hb:DR w=false)(it:C8 s.heap I (.int sl 0) i es.size ep a)(sa:FZ s.heap a o es ep t)(hn:es.size<=1)(hl:t.led=true)
 (hx:es[SetTable.below t.place sl]? =some x)(hj:t.place[SetTable.below t.place sl]? =some j)(h:∀h',C8 h' I (.int (j+1:Nat) 0) (i+1) es.size ep a->Heap.SameBut I s.heap h'->Q (some x.2) {s with heap:=h'}):bt (ax prog w) A (qv (.ref I)) Q E s:=by
 have sa0:=sa;trivial;refine AK (Wx hb sa0 hn hl ?_);rw[show(sl:Int).toNat=sl from Hj sl,hx,hj];dsimp only;refine AK (MN it (by simp) fun h1 i1 b1=>AK (MN i1 (by simp) fun h2 i2 b2=>Af ⟨_,rfl,Af (h h2 ?_ (b1.trans b2))⟩));simpa[C8,qu] using i2
theorem iq{sl:Nat}{Q:Option AB->Yf->Prop}(hh:A.handled=none)(hb:DR w=false)(it:C8 s.heap I (.int sl 0) i es.size ep a)(sa:FZ s.heap a o es ep t)(hn:es.size<=1)(hl:t.led=true)
 (hx:es[SetTable.below t.place sl]? =none)(h:∀h',Heap.ExtBut I s.heap h'->Q none {s with heap:=h'}):bt (ax prog w) A (qv (.ref I)) Q E s:=by
 have sa0:=sa;trivial;refine AK (Wx hb sa0 hn hl ?_);rw[show(sl:Int).toNat=sl from Hj sl,hx];exact SV hh it h
theorem i8{T:Ya}{ps:List Nat}{Q:Option AB->Yf->Prop}{x:Int×AB}{p:Nat}(it:C8 s.heap I (.ref T) i es.size ep a)(sa:FZ s.heap a o es ep t)(hT:s.heap.IsTuple T (ps.map fun p:Nat=>qu p).toArray)
 (hp:ps[i]? =some p)(hx:es[p]? =some x)(h:∀h',C8 h' I (.ref T) (i+1) es.size ep a->Heap.SameBut I s.heap h'->Q (some x.2) {s with heap:=h'}):bt (ax prog w) A (qv (.ref I)) Q E s:=by
 have sa0:=sa;trivial;obtain⟨oT,hoT,_,nT,hdT⟩:=hT;refine AK (wpAny_seqItems hoT hdT ?_);have e:((ps.map fun p:Nat=>qu p).toArray)[(i:Int).toNat]? =some (.int p 0):=by rw[Hj,VF,Ax,hp];rfl
 dsimp only;rw[e];dsimp only;refine AK ?_;unfold setNextDrawn;refine AK (MR ho hd hf ?_);dsimp only;simp only[Hj,Jo,DL,Bs];rw[hx];refine Af ?_;refine AK (MN it (by simp) fun h1 i1 b1=>Af ⟨_,rfl,Af (h h1 ?_ b1)⟩);simpa[C8,qu] using i1
theorem ip{T:Ya}{ps:List Nat}{Q:Option AB->Yf->Prop}(hh:A.handled=none)(it:C8 s.heap I (.ref T) i es.size ep a)(sa:FZ s.heap a o es ep t)(hT:s.heap.IsTuple T (ps.map fun p:Nat=>qu p).toArray)
 (hp:ps[i]? =none)(h:∀h',Heap.ExtBut I s.heap h'->Q none {s with heap:=h'}):bt (ax prog w) A (qv (.ref I)) Q E s:=by
 have sa0:=sa;trivial;obtain⟨oT,hoT,_,nT,hdT⟩:=hT;refine AK (wpAny_seqItems hoT hdT ?_);have e:((ps.map fun p:Nat=>qu p).toArray)[(i:Int).toNat]? =none:=by rw[Hj,VF,Ax,hp];rfl
 dsimp only;rw[e];dsimp only;refine AK (MN it (by simp) fun h1 i1 b1=>?_);have i1':C8 h1 I (.int 0 0) i es.size ep a:=by simpa[C8,qu] using i1
 exact SV (s:={s with heap:=h1}) hh i1' fun h' e'=>h h' (b1.extBut.trans e')
end
theorem WN{α:Type}(next:Nat->Nat):∀(f k:Nat)(l:List α)(out:Array α),f=l.length->(pickOrder.go next f k l out).toList.Perm (out.toList++l)
 |0,k,l,out,h=>by have:l=[]:=Qc.mp h.symm;subst this;unfold pickOrder.go;simp
 |f+1,k,l,out,h=>by
  have hi:next k%l.length<l.length:=Nat.mod_lt _ (by lia)
  unfold pickOrder.go;rw[Aq hi];dsimp only;refine(WN next f (k+1) _ _ (by rw[List.length_eraseIdx_of_lt hi];lia)).trans ?_;rw[MS,Bb];exact Qf _ (RZ l _ hi)
theorem Rt(next:Nat->Nat)(xs:Array α):(pickOrder next xs).toList.Perm xs.toList:=by
 have:=WN next xs.size 0 xs.toList #[] (by simp)
 simpa[pickOrder] using this
theorem TK(j:Nat):SetTable.below #[j] 0=0/\SetTable.below #[j] (j+1)=1:=by
 constructor
 ·simp[SetTable.below,SetTable.below.go]
 ·simp[SetTable.below,SetTable.below.go]
theorem C8.keep{f:AB}{n:Nat}(x:C8 h I f i n ep a)(e:∀o,h.get? I=some o->h'.get? I=some o):C8 h' I f i n ep a:=e _ x
theorem FZ.keep(x:FZ h a o es ep t)(e:∀o,h.get? a=some o->h'.get? a=some o):FZ h' a o es ep t:=⟨e _ x.1,x.2⟩
structure NS(prog:qV)(w:qa)(A:qy)(I:Ya)(fp:List Ya)(vs:List AB)(St:Nat->qY->Prop):Prop where
 QZ:I∈fp
 frame:∀i h h',St i h->(∀b∈fp,∀o,h.get? b=some o->h'.get? b=some o)->St i h'
 item:∀i (s:Yf)(Q:Option AB->Yf->Prop)(E:AB->Yf->Prop) v,vs[i]? =some v->St i s.heap->(∀h',St (i+1) h'->(∀b o,b≠I->s.heap.get? b=some o->h'.get? b=some o)->Q (some v) {s with heap:=h'})->bt (ax prog w) A (qv (.ref I)) Q E s
 done:∀(s:Yf)(Q:Option AB->Yf->Prop)(E:AB->Yf->Prop),St vs.length s.heap->(∀h',(∀b o,b≠I->s.heap.get? b=some o->h'.get? b=some o)->Q none {s with heap:=h'})->bt (ax prog w) A (qv (.ref I)) Q E s
theorem fQ(hh:A.handled=none)(hb:DR w=true)(I a:Ya)(hne:a≠I)(o:Obj)(es:Array (Int×AB))(ep:Nat)(t:SetTable):
 NS prog w A I [I,a] ((pickOrder (w.params.setOrder a ep) es).toList.map (·.2)) (fun i h=>C8 h I (.int 0 0) i es.size ep a/\FZ h a o es ep t) where
 QZ:=by simp
 frame:=fun i h h' st hk=>⟨st.1.keep fun o e=>hk I (by simp) o e,st.2.keep fun o e=>hk a (by simp) o e⟩
 item:=fun i s Q E v hv st hQ=>by
  rw[Ax,F7] at hv
  cases e:(pickOrder (w.params.setOrder a ep) es)[i]?with
  |none=>rw[e] at hv;cases hv
  |some x=>rw[e] at hv;cases Ag hv;exact jY hb st.1 st.2 e fun h' i' b'=>hQ h' ⟨i',st.2.keep fun o e=>b'.extBut a o hne e⟩ fun b o hn e=>b'.extBut b o hn e
 done:=fun s Q E st hQ=>by
  have hl:((pickOrder (w.params.setOrder a ep) es).toList.map (·.2)).length=es.size:=by rw[AL,(Rt _ es).length_eq,Em]
  rw[hl] at st;refine f9 hh hb st.1 st.2 ?_ fun h' e'=>hQ h' fun b o hn e=>e' b o hn e;rw[<-F7];exact El (by rw[(Rt _ es).length_eq,Em];exact Ab _)
theorem gM(hh:A.handled=none)(hb:DR w=false)(I a:Ya)(hne:a≠I)(o:Obj)(es:Array (Int×AB))(ep:Nat)(t:SetTable)(hn:es.size<=1)(hl:t.led=true)(hf:t.fits es.size=true):
 NS prog w A I [I,a] (es.toList.map (·.2)) (fun i h=>C8 h I (.int (if i=0 then 0 else t.place.getD 0 0+1:Nat) 0) i es.size ep a/\FZ h a o es ep t) where
 QZ:=by simp
 frame:=fun i h h' st hk=>⟨st.1.keep fun o e=>hk I (by simp) o e,st.2.keep fun o e=>hk a (by simp) o e⟩
 item:=fun i s Q E v hv st hQ=>by
  have hps:t.place.size=es.size:=by simp only[SetTable.fits,Du,FC] at hf;exact hf.1
  have hi:i=0/\es.size=1:=by
   have:=(BX.mp hv).1;simp at this
   lia
  obtain⟨rfl,h1⟩:=hi;obtain⟨j,hj⟩:∃j,t.place= #[j]:=by obtain⟨j,hj⟩:=List.length_eq_one_iff.mp (show t.place.toList.length=1 by simp;lia);exact⟨j,Js.mp (by rw[hj])⟩
  have hx:es[0]? =some (es[0]'(by lia)):=GC .. ;have hv':v=(es[0]'(by lia)).2:=by rw[Ax,F7,hx] at hv;exact(Ag hv).symm
  subst hv';have st1:=st.1;rw[AH rfl] at st1;refine ke (sl:=0) (j:=j) hb st1 st.2 hn hl (by rw[hj,(TK j).1];exact hx) (by rw[hj,(TK j).1];rfl) fun h' i' b'=>hQ h' ⟨?_,st.2.keep fun o e=>b'.extBut a o hne e⟩ fun b o hn e=>b'.extBut b o hn e;rw[AF (by lia),hj];exact i'
 done:=fun s Q E st hQ=>by
  have hps:t.place.size=es.size:=by simp only[SetTable.fits,Du,FC] at hf;exact hf.1
  rw[AL,Em] at st;refine iq hh hb st.1 st.2 hn hl ?_ fun h' e'=>hQ h' fun b o hn e=>e' b o hn e;by_cases h0:es.size=0
  ·exact getElem?_neg es _ (by lia)
  ·obtain⟨j,hj⟩:∃j,t.place= #[j]:=by obtain⟨j,hj⟩:=List.length_eq_one_iff.mp (show t.place.toList.length=1 by simp;lia);exact⟨j,Js.mp (by rw[hj])⟩
   rw[AF h0,hj];show es[SetTable.below #[j] (j+1)]? =none;rw[(TK j).2];exact getElem?_neg es _ (by lia)
theorem fZ(hh:A.handled=none)(I a T:Ya)(hne:a≠I)(hnT:T≠I)(o:Obj)(es:Array (Int×AB))(ep:Nat)(t:SetTable)(ps:List Nat)(hp:ps.Perm (List.range es.size)):
 NS prog w A I [I,a,T] (ps.map fun p=>(es.getD p (0,Value.none)).2) (fun i h=>C8 h I (.ref T) i es.size ep a/\FZ h a o es ep t/\h.IsTuple T (ps.map fun p:Nat=>qu p).toArray) where
 QZ:=by simp
 frame:=fun i h h' st hk=>⟨st.1.keep fun o e=>hk I (by simp) o e,st.2.1.keep fun o e=>hk a (by simp) o e,by obtain⟨oT,x,r⟩:=st.2.2;exact⟨oT,hk T (by simp) _ x,r⟩⟩
 item:=fun i s Q E v hv st hQ=>by
  rw[Ax] at hv
  cases e:ps[i]?with
  |none=>rw[e] at hv;cases hv
  |some p=>
   rw[e] at hv;cases Ag hv;have hlt:p<es.size:=K4.mp (hp.mem_iff.mp (CK e));have ex:es[p]? =some (es.getD p (0,Value.none)):=by rw[Gm,GC es p hlt];rfl
   refine i8 st.1 st.2.1 st.2.2 e ex fun h' i' b'=>hQ h' ⟨i',st.2.1.keep fun o e=>b'.extBut a o hne e,?_⟩ fun b o hn e=>b'.extBut b o hn e;exact st.2.2.extBut b'.extBut hnT
 done:=fun s Q E st hQ=>by rw[AL] at st;exact ip hh st.1 st.2.1 st.2.2 (El (Ab _)) fun h' e'=>hQ h' fun b o hn e=>e' b o hn e
theorem kC(hh:A.handled=none)(hS:Ed prog w s.heap a zs)
 (h:∀(I:Ya)(fp:List Ya)(vs:List AB)(St:Nat->qY->Prop) h' d,(∀(B:qy),B.handled=none->NS prog w B I fp vs St)->St 0 h'->(∀b o,s.heap.get? b=some o->h'.get? b=some o)->(∀b∈fp,b=a\/s.heap.objs.size<=b)->(∀v∈vs,∃z t,v=.str z t)->(vs.map tx).Perm zs->vs.length<=4096->
  s.heap.objs.size<=I->Q (.ref I) {s with heap:=h',drawn:=d}):bt (ax prog w) A (pyIter (.ref a)) Q E s:=by
 obtain⟨o,es,ep,t,ho,hex,hd,hel,hm,hnd,hb,hf,hl,hp⟩:=hS;have hT:s.TypeIs (.ref a) "set" :=⟨o,ho,hex.1⟩;have hlt:=Ay ho;have hsz:es.size=zs.length:=by rw[<-hm.length_eq,AL,Em]
 have DW:∀e∈es.toList,∃z t,e.2=.str z t:=fun e he=>by obtain⟨⟨k,hk,_⟩,_⟩:=hel e he;obtain⟨t,ht⟩:=Tu hk;exact⟨k,t,ht⟩
 refine wpAny_pyIter_slot hT tX (OL tX hT cG ?_ (PySem.F.args_set_iter_1 _));unfold Builtin.«frozenset.__iter__» Builtin.Frozenset.slot0 slotArgs;simp only[List.isEmpty_nil,RN,DL,↓reduceIte,bind_assoc,K2,Jo];unfold Builtin.Frozenset.addrOf Builtin.Frozenset.sizeOf;refine AK (Af ?_);try dsimp only
 refine AK (Af ?_);refine AK (AK (wpAny_setEntries_of ho hd hf (Af ?_)));unfold setDrawn;refine AK (AK (MR ho hd hf ?_));dsimp only;refine AK (PJ (Af ?_));show bt _ _ (if(!DR w&&(!t.plain&&decide (es.size>1)))=true then _ else _) _ _ _;have h4:es.size<=4096:=by have:qt=4096:=rfl;lia
 by_cases c:(!DR w&&(!t.plain&&decide (es.size>1)))=true
 ·rw[AH c];refine AK (WR _ _ _ _ (by simp) fun ps d pp=>?_);have lp:ps.length=es.size:=by rw[pp.length_eq,Qx]
  refine AK (wpAny_newTuple ?_ (by rw[AL,A3];lia));have ho1:=BB {cls:=.type "tuple",data:=.seq (List.map (fun i:Nat=>qu i) ps).toArray} ho;refine AK (wpAny_setEpoch_of (s:={s with heap:=s.heap.push _,drawn:=d}) ho1 hd hf ?_);have z1:(s.heap.push {cls:=.type "tuple",data:=.seq (List.map (fun i:Nat=>qu i) ps).toArray}).objs.size=s.heap.objs.size+1:=by rw[Gr]
  refine AK (IL (Af ⟨_,rfl,"set_iterator",_,⟨_,Bz _ rfl,rfl⟩,OY.lookup,?_⟩));have ev:(es.toList.map (·.2))=(List.range es.size).map fun p=>(es.getD p (0,Value.none)).2:=by
   apply Jp;intro k;rw[Ax,Ax,F7];by_cases hk:k<es.size
   ·rw[VO hk,GC es k hk];simp[Gm,hk]
   ·rw[getElem?_neg es k hk,El (by simp;lia)];rfl
  have pv:(ps.map fun p=>(es.getD p (0,Value.none)).2).Perm (es.toList.map (·.2)):=by rw[ev];exact pp.map _
  refine h _ [_,a,s.heap.objs.size] (ps.map fun p=>(es.getD p (0,Value.none)).2) _ _ d (fun B hB=>fZ hB _ a s.heap.objs.size (by rw[z1];exact BM (OH hlt)) (by rw[z1];exact BM (MU _)) o es ep t ps pp)
   ⟨Bz _ rfl,⟨BB _ ho1,hex,hd,hf⟩,⟨_,BB _ (Bz _ rfl),rfl,0,rfl⟩⟩
   (fun b o e=>BB _ (BB _ e)) (fun b hb=>?_) (fun v hv=>?_) ?_ (by rw[AL];lia) (by rw[z1];exact Eo _)
  ·rcases Ba.mp hb with e|hb
   ·exact .inr (by rw[e,z1];exact Eo _)
   ·rcases Ba.mp hb with e|hb
    ·exact .inl e
    ·exact .inr (by rw[Bg.mp hb];exact Ab _)
  ·obtain⟨e,he,rfl⟩:=BI.mp (pv.mem_iff.mp hv);exact DW e he
  ·refine(pv.map tx).trans ?_;rw[BV];exact hm
 ·rw[AF c];refine AK (Af (AK (wpAny_setEpoch_of ho hd hf ?_)));refine AK (IL (Af ⟨_,rfl,"set_iterator",_,⟨_,Bz _ rfl,rfl⟩,OY.lookup,?_⟩));have ne:a≠s.heap.objs.size:=BM hlt;have fpo:∀b∈[s.heap.objs.size,a],b=a\/s.heap.objs.size<=b:=fun b hb=>by
   rcases Ba.mp hb with e|hb
   ·exact .inr (by rw[e];exact Ab _)
   ·exact .inl (Bg.mp hb)
  have es0:s={s with heap:=s.heap}:=by cases s;rfl
  cases eb:DR w with
  |true=>
   have pv:((pickOrder (w.params.setOrder a ep) es).toList.map (·.2)).Perm (es.toList.map (·.2)):=(Rt _ es).map _;refine h _ [s.heap.objs.size,a] _ _ _ s.drawn (fun B hB=>fQ hB eb _ a ne o es ep t) ⟨Bz _ rfl,BB _ ho,hex,hd,hf⟩ (fun b o e=>BB _ e) fpo (fun v hv=>?_) ?_ (by rw[pv.length_eq,AL];simp;exact h4) (Ab _)
   ·obtain⟨e,he,rfl⟩:=BI.mp (pv.mem_iff.mp hv);exact DW e he
   ·refine(pv.map tx).trans ?_;rw[BV];exact hm
  |false=>
   have Cg:es.size<=1:=by
    rw[eb] at c;rcases hp with z|z
    ·lia
    ·rw[z] at c;simp at c
     lia
   rw[eb] at hl;refine h _ [s.heap.objs.size,a] _ _ _ s.drawn (fun B hB=>gM hB eb _ a ne o es ep t Cg hl hf) ⟨Bz _ rfl,BB _ ho,hex,hd,hf⟩ (fun b o e=>BB _ e) fpo (fun v hv=>?_) ?_ (by rw[AL];simp;exact h4) (Ab _)
   ·obtain⟨e,he,rfl⟩:=BI.mp hv;exact DW e he
   ·rw[BV];exact hm
theorem gf{vs:List AB}{St:Nat->qY->Prop}(W:NS prog w A.in1 I fp vs St)(hn:vs.length<=sizeLine)(S:Ya)(hSf:S∉fp)(res:AB):
 ∀(k i:Nat)(s:Yf)(acc:Array AB)(c:Nat),vs.length-i=k->i<=vs.length->St i s.heap->s.heap.get? S=some {cls:=.type "list",dict:=none,data:=.seq acc c,slots:= #[]}->acc.toList=vs.take i->
 (∀h' c',(∀b o,b≠S->b≠I->s.heap.get? b=some o->h'.get? b=some o)->h'.get? S=some {cls:=.type "list",dict:=none,data:=.seq vs.toArray c',slots:= #[]}->R (.ok (.ret res)) {s with heap:=h'})->
 qw (ax prog w) A (.builtin "list.extend.loop" ⟨[.ref S,.ref I,res],[]⟩) R s:=by
 have hSI:S≠I:=fun e=>hSf (e▸W.QZ);intro k
 induction k with
 |zero=>
  intro i s acc c hk hi hst hS hacc hR;have hin:i=vs.length:=by lia
  subst hin;refine IQ tY ?_;rw[MK N2 _];show bt _ A.in1 (qv (.ref I)>>=_) _ _ s;refine AK (W.done s _ _ hst fun h' hm=>?_);have ea:acc=vs.toArray:=Js.mp (by rw[hacc,Cj]);exact Af (hR h' c (fun b o _ hb e=>hm b o hb e) (by rw[<-ea];exact hm S _ hSI hS))
 |succ k ih=>
  intro i s acc c hk hi hst hS hacc hR;have hlt:i<vs.length:=by lia
  have hsz:acc.size=i:=by rw[<-Em,hacc,Bl];lia
  refine IQ tY ?_;rw[MK N2 _];show bt _ A.in1 (qv (.ref I)>>=_) _ _ s;refine AK (W.item i s _ _ _ (Aq hlt) hst fun h' hst' hm=>?_);have hS':=hm S _ hSI hS;show bt _ A.in1 (updateSeq S (·.push (vs[i]'hlt))>>=_) _ _ _;refine AK ?_;refine sV (s:={s with heap:=h'}) hS' rfl (Af ⟨OV N2 _,ih (i+1) _ (acc.push (vs[i]'hlt)) _ (by lia) hlt (W.frame _ h' _ hst' fun b hb o e=>?_) (Ir _ hS' rfl) ?_ fun h2 c' hm'' hS''=>?_⟩)
   (by rw[hsz];lia) (by show(acc.push (vs[i]'hlt)).size<=sizeLine+1;rw[Array.size_push,hsz];lia)
  ·exact(EA _ _ (fun h:S=b=>hSf (by rw[h];exact hb))).trans e
  ·rw[MS,hacc,List.take_succ,Aq hlt];rfl
  ·exact hR h2 c' (fun b o hb1 hb2 e=>hm'' b o hb1 hb2 ((EA _ _ (DG hb1)).trans (hm b o hb2 e))) hS''
theorem hU{r:Ya}{Q:Bool->Yf->Prop}(hT:s.TypeIs (.ref r) "set")(h:Q false s):bt (ax prog w) A (Builtin.List.listLengthHint (.ref r)) Q E s:=by
 unfold Builtin.List.listLengthHint;refine AK (wpAny_specialOf hT PySem.F.slot_set_len.lookup ?_);generalize hid:("set.__len__" :String)=id0
 wp_delta
 rw[show splitId id0=some ("set","__len__") from by subst hid;decide+kernel];subst hid;refine AK (wpAny_isInstance (T:="set") (b:=true) hT sub_set_self ?_);refine sW (fun hab=>absurd hab (by decide)) (fun _=>?_);refine sW (fun _=>?_) (fun hab=>absurd (by ac_rfl) hab);refine AK (rq hT ?_);exact Af h
theorem dj{Q:List AB->Yf->Prop}(hh:A.handled=none)(hS:Ed prog w s.heap a zs)
 (h:∀vs h' d,(∀v∈vs,∃z t,v=.str z t)->(vs.map tx).Perm zs->(∀b o,s.heap.get? b=some o->h'.get? b=some o)->s.heap.objs.size<h'.objs.size->Q vs {s with heap:=h',drawn:=d}):bt (ax prog w) A (sf (.ref a)) Q E s:=by
 have hT:∀(x:Yf),(∀b o,s.heap.get? b=some o->x.heap.get? b=some o)->x.TypeIs (.ref a) "set" :=fun x e=>by obtain⟨o,es,ep,t,ho,hex,_⟩:=hS;exact⟨o,e _ _ ho,hex.1⟩
 have hlt:a<s.heap.objs.size:=by obtain⟨o,es,ep,t,ho,_⟩:=hS;exact Ay ho
 unfold sf;refine AK (wpAny_runValue (IQ entry_proto_collect' ?_));show bt _ _ (do again (.builtin "list.__iadd__" ⟨[<-newList [],.ref a],[]⟩)) _ _ s;refine AK (RM (Af ⟨OF _ (by ac_rfl),IQ entry_list_iadd' ?_⟩));show bt _ _ (Builtin.List.listExtendWith (.ref s.heap.objs.size) (.ref a) (.ref s.heap.objs.size)) _ _ {s with heap:=s.heap.push (qg "list" #[] 0)};generalize e0:s.heap.push (qg "list" #[] 0)=h0;have hS0:h0.get? s.heap.objs.size=some (qg "list" #[] 0):=by rw[<-e0];exact Bz _ rfl
 have k0:∀b o,s.heap.get? b=some o->h0.get? b=some o:=fun b o e=>by rw[<-e0];exact BB _ e
 have z0:s.heap.objs.size<h0.objs.size:=Ay hS0;unfold Builtin.List.listExtendWith;refine AK (rq (T:="set") (hT {s with heap:=h0} k0) ?_);have h1:Builtin.List.listSameRef (.ref s.heap.objs.size) (.ref a)=false:=by simp[Builtin.List.listSameRef,En hlt]
 have t1:(Value.type "set" ==Value.type "list")=false:=by decide
 have t2:(Value.type "set" ==Value.type "tuple")=false:=by decide
 simp only[h1,t1,t2,Bool.or_false,DL,Bs];refine AK (kC (s:={s with heap:=h0}) (zs:=zs) hh (hS.at fun o e=>k0 a o e) fun I fp vs St h' d W st keep hfp DW pm h4 hI=>?_);have hSf:s.heap.objs.size∉fp:=fun hm=>by
  rcases hfp _ hm with e|e
  ·exact absurd e (En hlt)
  ·exact absurd z0 (Og.mpr e)
 have hS1:=keep _ _ hS0;have done:∀h2 c',(∀b o,b≠s.heap.objs.size->b≠I->h'.get? b=some o->h2.get? b=some o)->h2.get? s.heap.objs.size=some {cls:=.type "list",dict:=none,data:=.seq vs.toArray c',slots:= #[]}->
  bt (ax prog w) A (do
   let o<-load s.heap.objs.size
   match o.data with
   |.seq xs _=>pure xs.toList
   |_=>qp "internal:collect") Q E {s with heap:=h2,drawn:=d}:=fun h2 c' k2 hS2=>by
  refine AK (wpAny_load hS2 (Af ?_));refine h _ h2 d (by simpa using DW) (by simpa using pm) (fun b o e=>?_) (Ay hS2);have hb:=Ay e;exact k2 b o (BM hb) (fun z=>absurd (z▸hb) (Og.mpr (Fl (C3 z0 hI)))) (keep b o (k0 b o e))
 have n4:vs.length<=sizeLine:=by rw[A3];lia
 refine AK (GB (hU (hT {s with heap:=h',drawn:=d} fun b o e=>keep b o (k0 b o e)) ?_));have key:∀(h1:qY)(c1:Nat),St 0 h1->(∀b o,b≠s.heap.objs.size->h'.get? b=some o->h1.get? b=some o)->h1.get? s.heap.objs.size=some {cls:=.type "list",data:=.seq #[] c1}->
  qw (ax prog w) A (.builtin "list.extend.loop" ⟨[.ref s.heap.objs.size,.ref I,.ref s.heap.objs.size],[]⟩) (wants (fun v s'=>bt (ax prog w) A (match v with
   |.ref a=>do
    let o<-load a
    match o.data with
    |.seq xs _=>pure xs.toList
    |_=>qp "internal:collect"
   |_=>qp "internal:collect") Q E s') E) {s with heap:=h1,drawn:=d}:=fun h1 c1 st1 k1 hS1=>
  gf (W A.in1 hh) n4 _ hSf _ vs.length 0 _ #[] c1 (by lia) (CH _) st1 hS1 (by simp) fun h2 c' k2 hS2=>done h2 c' (fun b o b1 b2 e=>k2 b o b1 b2 (k1 b o b1 e)) hS2;refine sW (fun _=>?_) (fun _=>Af ⟨OV N2 _,key _ 0 st (fun b o _ e=>e) hS1⟩);refine AK (Ho ?_);refine AK ?_;show bt _ _ (updateSeq s.heap.objs.size (·.push .none)>>=fun _=>updateSeq s.heap.objs.size (·.pop)) _ _ _;refine AK (sV (s:={s with heap:=h',drawn:=d}) hS1 rfl ?_);have hS2:=Ir (Obj.mapSeq (·.push Value.none)) hS1 rfl;refine sV (hz:=by seq_fits) hS2 rfl ?_;have hS3:=Ir (Obj.mapSeq (·.pop)) hS2 rfl;refine Af ⟨OV N2 _,key _ _ ?_ (fun b o hb e=>?_) hS3⟩
 ·refine(W A hh).frame 0 _ _ st fun b hb o e=>?_;have hbS:b≠s.heap.objs.size:=fun h=>hSf (h▸hb);exact(EA _ _ (DG hbS)).trans ((EA _ _ (DG hbS)).trans e)
 ·exact(EA _ _ (DG hb)).trans ((EA _ _ (DG hb)).trans e)
end
section
open PySem.W
theorem iY{f:α->β}{a b:List β}(h:a.Perm b):∀l:List α,b=l.map f->∃l':List α,l'.Perm l/\a=l'.map f:=by
 induction h with
 |nil=>intro l e;exact⟨[],by rw[OB.mp e.symm],rfl⟩
 |cons x _ ih=>
  intro l e
  match l,e with
  |y::l,e=>obtain⟨e1,e2⟩:=Gu e;obtain⟨l',p,q⟩:=ih l e2;exact⟨y::l',p.cons y,by rw[Av,<-q,<-e1]⟩
 |swap x y t=>
  intro l e
  match l,e with
  |u::v::l,e=>obtain⟨e1,e2⟩:=Gu e;obtain⟨e3,e4⟩:=Gu e2;exact⟨v::u::l,List.Perm.swap ..,by rw[Av,Av,<-e1,<-e3,<-e4]⟩
 |trans _ _ ih1 ih2=>intro l e;obtain⟨l1,p1,q1⟩:=ih2 l e;obtain⟨l2,p2,q2⟩:=ih1 l1 q1;exact⟨l2,p2.trans p1,q2⟩
theorem iB(vs:List AB):vs=(List.range vs.length).map fun i=>vs.getD i Value.none:=by
 apply Jp;intro k;rw[Ax];by_cases hk:k<vs.length
 ·rw[VO hk,Aq hk];simp[hk]
 ·rw[El (by lia),El (by simp;lia)];rfl
open Classical in
noncomputable def NZ(vs:List AB)(r:Nat->Nat)(x:cm):Nat:=if h:∃i,i<vs.length/\vs.getD i Value.none=x.1 then r (Classical.choose h) else 0
theorem SX{vs:List AB}{r:Nat->Nat}(hr:∀i j,i<vs.length->j<vs.length->vs.getD i Value.none=vs.getD j Value.none->r i=r j){x:cm}(hi:i<vs.length)(e:vs.getD i Value.none=x.1):NZ vs r x=r i:=by have h:∃i,i<vs.length/\vs.getD i Value.none=x.1:=⟨i,hi,e⟩;unfold NZ;rw[dif_pos h];have:=Classical.choose_spec h;exact hr _ _ this.1 hi (this.2.trans e.symm)
theorem Rw{vs:List AB}{x:cm}(h:x∈(vs.toArray.zip vs.toArray).toList):∃i,i<vs.length/\vs.getD i Value.none=x.1/\x.1=x.2:=by
 have h':x∈vs.zip vs:=by simpa using h
 obtain⟨i,hi,e⟩:=IK.mp h';have hl:i<vs.length:=by simpa using hi
 rw[List.getElem_zip] at e;refine⟨i,hl,?_,by rw[<-e]⟩;rw[Ct,Aq hl,<-e];rfl
theorem gN{vs:List AB}{n:Nat}{P:PySem.Fin->Yf->Prop}(r:Nat->Nat)(ho:s.heap.get? a=some (qg "list" vs.toArray n))(hle:vs.length<=sizeLine)
 (hr:∀i j,i<vs.length->j<vs.length->vs.getD i Value.none=vs.getD j Value.none->r i=r j)
 (hk:2<=vs.length->Ni prog w A vs r {s with heap:=LY s.heap a vs})
 (h:∀p:List Nat,p.Perm (List.range vs.length)->(∀i j,i<=j->j<vs.length->r (p.getD i 0)<=r (p.getD j 0))->P (.done (.ret .none)) {s with heap:=sortedHeap s.heap a vs (Fx vs p).toArray}):
 bt (ax prog w) A (Builtin.«list.sort» ⟨[.ref a],[]⟩) P E s:=by
 have lta:a<s.heap.objs.size:=Ay ho;rw[list_sort_plain];refine AK (listItems_at ho rfl (AK (tL ho rfl ?_ (by rw[Cb];lia) (CH _))));obtain⟨e1,h1⟩:∃e1,(s.heap.update a (Obj.mapSeq fun _=>(#[]:Array AB))).get? a=some (qg "list" #[] e1):=⟨_,sX ho fun _=> #[]⟩;refine AK (seqEpoch_at h1 rfl (AK (wpAny_newTuple (AK (RM (GB ?_) (CH _))) (by show vs.length<=_;lia))));have h6:(LY s.heap a vs).get? a=some (qg "list" #[] e1):=by unfold LY;rw[Heap.get?_push_ne _ _ _ (by rw[si,Q6];exact BM (OH lta)),Heap.get?_push_ne _ _ _ (by rw[Q6];exact BM lta)];exact h1
 show bt (ax prog w) A _ P E {s with heap:=LY s.heap a vs};dsimp only;by_cases h2:vs.toArray.size<2
 ·rw[AH h2,AH h2];refine AK (Af ?_);rw[StateT.run_pure];refine AK (Af ?_);dsimp only;have hn:vs.length<2:=by simpa using h2
  have e0:Array.map (·.2) (dq (SortSt.mk' general' (vs.toArray.zip vs.toArray) #[] 7 none))=(Fx vs (List.range vs.length)).toArray:=by show Array.map (·.2) (vs.toArray.zip vs.toArray)=_;exact nI (C:=fun vs:List AB=>Array.map (·.2) (vs.toArray.zip vs.toArray)=(Fx vs (List.range vs.length)).toArray) (by simp[Fx]) (fun _=>by apply Js.mp;simp[Fx]) hn
  rw[e0];refine AK (seqEpoch_at h6 rfl (AK (tL h6 rfl ?_ (CH _) (by unfold Fx;simp;lia))));simp only[Jo,DL,Bs];exact Af (h (List.range vs.length) (.refl _) fun i j hij hj=>by
   have e:i=j:=by lia
   rw[e];exact Ab _)
 ·have h2':2<=vs.length:=by
   have:¬vs.length<2:=by simpa using h2
   lia
  rw[AF h2,AF h2];refine AK (C6 (hk h2') (fun κ s' hκ=>?_) fun _ _ x=>x.elim);obtain⟨es,ask⟩:=hκ;subst es;have hzz:(vs.toArray.zip vs.toArray).size=vs.length:=by simp
  have hc:C1 prog w A {s with heap:=LY s.heap a vs} κ (NZ vs r) (vs.toArray.zip vs.toArray):=fun x y hx hy C hC=>by
   obtain⟨i,hi,ei,_⟩:=Rw hx;obtain⟨j,hj,ej,_⟩:=Rw hy;have:=ask i j C hi hj (by unfold QG;rw[<-SX hr hi ei,<-SX hr hj ej];exact hC);unfold kas_ask at this;rw[ei,ej] at this;exact this
  refine AK (C6 (km (st:=SortSt.mk' κ (vs.toArray.zip vs.toArray) #[] 7 none) (Q:=fun _ st'=>(dq st').Perm (vs.toArray.zip vs.toArray)/\qe st'=none/\Up (NZ vs r) (dq st') 0 (vs.toArray.zip vs.toArray).size) hc rfl rfl rfl rfl (by lia) fun st' a1 a2 a3=>⟨a1,a2,a3⟩) ?_ fun _ _ e=>e);rintro⟨⟨⟩,st'⟩ s' ⟨rfl,pm,hf,up⟩;dsimp only at pm hf up⊢;have pl:=MF.mp pm;have inx:∀x∈(dq st').toList,∃i,i<vs.length/\vs.getD i Value.none=x.1/\x.1=x.2:=fun x hx=>Rw (pl.mem_iff.mp hx);have po:((dq st').toList.map (·.2)).Perm vs:=by
   refine(pl.map _).trans ?_;have e:((vs.toArray.zip vs.toArray).toList.map (·.2))=vs:=by
    have e1:(vs.toArray.zip vs.toArray).toList=vs.zip vs:=by simp
    rw[e1];exact List.map_snd_zip (Ab _)
   rw[e]
  obtain⟨p,pp,ep⟩:=iY po (List.range vs.length) (iB vs);have eo:(dq st').map (·.2)=(Fx vs p).toArray:=by apply Js.mp;rw[Array.toList_map,ep];rfl
  have plen:p.length=vs.length:=by rw[pp.length_eq,Qx]
  rw[eo];refine AK (seqEpoch_at h6 rfl (AK (tL h6 rfl ?_ (CH _) (by unfold Fx;simp;lia))));rw[hf];simp only[Jo,DL,Bs];refine Af (h p pp fun i j hij hj=>?_);have sz:(dq st').size=vs.length:=by rw[pm.size_eq,hzz]
  have at_:∀k,k<vs.length->kv (NZ vs r) (dq st') k=r (p.getD k 0):=fun k hk'=>by
   have hk1:k<(dq st').size:=by lia
   have hm:=getD_mem (arr:=dq st') hk1;obtain⟨i0,hi0,ei0,e12⟩:=inx _ hm;have hpk:p.getD k 0<vs.length:=by rw[Ct,Aq (by lia)];exact K4.mp (pp.mem_iff.mp (Fj _))
   refine SX hr hpk ?_;have:((dq st').toList.map (·.2))[k]? =some ((dq st').getD k dK).2:=by rw[Ax,F7,GC _ k hk1,Gm,GC _ k hk1];rfl
   rw[ep,Ax] at this;rw[Aq (by lia)] at this;have t2:=Ag this;rw[e12,<-t2,Ct (l:=p),Aq (by lia)];rfl
  have:=up i j (CH _) hij (by lia);rw[at_ i (by lia),at_ j hj] at this;exact this
theorem Vj{x:AB}
 (hcol:bt (ax prog w) A.in1 (sf x) (fun vs s1=>vs.length<=1000000/\∃r:Nat->Nat,(∀i j,i<vs.length->j<vs.length->vs.getD i Value.none=vs.getD j Value.none->r i=r j)/\
  (2<=vs.length->∀h':qY,(∀b o,s1.heap.get? b=some o->h'.get? b=some o)->Ni prog w A.in1.in1 vs r {s1 with heap:=h'})/\
  ∀(p:List Nat) h2 e,p.Perm (List.range vs.length)->(∀i j,i<=j->j<vs.length->r (p.getD i 0)<=r (p.getD j 0))->(∀b o,s1.heap.get? b=some o->h2.get? b=some o)->h2.get? s1.heap.objs.size=some (qg "list" (Fx vs p).toArray e)->Q (.ref s1.heap.objs.size) {s1 with heap:=h2}) E s):
 bt (ax prog w) A (call (.builtin "sorted") [x]) Q E s:=by
 refine Calls.call_function_entry kind_sorted plain_sorted entry_sorted (args_sorted1 _) ?_;unfold Builtin.«sorted»;refine AK (m:=checkCount "sorted" 1 1 _) (Af (AK (C6 hcol (fun vs s1 hs=>?_) fun _ _ z=>z)));obtain⟨hl,r,hr,hk,h⟩:=hs;have hle:vs.length<=sizeLine:=by rw[A3];lia
 refine AK (RM ?_ hle);have ho:(s1.heap.push (qg "list" vs.toArray 0)).get? s1.heap.objs.size=some (qg "list" vs.toArray 0):=Bz _ rfl;have z:(s1.heap.push (qg "list" vs.toArray 0)).objs.size=s1.heap.objs.size+1:=si ..;show bt _ _ _ _ _ {s1 with heap:=s1.heap.push (qg "list" vs.toArray 0)};refine AK (GB (OL slot_list_sort ⟨_,ho,rfl⟩ entry_list_sort (gN r ho hle hr (fun h2=>?_) fun p a1 a2=>⟨_,rfl,?_⟩) (args_list_sort _)))
 ·refine hk h2 _ fun b o q=>?_;have lt:=Ay q;unfold LY;refine BB _ (BB _ ?_);rw[MM _ _ _ _ (BM lt)];exact BB _ q
 ·unfold sortedHeap;obtain⟨e1,h1⟩:∃e1,((s1.heap.push (qg "list" vs.toArray 0)).update s1.heap.objs.size (Obj.mapSeq fun _=>(#[]:Array AB))).get? s1.heap.objs.size=some (qg "list" #[] e1):=⟨_,sX ho fun _=> #[]⟩;have h2:=BB (qg "list" #[] 0) (BB (qg "tuple" vs.toArray 0) h1);refine Af ⟨_,rfl,h p _ _ a1 a2 (fun b o q=>?_) (sX h2 fun _=>_)⟩;have lt:=Ay q;rw[MM _ _ _ _ (BM lt)];refine BB _ (BB _ ?_);rw[MM _ _ _ _ (BM lt)];exact BB _ q
theorem fm{r:Ya}{n:Nat}{P:Nat->AB->Prop}{OK:qY->Prop}{Q:List AB->Yf->Prop}(K:KdlSrc prog w T r d n P OK)(hh:A.handled=none)(hok:OK s.heap)(hn:n<=sizeLine)
 (h:∀vs h' tk,vs.length=n->(∀(j:Nat) v,vs[j]? =some v->P j v)->(∀b o,s.heap.get? b=some o->h'.get? b=some o)->s.heap.objs.size<h'.objs.size->Q vs {s with heap:=h',toks:=tk}):bt (ax prog w) A (sf (.ref r)) Q E s:=by
 have hlt:=K.there _ hok;unfold sf;refine AK (wpAny_runValue (IQ entry_proto_collect' ?_));show bt _ _ (do again (.builtin "list.__iadd__" ⟨[<-newList [],.ref r],[]⟩)) _ _ s;refine AK (RM (Af ⟨OF _ (by ac_rfl),IQ entry_list_iadd' ?_⟩));rw[MK (show plainId "list.__iadd__" =true from by ac_rfl) _];refine kdl_extend (A:=A) (R:=wants (fun v s'=>bt (ax prog w) A (match v with
  |.ref a=>do
   let o<-load a
   match o.data with
   |.seq xs _=>pure xs.toList
   |_=>qp "internal:collect"
  |_=>qp "internal:collect") Q E s') E) (s:={s with heap:=s.heap.push (qg "list" #[] 0)}) K hh (K.keep _ _ hok fun b _ o e=>BB _ e) s.heap.objs.size (En hlt.1) (En hlt.2) (.ref s.heap.objs.size) 0 (Bz _ rfl) (fun h' tk acc' c' keep hS hacc=>?_) hn;refine AK (wpAny_load hS (Af (h _ h' tk (by rw[Em];exact hacc.1) (fun j v e=>hacc.2 j v (by rw[<-F7];exact e)) (fun b o e=>keep b o (BM (Ay e)) (BB _ e)) (Ay hS))))
theorem fX(I:Inv X pins σ H s)(d:Drawn):Inv X pins σ H {s with drawn:=d}:=
 ⟨I.ok,I.os,I.bare,I.base,I.loc,I.cell,I.free,I.DJ,I.pin,I.hok,I.len⟩
theorem Z4(zs:List α)(d:α):(List.range zs.length).map (fun i=>zs.getD i d)=zs:=by
 apply Jp;intro k;rw[Ax];by_cases hk:k<zs.length
 ·rw[VO hk,Aq hk];simp[hk]
 ·rw[El (by simp;lia),El (by lia)];rfl
theorem sorted_strs{Q:VK}{x:AB}{zs0:List Str}(I:Inv X pins σ H s)(hz:zs0.length<=1000000)
 (hcol:∀Q':List AB->Yf->Prop,(∀(vs:List AB)(zs:List Str) h' tk d,Vals (zs.map V.str) vs->zs.Perm zs0->(∀b o,s.heap.get? b=some o->h'.get? b=some o)->s.heap.objs.size<=h'.objs.size->Q' vs {s with heap:=h',toks:=tk,drawn:=d})->bt (ax X.prog X.w) X.A.in1 (sf x) Q' X.xe s)
 (q:∀(D:Ya)(ys:List Str),H D=none->ys.Perm zs0->ys.Pairwise (fun a b=>L8 b a=false)->Q (.ref D) (upd H D (.lst (ys.map V.str)))):
 bt (ax X.prog X.w) X.A (call (.builtin "sorted") [x]) (EP X pins σ Q) X.xe s:=by
 refine Vj (hcol _ fun vs zs h' tk d rv pz kp sz=>?_);have hl:zs.length=vs.length:=by rw[<-rv.length,AL]
 have hlz:zs.length=zs0.length:=pz.length_eq;refine⟨by lia,ME zs,fun i j hi hj e=>?_,fun h2 h2' kp2=>iS rv h2,fun p h2 e pp hp2 kp2 hD=>?_⟩
 ·obtain⟨t1,e1⟩:=La rv (k:=i) (by lia);obtain⟨t2,e2⟩:=La rv (k:=j) (by lia);rw[e1,e2] at e;unfold ME;rw[(Value.str.inj e).1]
 ·rw[<-hl] at pp hp2;have pin:∀i∈p,i<zs.length:=fun i hi=>K4.mp (pp.mem_iff.mp hi);have plen:p.length=zs.length:=by rw[pp.length_eq,Qx]
  have hvals:Vals ((p.map fun i=>zs.getD i "").map V.str) (Fx vs p):=by
   unfold Fx;refine M3 (by simp) fun i x u h1 h2=>?_;rw[BV,Ax] at h1;rw[Ax] at h2
   cases e:p[i]?with
   |none=>rw[e] at h1;cases h1
   |some k=>
   rw[e] at h1 h2;cases Ag h1;cases Ag h2;obtain⟨t,et⟩:=La rv (pin k (CK e));exact⟨t,et⟩
  have I1:=I.laid (t':=tk) (h':=h2) (a:=h'.objs.size) (o:=.lst ((p.map fun i=>zs.getD i "").map V.str)) (fun b ob z=>kp2 b ob (kp b ob z)) sz
   ⟨by rw[AL,AL,plen,A3];lia,_,e,hvals,hD⟩;refine⟨.ref h'.objs.size,_,fX I1 d,rfl,q _ _ (I.hok.fresh sz) ?_ ?_⟩
  ·have:=pp.map fun i=>zs.getD i "";rw[Z4] at this;exact this.trans pz
  ·rw[OI,N3];intro i j hi hj hij;have h1:=hp2 i j (by lia) (by lia);rw[Ct,Aq hi,Ct,Aq hj] at h1;have e3:=O1 Ew zs (a:=zs.getD p[j] "") (b:=zs.getD p[i] "") (Wr (pin _ (Fj hj)));have e5:L8 (zs.getD p[j] "") (zs.getD p[i] "")=decide (ME zs p[j]<ME zs p[i]):=e3;rw[e5];exact BJ (by simpa using h1)
theorem Vn:DH X (.builtin "sorted") (lS X.K):=by
 intro pins s σ H xs us Q I r h;obtain⟨l,zs,rfl,hq,h64,q⟩:=h;obtain⟨u,rfl,rx⟩:=vals1 r;cases rx;obtain⟨AM,rv,pl,hz⟩:=I.list hq;have hl:zs.length=AM.length:=by rw[<-rv.length,AL]
 refine sorted_strs I (zs0:=zs) (by lia) (fun Q' hQ=>collect_list (A:=X.A.in1) pl.isList (hQ AM zs _ s.toks s.drawn rv (.refl _) (fun b ob z=>?_) ?_) (by rw[A3];lia)) q
 ·show((s.heap.push (qg "list" #[] 0)).update s.heap.objs.size _).get? b=some ob;rw[MM _ _ _ _ (BM (Ay z))];exact BB _ z
 ·rw[Q6,si];exact Eo _
def mC:List V->Hp->VK->Prop:=fun xs H Q=>∃(d:Ya)(AA:List (Key×V))(zs:List Str),xs=[.ref d]/\H d=some (.dK AA)/\AA.map (·.1)=zs.map Sum.inr/\zs.length<=1000000/\
 ∀(D:Ya)(ys:List Str),H D=none->ys.Perm zs->ys.Pairwise (fun a b=>L8 b a=false)->Q (.ref D) (upd H D (.lst (ys.map V.str)))
theorem dM(hc:X.calm=true):DH X (.builtin "sorted") mC:=by
 intro pins s σ H xs us Q I r h;obtain⟨d,AA,zs,rfl,hd,hk,hz,q⟩:=h;obtain⟨u,rfl,rx⟩:=vals1 r;cases rx;obtain⟨z,hm,ws,rel,dd⟩:=JW I.hok hd;obtain⟨ep,da⟩:=dd.dictAt;have hh:X.A.handled=none:=I.ok.hd hc;have hlen:=rel.length;have hlk:AA.length=zs.length:=by have:=BD List.length hk;simpa using this
 refine sorted_strs I hz (fun Q' hQ=>fm (A:=X.A.in1) (kdl_dict hm) hh da (by lia) fun vs h' tk hl hi kp sz=>hQ vs zs h' tk s.drawn (M3 (by rw[AL];lia) fun i x u h1 h2=>?_) (.refl _) kp ?_) q
 ·obtain⟨k,y,ek,is⟩:=hi i u h2;have hk2:(AA.map (·.1))[i]? =some k:=by rw[rel.keys,Ax,ek];rfl
  rw[hk,Ax] at hk2;rw[Ax] at h1
  cases e:zs[i]?with
  |none=>rw[e] at h1;cases h1
  |some zz=>
   rw[e] at h1 hk2;cases Ag h1;cases Ag hk2;have is':JN (Sum.inr zz) u=true:=is;rcases GF is' with⟨i,t,e1,_⟩|⟨z,t,e1,rfl⟩
   ·cases e1
   ·cases e1;exact⟨t,rfl⟩
 ·exact Fl sz
noncomputable def L9(P:qV)(w:qa)(D:Ya)(zs:List Str):HO:=.ext fun h=>Ed P w h D zs
def oB(P:qV)(w:qa)(K:tN):List V->Hp->VK->Prop:=fun xs H Q=>∃(a:Ya)(ys:List Str),xs=[.ref a]/\AV K H a (ys.map V.str)/\ys.length<=1000/\∀D,H D=none->Q (.ref D) (upd H D (L9 P w D (FU [] ys)))
theorem fj(hP:X.prog=P)(hw:X.w=w)(hK:X.K=K)(hc:X.calm=true):DH X (.type "set") (oB P w K):=by
 subst hP;subst hw;subst hK;intro pins s σ H xs us Q I r h;obtain⟨a,ys,rfl,ha,hz,q⟩:=h;obtain⟨u,rfl,rx⟩:=vals1 r;cases rx;obtain⟨AM,rv,pl,_⟩:=I.tuple ha;have hh:X.A.handled=none:=I.ok.hd hc;have hl:ys.length=AM.length:=by rw[<-rv.length,AL]
 refine cL (items:=AM.toArray) (ys:=ys) hh pl (by simpa using hl) (fun i v z h1 h2=>?_) (by unfold qt;simp;lia) fun h' tk hS kp=>?_
 ·have e:(ys.map V.str)[i]? =some (V.str z):=by rw[Ax,h2];rfl
  obtain⟨u,hu,t,ht⟩:=rv.get e;rw[VF,hu] at h1;cases Ag h1;exact⟨t,ht⟩
 ·have hS0:=hS;obtain⟨o,es,ep,t,ho,_⟩:=hS;have I1:=I.laid (t':=tk) (h':=h') (a:=s.heap.objs.size) (o:=.ext fun h=>Ed X.prog X.w h s.heap.objs.size (FU [] ys)) kp (Ab _)
   ⟨hS0,⟨o,ho⟩,fun h1 h2 x e=>x.at e⟩;exact⟨.ref s.heap.objs.size,_,I1,rfl,q _ (I.hok.fresh (Ab _))⟩
def lJ(P:qV)(w:qa):List V->Hp->VK->Prop:=fun xs H Q=>∃(a:Ya)(zs:List Str),xs=[.ref a]/\H a=some (L9 P w a zs)/\
 ∀(D:Ya)(ys:List Str),H D=none->ys.Perm zs->ys.Pairwise (fun a b=>L8 b a=false)->Q (.ref D) (upd H D (.lst (ys.map V.str)))
theorem cp(hP:X.prog=P)(hw:X.w=w)(hc:X.calm=true):DH X (.builtin "sorted") (lJ P w):=by
 subst hP;subst hw;intro pins s σ H xs us Q I r h;obtain⟨a,zs,rfl,ha,q⟩:=h;obtain⟨u,rfl,rx⟩:=vals1 r;cases rx;have hh:X.A.handled=none:=I.ok.hd hc;have hS:Ed X.prog X.w s.heap a zs:=(I.hok a _ ha).1;have hz:zs.length<=1000000:=by
  obtain⟨o,es,ep,t,_,_,_,_,_,_,hb,_⟩:=hS;have:qt=4096:=rfl
  lia
 refine sorted_strs I hz (fun Q' hQ=>dj (A:=X.A.in1) hh hS fun vs h' d tv pm kp sz=>hQ vs (vs.map L2.tx) h' s.toks d (M3 (by simp) fun i x u h1 h2=>?_) pm kp (Fl sz)) q;rw[BV,Ax,h2] at h1;cases Ag h1;obtain⟨z,t,rfl⟩:=tv u (CK h2);exact⟨t,rfl⟩
def lQ(K:tN):List V->Hp->VK->Prop:=fun xs H Q=>∃(l:Ya)(ps:List (Ya×List Key))(sh:List Bool),xs=[.ref l]/\AJ K H l (ps.map fun p=>V.ref p.1)/\sh≠[]/\(∀p∈ps,H p.1=some (.tup (p.2.map kV))/\p.2.map kd=sh)/\ps.length<=1000000/\
 ∀(D:Ya)(qs:List (Ya×List Key)),H D=none->qs.Perm ps->qs.Pairwise (fun a b=>DU b.2 a.2=false)->Q (.ref D) (upd H D (.lst (qs.map fun p=>V.ref p.1)))
theorem Ra:DH X (.builtin "sorted") (lQ X.K):=by
 intro pins s σ H xs us Q I r h;obtain⟨l,ps,sh,rfl,hq,hne,hp,hz,q⟩:=h;obtain⟨u,rfl,rx⟩:=vals1 r;cases rx;obtain⟨AM,rv,pl,_⟩:=I.list hq;have ei:=WS rv;subst ei;have hl:(ps.map fun p=>Value.ref p.1).length=ps.length:=AL ..;have gi:∀k,k<ps.length->(ps.map fun p=>Value.ref p.1).getD k Value.none=Value.ref (ps.getD k (0,[])).1:=fun k hk=>by rw[Ct,Ax,Aq hk,Ct,Aq hk];rfl
 have mi:∀k,k<ps.length->ps.getD k (0,[])∈ps:=fun k hk=>by rw[Ct,Aq hk];exact Fj hk
 refine Vj (collect_list (A:=X.A.in1) pl.isList ⟨by lia,Kk ps,fun i j hi hj e=>?_,fun h2 h' kp=>?_,fun p h2 e pp hp2 kp2 hD=>?_⟩ (by rw[A3];lia))
 ·rw[hl] at hi hj;rw[gi i hi,gi j hj] at e;have e1:=(hp _ (mi i hi)).1;rw[Value.ref.inj e,(hp _ (mi j hj)).1] at e1;have e2:=Xz (HO.tup.inj (Ag e1));unfold Kk FN;rw[e2]
 ·refine gH (sh:=sh) (fun x hx=>?_) (fun x hx=>(hp x hx).2) hne (by lia);obtain⟨_,us,ru,o,h1,h2,n,h3⟩:=(show BO X.prog X.w H s.heap x.1 (.tup (x.2.map kV)) from I.hok x.1 _ (hp x hx).1);refine⟨us,ru,o,kp _ _ ?_,h2,n,h3⟩;show((s.heap.push (qg "list" #[] 0)).update s.heap.objs.size _).get? x.1=some o;rw[MM _ _ _ _ (BM (Ay h1))];exact BB _ h1
 ·rw[hl] at pp hp2;have pin:∀i∈p,i<ps.length:=fun i hi=>K4.mp (pp.mem_iff.mp hi);have plen:p.length=ps.length:=by rw[pp.length_eq,Qx]
  have eo:Fx (ps.map fun p=>Value.ref p.1) p=(p.map fun i=>ps.getD i (0,[])).map fun p=>Value.ref p.1:=by unfold Fx;rw[BV];exact DF fun i hi=>gi i (pin i hi)
  rw[eo] at hD;have z:((s.heap.push (qg "list" #[] 0)).update s.heap.objs.size (Obj.mapSeq (·++(ps.map fun p=>Value.ref p.1).toArray))).objs.size=s.heap.objs.size+1:=by rw[Q6,si]
  have I1:=I.laid (t':=s.toks) (h':=h2) (a:=s.heap.objs.size+1) (o:=.lst ((p.map fun i=>ps.getD i (0,[])).map fun p=>V.ref p.1)) (fun b ob q=>kp2 b ob (by show((s.heap.push (qg "list" #[] 0)).update s.heap.objs.size _).get? b=some ob;rw[MM _ _ _ _ (BM (Ay q))];exact BB _ q)) (Eo _)
   ⟨by rw[AL,AL,plen,A3];lia,_,e,Vr _,by rw[<-z];exact hD⟩;show EP X pins σ Q _ _;dsimp only;rw[z];refine⟨.ref (s.heap.objs.size+1),_,I1,rfl,q _ _ (I.hok.fresh (Eo _)) ?_ ?_⟩
  ·have:=pp.map fun i=>ps.getD i (0,[]);rw[Z4] at this;exact this
  ·rw[OI,N3];intro i j hi hj hij;have h1:=hp2 i j (by lia) (by lia);rw[Ct,Aq hi,Ct,Aq hj] at h1;have e3:=O1 lexOrd (ps.map (·.2)) (a:=FN ps p[j]) (b:=FN ps p[i]) (V2 (pin _ (Fj hj)));have e5:DU (FN ps p[j]) (FN ps p[i])=decide (Kk ps p[j]<Kk ps p[i]):=e3;show DU (FN ps p[j]) (FN ps p[i])=false;rw[e5];exact BJ (by simpa using h1)
end
abbrev Nr:hX:=WH
abbrev bp:hX:=Vk
abbrev bB:hX:=Vq
noncomputable def E9(c:Nat):Bool:=(!decide (([c]:List Nat)<("a" :Str).cps.toList))&&(!decide (("z" :Str).cps.toList<[c]))
def isNm(w:Str):Bool:=(!decide (w=""))&&w.cps.toList.all E9
noncomputable def HZ(w:Str):Str:=Txt.slice w (some 1) (some (-1))
def EK(w:Str):Bool:=Txt.startswith w "[" &&(Txt.endswith w "]" &&isNm (HZ w))
def C2(w:Str):Str×Str:=if EK w=true then("to",HZ w) else("word",w)
noncomputable def CW(t:Str):List Str:=(Txt.split t " ").filter fun p=> !decide (p="")
def UW(w:Str):Dt:=.tup [.str (C2 w).1,.str (C2 w).2]
def P5:Sp:=fun vs H Q _=>∃w:Str,vs=[.str w]/\w.length<=100000/\∀H',AO H H'->Q (.bl (isNm w)) H'
def aJ:Sp:=fun vs H Q _=>∃w:Str,vs=[.str w]/\w.length<=100000/\∀p H',AO H H'->H p=none->H' p=some (.tup [.str (C2 w).1,.str (C2 w).2])->Q (.ref p) H'
def aB:Sp:=fun vs H Q _=>∃t:Str,vs=[.str t]/\t.length<=10000/\∀D H',AO H H'->Rep H' (.lst ((CW t).map UW)) (.ref D)->Q (.ref D) H'
theorem pY:Az ["word"] ["word"] (Ao Nr):=by ac_rfl
theorem Tr(F:Aj K "is_name" "is_name" Nr f fd)(hall:mg "all" =none):AW P w K mg base Ah 1 f fd ["word"] P5:=by
 refine F.ok pY ?_ ?_
 ·rintro _ _ _ _ ⟨_,rfl,_⟩;rfl
 ·rintro _ A _ s H _ Q E hr ⟨x,rfl,hx,k⟩;refine⟨_,AS (An (PV (G0 Fy (pv 0) AY (Ar _))
   (Pc (BY (gj rfl) rfl hall boot_all (AE (Es (ts:=["sign"]) (cap:=[]) (ix:=[]) (cl:=[]) (J2 rfl rfl (by ac_rfl) (by ac_rfl)) (ZL (pv 0))
    (fun _ _ _ _ _=>Bc (i:=0) FY rfl (AZ rfl) (Cd rfl)) (fun _ _ _ _ _=>FG) (fun _ _ _ _ _=>iI WD WD AY (pv 0) AY)) AI))))),?_⟩;refine⟨_,rfl,rfl,_,rfl,?_⟩;by_cases e:x=""
  ·refine EZ (by rw[e]) ?_;have:isNm x=false:=by unfold isNm;rw[BZ e];rfl
   have q:=k H (AO.refl H);rw[this] at q;exact q
  ·refine HK (fun z=>e (V.str.inj z)) ?_;have en:isNm x=x.cps.toList.all E9:=by unfold isNm;rw[BJ e];rfl
   have el:x.cps.toList.length<=100000:=by simpa[Str.length] using hx
   refine⟨_,rfl,x,rfl,fun D hD=>XF (fun i H'=>i<=x.cps.toList.length/\H'=upd H D (.lst ((x.cps.toList.take i).map fun c=>.bl (E9 c)))) ⟨CH _,rfl⟩ ?_ ?_⟩
   ·rintro i c H' hc ⟨hi,rfl⟩;have hlt:i<x.cps.toList.length:=(BX.mp hc).1;refine⟨E3,_,rfl,_,_,rfl,rfl,_,rfl,?_⟩;have fin:∀b:Bool,b=E9 c->∃ys,(upd H D (.lst ((x.cps.toList.take i).map fun c=>.bl (E9 c)))) D=some (.lst ys)/\ys.length<sizeLine/\
     i+1<=x.cps.toList.length/\upd (upd H D (.lst ((x.cps.toList.take i).map fun c=>.bl (E9 c)))) D (.lst (ys++[V.bl b]))=upd H D (.lst ((x.cps.toList.take (i+1)).map fun c=>.bl (E9 c))):=by
     rintro b rfl;refine⟨_,AN,?_,hlt,?_⟩
     ·rw[AL,Bl,A3]
      lia
     ·rw[KD,EO,hc,BS];rfl
    by_cases h1:([c]:List Nat)<("a" :Str).cps.toList
    ·refine EZ h1 ?_;exact fin false (by unfold E9;rw[BZ h1];rfl)
    ·refine HK h1 ?_;refine⟨_,_,rfl,rfl,?_⟩;exact fin _ (by unfold E9;rw[BJ h1];rfl)
   ·rintro H' ⟨_,rfl⟩;refine⟨D,x.cps.toList.map E9,rfl,AJ.of ?_,?_⟩
    ·rw[AN,Cj,BV];rfl
    ·have q:=k _ (Aa (o:=.lst ((x.cps.toList.take x.cps.toList.length).map fun c=>.bl (E9 c))) hD);rw[en] at q;have ea:(x.cps.toList.map E9).all id=x.cps.toList.all E9:=by rw[List.all_map];rfl
     rw[ea];exact q
theorem ak:Az ["word","inner"] ["word"] (Ao bp):=by ac_rfl
variable{fdI:qX}
theorem nB(F:Aj K "read_word" "read_word" bp f fd)(FI:Aj K "is_name" "is_name" Nr fI fdI)(bI:Binds K fdI ["word"] [])(mI:mg "is_name" =some (.ref fI))(hall:mg "all" =none):
 AW P w K mg base Ah 2 f fd ["word"] aJ:=by
 have GI:AW P w K mg base Ah 1 fI fdI ["word"] P5:=Tr FI hall;refine F.ok ak ?_ ?_
 ·rintro _ _ _ _ ⟨_,rfl,_⟩;rfl
 ·rintro _ A _ s H _ Q E hr ⟨x,rfl,hx,k⟩;have hsz:x.length<=sizeLine:=by rw[A3];lia
  have hin:(HZ x).length<=100000:=BF (Oa x _ _) hx;refine⟨_,AU (Au (i:=1) ak.nd rfl (AZ rfl) (Fo Lf (pv 0) (Dk Ac) (Dk (Eb EY Ac))))
   (AU (A1 (PW.pt (FJ (EG (JS Jl PySem.F.slot_str_startswith PySem.F.type_str_startswith du (pv 0) (AE AY AI)))
    (FJ (EG (JS Jl PySem.F.slot_str_endswith PySem.F.type_str_endswith ir (pv 0) (AE AY AI)))
    (G9 (EG (Ck GI hr rfl mI FI.kp bI .nil A8 (AE (pv 1) AI)))))))
    (AS (An (CQ (AE AY (AE (pv 1) AI))))) BE)
   (AS (An (CQ (AE AY (AE (pv 0) AI)))))),?_⟩;refine⟨_,rfl,_,rfl,_,rfl,_,rfl,x,rfl,hsz,?_⟩;have plain:EK x=false->∀H1,AO H H1->∀p,H1 p=none->Q (.ref p) (upd H1 p (.tup [.str "word",.str x])):=fun e H1 s1 p hp=>by
   have er:C2 x=(("word" :Str),x):=by unfold C2;rw[e];rfl
   refine k p _ (s1.upd (s1.free hp)) (s1.free hp) ?_;rw[AN,er]
  refine⟨_,rfl,rfl,_,_,rfl,rfl,_,rfl,?_⟩
  cases e1:Txt.startswith x "[" with
  |false=>refine BK (BK ⟨_,rfl,by show 2<=sizeLine;decide,plain (by unfold EK;rw[e1];rfl) H (AO.refl H)⟩)
  |true=>
   refine Bm ⟨_,rfl,rfl,_,_,rfl,rfl,_,rfl,?_⟩
   cases e2:Txt.endswith x "]" with
   |false=>refine BK (BK ⟨_,rfl,by show 2<=sizeLine;decide,plain (by unfold EK;rw[e1,e2];rfl) H (AO.refl H)⟩)
   |true=>
    refine Bm ⟨_,rfl,HZ x,rfl,hin,fun H1 s1=>⟨_,rfl,?_⟩⟩
    cases e3:isNm (HZ x) with
    |false=>refine BK ⟨_,rfl,by show 2<=sizeLine;decide,plain (by unfold EK;rw[e1,e2,e3];rfl) H1 s1⟩
    |true=>
     refine Bm ⟨_,rfl,by show 2<=sizeLine;decide,fun p hp=>?_⟩;have er:C2 x=(("to" :Str),HZ x):=by unfold C2 EK;rw[e1,e2,e3];rfl
     refine k p _ (s1.upd (s1.free hp)) (s1.free hp) ?_;rw[AN,er];rfl
theorem VX(t p:Str)(h:p∈Txt.split t " "):p.length<=t.length:=by
 have hw:=MZ t " " (by decide);have h2:p.length<=((Txt.split t " ").map (·.length)).sum:=by
  generalize Txt.split t " " =L at h
  induction L with
  |nil=>cases h
  |cons a r ih=>
   rw[Av,B1];rcases Ba.mp h with e|e
   ·subst e;lia
   ·have:=ih e;lia
 have h3:1<=(Txt.split t " ").length:=U9 h
 lia
theorem pX:Az ["text"] ["text"] (Ao bB):=by ac_rfl
theorem mf(F:Aj K "split_up" "split_up" bB f fd)(HR:Hv P w K mg base "read_word" 2 ["word"] aJ):
 AW P w K mg base Ah 3 f fd ["text"] aB:=by
 refine F.ok pX ?_ ?_
 ·rintro _ _ _ _ ⟨_,rfl,_⟩;rfl
 ·rintro _ A _ s H _ Q E hr ⟨x,rfl,hx,k⟩;refine⟨_,AS (An (Es (ts:=["piece"]) (cap:=[]) (ix:=[]) (cl:=[]) (J2 rfl rfl (by ac_rfl) (by ac_rfl))
   (GN (JS Jl U8 U7 SG (pv 0) (AE AY AI)))
   (fun _ _ _ _ _=>Bc (i:=0) FY rfl (AZ rfl) (Cd rfl)) (fun _ _ _ _ _=>O4 (Aw Fy (pv 0) AY (Ar _)))
   (fun _ _ _ _ _=>Ca HR hr rfl A8 (AE (pv 0) AI)))),?_⟩;have hlen:(Txt.split x " ").length<=10001:=by
   have:=MZ x " " (by decide)
   lia
  refine⟨_,rfl,rfl,x,_,rfl,rfl,by ac_rfl,by rw[A3];lia,fun D0 hD0=>?_⟩;refine⟨D0,rfl,⟨_,AJ.of AN⟩,fun D hD=>?_⟩;have hne:D0≠D:=A2 AN hD;have hDn:H D=none:=(Aa hD0).free hD;refine Fm (xs:=(Txt.split x " ").map V.str) (fun i H'=>AO H H'/\H' D0=some (.lst ((Txt.split x " ").map V.str))/\∃ys,H' D=some (.lst ys)/\ys.length<=i/\
   Ae (Ex H' D) ((((Txt.split x " ").take i).filter fun p:Str=> !decide (p="")).map UW) ys) ?_ ?_ ?_ ?_
  ·refine⟨((AO.refl H).upd hD0).upd hDn,?_,[],AN,Ab _,Ae.nil⟩;rw[AQ hne,AN]
  ·rintro i H' _ ⟨_,h0,_⟩;exact AJ.of h0
  ·rintro i v H' hv ⟨sm,h0,ys,hy,hyl,rp⟩;rw[Ax] at hv
   cases ep:(Txt.split x " ")[i]?with
   |none=>rw[ep] at hv;cases hv
   |some pc=>
    rw[ep] at hv;obtain rfl:V.str pc=v:=Ag hv;have hi:i<(Txt.split x " ").length:=(BX.mp ep).1;have hpl:pc.length<=100000:=by
     have:=VX x pc (CK ep)
     lia
    refine⟨E3,⟨_,rfl,rfl,_,rfl,?_⟩⟩;by_cases e:pc=""
    ·refine EZ (by rw[e]) ⟨sm,h0,ys,hy,by lia,?_⟩;rw[EO,ep,OE];have:(Option.toList (some pc)).filter (fun p:Str=> !decide (p=""))=[]:=by rw[e];rfl
     rw[this,C5];exact rp
    ·refine HK (fun z=>e (V.str.inj z)) ⟨_,rfl,pc,rfl,hpl,fun p H2 s2 hp hp2=>?_⟩;have hpD:p≠D:=(A2 hy hp).symm;have hyy:H2 D=some (.lst ys):=s2 _ _ hy;refine⟨ys,hyy,by rw[A3];lia,(sm.trans s2).upd hDn,by rw[AQ hne];exact s2 _ _ h0,ys++[.ref p],AN,by rw[A7,DD];lia,?_⟩;rw[EO,ep,OE];have:(Option.toList (some pc)).filter (fun p:Str=> !decide (p=""))=[pc]:=by show List.filter (fun p:Str=> !decide (p="")) [pc]=[pc];rw[Gn (by simpa using e)];rfl
     rw[this,BS,Ex.upd];refine(rp.same (Ex.mono s2)).snoc ?_;refine Rep.Km (Ex.at hp2 hpD) ?_;exact(Ae.snoc (Ae.snoc Ae.nil (Rep.str _)) (Rep.str _))
  ·rintro H' ⟨sm,_,ys,hy,_,rp⟩;rw[AL,Cj] at rp;exact k D H' sm (Rep.Fc hy (rp.same Ex.sub))
structure Ii(K:tN)(mg:Str->Option AB)(cR fR:Ya):Prop where
 mR:mg "Refusal" =some (.ref cR)
 rd:readsIn K cR (.type "type")=true
 fi:findCls K (.ref cR) (.type "type") "__init__" =some (.val (.ref fR))
 sp:sP K (.ref cR) "__getattribute__" =some (some (.builtin "type.__getattribute__"))
 kp:qo K (.ref fR)=true
 cat:UP K cR
def Ib(K:tN):Sp:=fun vs H Q _=>∃e C ws msg,vs=[.ref e,.str msg]/\H e=some (xO e C none ws)/\DY K C "answer" /\∀D,H D=none->D≠e->Q .BA (upd (upd H D (.xd [("answer",.str msg)])) e (xO e C (some D) ws))
theorem nF:Az ["self","answer"] ["self","answer"] (Ao Jt):=by ac_rfl
theorem k7(F:Aj K "__init__" "Refusal.__init__" Jt f fd):AW P w K mg base Ah 1 f fd ["self","answer"] (Ib K):=by
 refine F.ok nF ?_ ?_
 ·rintro _ _ _ _ ⟨_,_,_,_,rfl,_⟩;rfl
 ·rintro _ A _ s H _ Q E hr ⟨e,C,ws,msg,rfl,he,xa,q⟩;refine⟨_,(AS (ja (pv 0) (pv 1) rfl)),?_⟩;exact⟨_,rfl,_,rfl,e,C,ws,rfl,he,xa,fun d hd ne=>q d hd ne⟩
variable{fR cR:Ya}{fdR:qX}
theorem Lg{st:hX}{p1 p2 p3 p4 p5 p6:Pos}(F:Aj K "__init__" qual st f fd)(S:Az ["self"] ["self"] (Ao st))
 (hb:Fq st=[.Expr (.Call (.Attribute (.Name "Refusal" p1) "__init__" p2) [.Name "self" p3,.Constant (.str msg) k p4] [] p5) p6])(hg:(Ao st).names.lookup ("Refusal" :Str)=some .globalImplicit)(hs:(Ao st).names.lookup ("self" :Str)=some .local)
 (T:Ii K mg cR fR)(G:AW P w K mg base Ah 1 fR fdR ["self","answer"] (Ib K))(bR:Binds K fdR ["self","answer"] [])(xa:DY K C "answer")
 (ht:∀env:Env,∃pl:Sem Bool,qZ (.Call (.Attribute (.Name "Refusal" p1) "__init__" p2) [.Name "self" p3,.Constant (.str msg) k p4] [] p5) env=(do
  let ov<-qZ (.Name "Refusal" p1) env
  sZ p2.atName
  let(f,first)<-rS [ov] (rg ov "__init__" pl)
  callWith p5 f first (qf p5 (dy [.Name "self" p3,.Constant (.str msg) k p4] env)) (rL p5 (qk [] env)))):AW P w K mg base Ah 2 f fd ["self"] (Fv C "answer" msg):=by
 refine F.ok S (fun vs H Q E h=>?_) (fun cdv A outer s H vs Q E hr h=>?_)
 ·obtain⟨e,ws,rfl,_⟩:=h;rfl
 ·obtain⟨e,ws,rfl,he,q⟩:=h;rw[hb];obtain⟨pl,hpl⟩:=ht (Ja Ah P w K mg base ["self"] qual (Ao st) f cdv A outer s H E).env;refine⟨_,(AS (Bn (gR (pl:=pl) hg T.mR T.rd T.fi T.sp T.kp G hr bR .nil A8 (AE (pv 0 (hv:=AZ hs)) (AE AY AI)) (ht:=hpl)))),?_⟩;exact⟨_,rfl,e,C,ws,msg,rfl,he,xa,fun D hD ne=>q D hD ne⟩
structure Rz(P:qV)(w:qa)(K:tN)(mg:Str->Option AB)(base:qY)(cR:Ya)(x msg:Str):Prop where
 ex:∃C fI fd bm,mg x=some (.ref C)/\Um K C fI bm/\AW P w K mg base Ah 2 fI fd ["self"] (Fv C "answer" msg)/\Binds K fd ["self"] []/\UH K C cR/\DY K C "answer"
def Xw(K:tN)(cR:Ya)(E:XK)(H:Hp)(msg:Str):Prop:=∀C D H',UH K C cR->DY K C "answer" ->AO H H'->H' D=some (.xd [("answer",.str msg)])->E (.ref C) (some D) H'
theorem Xw.mono{E:XK}(h:Xw K cR E H msg)(s:AO H H1):Xw K cR E H1 msg:=fun C D H' a b c d=>h C D H' a b (s.trans c) d
theorem KW{E:XK}{np:Pos}(R:Rz P w K mg base cR x msg)
 (hr:Bi (k+3) (Gg P w K mg base N qual scope f cd A outer s H E).A)(hg:Gl (Gg P w K mg base N qual scope f cd A outer s H E) x)(hdb:(x==("__debug__" :Str))=false:=by decide):
 PS (Gg P w K mg base N qual scope f cd A outer s H E) (.Raise (some (.Call (.Name x np) [] [] cpos)) none pos) (fun _ _ H=>Xw K cR E H msg):=by
 obtain⟨C,fI,fd,bm,hm,M,F,hb,xs,xa⟩:=R.ex;have hr3:Bi (2+1) (Gg P w K mg base N qual scope f cd A outer s H E).A:=hr.mono (by lia);intro pins s1 σ H1 D I h;refine iA M F hr3 hg hm hb hdb pins s1 σ H1 D I fun e D' ws he hD ne=>h C D' _ xs xa ?_ ?_
 ·exact AO.trans (Aa hD) (Aa (by rw[AQ (DG ne)];exact he))
 ·rw[AQ ne,AN]
theorem iT:Az ["self"] ["self"] (Ao RH):=by ac_rfl
theorem e9(F:Aj K "__init__" "NoPage.__init__" RH f fd)(T:Ii K mg cR fR)(G:AW P w K mg base Ah 1 fR fdR ["self","answer"] (Ib K))(bR:Binds K fdR ["self","answer"] [])(xa:DY K C "answer"):
 AW P w K mg base Ah 2 f fd ["self"] (Fv C "answer" "no page"):=Lg F iT rfl rfl rfl T G bR xa (fun _=>⟨_,rfl⟩)
theorem gb:Az ["self"] ["self"] (Ao RJ):=by ac_rfl
theorem eB(F:Aj K "__init__" "NoName.__init__" RJ f fd)(T:Ii K mg cR fR)(G:AW P w K mg base Ah 1 fR fdR ["self","answer"] (Ib K))(bR:Binds K fdR ["self","answer"] [])(xa:DY K C "answer"):
 AW P w K mg base Ah 2 f fd ["self"] (Fv C "answer" "no name"):=Lg F gb rfl rfl rfl T G bR xa (fun _=>⟨_,rfl⟩)
theorem dC:Az ["self"] ["self"] (Ao Q9):=by ac_rfl
theorem cg(F:Aj K "__init__" "SamePage.__init__" Q9 f fd)(T:Ii K mg cR fR)(G:AW P w K mg base Ah 1 fR fdR ["self","answer"] (Ib K))(bR:Binds K fdR ["self","answer"] [])(xa:DY K C "answer"):
 AW P w K mg base Ah 2 f fd ["self"] (Fv C "answer" "same page"):=Lg F dC rfl rfl rfl T G bR xa (fun _=>⟨_,rfl⟩)
theorem jq:Az ["self"] ["self"] (Ao RT):=by ac_rfl
theorem gC(F:Aj K "__init__" "Taken.__init__" RT f fd)(T:Ii K mg cR fR)(G:AW P w K mg base Ah 1 fR fdR ["self","answer"] (Ib K))(bR:Binds K fdR ["self","answer"] [])(xa:DY K C "answer"):
 AW P w K mg base Ah 2 f fd ["self"] (Fv C "answer" "taken"):=Lg F jq rfl rfl rfl T G bR xa (fun _=>⟨_,rfl⟩)
theorem fe:Az ["self"] ["self"] (Ao RF):=by ac_rfl
theorem dI(F:Aj K "__init__" "NoPlace.__init__" RF f fd)(T:Ii K mg cR fR)(G:AW P w K mg base Ah 1 fR fdR ["self","answer"] (Ib K))(bR:Binds K fdR ["self","answer"] [])(xa:DY K C "answer"):
 AW P w K mg base Ah 2 f fd ["self"] (Fv C "answer" "no place"):=Lg F fe rfl rfl rfl T G bR xa (fun _=>⟨_,rfl⟩)
theorem fJ:Az ["self"] ["self"] (Ao RE):=by ac_rfl
theorem dZ(F:Aj K "__init__" "NoWords.__init__" RE f fd)(T:Ii K mg cR fR)(G:AW P w K mg base Ah 1 fR fdR ["self","answer"] (Ib K))(bR:Binds K fdR ["self","answer"] [])(xa:DY K C "answer"):
 AW P w K mg base Ah 2 f fd ["self"] (Fv C "answer" "no words"):=Lg F fJ rfl rfl rfl T G bR xa (fun _=>⟨_,rfl⟩)
def DZ(ws:List PR):Dt:=.lst (ws.map Df)
noncomputable def Lz(ws:List PR):List Str:=(ws.filter fun p=>decide (p.1=("to" :Str))).map (·.2)
noncomputable def Bp(ws:List PR)(a b:Str):List PR:=ws.map fun p=>if p=(("to" :Str),a) then(("to" :Str),b) else p
def ar:Sp:=fun vs H Q _=>∃v ws a b,vs=[v,.str a,.str b]/\Rep H (DZ ws) v/\ws.length<=100000/\∀u H',AO H H'->Rep H' (DZ (Bp ws a b)) u->Q u H'
theorem oa:Az ["words","name","fresh"] ["words","name","fresh"] (Ao Mb):=by ac_rfl
theorem mG(F:Aj K "point_on" "point_on" Mb f fd):AW P w K mg base Ah 1 f fd ["words","name","fresh"] ar:=by
 refine F.ok oa ?_ ?_
 ·rintro _ _ _ _ ⟨_,_,_,_,rfl,_⟩;rfl
 ·rintro cdv A _ s H _ Q E hr ⟨v,ws,a,b,rfl,rp,hz,q⟩;have hu1:=Cm hr;have hu:(A.deeper (rK "point_on" (Ao Mb) s.heap.objs.size f cdv)).units<qh:=by lia
  refine⟨_,(AS (An (Es (ts:=["word"]) (cap:=["name","fresh"]) (ix:=[1,2]) (gc rfl rfl (by ac_rfl) (by ac_rfl) rfl (by ac_rfl) rfl rfl rfl rfl rfl rfl rfl rfl) (GN (pv 0))
   (fun _ _ _ _ _=>Bc (i:=0) (qN (by ac_rfl) (by ac_rfl) (by ac_rfl)) rfl (AZ rfl) (Cd rfl)) (fun _ _ _ _ _=>FG)
   (fun _ _ _ _ _=>ij (Aw (XT hu) (pv 0) (CQ (AE AY (AE (pv 1) AI))) (Ar _)) (CQ (AE AY (AE (pv 2) AI))) (pv 0))))),?_⟩;obtain⟨l,xs,rfl,hl,rr⟩:=Et rp;refine⟨_,rfl,l,rfl,⟨_,AJ.of hl⟩,fun D hD=>Fm (xs:=xs) (fun i H'=>CI H D ((Bp (ws.take i) a b).map Df) H') ?_ (fun i H' _ c=>AJ.of (c.same _ _ hl)) (fun i x H' ex c=>?_) fun H' c=>?_⟩
  ·exact CI.start hD
  ·obtain⟨p,ep,rx⟩:=Hr rr ex;obtain⟨ad,rfl,ha⟩:=NK rx;have ha':=c.same _ _ ha;refine⟨E3,_,rfl,_,rfl,(by show 2<=sizeLine;decide),fun t ht=>?_⟩;have c2:=c.ext (Aa (o:=.tup [.str "to",.str a]) ht);refine⟨ad,t,p,(("to" :Str),a),rfl,rfl,by rw[AQ (A2 ha' ht)];exact ha',AN,_,rfl,?_⟩;have hlen:((Bp (ws.take i) a b).map Df).length<=200000:=by
    have h2:=F8 i ws;unfold Bp;rw[AL,AL]
    lia
   have es:Bp (ws.take (i+1)) a b=Bp (ws.take i) a b++[if p=(("to" :Str),a) then(("to" :Str),b) else p]:=Gs ep;rw[es,BS];by_cases z:p=(("to" :Str),a)
   ·rw[BZ z,AH z];refine Bm ⟨_,rfl,(by show 2<=sizeLine;decide),fun t2 ht2=>?_⟩;have c3:=c2.ext (Aa (o:=.tup [.str "to",.str b]) ht2);obtain⟨ys,hys,_⟩:=c2.lst;refine c3.push (TU (Ex.at AN ?_)) hlen;intro zz;rw[zz,hys] at ht2;cases ht2
   ·rw[BJ z,AF z];refine BK ⟨_,rfl,?_⟩;refine c2.push (TU (Ex.at ?_ ?_)) hlen
    ·rw[AQ (A2 ha' ht)];exact ha'
    ·intro zz;rw[zz,hD] at ha;cases ha
  ·have e:xs.length=ws.length:=by have:=rr.1;rw[AL] at this;lia
   rw[e,Cj] at c;exact q _ _ c.same c.done
structure HW(mg:Str->Option AB):Prop where
 sum:mg "sum" =none
 so:mg "sorted" =none
 set:mg "set" =none
 len:mg "len" =none
 en:mg "enumerate" =none
 lst:mg "list" =none
 all:mg "all" =none
 mn:mg "min" =none
abbrev Pg:=Str×List PR
def As(AA:List (Str×V)):List (Key×V):=HX Sum.inr id AA
structure DV(H:Hp)(AA:List (Str×V))(AD:List Pg):Prop where
 len:AA.length=AD.length
 row:∀(i:Nat) kv p,AA[i]? =some kv->AD[i]? =some p->kv.1=p.1/\Rep H (DZ p.2) kv.2
theorem DV.same{H H':Hp}{AA:List (Str×V)}{AD:List Pg}(g:DV H AA AD)(s:AO H H'):DV H' AA AD:=⟨g.len,fun i kv p a b=>⟨(g.row i kv p a b).1,(g.row i kv p a b).2.same s⟩⟩
variable{AD:List Pg}{kk:List (Key×V)}
theorem DV.ex{AA:List (Str×V)}(g:DV H AA AD)(hd:H d=some (.dK kk)):DV (Ex H d) AA AD:=⟨g.len,fun i kv p a b=>⟨(g.row i kv p a b).1,Ma hd (g.row i kv p a b).2⟩⟩
structure MB(AD:List Pg):Prop where
 Cg:AD.length<=1000
 short:∀p∈AD,p.2.length<=100000
theorem LZ{o:HO}:AO (Ex H d) (upd H d o):=fun b u e=>by
 unfold Ex at e;by_cases z:b=d
 ·rw[AH z] at e;cases e
 ·rw[AF z] at e;rw[AQ z];exact e
theorem Wh{o:HO}(hd:H d=some (.dK kk))(s:AO (upd H d o) H2):AO H (upd H2 d (.dK kk)):=fun b u e=>by
 by_cases z:b=d
 ·subst z;rw[hd] at e;cases e;exact AN
 ·rw[AQ z];exact s b u (by rw[AQ z];exact e)
theorem PX{AA:List (Str×V)}{k:Key}{x:V}(h:(As AA)[i]? =some (k,x)):∃n,AA[i]? =some (n,x)/\k=Sum.inr n:=by
 have h':(AA.map fun p=>((Sum.inr p.1:Key),p.2))[i]? =some (k,x):=h;rw[Ax] at h'
 cases e:AA[i]?with
 |none=>rw[e] at h';cases h'
 |some kv=>rw[e] at h';have:=Ag h';cases this;exact⟨kv.1,rfl,rfl⟩
noncomputable def Ie(ws:List PR)(a:Str):Int:=((ws.countP fun q=>decide (q=(("to" :Str),a)):Nat):Int)
def cnt(AD:List Pg)(a:Str):Int:=(AD.map fun p=>Ie p.2 a).sum
def ZP:Sp:=fun vs H Q _=>∃d a AA AD,vs=[.ref d,.str a]/\H d=some (.dK (As AA))/\DV H AA AD/\MB AD/\∀H',AO H H'->Q (.int (cnt AD a)) H'
noncomputable def Hf(AD:List Pg)(a:Str):List Str:=(AD.filter fun p=>p.2.any fun q=>decide (q=(("to" :Str),a))).map (·.1)
theorem nG:Az ["pages","name"] ["pages","name"] (Ao Q2):=by ac_rfl
theorem Rm(r:Ae H (ns.map Dt.int) ys):ys=ns.map V.int:=by
 apply Jp;intro i;rw[Ax]
 cases e:ys[i]?with
 |none=>have h1:=N4.mp e;have h2:=r.1;rw[AL] at h2;rw[El (by lia)];rfl
 |some y=>obtain⟨n,hn,rn⟩:=Hr r e;rw[hn];cases rn;rfl
theorem kh(F:Aj K "count_pointers" "count_pointers" Q2 f fd)(O:HW mg):AW P w K mg base Ah 1 f fd ["pages","name"] ZP:=by
 refine F.ok nG ?_ ?_
 ·rintro _ _ _ _ ⟨_,_,_,_,rfl,_⟩;rfl
 ·rintro _ A _ s H _ Q E hr ⟨d,a,AA,AD,rfl,hd,g,sm,q⟩;have hu1:=Cm hr;refine⟨_,(AS (An (BY (V3 rfl) rfl O.sum tZ (AE (Xn (Es (ts:=["words"]) (cap:=["name"]) (ix:=[1]) (Hq rfl rfl (by ac_rfl) (by ac_rfl) rfl rfl rfl rfl rfl)
   (jV (NF MG U1 tj Wc (pv 0))) (fun _ _ _ _ _=>Bc (i:=0) (Gi (by ac_rfl)) rfl (AZ rfl) (Cd rfl)) (fun _ _ _ _ _=>FG)
   (fun _ _ _ _ _=>lW K rfl D9 tm tu (cT hu1) (pv 0) (AE (CQ (AE AY (AE (pv 1) AI))) AI)))) AI)))),?_⟩;refine⟨d,As AA,hd,_,rfl,.inr (.inr (.inl ⟨rfl,.inl ⟨_,hd⟩⟩)),d,_,rfl,rfl,hd,fun p hp=>⟨p,d,As AA,rfl,AN,by rw[AQ (A2 hd hp)];exact hd,fun o D hD=>?_⟩⟩;have s1:AO H (upd H p (HH p d)):=Aa hp;have hd1:(upd H p (HH p d)) d=some (.dK (As AA)):=s1 _ _ hd;have g1:=(g.same s1).ex hd1;generalize upd H p (HH p d)=H1 at s1 hd1 g1 hD;have g2:=g1.same (LZ (o:=.BR o (.dK (As AA))));have hz2:(upd H1 d (.BR o (.dK (As AA)))) d=some (.BR o (.dK (As AA))):=AN;refine fc (fun i H'=>CI (upd H1 d (.BR o (.dK (As AA)))) D (((AD.take i).map fun p=>Ie p.2 a).map Dt.int) H') (CI.start hD) (fun i H' c=>c.same _ _ hz2) (fun i k x H' ex c=>?_) fun H' c=>?_
  ·obtain⟨n,ekv,rfl⟩:=PX ex;have hi:i<AD.length:=by rw[<-g.len];exact(BX.mp ekv).1
   have ep:AD[i]? =some AD[i]:=Aq hi;obtain⟨_,rw_⟩:=g2.row i _ _ ekv ep;obtain⟨l,xs,rfl,hl,rr⟩:=Et (rw_.same c.same);refine⟨E3,_,rfl,.inl ⟨rfl,_,AJ.of hl⟩,_,rfl,(by show 2<=sizeLine;decide),fun t ht=>?_⟩;have st:=Aa (o:=.tup [.str "to",.str a]) ht;have c2:=c.ext st;refine⟨t,l,(("to" :Str),a),AD[i].2,xs,rfl,rfl,AN,st _ _ hl,rr.same st,?_⟩;rw[Gs (f:=fun p:Pg=>Ie p.2 a) ep,BS];refine c2.push (.int _) ?_;have h1:=F8 i AD;have h2:=sm.Cg;rw[AL,AL]
   lia
  ·have e:(As AA).length=AD.length:=by show(AA.map _).length=_;rw[AL];exact g.len
   rw[e,Cj] at c;obtain⟨ys,hy,ry⟩:=c.lst;have nd:D≠d:=fun z=>by rw[z,AN] at hD;cases hD
   refine⟨o,c.same _ _ hz2,D,(AD.map fun p:Pg=>Ie p.2 a),rfl,AJ.of ?_,q _ (s1.trans (Wh hd1 c.same))⟩;rw[AQ nd,hy,Rm ry]
theorem lr:((["page","words"]:List Str)++(["name"]:List Str)).Nodup:=by ac_rfl
def Z1:Sp:=fun vs H Q _=>∃d a AA AD,vs=[.ref d,.str a]/\H d=some (.dK (As AA))/\DV H AA AD/\MB AD/\AD.length<64/\∀u H',AO H H'->Rep H' (.lst ((Ih (Hf AD a)).map Dt.str)) u->Q u H'
theorem Jx{ns:List Str}(r:Ae H (ns.map Dt.str) ys):ys=ns.map V.str:=by
 apply Jp;intro i;rw[Ax]
 cases e:ys[i]?with
 |none=>have h1:=N4.mp e;have h2:=r.1;rw[AL] at h2;rw[El (by lia)];rfl
 |some y=>obtain⟨n,hn,rn⟩:=Hr r e;rw[hn];cases rn;rfl
theorem ng:Az ["pages","name"] ["pages","name"] (Ao Q3):=by ac_rfl
theorem kJ(F:Aj K "pages_pointing" "pages_pointing" Q3 f fd)(O:HW mg):AW P w K mg base Ah 1 f fd ["pages","name"] Z1:=by
 refine F.ok ng ?_ ?_
 ·rintro _ _ _ _ ⟨_,_,_,_,rfl,_⟩;rfl
 ·rintro _ A _ s H _ Q E hr ⟨d,a,AA,AD,rfl,hd,g,sm,h64,q⟩;have hu1:=Cm hr;refine⟨_,(AS (An (BY Vn rfl O.so LC (AE (Xn (Es (ts:=["page","words"]) (cap:=["name"]) (ix:=[1]) (Hq rfl rfl (by ac_rfl) (by ac_rfl) rfl rfl rfl rfl rfl)
   (XD (NF MG U3 tw Ww (pv 0))) (fun _ _ _ _ _=>Xq (K:=K) (i:=0) (j:=1) rfl rfl lr rfl (AZ rfl) (Cd rfl) rfl (AZ rfl) (Cd rfl))
   (fun _ _ _ _ _=>O4 (Aw (gQ hu1) (CQ (AE AY (AE (pv 2) AI))) (pv 1) rfl)) (fun _ _ _ _ _=>pv 0))) AI)))),?_⟩;refine⟨d,As AA,hd,_,rfl,.inr (.inr (.inl ⟨rfl,.inl ⟨_,hd⟩⟩)),d,_,rfl,rfl,hd,fun p hp=>⟨p,d,As AA,rfl,AN,by rw[AQ (A2 hd hp)];exact hd,fun o D hD=>?_⟩⟩;have s1:AO H (upd H p (Hy p d)):=Aa hp;have hd1:(upd H p (Hy p d)) d=some (.dK (As AA)):=s1 _ _ hd;have g1:=(g.same s1).ex hd1;generalize upd H p (Hy p d)=H1 at s1 hd1 g1 hD;have g2:=g1.same (LZ (o:=.BR o (.dK (As AA))));have hz2:(upd H1 d (.BR o (.dK (As AA)))) d=some (.BR o (.dK (As AA))):=AN;refine dB (fun i H'=>CI (upd H1 d (.BR o (.dK (As AA)))) D ((Hf (AD.take i) a).map Dt.str) H') (CI.start hD) (fun i H' c=>c.same _ _ hz2) (fun i k x pr H' ex hpr c=>?_) fun H' c=>?_
  ·obtain⟨n,ekv,rfl⟩:=PX ex;have hi:i<AD.length:=by rw[<-g.len];exact(BX.mp ekv).1
   have ep:AD[i]? =some AD[i]:=Aq hi;obtain⟨en,rw_⟩:=g2.row i _ _ ekv ep;have en:n=AD[i].1:=en;obtain⟨l,xs,rfl,hl,rr⟩:=Et (rw_.same c.same);have s2:=Aa (o:=.tup [kV (Sum.inr n),.ref l]) hpr;have c2:=c.ext s2;have hl2:=s2 _ _ hl;have rr2:=rr.same s2;refine⟨pr,_,rfl,AV.of AN,rfl,_,_,rfl,_,_,rfl,rfl,aa,_,rfl,(by show 2<=sizeLine;decide),fun t ht=>?_⟩;have st:=Aa (o:=.tup [.str "to",.str a]) ht;have c3:=c2.ext st;refine⟨_,rfl,t,l,(("to" :Str),a),AD[i].2,xs,rfl,rfl,AN,st _ _ hl2,rr2.same st,_,rfl,?_⟩;have es:Hf (AD.take (i+1)) a=Hf (AD.take i) a++(if(AD[i].2.any fun q=>decide (q=(("to" :Str),a)))=true then[AD[i].1] else[]):=by unfold Hf;rw[take_succ_filter ep,BS];congr 1;split<;>rfl
   rw[es,BS];by_cases z:(AD[i].2.any fun q=>decide (q=(("to" :Str),a)))=true
   ·rw[z,AH rfl];refine Bm ⟨_,rfl,?_⟩;have e2:kV (Sum.inr n)=V.str AD[i].1:=by rw[<-en];rfl
    refine c3.push (d:=.str AD[i].1) (y:=kV (Sum.inr n)) (by rw[e2];exact .str _) ?_;have h1:=F8 i AD;have h2:=sm.Cg;have h3:=Gp (fun p:Pg=>p.2.any fun q=>decide (q=(("to" :Str),a))) (AD.take i);unfold Hf;rw[AL,AL]
    lia
   ·have z':(AD[i].2.any fun q=>decide (q=(("to" :Str),a)))=false:=(Bool.not_eq_true _).mp z;rw[z',AF CY,LA,C5];exact BK c3
  ·have e:(As AA).length=AD.length:=by show(AA.map _).length=_;rw[AL];exact g.len
   rw[e,Cj] at c;obtain⟨ys,hy,ry⟩:=c.lst;have nd:D≠d:=fun z=>by rw[z,AN] at hD;cases hD
   have s3:=s1.trans (Wh hd1 c.same);refine⟨o,c.same _ _ hz2,D,Hf AD a,rfl,AJ.of (by rw[AQ nd,hy,Jx ry]),?_,fun D2 ys2 hD2 hp2 hs2=>?_⟩
   ·have h3:=Gp (fun p:Pg=>p.2.any fun q=>decide (q=(("to" :Str),a))) AD;unfold Hf;rw[AL]
    lia
   ·refine q _ _ (s3.trans (Aa hD2)) ?_;show Rep _ (.lst ((Ik Ew (Hf AD a)).map Dt.str)) _;rw[<-Ph Ew hp2 hs2];exact Rep.Fc AN (XC ys2)
theorem lL:((["place","word"]:List Str)++(["plain"]:List Str)).Nodup:=by ac_rfl
noncomputable def Ef(z:Str):Nat->List PR->List Int
 |_,[]=>[]
 |k,p::ws=>(if p=(("word" :Str),z) then[(k:Int)] else[])++Ef z (k+1) ws
theorem We(z:Str)(p:PR):∀(ws:List PR)(k:Nat),Ef z k (ws++[p])=Ef z k ws++(if p=(("word" :Str),z) then[((k+ws.length:Nat):Int)] else[])
 |[],k=>by simp[Ef]
 |q::ws,k=>by rw[MV,Ef,Ef,We z p ws (k+1),Bb,CP];rw[show k+1+ws.length=k+(ws.length+1) by lia]
theorem SN(z:Str):∀(ws:List PR)(k:Nat),(Ef z k ws).length<=ws.length
 |[],k=>by simp[Ef]
 |q::ws,k=>by have:=SN z ws (k+1);rw[Ef,A7,CP];split<;>simp<;>lia
def Zn:Sp:=fun vs H Q _=>∃v ws z,vs=[v,.str z]/\Rep H (DZ ws) v/\ws.length<=100000/\∀u H',AO H H'->Rep H' (.lst ((Ef z 0 ws).map Dt.int)) u->Q u H'
noncomputable def Bo(p:PR):Str:=if p.1=("to" :Str) then "[" ++p.2++ "]" else p.2
def By(ws:List PR):Str:=II " " (ws.map Bo)
def aS:Sp:=fun vs H Q _=>∃v p,vs=[v]/\Rep H (Df p) v/\p.2.length<=4000000/\Q (.str (Bo p)) H
theorem oE:Az ["words","plain"] ["words","plain"] (Ao Oe):=by ac_rfl
theorem lP(F:Aj K "places_of" "places_of" Oe f fd)(O:HW mg):AW P w K mg base Ah 1 f fd ["words","plain"] Zn:=by
 refine F.ok oE ?_ ?_
 ·rintro _ _ _ _ ⟨_,_,_,rfl,_⟩;rfl
 ·rintro cdv A _ s H _ Q E hr ⟨v,ws,z,rfl,rp,hz,q⟩;have hu1:=Cm hr;have hu:(A.deeper (rK "places_of" (Ao Oe) s.heap.objs.size f cdv)).units<qh:=by lia
  refine⟨_,(AS (An (Es (ts:=["place","word"]) (cap:=["plain"]) (ix:=[1]) (Hq rfl rfl (by ac_rfl) (by ac_rfl) rfl rfl rfl rfl rfl) (YE rfl O.en (AE (pv 0) AI))
   (fun _ _ _ _ _=>Xq (K:=K) (i:=0) (j:=1) rfl rfl lL rfl (AZ rfl) (Cd rfl) rfl (AZ rfl) (Cd rfl))
   (fun _ _ _ _ _=>O4 (Aw (XT hu) (pv 1) (CQ (AE AY (AE (pv 2) AI))) (Ar _))) (fun _ _ _ _ _=>pv 0)))),?_⟩;obtain⟨l,xs,rfl,hl,rr⟩:=Et rp;refine⟨_,rfl,l,rfl,⟨_,AJ.of hl⟩,fun D hD=>eM (xs:=xs) (fun i H'=>CI H D ((Ef z 0 (ws.take i)).map Dt.int) H') (CI.start hD) (fun i H' _ c=>AJ.of (c.same _ _ hl)) (fun i x pr H' ex hpr c=>?_) fun H' c=>?_⟩
  ·obtain⟨p,ep,rx⟩:=Hr rr ex;obtain⟨ad,rfl,ha⟩:=NK rx;have s2:=Aa (o:=.tup [.int i,.ref ad]) hpr;have c2:=c.ext s2;have ha2:=c2.same _ _ ha;refine⟨pr,_,rfl,AV.of AN,rfl,_,_,rfl,_,_,rfl,rfl,aa,_,rfl,_,rfl,(by show 2<=sizeLine;decide),fun t ht=>?_⟩;have st:=Aa (o:=.tup [.str "word",.str z]) ht;have c3:=c2.ext st;refine⟨ad,t,p,(("word" :Str),z),rfl,rfl,st _ _ ha2,AN,_,rfl,?_⟩;have hi:i<ws.length:=(BX.mp ep).1;have es:Ef z 0 (ws.take (i+1))=Ef z 0 (ws.take i)++(if p=(("word" :Str),z) then[(i:Int)] else[]):=by rw[EO,ep];show Ef z 0 (ws.take i++[p])=_;rw[We,Bl,K1 (by lia),Nat.zero_add]
   rw[es,BS];by_cases y:p=(("word" :Str),z)
   ·rw[BZ y,AH y];refine Bm ⟨_,rfl,?_⟩;refine c3.push (.int _) ?_;have h1:=SN z (ws.take i) 0;have h2:=F8 i ws;rw[AL]
    lia
   ·rw[BJ y,AF y,LA,C5];exact BK c3
  ·have e:xs.length=ws.length:=by have:=rr.1;rw[AL] at this;lia
   rw[e,Cj] at c;exact q _ _ c.same c.done
theorem aT:Az ["word","inner"] ["word"] (Ao Oc):=by ac_rfl
theorem nE(F:Aj K "tell_word" "tell_word" Oc f fd):AW P w K mg base Ah 1 f fd ["word"] aS:=by
 refine F.ok aT ?_ ?_
 ·rintro _ _ _ _ ⟨_,_,rfl,_⟩;rfl
 ·rintro _ A _ s H _ Q E hr ⟨v,p,rfl,rp,hz,q⟩;refine⟨_,(AU (Au (i:=1) aT.nd rfl (AZ rfl) (A9 (pv 0))) (AU (A1 (Aw BW (A9 (pv 0)) AY (Ar _)) (AS (An (jz (pv 1) (by ac_rfl) (by ac_rfl)))) BE) (AS (An (pv 1))))),?_⟩;obtain⟨a,rfl,ha⟩:=NK rp;refine⟨_,rfl,a,_,_,_,rfl,rfl,AV.of ha,Bw (j:=1) rfl,?_⟩;refine⟨_,rfl,a,_,_,_,rfl,rfl,AV.of ha,Bw (j:=0) rfl,rfl,_,rfl,?_⟩;unfold Bo at q;by_cases y:p.1=("to" :Str)
  ·rw[AH y] at q;refine FR (fun _=>⟨_,rfl,p.2,rfl,hz,q⟩) (fun n=>absurd (BZ (show V.str p.1=V.str "to" by rw[y])) n)
  ·rw[AF y] at q;refine FR (fun n=>absurd (V.str.inj (IM n)) y) (fun _=>⟨_,rfl,q⟩)
noncomputable def wt(p:PR):Nat:=max 40 p.2.length+3
def wsum(ws:List PR):Nat:=(ws.map wt).sum
theorem LP:∀ws:List PR,ws.length*43<=wsum ws
 |[]=>by simp[wsum]
 |p::ws=>by
  have h:=LP ws;unfold wsum at h⊢;rw[Av,B1,CP,Nat.succ_mul];have:43<=wt p:=by unfold wt;lia
  lia
theorem Oz(a b:List PR):wsum (a++b)=wsum a+wsum b:=by unfold wsum;rw[BS,List.sum_append]
theorem Wv:∀{ws:List PR}{p:PR},p∈ws->wt p<=wsum ws
 |q::ws,p,h=>by
  unfold wsum;rw[Av,B1];rcases Ba.mp h with e|e
  ·rw[e];lia
  ·have:=Wv e;unfold wsum at this
   lia
theorem Oq(p:PR):(Bo p).length<=p.2.length+2:=by
 unfold Bo;split
 ·rw[Hn,Hn];have e1:("[" :Str).length=1:=by ac_rfl
  have e2:("]" :Str).length=1:=by ac_rfl
  lia
 ·lia
theorem Ov(k:Nat)(hk:k<=1):∀(ws:List PR)(acc:Nat),(ws.map Bo).foldl (·+·.length+k) acc<=acc+wsum ws
 |[],acc=>by simp[wsum]
 |p::ws,acc=>by
  rw[Av,List.foldl_cons];have h1:=Ov k hk ws (acc+(Bo p).length+k);have h2:=Oq p;unfold wsum at h1⊢;rw[Av,B1];have:p.2.length+3<=wt p:=by unfold wt;lia
  lia
theorem XM(g:Str)(hg:g.length<=1):∀(ws:List PR)(acc:Array Nat),((ws.map Bo).foldl (fun acc p=>acc++g.cps++p.cps) acc).size<=acc.size+wsum ws
 |[],acc=>by simp[wsum]
 |p::ws,acc=>by
  rw[Av,List.foldl_cons];have h1:=XM g hg ws (acc++g.cps++(Bo p).cps);rw[Array.size_append,Array.size_append] at h1;have h2:=Oq p;have h3:g.cps.size=g.length:=rfl;have h4:(Bo p).cps.size=(Bo p).length:=rfl;unfold wsum at h1⊢;rw[Av,B1];have:p.2.length+3<=wt p:=by unfold wt;lia
  lia
theorem O3{g:Str}(hg:g.length<=1):∀ws:List PR,(II g (ws.map Bo)).length<=wsum ws
 |[]=>CH _
 |[p]=>by
  have:=Oq p;have h:p.2.length+3<=wt p:=by unfold wt;lia
  show(Bo p).length<=(List.map wt [p]).sum;rw[Av,B1]
  lia
 |p::q::r=>by
  have h1:=XM g hg (q::r) (Bo p).cps;have h2:=Oq p;have h:p.2.length+3<=wt p:=by unfold wt;lia
  have h4:(Bo p).cps.size=(Bo p).length:=rfl;show(((q::r).map Bo).foldl (fun acc p=>acc++g.cps++p.cps) (Bo p).cps).size<=_;unfold wsum at h1⊢;rw[show List.map wt (p::q::r)=wt p::List.map wt (q::r) from rfl,B1]
  lia
def aW:Sp:=fun vs H Q _=>∃v ws,vs=[v]/\Rep H (DZ ws) v/\wsum ws<=4000000/\∀H',AO H H'->Q (.str (By ws)) H'
theorem oo:Az ["words"] ["words"] (Ao RU):=by ac_rfl
theorem Zr{fW:Ya}{fdW:qX}(F:Aj K "tell_text" "tell_text" RU f fd)(FW:Aj K "tell_word" "tell_word" Oc fW fdW)(bW:Binds K fdW ["word"] [])(mW:mg "tell_word" =some (.ref fW)):AW P w K mg base Ah 2 f fd ["words"] aW:=by
 have GW:AW P w K mg base Ah 1 fW fdW ["word"] aS:=nE FW;refine F.ok oo ?_ ?_
 ·rintro _ _ _ _ ⟨_,_,rfl,_⟩;rfl
 ·rintro _ A _ s H _ Q E hr ⟨v,ws,rfl,rp,tl,q⟩;refine⟨_,(AS (An (JS Jl VD VC SU AY (AE (Es (ts:=["word"]) (cap:=[]) (ix:=[]) (J2 rfl rfl (by ac_rfl) (by ac_rfl)) (GN (pv 0))
   (fun _ _ _ _ _=>Bc (i:=0) FY rfl (AZ rfl) (Cd rfl)) (fun _ _ _ _ _=>FG) (fun _ _ _ _ _=>Ck GW hr rfl mW FW.kp bW .nil A8 (AE (pv 0) AI))) AI)))),?_⟩;obtain⟨l,xs,rfl,hl,rr⟩:=Et rp;refine⟨rfl,_,rfl,l,rfl,⟨_,AJ.of hl⟩,fun D hD=>Fm (xs:=xs) (fun i H'=>CI H D (((ws.take i).map Bo).map Dt.str) H') (CI.start hD) (fun i H' _ c=>AJ.of (c.same _ _ hl)) (fun i x H' ex c=>?_) fun H' c=>?_⟩
  ·obtain⟨p,ep,rx⟩:=Hr rr ex;refine⟨E3,_,rfl,x,p,rfl,rx.same c.same,?_,?_⟩
   ·have:=Wv (CK ep);have h:p.2.length+3<=wt p:=by unfold wt;lia
    lia
   rw[Gs ep,BS];refine c.push (.str _) ?_;have h2:=F8 i ws;have h3:=LP ws;rw[AL,AL]
   lia
  ·have e:xs.length=ws.length:=by have:=rr.1;rw[AL] at this;lia
   rw[e,Cj] at c;obtain⟨ys,hy,ry⟩:=c.lst;have lb:(" " :Str).length=1:=by ac_rfl
   refine⟨" ",D,ws.map Bo,rfl,rfl,AJ.of (by rw[hy,Jx ry]),?_,?_,q _ c.same⟩
   ·have:=Ov (" " :Str).length (by lia) ws 0;rw[A3]
    lia
   ·have:=O3 (g:=" ") (by lia) ws;rw[A3]
    lia
theorem kW{α γ:Type}[DecidableEq α]{R:(α×β)->(α×γ)->Prop}(hR:∀t p,R t p->t.1=p.1){k:α}{u:β}{v:γ}(hn:R (k,u) (k,v))(l:List (α×β))(m:List (α×γ))(hl:l.length=m.length)(h:∀(i:Nat) t p,l[i]? =some t->m[i]? =some p->R t p):
 (AX l k u).length=(AX m k v).length/\∀(i:Nat) t p,(AX l k u)[i]? =some t->(AX m k v)[i]? =some p->R t p:=by
 have ek:∀(l:List (α×β))(m:List (α×γ)),l.length=m.length->(∀(i:Nat) t p,l[i]? =some t->m[i]? =some p->R t p)->(l.any fun p=>decide (p.1=k))=(m.any fun p=>decide (p.1=k)):=by
  intro l
  induction l with
  |nil=>intro m hl _;cases m with|nil=>rfl|cons _ _=>cases hl
  |cons t l ih=>
   intro m hl h
   cases m with
   |nil=>cases hl
   |cons p m=>rw[IV,IV,ih m (by simpa using hl) fun i t p a b=>h (i+1) t p (by simpa using a) (by simpa using b),hR t p (h 0 t p rfl rfl)]
 have e:=ek l m hl h;unfold AX;rw[<-e];by_cases c:(l.any fun p=>decide (p.1=k))=true
 ·rw[AH c,AH c];refine⟨by rw[AL,AL,hl],fun i t p a b=>?_⟩;rw[Ax] at a b
  cases e1:l[i]?with
  |none=>rw[e1] at a;cases a
  |some t0=>
   cases e2:m[i]?with
   |none=>rw[e2] at b;cases b
   |some p0=>
    rw[e1] at a;rw[e2] at b;have h0:=h i t0 p0 e1 e2;have hk:=hR _ _ h0;have a':(if t0.1=k then(t0.1,u) else t0)=t:=Ag a;have b':(if p0.1=k then(p0.1,v) else p0)=p:=Ag b;by_cases z:t0.1=k
    ·rw[AH z] at a';rw[AH (hk▸z)] at b';rw[<-a',<-b',<-hk,z];exact hn
    ·rw[AF z] at a';rw[AF (hk▸z)] at b';rw[<-a',<-b'];exact h0
 ·rw[AF c,AF c];refine⟨by rw[A7,A7,hl];rfl,fun i t p a b=>?_⟩;by_cases hi:i<l.length
  ·rw[DC hi] at a;rw[DC (by lia)] at b;exact h i t p a b
  ·rw[Cv (by lia)] at a;rw[Cv (by lia),<-hl] at b
   cases ez:i-l.length with
   |zero=>
    rw[ez] at a b;have a':(k,u)=t:=by simpa using a
    have b':(k,v)=p:=by simpa using b
    rw[<-a',<-b'];exact hn
   |succ j=>rw[ez] at a;simp at a
theorem ZC{α β γ:Type}[DecidableEq α]{R:(α×β)->(α×γ)->Prop}(hR:∀t p,R t p->t.1=p.1)(k:α):∀(l:List (α×β))(m:List (α×γ)),l.length=m.length->(∀(i:Nat) t p,l[i]? =some t->m[i]? =some p->R t p)->
 (AG l k=none/\AG m k=none)\/∃u v,AG l k=some u/\AG m k=some v/\R (k,u) (k,v)
 |[],[],_,_=>.inl ⟨rfl,rfl⟩
 |t::l,p::m,hl,h=>by
  have h0:=h 0 t p rfl rfl;have hk:=hR _ _ h0;unfold AG;rw[C4,C4,<-hk];by_cases z:t.1=k
  ·rw[BZ z];refine .inr ⟨t.2,p.2,rfl,rfl,?_⟩;rw[<-z];have e:(t.1,p.2)=p:=by rw[hk]
   rw[e];exact h0
  ·rw[BJ z];exact ZC hR k l m (by simpa using hl) fun i t p a b=>h (i+1) t p (by simpa using a) (by simpa using b)
 |[],_::_,hl,_=>by cases hl
 |_::_,[],hl,_=>by cases hl
theorem DV.get{AA:List (Str×V)}(g:DV H AA AD)(n:Str):(AG AA n=none/\AG AD n=none)\/∃v ws,AG AA n=some v/\AG AD n=some ws/\Rep H (DZ ws) v:=by
 rcases ZC (R:=fun t p=>t.1=p.1/\Rep H (DZ p.2) t.2) (fun _ _ r=>r.1) n AA AD g.len g.row with z|⟨u,v,a,b,c⟩
 ·exact .inl z
 ·exact .inr ⟨u,v,a,b,c.2⟩
variable{ws:List PR}
theorem DV.put{AA:List (Str×V)}(g:DV H AA AD)(n:Str)(r:Rep H (DZ ws) v):DV H (AX AA n v) (AX AD n ws):=
 let⟨a,b⟩:=kW (R:=fun t p=>t.1=p.1/\Rep H (DZ p.2) t.2) (fun _ _ r=>r.1) (k:=n) (u:=v) (v:=ws) ⟨rfl,r⟩ AA AD g.len g.row
 ⟨a,b⟩
theorem DV.drop{AA:List (Str×V)}(g:DV H AA AD)(n:Str):DV H (AR AA n) (AR AD n):=
 let⟨a,b⟩:=S1 (R:=fun t p=>t.1=p.1/\Rep H (DZ p.2) t.2) (fun _ _ r=>r.1) n AA AD g.len g.row
 ⟨a,b⟩
theorem HF(AA:List (Str×V))(n:Str):Bk (As AA) (.inr n)=AG AA n:=by unfold As;rw[Er Fp];cases AG AA n<;>rfl
theorem Lb(AA:List (Str×V))(n:Str)(v:V):putK (As AA) (.inr n) v=As (AX AA n v):=J0 (g:=id) Fp n v AA
theorem Sb(AA:List (Str×V))(n:Str):JU (As AA) (.inr n)=As (AR AA n):=LH (g:=id) Fp n AA
structure CU(cN:Ya)(H:Hp)(a d:Ya)(AA:List (Str×V))(AD:List Pg):Prop where
 ins:∃dx,H a=some (.ins cN dx [("pages",.ref d)])
 Br:H d=some (.dK (As AA))
 AD:DV H AA AD
theorem CU.same{cN:Ya}{H H':Hp}{a d:Ya}{AA:List (Str×V)}{AD:List Pg}(g:CU cN H a d AA AD)(s:AO H H'):CU cN H' a d AA AD:=
 let⟨dx,h⟩:=g.ins
 ⟨⟨dx,s _ _ h⟩,s _ _ g.Br,g.AD.same s⟩
variable{cN:Ya}
theorem CU.upd{AA kvs':List (Str×V)}{pgs':List Pg}(g:CU cN H a d AA AD)(g':DV H kvs' pgs'):CU cN (upd H d (.dK (As kvs'))) a d kvs' pgs':=by
 obtain⟨dx,h⟩:=g.ins;refine⟨⟨dx,?_⟩,AN,?_⟩
 ·rw[AQ (CZ h g.Br (by intro z;cases z))];exact h
 ·exact(g'.ex g.Br).same LZ
structure Eh(K:tN)(cN:Ya):Prop where
 cl:Hc K cN
 nf:KL K cN "pages"
noncomputable def keys(AD:List Pg):List Str:=AD.map (·.1)
def Y9(K:tN)(cN cR:Ya):Sp:=fun vs H Q E=>∃a d n AA AD,vs=[.ref a,.str n]/\CU cN H a d AA AD/\(∀ws,AG AD n=some ws->∀H',AO H H'->Q .BA H')/\(AG AD n=none->Xw K cR E H "no page")
def Y1(K:tN)(cN cR:Ya):Sp:=fun vs H Q E=>∃a d n AA AD,vs=[.ref a,.str n]/\CU cN H a d AA AD/\n.length<=100000/\(isNm n=false->Xw K cR E H "no name")/\(∀ws,isNm n=true->AG AD n=some ws->Xw K cR E H "taken")/\(isNm n=true->AG AD n=none->∀H',AO H H'->Q .BA H')
theorem kE:Az ["self","name"] ["self","name"] (Ao Q1):=by ac_rfl
theorem jy(F:Aj K "need_page" "Nook.need_page" Q1 f fd)(C:Eh K cN)(R:Rz P w K mg base cR "NoPage" "no page"):AW P w K mg base (Ci P w) 4 f fd ["self","name"] (Y9 K cN cR):=by
 refine IH F kE ?_ ?_
 ·rintro _ _ _ _ ⟨_,_,_,_,_,rfl,_⟩;rfl
 ·rintro _ A _ s H _ Q E hr ⟨a,d,n,AA,AD,rfl,g,q1,q2⟩;have hu1:=Cm hr;refine⟨_,(AS (A1 (JM (Oo hu1 (pv 1) (C0 (pv 0) rfl))) (AS (KW (k:=0) R hr rfl)) BE)),?_⟩;obtain⟨dx,hi⟩:=g.ins;refine⟨_,rfl,_,rfl,a,cN,dx,_,_,rfl,hi,C.cl,C.nf,rfl,d,_,rfl,BP.kq (k:=.inr n) g.Br,_,rfl,?_⟩;rw[HF];rcases g.AD.get n with⟨e1,e2⟩|⟨v,ws,e1,e2,_⟩
  ·rw[e1];exact Bm (q2 e2)
  ·rw[e1];exact BK (q1 ws e2 H (AO.refl H))
theorem mE:Az ["self","name"] ["self","name"] (Ao Qe):=by ac_rfl
theorem iy(F:Aj K "need_free_name" "Nook.need_free_name" Qe f fd)(C:Eh K cN)(R1:Rz P w K mg base cR "NoName" "no name")(R2:Rz P w K mg base cR "Taken" "taken")
 (FI:Aj K "is_name" "is_name" Nr fI fdI)(bI:Binds K fdI ["word"] [])(mI:mg "is_name" =some (.ref fI))(O:HW mg):AW P w K mg base (Ci P w) 4 f fd ["self","name"] (Y1 K cN cR):=by
 have GI:AW P w K mg base Ah 1 fI fdI ["word"] P5:=Tr FI O.all;refine IH F mE ?_ ?_
 ·rintro _ _ _ _ ⟨_,_,_,_,_,rfl,_⟩;rfl
 ·rintro _ A _ s H _ Q E hr ⟨a,d,n,AA,AD,rfl,g,hz,q1,q2,q3⟩;have hu1:=Cm hr;refine⟨_,(AU (A1 (Hx (EG (Ck GI hr.mn rfl mI FI.kp bI .nil A8 (AE (pv 1) AI)))) (AS (KW (k:=0) R1 hr rfl)) BE) (AS (A1 (JM (ZN hu1 (pv 1) (C0 (pv 0) rfl))) (AS (KW (k:=0) R2 hr rfl)) BE))),?_⟩;refine⟨_,rfl,n,rfl,hz,fun H1 s1=>⟨_,rfl,?_⟩⟩
  cases en:isNm n with
  |false=>exact Bm ((q1 en).mono s1)
  |true=>
   refine BK ?_;have g1:=g.same s1;obtain⟨dx,hi⟩:=g1.ins;refine⟨_,rfl,_,rfl,a,cN,dx,_,_,rfl,hi,C.cl,C.nf,rfl,d,_,rfl,BP.kq (k:=.inr n) g1.Br,_,rfl,?_⟩;rw[HF];rcases g1.AD.get n with⟨e1,e2⟩|⟨v,ws,e1,e2,_⟩
   ·rw[e1];exact BK (q3 en e2 H1 s1)
   ·rw[e1];exact Bm ((q2 ws en e2).mono s1)
theorem LN{α β:Type}[DecidableEq α]{k:α}{v w:β}:∀{l:List (α×β)}{i:Nat},(l.map (·.1)).Nodup->l[i]? =some (k,w)->AX l k v=l.set i (k,v)
 |[],i,_,h=>by simp at h
 |p::l,0,nd,h=>by
  have e:p=(k,w):=by simpa using h
  subst e;have nd':=IS.mp nd;have hmap:l.map (fun p=>if p.1=k then(p.1,v) else p)=l:=by
   conv=>rhs;rw[<-Jv l]
   refine DF fun q hq=>?_;have:q.1≠k:=fun z=>nd'.1 (by rw[<-z];exact BI.mpr ⟨q,hq,rfl⟩);rw[AF this];rfl
  unfold AX;rw[AH (by rw[IV];simp),Av,hmap];simp
 |p::l,i+1,nd,h=>by
  have h':l[i]? =some (k,w):=by simpa using h
  have nd':=IS.mp nd;have ih:=LN (v:=v) nd'.2 h';have ne:p.1≠k:=fun z=>nd'.1 (by show p.1∈_;rw[z];exact BI.mpr ⟨_,CK h',rfl⟩);have any:(l.any fun q=>decide (q.1=k))=true:=Jq.mpr ⟨_,CK h',BZ rfl⟩;unfold AX at ih⊢;rw[AH any] at ih;rw[AH (by rw[IV,any,Bool.or_true]),Av,ih,AF ne];rfl
def C7(AD:List Pg)(n m:Str):List Pg:=AD.map fun p=>(p.1,Bp p.2 n m)
def FK(AD:List Pg)(n m:Str)(i:Nat):List Pg:=C7 (AD.take i) n m++AD.drop i
theorem Vh(AD:List Pg)(n m:Str)(i:Nat):(FK AD n m i).map (·.1)=AD.map (·.1):=by unfold FK C7;rw[BS,BV];show(AD.take i).map (·.1)++_=_;rw[<-BS,Dr]
theorem eK{n:Str}{p:Pg}(h:AD[i]? =some p):(FK AD n m i)[i]? =some p:=by have hi:=(BX.mp h).1;unfold FK C7;rw[Cv (by rw[AL,Bl];lia),AL,Bl,K1 (by lia),ER,Kx,Nat.add_zero];exact h
theorem cb{n:Str}{p:Pg}(h:AD[i]? =some p):(FK AD n m i).set i (p.1,Bp p.2 n m)=FK AD n m (i+1):=by
 have hi:=(BX.mp h).1;unfold FK C7;have hl:((AD.take i).map fun p:Pg=>(p.1,Bp p.2 n m)).length=i:=by rw[AL,Bl];lia
 rw[List.set_append_right _ _ (by lia),hl,ER,EO,h,BS,Bb];congr 1;rw[Kv hi,List.set_cons_zero];rfl
def BH(AD:List Pg):Nat:=(AD.map fun p=>wsum p.2).sum
theorem J9:∀{AD:List Pg}{p:Pg},p∈AD->wsum p.2<=BH AD
 |q::AD,p,h=>by
  unfold BH;rw[Av,B1];rcases Ba.mp h with e|e
  ·rw[e];lia
  ·have:=J9 e;unfold BH at this
   lia
structure C9(AD:List Pg):Prop where
 nd:(AD.map (·.1)).Nodup
 Cg:AD.length<=900
 BH:BH AD<=3900000
theorem C9.D6(n:C9 AD):MB AD:=⟨BF n.Cg (by lia),fun p hp=>by
 have h1:=J9 hp;have h2:=LP p.2;have h3:=n.BH
 lia⟩
theorem XI(ws:List PR)(n m:Str):(Bp ws n m).length=ws.length:=by unfold Bp;rw[AL]
def YT(cN:Ya):Sp:=fun vs H Q _=>∃a d n m AA AD,vs=[.ref a,.str n,.str m]/\CU cN H a d AA AD/\C9 AD/\∀H' kvs',AO (Ex H d) H'->CU cN H' a d kvs' (C7 AD n m)->Q .BA H'
theorem X5:Az ["self","name","fresh","page"] ["self","name","fresh"] (Ao Qg):=by ac_rfl
theorem iE{fP:Ya}{fdP:qX}(F:Aj K "point_all_on" "Nook.point_all_on" Qg f fd)(C:Eh K cN)(O:HW mg)(FP:Aj K "point_on" "point_on" Mb fP fdP)(bP:Binds K fdP ["words","name","fresh"] [])(mP:mg "point_on" =some (.ref fP)):
 AW P w K mg base Ah 2 f fd ["self","name","fresh"] (YT cN):=by
 have GP:AW P w K mg base Ah 1 fP fdP ["words","name","fresh"] ar:=mG FP;refine F.ok X5 ?_ ?_
 ·rintro _ _ _ _ ⟨_,_,_,_,_,_,rfl,_⟩;rfl
 ·rintro _ A _ s H _ Q E hr ⟨a,d,n,m,AA,AD,rfl,g,nc,q⟩;have hu1:=Cm hr;refine⟨_,(AS (EI ED rfl (GN (EE (LF rfl) rfl O.lst Fs (AE (C0 (pv 0) rfl) AI))) (Bc (i:=3) X5.nd rfl (AZ rfl))
   (AS (FE hu1 (C0 (pv 0) rfl) (pv 3) (Ck GP hr rfl mP FP.kp bP .nil A8 (AE (Dm hu1 (C0 (pv 0) rfl) (pv 3) (fun _ _=>rfl)) (AE (pv 1) (AE (pv 2) AI)))) rfl)))),?_⟩;obtain⟨dx,hi⟩:=g.ins;refine⟨_,rfl,a,cN,dx,_,_,rfl,hi,C.cl,C.nf,rfl,d,_,rfl,g.Br,fun L hL=>⟨L,rfl,⟨_,AJ.of AN⟩,?_⟩⟩;have s1:=Aa (o:=.lst ((As AA).map fun kv=>kV kv.1)) hL;have g1:=g.same s1;have hL1:(upd H L (.lst ((As AA).map fun kv=>kV kv.1))) L=some (.lst ((As AA).map fun kv=>kV kv.1)):=AN;have hd0:=g.Br;generalize upd H L (.lst ((As AA).map fun kv=>kV kv.1))=H1 at s1 g1 hL1;have hlen:(As AA).length=AD.length:=by show(AA.map _).length=_;rw[AL];exact g.AD.len
  refine JA (xs:=(As AA).map fun kv=>kV kv.1) (fun i σ H'=>σ[0]? =some (some (.ref a))/\σ[1]? =some (some (.str n))/\σ[2]? =some (some (.str m))/\3<σ.length/\AO (Ex H1 d) H'/\H' L=some (.lst ((As AA).map fun kv=>kV kv.1))/\∃kvs',CU cN H' a d kvs' (FK AD n m i))
   ⟨rfl,rfl,rfl,by show 3<4;decide,Ex.sub,hL1,AA,g1⟩ (fun i σ H' _ c=>AJ.of c.2.2.2.2.2.1) (fun i x σ H' ex c=>?_) (fun σ H' c=>?_)
  ·obtain⟨e0,e1,e2,e3,sm,hL',kvs',g'⟩:=c;have ek:x=kV (Sum.inr (AA.map (·.1))[i]!):=by
    rw[Ax] at ex
    cases e:(As AA)[i]?with
    |none=>rw[e] at ex;cases ex
    |some kv=>rw[e] at ex;obtain⟨nm,e5,e6⟩:=PX (k:=kv.1) (x:=kv.2) e;have:kV kv.1=x:=Ag ex;rw[<-this,e6];congr 2;rw[List.getElem!_eq_getElem?_getD,Ax,e5];rfl
   have hi':i<AD.length:=by have:=(BX.mp ex).1;rw[AL,hlen] at this;exact this
   have ep:AD[i]? =some AD[i]:=Aq hi';have hk:i<AA.length:=by rw[g.AD.len];exact hi'
   have en:(AA.map (·.1))[i]! =AD[i].1:=by rw[List.getElem!_eq_getElem?_getD,Ax,Aq hk];exact(g.AD.row i _ _ (Aq hk) ep).1
   rw[en] at ek;subst ek;have CV:((FK AD n m i).map (·.1)).Nodup:=by rw[Vh];exact nc.nd
   have at':=eK (n:=n) (m:=m) ep;have gt:AG (FK AD n m i) AD[i].1=some AD[i].2:=JF CV at';obtain⟨dx',Fb⟩:=g'.ins;rcases g'.AD.get AD[i].1 with⟨_,z⟩|⟨v,ws,v1,v2,rw_⟩
   ·rw[gt] at z;cases z
   ·rw[gt] at v2;cases v2;have p0:(σ.set 3 (some (kV (Sum.inr AD[i].1))))[0]? =some (some (.ref a)):=by rw[N9 (by decide)];exact e0
    have p1:(σ.set 3 (some (kV (Sum.inr AD[i].1))))[1]? =some (some (.str n)):=by rw[N9 (by decide)];exact e1
    have p2:(σ.set 3 (some (kV (Sum.inr AD[i].1))))[2]? =some (some (.str m)):=by rw[N9 (by decide)];exact e2
    have p3:(σ.set 3 (some (kV (Sum.inr AD[i].1))))[3]? =some (some (kV (Sum.inr AD[i].1))):=N6 e3;have dg:BP H' d (kV (Sum.inr AD[i].1)) (some v):=by have:=BP.kq (k:=.inr AD[i].1) g'.Br;rw[HF,v1] at this;exact this
    have hsz:AD[i].2.length<=100000:=nc.D6.short _ (Fj hi');refine⟨_,p0,a,cN,dx',_,_,rfl,Fb,C.cl,C.nf,rfl,_,p3,d,_,rfl,dg,_,p1,_,p2,v,_,n,m,rfl,rw_,hsz,fun u H2 s2 ru=>?_⟩;have g2:=g'.same s2;obtain⟨dx2,Ek⟩:=g2.ins;have hl2:(As kvs').length<sizeLine:=by
     show(kvs'.map _).length<_;rw[AL,g'.AD.len,A3];have:=BD List.length (Vh AD n m i);rw[AL,AL] at this;have:=nc.Cg
     lia
    have dp:=Dc.kq (k:=.inr AD[i].1) (v:=u) g2.Br hl2;rw[Lb] at dp;refine⟨_,p0,a,cN,dx2,_,_,rfl,Ek,C.cl,C.nf,rfl,_,p3,d,_,rfl,dp,?_⟩;have g3:=g2.upd (g2.AD.put AD[i].1 ru);have es:AX (FK AD n m i) AD[i].1 (Bp AD[i].2 n m)=FK AD n m (i+1):=(LN (k:=AD[i].1) (w:=AD[i].2) CV at').trans (cb ep);rw[es] at g3;have hLd:L≠d:=fun z=>by rw[z,hd0] at hL;cases hL
    refine⟨p0,p1,p2,by rw[List.length_set];exact e3,?_,by rw[AQ hLd];exact s2 _ _ hL',_,g3⟩;have n1:(Ex H1 d) d=none:=by unfold Ex;rw[AH rfl]
    exact(sm.trans s2).upd n1
  ·obtain⟨_,_,_,_,sm,_,kvs',g'⟩:=c;have e:FK AD n m ((As AA).map fun kv=>kV kv.1).length=C7 AD n m:=by rw[AL,hlen];unfold FK;rw[Cj,List.drop_length,C5]
   rw[e] at g';exact q H' kvs' ((Ex.mono s1).trans sm) g'
theorem Cu{α:Type}[DecidableEq α]{k j:α}{v:β}:∀l:List (α×β),AG (AX l k v) j=if j=k then some v else AG l j:=fun l=>by
 have hm:∀l:List (α×β),AG (l.map fun p=>if p.1=k then(p.1,v) else p) j=if j=k then(if(l.any fun p=>decide (p.1=k))=true then some v else none) else AG l j:=by
  intro l
  induction l with
  |nil=>simp[AG]
  |cons p l ih=>
   unfold AG at ih⊢;rw[Av,C4,C4,IV];by_cases z:p.1=k
   ·rw[AH z];by_cases y:j=k
    ·rw[AH y,BZ (show(p.1,v).1=j by rw[y];exact z),BZ z,Bool.true_or,AH rfl];rfl
    ·rw[AF y,BJ (show¬(p.1,v).1=j from fun x=>y (x.symm.trans z))];rw[AF y] at ih;exact ih
   ·rw[AF z];by_cases y:j=k
    ·rw[AH y,BJ z,RO,BJ (show¬p.1=j from fun x=>z (x.trans y))];rw[AH y] at ih;exact ih
    ·rw[AF y];rw[AF y] at ih
     cases decide (p.1=j) with
     |true=>rfl
     |false=>exact ih
 unfold AX;by_cases c:(l.any fun p=>decide (p.1=k))=true
 ·rw[AH c,hm l];by_cases y:j=k
  ·rw[AH y,AH y,AH c]
  ·rw[AF y,AF y]
 ·rw[AF c];have hn:∀p∈l,¬p.1=k:=fun p hp z=>c (Jq.mpr ⟨p,hp,BZ z⟩);unfold AG;rw[Qy];by_cases y:j=k
  ·rw[AH y,VS.mpr (fun p hp=>by rw[y];simp[hn p hp])];rw[C4,BZ (show(k,v).1=j from y.symm)];rfl
  ·rw[AF y,C4,BJ (show¬(k,v).1=j from fun x=>y x.symm)];cases List.find? (fun p=>decide (p.1=j)) l<;>rfl
inductive Rs where
 |no (msg:Str)|ok (r:Dt) (AD:List Pg)|un (AD:List Pg)
def Out(K:tN)(cN cR:Ya)(H:Hp)(a d:Ya)(Q:VK)(E:XK):Rs->Prop
 |.no msg=>Xw K cR E H msg
 |.ok r pgs'=>∀H' kvs' u,AO (Ex H d) H'->CU cN H' a d kvs' pgs'->Rep H' r u->Q u H'
 |.un pgs'=>∀H' kvs' u,AO (Ex H d) H'->CU cN H' a d kvs' pgs'->Q u H'
def EJ(t:Str):List PR:=(CW t).map C2
def GU(AD:List Pg)(n t:Str):Rs:=if isNm n=true then .ok (.int (EJ t).length) (AX AD n (EJ t)) else .no "no name"
def renamed(AD:List Pg)(n m:Str)(ws:List PR):List Pg:=C7 (AX (AR AD n) m ws) n m
def EU(AD:List Pg)(n m:Str):Rs:=match AG AD n with
 |none=>.no "no page"
 |some ws=>if isNm m=true then(match AG AD m with
  |some _=>.no "taken"
  |none=>.ok (.int (cnt (renamed AD n m ws) m)) (renamed AD n m ws)) else .no "no name"
def joined(AD:List Pg)(n o:Str)(w1 w2:List PR):List Pg:=C7 (AX (AR AD o) n (w1++w2)) o n
def Eu(AD:List Pg)(n o:Str):Rs:=match AG AD n with
 |none=>.no "no page"
 |some w1=>match AG AD o with
  |none=>.no "no page"
  |some w2=>if n=o then .no "same page" else .ok (.int (cnt (joined AD n o w1 w2) n)) (joined AD n o w1 w2)
def cutAt(AD:List Pg)(n m:Str)(ws:List PR)(k:Nat):List Pg:=AX (AX AD m (ws.drop k)) n (ws.take k++[(("to" :Str),m)])
def Ga(AD:List Pg)(n:Str)(pl:Int)(m:Str):Rs:=match AG AD n with
 |none=>.no "no page"
 |some ws=>if isNm m=true then(match AG AD m with
  |some _=>.no "taken"
  |none=>if pl<0\/(ws.length:Int)<pl then .no "no place" else .ok (.int ((ws.drop pl.toNat).length:Nat)) (cutAt AD n m ws pl.toNat)) else .no "no name"
def GY(AD:List Pg)(n:Str):Rs:=match AG AD n with
 |none=>.no "no page"
 |some _=>.ok (.int (cnt AD n)) (AR AD n)
def Fw(AD:List Pg)(n:Str):Rs:=match AG AD n with
 |none=>.no "no page"
 |some ws=>.ok (.str (By ws)) AD
def lF(AD:List Pg)(n:Str):Rs:=.ok (.lst ((Ih (Hf AD n)).map Dt.str)) AD
theorem GL:(Ex H d) d=none:=by unfold Ex;rw[AH rfl]
theorem Mo{AA:List (Str×V)}(g:DV H AA AD)(h:AD.length<=1000):(As AA).length<sizeLine:=by
 show(AA.map _).length<_;rw[AL,g.len,A3]
 lia
def Xp(K:tN)(cN cR:Ya):Sp:=fun vs H Q E=>∃a d n t AA AD,vs=[.ref a,.str n,.str t]/\CU cN H a d AA AD/\C9 AD/\n.length<=100000/\t.length<=10000/\Out K cN cR H a d Q E (GU AD n t)
theorem j7:Az ["self","name","text"] ["self","name","text"] (Ao Qt):=by ac_rfl
theorem iF(F:Aj K "write_page" "Nook.write_page" Qt f fd)(C:Eh K cN)(O:HW mg)(R1:Rz P w K mg base cR "NoName" "no name")
 (FI:Aj K "is_name" "is_name" Nr fI fdI)(bI:Binds K fdI ["word"] [])(mI:mg "is_name" =some (.ref fI))(HS:Hv P w K mg base "split_up" 3 ["text"] aB):
 AW P w K mg base (Ci P w) 4 f fd ["self","name","text"] (Xp K cN cR):=by
 have GI:AW P w K mg base Ah 1 fI fdI ["word"] P5:=Tr FI O.all;refine IH F j7 ?_ ?_
 ·rintro _ _ _ _ ⟨_,_,_,_,_,_,rfl,_⟩;rfl
 ·rintro _ A _ s H _ Q E hr ⟨a,d,n,t,AA,AD,rfl,g,nc,hz,hz2,q⟩;have hu1:=Cm hr;refine⟨_,(AU (A1 (Hx (EG (Ck GI hr.mn rfl mI FI.kp bI .nil A8 (AE (pv 1) AI)))) (AS (KW (k:=0) R1 hr rfl)) BE)
   (AU (FE hu1 (C0 (pv 0) rfl) (pv 1) (Ca HS hr rfl A8 (AE (pv 2) AI)) rfl)
   (AS (An (BY IW rfl O.len Dj (AE (Dm hu1 (C0 (pv 0) rfl) (pv 1) (fun _ _=>rfl)) AI)))))),?_⟩;refine⟨_,rfl,n,rfl,hz,fun H1 s1=>⟨_,rfl,?_⟩⟩;unfold GU at q
  cases en:isNm n with
  |false=>rw[en,AF CY] at q;exact Bm (Xw.mono q s1)
  |true=>
   rw[en,AH rfl] at q;refine BK ?_;refine⟨_,rfl,t,rfl,hz2,fun D H2 s2 rD=>?_⟩;have g2:=(g.same s1).same s2;obtain⟨dx,hi⟩:=g2.ins;have rD':Rep H2 (DZ (EJ t)) (.ref D):=by
    have e:DZ (EJ t)=.lst ((CW t).map UW):=by unfold DZ EJ;rw[BV];rfl
    rw[e];exact rD
   have dp:=Dc.kq (k:=.inr n) (v:=.ref D) g2.Br (Mo g2.AD (BF nc.Cg (by lia)));rw[Lb] at dp;refine⟨_,rfl,a,cN,dx,_,_,rfl,hi,C.cl,C.nf,rfl,_,rfl,d,_,rfl,dp,?_⟩;have g3:=g2.upd (g2.AD.put n rD');have s3:AO (Ex H d) (upd H2 d (.dK (As (AX AA n (.ref D))))):=((Ex.sub.trans s1).trans s2).upd GL;generalize upd H2 d (.dK (As (AX AA n (.ref D))))=H3 at g3 s3;obtain⟨dx3,Ek⟩:=g3.ins;rcases g3.AD.get n with⟨_,z⟩|⟨v,ws,v1,v2,rw_⟩
   ·rw[Cu,AH rfl] at z;cases z
   ·have ev:ws=EJ t:=by rw[Cu,AH rfl] at v2;exact(Ag v2).symm
    subst ev;have dg:BP H3 d (.str n) (some v):=by have:=BP.kq (k:=.inr n) g3.Br;rw[HF,v1] at this;exact this
    obtain⟨l,xs,rfl,hl,rr⟩:=Et rw_;refine⟨_,rfl,a,cN,dx3,_,_,rfl,Ek,C.cl,C.nf,rfl,_,rfl,d,_,rfl,dg,l,xs,rfl,.inl (AJ.of hl),?_⟩;have el:xs.length=(EJ t).length:=by have:=rr.1;rw[AL] at this;exact this.symm
    rw[el];exact q _ _ _ s3 g3 (.int _)
theorem Gz{α:Type}[DecidableEq α](l:List (α×β))(k:α)(v:β):(AX l k v).length<=l.length+1:=by
 unfold AX;split
 ·rw[AL];lia
 ·rw[A7];exact Ab _
theorem Mp{α β:Type}[DecidableEq α]{k:α}{v:β}:∀{l:List (α×β)},AG l k=some v->(AR l k).length+1<=l.length
 |[],h=>by cases h
 |p::l,h=>by
  by_cases c:p.1=k
  ·have d1:AR (p::l) k=AR l k:=by unfold AR;rw[Hg];simp[c]
   rw[d1,CP];have:=Gp (fun p:α×β=>decide (p.1≠k)) l;show(l.filter _).length+1<=_
   lia
  ·have d1:AR (p::l) k=p::AR l k:=by unfold AR;rw[Gn];simp[c]
   have h':AG l k=some v:=by unfold AG at h⊢;rw[C4,BJ c] at h;exact h
   have:=Mp h';rw[d1,CP,CP]
   lia
theorem EX{α:Type}[DecidableEq α]{l:List (α×β)}{k:α}{v:β}(h:(l.map (·.1)).Nodup):((AX l k v).map (·.1)).Nodup:=by
 unfold AX;by_cases c:(l.any fun p=>decide (p.1=k))=true
 ·rw[AH c,BV];have e:(l.map ((fun x:α×β=>x.1)∘fun p=>if p.1=k then(p.1,v) else p))=l.map (·.1):=DF fun p _=>by show(if p.1=k then(p.1,v) else p).1=p.1;split<;>rfl
  rw[e];exact h
 ·rw[AF c,BS];refine OJ.mpr ⟨h,by simp,fun x hx y hy=>?_⟩;intro z;have hy':y=k:=by simpa using hy
  obtain⟨p,hp,e⟩:=BI.mp hx;exact c (Jq.mpr ⟨p,hp,BZ (e.trans (z.trans hy'))⟩)
theorem PL(AD:List Pg)(n:Str)(ws:List PR)(nd:(AD.map (·.1)).Nodup):BH (AX AD n ws)<=BH AD+wsum ws:=by
 cases h:AG AD n with
 |none=>
  unfold AX;rw[AF (by
   intro c;obtain⟨p,hp,e⟩:=Jq.mp c;have e':=IM e;unfold AG at h
   cases f:AD.find? (fun p=>decide (p.1=n)) with
   |none=>exact absurd e' (by simpa using VS.mp f p hp)
   |some q=>rw[f] at h;cases h)];unfold BH;rw[BS,List.sum_append];simp
 |some w0=>
  obtain⟨i,hi⟩:=GQ h;rw[LN nd hi];unfold BH;have hl:=(BX.mp hi).1;have:∀(l:List Nat)(i x:Nat),(l.set i x).sum<=l.sum+x:=by
   intro l
   induction l with
   |nil=>intro i x;simp
   |cons y l ih=>
    intro i x
    cases i with
    |zero=>simp;lia
    |succ i=>rw[VR,B1,B1];have:=ih i x;lia
  rw[List.map_set];exact this _ _ _
theorem Mt{n:Str}{ws:List PR}:∀{AD:List Pg},AG AD n=some ws->BH (AR AD n)+wsum ws<=BH AD
 |[],h=>by cases h
 |p::AD,h=>by
  by_cases c:p.1=n
  ·have d1:AR (p::AD) n=AR AD n:=by unfold AR;rw[Hg];simp[c]
   have e:p.2=ws:=by unfold AG at h;rw[C4,BZ c] at h;exact Ag h
   have:∀l:List Pg,BH (AR l n)<=BH l:=by
    intro l
    induction l with
    |nil=>exact Ab _
    |cons q l ih=>
     by_cases z:q.1=n
     ·have d2:AR (q::l) n=AR l n:=by unfold AR;rw[Hg];simp[z]
      rw[d2];unfold BH at ih⊢;rw[Av,B1]
      lia
     ·have d2:AR (q::l) n=q::AR l n:=by unfold AR;rw[Gn];simp[z]
      rw[d2];unfold BH at ih⊢;rw[Av,B1,Av,B1]
      lia
   have:=this AD;rw[d1,<-e];unfold BH at this⊢;rw[Av,B1]
   lia
  ·have d1:AR (p::AD) n=p::AR AD n:=by unfold AR;rw[Gn];simp[c]
   have h':AG AD n=some ws:=by unfold AG at h⊢;rw[C4,BJ c] at h;exact h
   have:=Mt h';rw[d1];unfold BH at this⊢;rw[Av,B1,Av,B1]
   lia
theorem C9.moved{n:Str}(nc:C9 AD)(h:AG AD n=some ws):C9 (AX (AR AD n) m ws):=by
 refine⟨EX (DN nc.nd),?_,?_⟩
 ·have h1:=Gz (AR AD n) m ws;have h2:=Mp h;have h3:=nc.Cg
  lia
 ·have h1:=PL (AR AD n) m ws (DN nc.nd);have h2:=Mt h;have h3:=nc.BH
  lia
theorem V4{n:Str}(s:MB AD):MB (C7 AD n m):=by refine⟨by unfold C7;rw[AL];exact s.Cg,fun p hp=>?_⟩;obtain⟨q,hq,rfl⟩:=BI.mp hp;show(Bp q.2 n m).length<=_;rw[XI];exact s.short q hq
def Xb(K:tN)(cN cR:Ya):Sp:=fun vs H Q E=>∃a d n m AA AD,vs=[.ref a,.str n,.str m]/\CU cN H a d AA AD/\C9 AD/\m.length<=100000/\Out K cN cR H a d Q E (EU AD n m)
structure L0(P:qV)(w:qa)(K:tN)(mg:Str->Option AB)(base:qY)(cN cR:Ya):Prop where
 need:∃f fd,Meth K cN "need_page" f/\AW P w K mg base (Ci P w) 4 f fd ["self","name"] (Y9 K cN cR)/\Binds K fd ["self","name"] []
 free:∃f fd,Meth K cN "need_free_name" f/\AW P w K mg base (Ci P w) 4 f fd ["self","name"] (Y1 K cN cR)/\Binds K fd ["self","name"] []
 C7:∃f fd,Meth K cN "point_all_on" f/\AW P w K mg base Ah 2 f fd ["self","name","fresh"] (YT cN)/\Binds K fd ["self","name","fresh"] []
 cnt:∃f fd,mg "count_pointers" =some (.ref f)/\qo K (.ref f)=true/\AW P w K mg base Ah 1 f fd ["pages","name"] ZP/\Binds K fd ["pages","name"] []
theorem iG:Az ["self","name","fresh"] ["self","name","fresh"] (Ao Qk):=by ac_rfl
theorem eN(F:Aj K "rename_page" "Nook.rename_page" Qk f fd)(C:Eh K cN)(M:L0 P w K mg base cN cR):AW P w K mg base (Ci P w) 5 f fd ["self","name","fresh"] (Xb K cN cR):=by
 obtain⟨f1,fd1,m1,G1,b1⟩:=M.need;obtain⟨f2,fd2,m2,G2,b2⟩:=M.free;obtain⟨f3,fd3,m3,G3,b3⟩:=M.C7;obtain⟨f4,fd4,m4,k4,G4,b4⟩:=M.cnt;refine IH F iG ?_ ?_
 ·rintro _ _ _ _ ⟨_,_,_,_,_,_,rfl,_⟩;rfl
 ·rintro _ A _ s H _ Q E hr ⟨a,d,n,m,AA,AD,rfl,g,nc,hz,q⟩;have hu1:=Cm hr;refine⟨_,(AU (Bn (Dl (pv 0) C.cl m1 G1 hr b1 .nil E2 (AE (pv 1) AI))) (AU (Bn (Dl (pv 0) C.cl m2 G2 hr b2 .nil E2 (AE (pv 2) AI)))
   (AU (FE hu1 (C0 (pv 0) rfl) (pv 2) (JB (C0 (pv 0) rfl) (pv 1) ⟨rfl,rfl,rfl,rfl⟩) rfl)
   (AU (Bn (Dl (pv 0) C.cl m3 G3 hr.mn b3 .nil A8 (AE (pv 1) (AE (pv 2) AI))))
   (AS (An (Ck G4 hr.mn rfl m4 k4 b4 .nil A8 (AE (C0 (pv 0) rfl) (AE (pv 2) AI))))))))),?_⟩;obtain⟨dx,hi⟩:=g.ins;unfold EU at q;refine⟨_,rfl,a,dx,_,rfl,hi,rfl,_,rfl,a,d,n,AA,AD,rfl,g,fun ws hw H1 s1=>?_,fun hw=>by rw[hw] at q;exact q⟩;rw[hw] at q;have g1:=g.same s1;obtain⟨dx1,DA⟩:=g1.ins;refine⟨_,rfl,a,dx1,_,rfl,DA,rfl,_,rfl,a,d,m,AA,AD,rfl,g1,hz,fun en=>?_,fun w2 en hm=>?_,fun en hm H2 s2=>?_⟩
  ·dsimp only at q;rw[en,AF CY] at q;exact Xw.mono q s1
  ·dsimp only at q;rw[en,AH rfl,hm] at q;exact Xw.mono q s1
  ·dsimp only at q;rw[en,AH rfl,hm] at q;have g2:=g1.same s2;obtain⟨dx2,Fb⟩:=g2.ins;rcases g2.AD.get n with⟨_,z⟩|⟨v,ws',v1,v2,rw_⟩
   ·rw[hw] at z;cases z
   have ev:ws'=ws:=by rw[hw] at v2;exact(Ag v2).symm
   subst ev;have vv:Bk (As AA) (.inr n)=some v:=by rw[HF];exact v1
   refine⟨_,rfl,a,cN,dx2,_,_,rfl,Fb,C.cl,C.nf,rfl,d,rfl,.inl ⟨_,.inl g2.Br⟩,_,rfl,_,.inr n,_,g2.Br,rfl,vv,?_⟩;rw[Sb];have g3:=g2.upd (g2.AD.drop n);have r3:Rep (upd H2 d (.dK (As (AR AA n)))) (DZ ws') v:=(Ma g2.Br rw_).same LZ;have s3:AO (Ex H d) (upd H2 d (.dK (As (AR AA n)))):=((Ex.sub.trans s1).trans s2).upd GL;generalize upd H2 d (.dK (As (AR AA n)))=H3 at g3 s3 r3;obtain⟨dx3,Ek⟩:=g3.ins;have dp:=Dc.kq (k:=.inr m) (v:=v) g3.Br (Mo g3.AD (by have:=Mp hw;have:=nc.Cg;lia));rw[Lb] at dp;refine⟨_,rfl,a,cN,dx3,_,_,rfl,Ek,C.cl,C.nf,rfl,_,rfl,d,_,rfl,dp,?_⟩;have g4:=g3.upd (g3.AD.put m r3);have s4:=s3.upd (o:=.dK (As (AX (AR AA n) m v))) GL;generalize upd H3 d (.dK (As (AX (AR AA n) m v)))=H4 at g4 s4;obtain⟨dx4,Jf⟩:=g4.ins;have nc4:C9 (AX (AR AD n) m ws'):=nc.moved hw;refine⟨_,rfl,a,dx4,_,rfl,Jf,rfl,_,rfl,_,rfl,a,d,n,m,_,_,rfl,g4,nc4,fun H5 kvs5 s5 g5=>?_⟩;obtain⟨dx5,Ku⟩:=g5.ins;have s45:AO (Ex H d) H5:=by have:AO (Ex H d) (Ex H4 d):=Ex.of_none s4 GL;exact this.trans s5
   refine⟨_,rfl,a,cN,dx5,_,_,rfl,Ku,C.cl,C.nf,rfl,_,rfl,d,m,kvs5,_,rfl,g5.Br,g5.AD,V4 nc4.D6,fun H6 s6=>?_⟩;exact q H6 kvs5 _ (s45.trans s6) (g5.same s6) (.int _)
theorem YZ{l:Ya}{xs:List V}{w1 w2:List PR}(h:H l=some (.lst (xs++ys)))(r1:Ae H (w1.map Df) xs)(r2:Ae H (w2.map Df) ys):Rep H (DZ (w1++w2)) (.ref l):=by
 refine Rep.Fc h ⟨?_,fun i d x h1 h2=>?_⟩
 ·rw[BS,A7,A7,r1.1,r2.1]
 ·rw[BS] at h1;by_cases hi:i<xs.length
  ·rw[DC hi] at h2;rw[DC (by rw[r1.1];exact hi)] at h1;exact r1.2 i d x h1 h2
  ·rw[Cv (by lia)] at h2;rw[Cv (by rw[r1.1];lia),r1.1] at h1;exact r2.2 _ d x h1 h2
theorem C9.join{n o:Str}{w1 w2:List PR}(nc:C9 AD)(hno:n≠o)(h1:AG AD n=some w1)(h2:AG AD o=some w2):C9 (AX (AR AD o) n (w1++w2)):=by
 have h1':AG (AR AD o) n=some w1:=by rw[EF hno];exact h1
 refine⟨EX (DN nc.nd),?_,?_⟩
 ·have a1:=Gz (AR AD o) n (w1++w2);have a2:=Mp h2;have a3:=nc.Cg
  lia
 ·
  obtain⟨i,hi⟩:=GQ h1';rw[LN (DN nc.nd) hi];have a2:=Mt h2;have a3:=nc.BH;have key:∀(l:List Nat)(i x y:Nat),l[i]? =some y->(l.set i x).sum+y=l.sum+x:=by
   intro l
   induction l with
   |nil=>intro i x y h;simp at h
   |cons z l ih=>
    intro i x y h
    cases i with
    |zero=>
     have:z=y:=by simpa using h
     subst this;simp
     lia
    |succ i=>
     rw[VR,B1,B1];have:=ih i x y (by simpa using h)
     lia
  have k1:=key ((AR AD o).map fun p:Pg=>wsum p.2) i (wsum (w1++w2)) (wsum w1) (by rw[Ax,hi];rfl);have k2:=Oz w1 w2;have e2:((AR AD o).set i (n,w1++w2)).map (fun p:Pg=>wsum p.2)=((AR AD o).map fun p:Pg=>wsum p.2).set i (wsum (w1++w2)):=by rw[List.map_set]
  unfold L2.BH at a2 a3⊢;rw[e2]
  lia
def Yl(K:tN)(cN cR:Ya):Sp:=fun vs H Q E=>∃a d n m AA AD,vs=[.ref a,.str n,.str m]/\CU cN H a d AA AD/\C9 AD/\Out K cN cR H a d Q E (Eu AD n m)
def ZH(K:tN)(cN cR:Ya):Sp:=fun vs H Q E=>∃a d n AA AD,vs=[.ref a,.str n]/\CU cN H a d AA AD/\C9 AD/\Out K cN cR H a d Q E (GY AD n)
def S5(K:tN)(cN cR:Ya):Sp:=fun vs H Q E=>∃a d n AA AD,vs=[.ref a,.str n]/\CU cN H a d AA AD/\C9 AD/\(∀ws,AG AD n=some ws->∀H',AO H H'->Q (.str (By ws)) H')/\(AG AD n=none->Xw K cR E H "no page")
def Y3(cN:Ya):Sp:=fun vs H Q _=>∃a d n AA AD,vs=[.ref a,.str n]/\CU cN H a d AA AD/\C9 AD/\AD.length<64/\∀u H',AO H H'->Rep H' (.lst ((Ih (Hf AD n)).map Dt.str)) u->Q u H'
theorem Y8:Az ["self","name","other","behind"] ["self","name","other"] (Ao Qu):=by ac_rfl
theorem jX(F:Aj K "join_pages" "Nook.join_pages" Qu f fd)(C:Eh K cN)(M:L0 P w K mg base cN cR)(R:Rz P w K mg base cR "SamePage" "same page"):AW P w K mg base (Ci P w) 5 f fd ["self","name","other"] (Yl K cN cR):=by
 obtain⟨f1,fd1,m1,G1,b1⟩:=M.need;obtain⟨f3,fd3,m3,G3,b3⟩:=M.C7;obtain⟨f4,fd4,m4,k4,G4,b4⟩:=M.cnt;refine IH F Y8 ?_ ?_
 ·rintro _ _ _ _ ⟨_,_,_,_,_,_,rfl,_⟩;rfl
 ·rintro _ A _ s H _ Q E hr ⟨a,d,n,m,AA,AD,rfl,g,nc,q⟩;have hu1:=Cm hr;refine⟨_,(AU (Bn (Dl (pv 0) C.cl m1 G1 hr b1 .nil E2 (AE (pv 1) AI))) (AU (Bn (Dl (pv 0) C.cl m1 G1 hr b1 .nil E2 (AE (pv 2) AI)))
   (AU (A1 (Aw BW (pv 1) (pv 2) (Ar _)) (AS (KW (k:=1) R hr rfl)) BE)
   (AU (Au (i:=3) Y8.nd rfl (AZ rfl) (JB (C0 (pv 0) rfl) (pv 2) ⟨rfl,rfl,rfl,rfl⟩))
   (AU (FE hu1 (C0 (pv 0) rfl) (pv 1) (Ai JL (Dm hu1 (C0 (pv 0) rfl) (pv 1) (fun _ _=>rfl)) (pv 3)) rfl)
   (AU (Bn (Dl (pv 0) C.cl m3 G3 hr.mn b3 .nil A8 (AE (pv 2) (AE (pv 1) AI))))
   (AS (An (Ck G4 hr.mn rfl m4 k4 b4 .nil A8 (AE (C0 (pv 0) rfl) (AE (pv 1) AI))))))))))),?_⟩;obtain⟨dx,hi⟩:=g.ins;unfold Eu at q;refine⟨_,rfl,a,dx,_,rfl,hi,rfl,_,rfl,a,d,n,AA,AD,rfl,g,fun w1 hw1 H1 s1=>?_,fun hw=>by rw[hw] at q;exact q⟩;rw[hw1] at q;have g1:=g.same s1;obtain⟨dx1,DA⟩:=g1.ins;refine⟨_,rfl,a,dx1,_,rfl,DA,rfl,_,rfl,a,d,m,AA,AD,rfl,g1,fun w2 hw2 H2 s2=>?_,fun hw=>by dsimp only at q;rw[hw] at q;exact Xw.mono q s1⟩;dsimp only at q;rw[hw2] at q;refine⟨_,rfl,_,rfl,rfl,_,rfl,?_⟩;have hce:(H:Hp)->AO (Ex H d) H:=fun _=>Ex.sub;by_cases hnm:n=m
  ·dsimp only at q;rw[AH hnm] at q;refine CG (by rw[hnm]) (Xw.mono q (s1.trans s2))
  ·dsimp only at q;rw[AF hnm] at q;refine CT (fun z=>hnm (V.str.inj z)) ?_;have g2:=g1.same s2;obtain⟨dx2,Fb⟩:=g2.ins;rcases g2.AD.get m with⟨_,z⟩|⟨v,ws',v1,v2,rw_⟩
   ·rw[hw2] at z;cases z
   have ev:ws'=w2:=by rw[hw2] at v2;exact(Ag v2).symm
   subst ev;have vv:Bk (As AA) (.inr m)=some v:=by rw[HF];exact v1
   refine⟨_,rfl,a,cN,dx2,_,_,rfl,Fb,C.cl,C.nf,rfl,d,rfl,.inl ⟨_,.inl g2.Br⟩,_,rfl,_,.inr m,_,g2.Br,rfl,vv,?_⟩;rw[Sb];have g3:=g2.upd (g2.AD.drop m);have r3:Rep (upd H2 d (.dK (As (AR AA m)))) (DZ ws') v:=(Ma g2.Br rw_).same LZ;have s3:AO (Ex H d) (upd H2 d (.dK (As (AR AA m)))):=((Ex.sub.trans s1).trans s2).upd GL;generalize upd H2 d (.dK (As (AR AA m)))=H3 at g3 s3 r3;obtain⟨dx3,Ek⟩:=g3.ins;have hw1':AG (AR AD m) n=some w1:=by rw[EF hnm];exact hw1
   rcases g3.AD.get n with⟨_,z⟩|⟨u,ws1,u1,u2,ru⟩
   ·rw[hw1'] at z;cases z
   have ev1:ws1=w1:=by rw[hw1'] at u2;exact(Ag u2).symm
   subst ev1;have dg:BP H3 d (.str n) (some u):=by have:=BP.kq (k:=.inr n) g3.Br;rw[HF,u1] at this;exact this
   obtain⟨l1,xs1,rfl,hl1,rr1⟩:=Et ru;obtain⟨l2,xs2,rfl,hl2,rr2⟩:=Et r3;have z1:xs1.length<=100000:=by have h1:=rr1.1;rw[AL] at h1;have h2:ws1.length<=100000:=nc.D6.short (n,ws1) (by obtain⟨i,hi⟩:=GQ hw1;exact CK hi);lia
   have z2:xs2.length<=100000:=by have h1:=rr2.1;rw[AL] at h1;have h2:ws'.length<=100000:=nc.D6.short (m,ws') (by obtain⟨i,hi⟩:=GQ hw2;exact CK hi);lia
   refine⟨_,rfl,a,cN,dx3,_,_,rfl,Ek,C.cl,C.nf,rfl,_,rfl,d,_,rfl,dg,_,rfl,l1,l2,_,_,rfl,rfl,hl1,hl2,by rw[A3];lia,fun l hl=>?_⟩;have s4:=Aa (o:=.lst (xs1++xs2)) hl;have g4:=g3.same s4;have r4:Rep (upd H3 l (.lst (xs1++xs2))) (DZ (ws1++ws')) (.ref l):=YZ AN (rr1.same s4) (rr2.same s4);have s4':=s3.trans s4;generalize upd H3 l (.lst (xs1++xs2))=H4 at g4 r4 s4';obtain⟨dx4,Jf⟩:=g4.ins;have dp:=Dc.kq (k:=.inr n) (v:=.ref l) g4.Br (Mo g4.AD (by have:=Mp hw2;have:=nc.Cg;lia));rw[Lb] at dp;refine⟨_,rfl,a,cN,dx4,_,_,rfl,Jf,C.cl,C.nf,rfl,_,rfl,d,_,rfl,dp,?_⟩;have g5:=g4.upd (g4.AD.put n r4);have s5:=s4'.upd (o:=.dK (As (AX (AR AA m) n (.ref l)))) GL;generalize upd H4 d (.dK (As (AX (AR AA m) n (.ref l))))=H5 at g5 s5;obtain⟨dx5,Ku⟩:=g5.ins;have nc5:C9 (AX (AR AD m) n (ws1++ws')):=nc.join hnm hw1 hw2;refine⟨_,rfl,a,dx5,_,rfl,Ku,rfl,_,rfl,_,rfl,a,d,m,n,_,_,rfl,g5,nc5,fun H6 kvs6 s6 g6=>?_⟩;obtain⟨dx6,Ui⟩:=g6.ins;have s56:AO (Ex H d) H6:=(Ex.of_none s5 GL).trans s6;refine⟨_,rfl,a,cN,dx6,_,_,rfl,Ui,C.cl,C.nf,rfl,_,rfl,d,n,kvs6,_,rfl,g6.Br,g6.AD,V4 nc5.D6,fun H7 s7=>?_⟩;exact q H7 kvs6 _ (s56.trans s7) (g6.same s7) (.int _)
theorem Y2:Az ["self","name","led"] ["self","name"] (Ao Qz):=by ac_rfl
theorem jJ(F:Aj K "drop_page" "Nook.drop_page" Qz f fd)(C:Eh K cN)(M:L0 P w K mg base cN cR):AW P w K mg base (Ci P w) 5 f fd ["self","name"] (ZH K cN cR):=by
 obtain⟨f1,fd1,m1,G1,b1⟩:=M.need;obtain⟨f4,fd4,m4,k4,G4,b4⟩:=M.cnt;refine IH F Y2 ?_ ?_
 ·rintro _ _ _ _ ⟨_,_,_,_,_,rfl,_⟩;rfl
 ·rintro _ A _ s H _ Q E hr ⟨a,d,n,AA,AD,rfl,g,nc,q⟩;have hu1:=Cm hr;refine⟨_,(AU (Bn (Dl (pv 0) C.cl m1 G1 hr b1 .nil E2 (AE (pv 1) AI))) (AU (Au (i:=2) Y2.nd rfl (AZ rfl) (Ck G4 hr.mn rfl m4 k4 b4 .nil A8 (AE (C0 (pv 0) rfl) (AE (pv 1) AI))))
   (AU (Bn (JB (C0 (pv 0) rfl) (pv 1) ⟨rfl,rfl,rfl,rfl⟩)) (AS (An (pv 2)))))),?_⟩;obtain⟨dx,hi⟩:=g.ins;unfold GY at q;refine⟨_,rfl,a,dx,_,rfl,hi,rfl,_,rfl,a,d,n,AA,AD,rfl,g,fun ws hw H1 s1=>?_,fun hw=>by rw[hw] at q;exact q⟩;rw[hw] at q;have g1:=g.same s1;obtain⟨dx1,DA⟩:=g1.ins;refine⟨_,rfl,a,cN,dx1,_,_,rfl,DA,C.cl,C.nf,rfl,_,rfl,d,n,AA,_,rfl,g1.Br,g1.AD,nc.D6,fun H2 s2=>?_⟩;have g2:=g1.same s2;obtain⟨dx2,Fb⟩:=g2.ins;rcases g2.AD.get n with⟨_,z⟩|⟨v,ws',v1,v2,rw_⟩
  ·rw[hw] at z;cases z
  have vv:Bk (As AA) (.inr n)=some v:=by rw[HF];exact v1
  refine⟨_,rfl,a,cN,dx2,_,_,rfl,Fb,C.cl,C.nf,rfl,d,rfl,.inl ⟨_,.inl g2.Br⟩,_,rfl,_,.inr n,_,g2.Br,rfl,vv,?_⟩;rw[Sb];have g3:=g2.upd (g2.AD.drop n);have s3:AO (Ex H d) (upd H2 d (.dK (As (AR AA n)))):=((Ex.sub.trans s1).trans s2).upd GL;exact⟨_,rfl,q _ _ _ s3 g3 (.int _)⟩
theorem lR:Az ["self","name"] ["self","name"] (Ao RD):=by ac_rfl
theorem Yc(F:Aj K "text_of" "Nook.text_of" RD f fd)(C:Eh K cN)(M:L0 P w K mg base cN cR)(HT:Hv P w K mg base "tell_text" 2 ["words"] aW):
 AW P w K mg base (Ci P w) 5 f fd ["self","name"] (S5 K cN cR):=by
 obtain⟨f1,fd1,m1,G1,b1⟩:=M.need;refine IH F lR ?_ ?_
 ·rintro _ _ _ _ ⟨_,_,_,_,_,rfl,_⟩;rfl
 ·rintro _ A _ s H _ Q E hr ⟨a,d,n,AA,AD,rfl,g,nc,q,qx⟩;have hu1:=Cm hr;refine⟨_,(AU (Bn (Dl (pv 0) C.cl m1 G1 hr b1 .nil E2 (AE (pv 1) AI))) (AS (An (Ca HT hr.mn rfl A8 (AE (Dm hu1 (C0 (pv 0) rfl) (pv 1) (fun _ _=>rfl)) AI))))),?_⟩;obtain⟨dx,hi⟩:=g.ins;refine⟨_,rfl,a,dx,_,rfl,hi,rfl,_,rfl,a,d,n,AA,AD,rfl,g,fun ws hw H1 s1=>?_,qx⟩;have g1:=g.same s1;obtain⟨dx1,DA⟩:=g1.ins;rcases g1.AD.get n with⟨_,z⟩|⟨v,ws',v1,v2,rw_⟩
  ·rw[hw] at z;cases z
  have ev:ws'=ws:=by rw[hw] at v2;exact(Ag v2).symm
  subst ev;have dg:BP H1 d (.str n) (some v):=by have:=BP.kq (k:=.inr n) g1.Br;rw[HF,v1] at this;exact this
  refine⟨_,rfl,a,cN,dx1,_,_,rfl,DA,C.cl,C.nf,rfl,_,rfl,d,_,rfl,dg,v,ws',rfl,rw_,?_,fun H2 s2=>q ws' hw H2 (s1.trans s2)⟩;have h1:=nc.BH;obtain⟨i,hi⟩:=GQ hw;have h2:=J9 (CK hi);show wsum ws'<=_;have h3:wsum ws'<=BH AD:=h2
  lia
theorem lM:Az ["self","name"] ["self","name"] (Ao Q5):=by ac_rfl
theorem j3(F:Aj K "back_from" "Nook.back_from" Q5 f fd)(C:Eh K cN)(HT:Hv P w K mg base "pages_pointing" 1 ["pages","name"] Z1):
 AW P w K mg base Ah 2 f fd ["self","name"] (Y3 cN):=by
 refine F.ok lM ?_ ?_
 ·rintro _ _ _ _ ⟨_,_,_,_,_,rfl,_⟩;rfl
 ·rintro _ A _ s H _ Q E hr ⟨a,d,n,AA,AD,rfl,g,nc,h64,q⟩;refine⟨_,(AS (An (Ca HT hr rfl A8 (AE (C0 (pv 0) rfl) (AE (pv 1) AI))))),?_⟩;obtain⟨dx,hi⟩:=g.ins;exact⟨_,rfl,a,cN,dx,_,_,rfl,hi,C.cl,C.nf,rfl,_,rfl,d,n,AA,_,rfl,g.Br,g.AD,nc.D6,h64,fun u H1 s1 r=>q u H1 s1 r⟩
theorem Xe{xs:List V}{pl:Int}(h0:0<=pl)(h1:pl<=xs.length):DQ xs (some pl) none=xs.drop pl.toNat:=by
 unfold DQ;have e1:BC xs.length 0 (some pl)=pl.toNat:=by
  show(if pl<0 then _ else min pl.toNat xs.length)=_;rw[AF (by lia)]
  lia
 rw[e1];show(xs.drop pl.toNat).take (xs.length-pl.toNat)=_;rw[Fi (by rw[EC];exact Ab _)]
theorem ZF{xs:List V}{pl:Int}(h0:0<=pl)(h1:pl<=xs.length):DQ xs none (some pl)=xs.take pl.toNat:=by
 unfold DQ;have e1:BC xs.length xs.length (some pl)=pl.toNat:=by
  show(if pl<0 then _ else min pl.toNat xs.length)=_;rw[AF (by lia)]
  lia
 rw[e1];show(xs.drop 0).take (pl.toNat-0)=_;rw[OS,Nat.sub_zero]
theorem fV{xs:List V}(r:Ae H (ws.map Df) xs)(k:Nat):Ae H ((ws.drop k).map Df) (xs.drop k):=by
 refine⟨?_,fun i d x h1 h2=>?_⟩
 ·have:=r.1;rw[AL] at this;rw[AL,EC,EC,this]
 ·rw[OX,Kx] at h1;rw[Kx] at h2;exact r.2 _ d x h1 h2
theorem ee{xs:List V}(r:Ae H (ws.map Df) xs)(k:Nat):Ae H ((ws.take k).map Df) (xs.take k):=by
 refine⟨?_,fun i d x h1 h2=>?_⟩
 ·have:=r.1;rw[AL] at this;rw[AL,Bl,Bl,this]
 ·rw[OW] at h1;by_cases hi:i<k
  ·rw[List.getElem?_take_of_lt hi] at h1 h2;exact r.2 _ d x h1 h2
  ·rw[Qo,AF hi] at h2;cases h2
theorem h9{p:PR}{t:Ya}(h:H t=some (.tup (F6 p))):Ae H ([p].map Df) [.ref t]:=by
 refine⟨rfl,fun i d x h1 h2=>?_⟩
 match i with
 |0=>cases h1;cases h2;exact TU h
 |i+1=>simp at h1
def ZS(K:tN)(cN cR:Ya):Sp:=fun vs H Q E=>∃a d n pl m AA AD,vs=[.ref a,.str n,.int pl,.str m]/\CU cN H a d AA AD/\C9 AD/\m.length<=100000/\Out K cN cR H a d Q E (Ga AD n pl m)
def SR(cN:Ya):Sp:=fun vs H Q _=>∃a dx,vs=[.ref a]/\H a=some (.ins cN dx [])/\∀H' d,H d=none->d≠a->AO (Ex H a) H'->CU cN H' a d [] []->Q .BA H'
theorem Zk:Az ["self","name","place","fresh","words"] ["self","name","place","fresh"] (Ao Q8):=by ac_rfl
theorem mB(F:Aj K "cut_page" "Nook.cut_page" Q8 f fd)(C:Eh K cN)(M:L0 P w K mg base cN cR)(R:Rz P w K mg base cR "NoPlace" "no place")(O:HW mg):AW P w K mg base (Ci P w) 5 f fd ["self","name","place","fresh"] (ZS K cN cR):=by
 obtain⟨f1,fd1,m1,G1,b1⟩:=M.need;obtain⟨f2,fd2,m2,G2,b2⟩:=M.free;refine IH F Zk ?_ ?_
 ·rintro _ _ _ _ ⟨_,_,_,_,_,_,_,rfl,_⟩;rfl
 ·rintro _ A _ s H _ Q E hr ⟨a,d,n,pl,m,AA,AD,rfl,g,nc,hz,q⟩;have hu1:=Cm hr;refine⟨_,(AU (Bn (Dl (pv 0) C.cl m1 G1 hr b1 .nil E2 (AE (pv 1) AI))) (AU (Bn (Dl (pv 0) C.cl m2 G2 hr b2 .nil E2 (AE (pv 3) AI)))
   (AU (Au (i:=4) Zk.nd rfl (AZ rfl) (Dm hu1 (C0 (pv 0) rfl) (pv 1) (fun _ _=>rfl)))
   (AU (A1 (PW.pt (JT (Aw JQ (pv 2) Ac (Ar _)) (JG (Aw Tv (pv 2) (BY IW rfl O.len Dj (AE (pv 4) AI)) (Ar _))))) (AS (KW (k:=1) R hr rfl)) BE)
   (AU (FE hu1 (C0 (pv 0) rfl) (pv 3) (Fo O2 (pv 4) (Dk (pv 2)) KG) rfl)
   (AU (FE hu1 (C0 (pv 0) rfl) (pv 1) (Ai JL (Fo O2 (pv 4) KG (Dk (pv 2))) (Bx (AE (CQ (AE AY (AE (pv 3) AI))) AI))) rfl)
   (AS (An (BY IW rfl O.len Dj (AE (Dm hu1 (C0 (pv 0) rfl) (pv 3) (fun _ _=>rfl)) AI)))))))))),?_⟩;obtain⟨dx,hi⟩:=g.ins;unfold Ga at q;refine⟨_,rfl,a,dx,_,rfl,hi,rfl,_,rfl,a,d,n,AA,AD,rfl,g,fun ws hw H1 s1=>?_,fun hw=>by rw[hw] at q;exact q⟩;rw[hw] at q;have g1:=g.same s1;obtain⟨dx1,DA⟩:=g1.ins;refine⟨_,rfl,a,dx1,_,rfl,DA,rfl,_,rfl,a,d,m,AA,AD,rfl,g1,hz,fun en=>?_,fun w2 en hm=>?_,fun en hm H2 s2=>?_⟩
  ·dsimp only at q;rw[en,AF CY] at q;exact Xw.mono q s1
  ·dsimp only at q;rw[en,AH rfl,hm] at q;exact Xw.mono q s1
  ·dsimp only at q;rw[en,AH rfl,hm] at q;dsimp only at q;have g2:=g1.same s2;obtain⟨dx2,Fb⟩:=g2.ins;rcases g2.AD.get n with⟨_,z⟩|⟨v,ws',v1,v2,rw_⟩
   ·rw[hw] at z;cases z
   have ev:ws'=ws:=by rw[hw] at v2;exact(Ag v2).symm
   subst ev;have dg:BP H2 d (.str n) (some v):=by have:=BP.kq (k:=.inr n) g2.Br;rw[HF,v1] at this;exact this
   obtain⟨l,xs,rfl,hl,rr⟩:=Et rw_;have el:xs.length=ws'.length:=by have:=rr.1;rw[AL] at this;exact this.symm
   have zl:xs.length<=100000:=by have h2:ws'.length<=100000:=nc.D6.short (n,ws') (by obtain⟨i,hi⟩:=GQ hw;exact CK hi);lia
   refine⟨_,rfl,a,cN,dx2,_,_,rfl,Fb,C.cl,C.nf,rfl,_,rfl,d,_,rfl,dg,?_⟩;refine⟨_,rfl,_,_,rfl,rfl,_,rfl,?_⟩;by_cases c1:pl<0
   ·rw[AH (.inl c1)] at q;refine CG c1 ?_;exact Bm (Xw.mono q (s1.trans s2))
   refine CT c1 ⟨_,rfl,_,rfl,l,xs,rfl,.inl (AJ.of hl),_,_,rfl,rfl,_,rfl,?_⟩;by_cases c2:(xs.length:Int)<pl
   ·rw[AH (.inr (by rw[<-el];exact c2))] at q;exact CG c2 (Xw.mono q (s1.trans s2))
   refine CT c2 ?_;rw[AF (by rw[<-el];exact fun z=>z.elim c1 c2)] at q;have p0:0<=pl:=by lia
   have p1:pl<=xs.length:=by lia
   refine⟨_,rfl,_,rfl,_,rfl,l,xs,rfl,AJ.of hl,fun l3 hl3=>?_⟩;rw[Xe p0 p1];have s3:=Aa (o:=.lst (xs.drop pl.toNat)) hl3;have g3:=g2.same s3;have r3:Rep (upd H2 l3 (.lst (xs.drop pl.toNat))) (DZ (ws'.drop pl.toNat)) (.ref l3):=Rep.Fc AN ((fV rr _).same s3);have s3':AO (Ex H d) (upd H2 l3 (.lst (xs.drop pl.toNat))):=((Ex.sub.trans s1).trans s2).trans s3;have hl':=s3 _ _ hl;have rr':=rr.same s3;generalize upd H2 l3 (.lst (xs.drop pl.toNat))=H3 at g3 r3 s3' hl' rr';obtain⟨dx3,Ek⟩:=g3.ins;have dp:=Dc.kq (k:=.inr m) (v:=.ref l3) g3.Br (Mo g3.AD (BF nc.Cg (by lia)));rw[Lb] at dp;refine⟨_,rfl,a,cN,dx3,_,_,rfl,Ek,C.cl,C.nf,rfl,_,rfl,d,_,rfl,dp,?_⟩;have g4:=g3.upd (g3.AD.put m r3);have s4:=s3'.upd (o:=.dK (As (AX AA m (.ref l3)))) GL;have hl4:(upd H3 d (.dK (As (AX AA m (.ref l3))))) l=some (.lst xs):=by rw[AQ (CZ hl' g3.Br (by intro z;cases z))];exact hl'
   have rr4:Ae (upd H3 d (.dK (As (AX AA m (.ref l3))))) (ws'.map Df) xs:=by obtain⟨l0,xs0,e0,h0,r0⟩:=Et ((Ma g3.Br (Rep.Fc hl' rr')).same (LZ (o:=.dK (As (AX AA m (.ref l3))))));cases e0;rw[hl4] at h0;cases h0;exact r0
   generalize upd H3 d (.dK (As (AX AA m (.ref l3))))=H4 at g4 s4 hl4 rr4;refine⟨_,rfl,_,rfl,_,rfl,l,xs,rfl,AJ.of hl4,fun l5 hl5=>⟨_,rfl,(by show 2<=sizeLine;decide),fun t ht=>⟨(by show 1<=sizeLine;decide),fun l6 hl6=>?_⟩⟩⟩;rw[ZF p0 p1] at ht hl6⊢;have s5:=Aa (o:=.lst (xs.take pl.toNat)) hl5;have s6:=Aa (o:=.tup [.str "to",.str m]) ht;have s7:=Aa (o:=.lst [.ref t]) hl6;have s57:=s5.trans (s6.trans s7);have h5:=(s6.trans s7) _ _ (AN (H:=H4) (a:=l5) (o:=.lst (xs.take pl.toNat)));have h6:=s7 _ _ (AN (a:=t) (o:=.tup [.str "to",.str m]) (H:=upd H4 l5 (.lst (xs.take pl.toNat))));have h7:=AN (a:=l6) (o:=.lst [V.ref t]) (H:=upd (upd H4 l5 (.lst (xs.take pl.toNat))) t (.tup [.str "to",.str m]));have g7:=g4.same s57;have rr7:=rr4.same s57;have s7':=s4.trans s57;generalize upd (upd (upd H4 l5 (.lst (xs.take pl.toNat))) t (.tup [.str "to",.str m])) l6 (.lst [V.ref t])=H7 at h5 h6 h7 g7 rr7 s7';refine⟨l5,l6,_,_,rfl,rfl,h5,h7,by rw[Bl,A3,DD];lia,fun l8 hl8=>?_⟩;have s8:=Aa (o:=.lst (xs.take pl.toNat++[.ref t])) hl8;have g8:=g7.same s8;have r8:Rep (upd H7 l8 (.lst (xs.take pl.toNat++[.ref t]))) (DZ (ws'.take pl.toNat++[(("to" :Str),m)])) (.ref l8):=YZ AN ((ee rr7 _).same s8) (h9 (s8 _ _ h6));have s8':=s7'.trans s8;generalize upd H7 l8 (.lst (xs.take pl.toNat++[.ref t]))=H8 at g8 r8 s8';obtain⟨dx8,QL⟩:=g8.ins;have dp8:=Dc.kq (k:=.inr n) (v:=.ref l8) g8.Br (Mo g8.AD (by have:=Gz AD m (ws'.drop pl.toNat);have:=nc.Cg;lia));rw[Lb] at dp8;refine⟨_,rfl,a,cN,dx8,_,_,rfl,QL,C.cl,C.nf,rfl,_,rfl,d,_,rfl,dp8,?_⟩;have g9:=g8.upd (g8.AD.put n r8);have s9:=s8'.upd (o:=.dK (As (AX (AX AA m (.ref l3)) n (.ref l8)))) GL;generalize upd H8 d (.dK (As (AX (AX AA m (.ref l3)) n (.ref l8))))=H9 at g9 s9;obtain⟨dx9,Nv⟩:=g9.ins;have hmn:m≠n:=fun z=>by rw[z,hw] at hm;cases hm
   rcases g9.AD.get m with⟨_,z⟩|⟨u,wu,u1,u2,ru⟩
   ·rw[Cu,AF hmn,Cu,AH rfl] at z;cases z
   have eu:wu=ws'.drop pl.toNat:=by rw[Cu,AF hmn,Cu,AH rfl] at u2;exact(Ag u2).symm
   subst eu;have dg9:BP H9 d (.str m) (some u):=by have:=BP.kq (k:=.inr m) g9.Br;rw[HF,u1] at this;exact this
   obtain⟨lu,xu,rfl,hlu,rru⟩:=Et ru;refine⟨_,rfl,a,cN,dx9,_,_,rfl,Nv,C.cl,C.nf,rfl,_,rfl,d,_,rfl,dg9,lu,xu,rfl,.inl (AJ.of hlu),?_⟩;have elu:xu.length=(ws'.drop pl.toNat).length:=by have:=rru.1;rw[AL] at this;exact this.symm
   rw[elu];exact q _ _ _ s9 g9 (.int _)
theorem jC:Az ["self"] ["self"] (Ao RV):=by ac_rfl
theorem W4(F:Aj K "__init__" "Nook.__init__" RV f fd)(C:Eh K cN):AW P w K mg base Ah 1 f fd ["self"] (SR cN):=by
 refine F.ok jC ?_ ?_
 ·rintro _ _ _ _ ⟨_,_,rfl,_⟩;rfl
 ·rintro _ A _ s H _ Q E hr ⟨a,dx,rfl,hi,q⟩;refine⟨_,(AS (kG (pv 0) Ow rfl)),fun d hd=>?_⟩;have s1:=Aa (o:=.dK []) hd;have nd:d≠a:=fun z=>by rw[z,hi] at hd;cases hd
  have DA:=s1 _ _ hi;refine⟨_,rfl,a,cN,dx,_,rfl,DA,C.cl,C.nf,(by show 0<1000;decide),?_⟩;refine q _ d hd nd ?_ ⟨⟨dx,AN⟩,by rw[AQ nd];exact AN,⟨rfl,fun i kv p e=>by simp at e⟩⟩;exact(Ex.sub.trans s1).upd (by unfold Ex;rw[AH rfl])
def Dx(AD:List Pg):Am->Rs
 |.write n t=>GU AD n t
 |.rename n m=>EU AD n m
 |.join n o=>Eu AD n o
 |.cut n p m=>Ga AD n p m
 |.drop n=>GY AD n
 |.text n=>Fw AD n
 |.back n=>lF AD n
 |.find ws far=>if ws=[] then .no "no words" else .un AD
def Yt(K:tN)(cN cR:Ya):Sp:=fun vs H Q E=>∃a d v ws far AA AD,vs=[.ref a,v,.int far]/\CU cN H a d AA AD/\C9 AD/\AD.length<64/\Rep H (.tup (ws.map Dt.str)) v/\ws.length<=9/\Out K cN cR H a d Q E (if ws=[] then .no "no words" else .un AD)
def UD(K:tN)(cN cR:Ya):Sp:=fun vs H Q E=>∃a d v x AA AD,vs=[.ref a,v]/\CU cN H a d AA AD/\C9 AD/\AD.length<64/\Rep H (Am.dt x) v/\x.Good/\Out K cN cR H a d Q E (Dx AD x)
structure bh(P:qV)(w:qa)(K:tN)(mg:Str->Option AB)(base:qY)(cN cR:Ya):Prop where
 write:∃f fd,Meth K cN "write_page" f/\AW P w K mg base (Ci P w) 4 f fd ["self","name","text"] (Xp K cN cR)/\Binds K fd ["self","name","text"] []
 rename:∃f fd,Meth K cN "rename_page" f/\AW P w K mg base (Ci P w) 5 f fd ["self","name","fresh"] (Xb K cN cR)/\Binds K fd ["self","name","fresh"] []
 join:∃f fd,Meth K cN "join_pages" f/\AW P w K mg base (Ci P w) 5 f fd ["self","name","other"] (Yl K cN cR)/\Binds K fd ["self","name","other"] []
 cut:∃f fd,Meth K cN "cut_page" f/\AW P w K mg base (Ci P w) 5 f fd ["self","name","place","fresh"] (ZS K cN cR)/\Binds K fd ["self","name","place","fresh"] []
 drop:∃f fd,Meth K cN "drop_page" f/\AW P w K mg base (Ci P w) 5 f fd ["self","name"] (ZH K cN cR)/\Binds K fd ["self","name"] []
 text:∃f fd,Meth K cN "text_of" f/\AW P w K mg base (Ci P w) 5 f fd ["self","name"] (S5 K cN cR)/\Binds K fd ["self","name"] []
 back:∃f fd,Meth K cN "back_from" f/\AW P w K mg base Ah 2 f fd ["self","name"] (Y3 cN)/\Binds K fd ["self","name"] []
 find:∃f fd,Meth K cN "find_pages" f/\AW P w K mg base (Ci P w) 5 f fd ["self","wanted","near"] (Yt K cN cR)/\Binds K fd ["self","wanted","near"] []
theorem aE:Az ["nook","deed","kind"] ["nook","deed"] (Ao Rg):=by ac_rfl
theorem nS(F:Aj K "do_deed" "do_deed" Rg f fd)(C:Eh K cN)(M:bh P w K mg base cN cR):AW P w K mg base (Ci P w) 6 f fd ["nook","deed"] (UD K cN cR):=by
 obtain⟨f1,fd1,m1,G1,b1⟩:=M.write;obtain⟨f2,fd2,m2,G2,b2⟩:=M.rename;obtain⟨f3,fd3,m3,G3,b3⟩:=M.join;obtain⟨f4,fd4,m4,G4,b4⟩:=M.cut;obtain⟨f5,fd5,m5,G5,b5⟩:=M.drop;obtain⟨f6,fd6,m6,G6,b6⟩:=M.text;obtain⟨f7,fd7,m7,G7,b7⟩:=M.back;obtain⟨f8,fd8,m8,G8,b8⟩:=M.find;refine IH F aE ?_ ?_
 ·rintro _ _ _ _ ⟨_,_,_,_,_,_,rfl,_⟩;rfl
 ·rintro _ A _ s H _ Q E hr ⟨a,d,v,x,AA,AD,rfl,g,nc,h64,rx,good,q⟩;refine⟨_,(AU (Au (i:=2) aE.nd rfl (AZ rfl) (A9 (pv 1)))
   (AU (A1 (Aw BW (pv 2) AY (Ar _)) (AS (An (Dl (pv 0) C.cl m1 G1 hr.mn b1 .nil E2 (AE (A9 (pv 1)) (AE (A9 (pv 1)) AI))))) BE)
   (AU (A1 (Aw BW (pv 2) AY (Ar _)) (AS (An (Dl (pv 0) C.cl m2 G2 hr b2 .nil E2 (AE (A9 (pv 1)) (AE (A9 (pv 1)) AI))))) BE)
   (AU (A1 (Aw BW (pv 2) AY (Ar _)) (AS (An (Dl (pv 0) C.cl m3 G3 hr b3 .nil E2 (AE (A9 (pv 1)) (AE (A9 (pv 1)) AI))))) BE)
   (AU (A1 (Aw BW (pv 2) AY (Ar _)) (AS (An (Dl (pv 0) C.cl m4 G4 hr b4 .nil E2 (AE (A9 (pv 1)) (AE (A9 (pv 1)) (AE (A9 (pv 1)) AI)))))) BE)
   (AU (A1 (Aw BW (pv 2) AY (Ar _)) (AS (An (Dl (pv 0) C.cl m5 G5 hr b5 .nil E2 (AE (A9 (pv 1)) AI)))) BE)
   (AU (A1 (Aw BW (pv 2) AY (Ar _)) (AS (An (Dl (pv 0) C.cl m6 G6 hr b6 .nil E2 (AE (A9 (pv 1)) AI)))) BE)
   (AU (A1 (Aw BW (pv 2) AY (Ar _)) (AS (An (Dl (pv 0) C.cl m7 G7 hr.mn b7 .nil A8 (AE (A9 (pv 1)) AI)))) BE)
   (AS (An (Dl (pv 0) C.cl m8 G8 hr b8 .nil E2 (AE (A9 (pv 1)) (AE (A9 (pv 1)) AI))))))))))))),?_⟩;obtain⟨dx,hi⟩:=g.ins
  cases x with
  |write n t=>obtain⟨ad,xs,rfl,had,rr⟩:=CA rx;obtain⟨u1,u2,u3,rfl,r1,r2,r3⟩:=Ez rr;cases r1;cases r2;cases r3;refine⟨_,rfl,ad,_,_,_,rfl,rfl,AV.of had,Bw (j:=0) rfl,?_⟩;refine Jd rfl ?_;exact⟨_,rfl,a,dx,_,rfl,hi,rfl,_,rfl,ad,_,_,_,rfl,rfl,AV.of had,Bw (j:=1) rfl,_,rfl,ad,_,_,_,rfl,rfl,AV.of had,Bw (j:=2) rfl,a,d,n,t,AA,AD,rfl,g,nc,BF good.1 (by lia),BF good.2 (by lia),q⟩
  |rename n m=>obtain⟨ad,xs,rfl,had,rr⟩:=CA rx;obtain⟨u1,u2,u3,rfl,r1,r2,r3⟩:=Ez rr;cases r1;cases r2;cases r3;refine⟨_,rfl,ad,_,_,_,rfl,rfl,AV.of had,Bw (j:=0) rfl,?_⟩;refine Bf rfl (by ac_rfl) ?_;refine Jd rfl ?_;exact⟨_,rfl,a,dx,_,rfl,hi,rfl,_,rfl,ad,_,_,_,rfl,rfl,AV.of had,Bw (j:=1) rfl,_,rfl,ad,_,_,_,rfl,rfl,AV.of had,Bw (j:=2) rfl,a,d,n,m,AA,AD,rfl,g,nc,BF good.2 (by lia),q⟩
  |join n m=>obtain⟨ad,xs,rfl,had,rr⟩:=CA rx;obtain⟨u1,u2,u3,rfl,r1,r2,r3⟩:=Ez rr;cases r1;cases r2;cases r3;refine⟨_,rfl,ad,_,_,_,rfl,rfl,AV.of had,Bw (j:=0) rfl,?_⟩;refine Bf rfl (by ac_rfl) ?_;refine Bf rfl (by ac_rfl) ?_;refine Jd rfl ?_;exact⟨_,rfl,a,dx,_,rfl,hi,rfl,_,rfl,ad,_,_,_,rfl,rfl,AV.of had,Bw (j:=1) rfl,_,rfl,ad,_,_,_,rfl,rfl,AV.of had,Bw (j:=2) rfl,a,d,n,m,AA,AD,rfl,g,nc,q⟩
  |cut n pl m=>obtain⟨ad,xs,rfl,had,rr⟩:=CA rx;obtain⟨u1,u2,u3,u4,rfl,r1,r2,r3,r4⟩:=Pu rr;cases r1;cases r2;cases r3;cases r4;refine⟨_,rfl,ad,_,_,_,rfl,rfl,AV.of had,Bw (j:=0) rfl,?_⟩;refine Bf rfl (by ac_rfl) ?_;refine Bf rfl (by ac_rfl) ?_;refine Bf rfl (by ac_rfl) ?_;refine Jd rfl ?_;exact⟨_,rfl,a,dx,_,rfl,hi,rfl,_,rfl,ad,_,_,_,rfl,rfl,AV.of had,Bw (j:=1) rfl,_,rfl,ad,_,_,_,rfl,rfl,AV.of had,Bw (j:=2) rfl,_,rfl,ad,_,_,_,rfl,rfl,AV.of had,Bw (j:=3) rfl,a,d,n,pl,m,AA,AD,rfl,g,nc,BF good.2 (by lia),q⟩
  |drop n=>obtain⟨ad,xs,rfl,had,rr⟩:=CA rx;obtain⟨u1,u2,rfl,r1,r2⟩:=HN rr;cases r1;cases r2;refine⟨_,rfl,ad,_,_,_,rfl,rfl,AV.of had,Bw (j:=0) rfl,?_⟩;refine Bf rfl (by ac_rfl) ?_;refine Bf rfl (by ac_rfl) ?_;refine Bf rfl (by ac_rfl) ?_;refine Bf rfl (by ac_rfl) ?_;refine Jd rfl ?_;exact⟨_,rfl,a,dx,_,rfl,hi,rfl,_,rfl,ad,_,_,_,rfl,rfl,AV.of had,Bw (j:=1) rfl,a,d,n,AA,AD,rfl,g,nc,q⟩
  |text n=>
   obtain⟨ad,xs,rfl,had,rr⟩:=CA rx;obtain⟨u1,u2,rfl,r1,r2⟩:=HN rr;cases r1;cases r2;refine⟨_,rfl,ad,_,_,_,rfl,rfl,AV.of had,Bw (j:=0) rfl,?_⟩;refine Bf rfl (by ac_rfl) ?_;refine Bf rfl (by ac_rfl) ?_;refine Bf rfl (by ac_rfl) ?_;refine Bf rfl (by ac_rfl) ?_;refine Bf rfl (by ac_rfl) ?_;refine Jd rfl ?_;refine⟨_,rfl,a,dx,_,rfl,hi,rfl,_,rfl,ad,_,_,_,rfl,rfl,AV.of had,Bw (j:=1) rfl,a,d,n,AA,AD,rfl,g,nc,fun ws hw H' s'=>?_,fun hw=>?_⟩
   ·have q':Out K cN cR H a d Q E (Fw AD n):=q;unfold Fw at q';rw[hw] at q';exact q' H' AA _ (Ex.sub.trans s') (g.same s') (.str _)
   ·have q':Out K cN cR H a d Q E (Fw AD n):=q;unfold Fw at q';rw[hw] at q';exact q'
  |back n=>obtain⟨ad,xs,rfl,had,rr⟩:=CA rx;obtain⟨u1,u2,rfl,r1,r2⟩:=HN rr;cases r1;cases r2;refine⟨_,rfl,ad,_,_,_,rfl,rfl,AV.of had,Bw (j:=0) rfl,?_⟩;refine Bf rfl (by ac_rfl) ?_;refine Bf rfl (by ac_rfl) ?_;refine Bf rfl (by ac_rfl) ?_;refine Bf rfl (by ac_rfl) ?_;refine Bf rfl (by ac_rfl) ?_;refine Bf rfl (by ac_rfl) ?_;refine Jd rfl ?_;exact⟨_,rfl,a,dx,_,rfl,hi,rfl,_,rfl,ad,_,_,_,rfl,rfl,AV.of had,Bw (j:=1) rfl,a,d,n,AA,AD,rfl,g,nc,h64,fun u H' s' r=>q H' AA u (Ex.sub.trans s') (g.same s') r⟩
  |find ws far=>obtain⟨ad,xs,rfl,had,rr⟩:=CA rx;obtain⟨u1,u2,u3,rfl,r1,r2,r3⟩:=Ez rr;cases r1;cases r3;refine⟨_,rfl,ad,_,_,_,rfl,rfl,AV.of had,Bw (j:=0) rfl,?_⟩;refine Bf rfl (by ac_rfl) ?_;refine Bf rfl (by ac_rfl) ?_;refine Bf rfl (by ac_rfl) ?_;refine Bf rfl (by ac_rfl) ?_;refine Bf rfl (by ac_rfl) ?_;refine Bf rfl (by ac_rfl) ?_;refine Bf rfl (by ac_rfl) ?_;exact⟨_,rfl,a,dx,_,rfl,hi,rfl,_,rfl,ad,_,_,_,rfl,rfl,AV.of had,Bw (j:=1) rfl,_,rfl,ad,_,_,_,rfl,rfl,AV.of had,Bw (j:=2) rfl,a,d,u2,ws,far,AA,AD,rfl,g,nc,h64,r2,good.1,q⟩
noncomputable def Rs.next(AD:List Pg):Rs->List Pg
 |.no _=>AD
 |.ok _ p=>p
 |.un p=>p
noncomputable def Rs.QV:Rs->Option Dt
 |.no m=>some (.str m)
 |.ok r _=>some r
 |.un _=>none
def ZR(cN:Ya):Sp:=fun vs H Q _=>∃a d v x AA AD,vs=[.ref a,v]/\CU cN H a d AA AD/\C9 AD/\AD.length<64/\Rep H (Am.dt x) v/\x.Good/\
 ∀H' kvs' u,AO (Ex H d) H'->CU cN H' a d kvs' ((Dx AD x).next AD)->(∀r,(Dx AD x).QV=some r->Rep H' r u)->Q u H'
def CS:List Pg->List Am->List Pg
 |AD,[]=>AD
 |AD,x::xs=>CS ((Dx AD x).next AD) xs
theorem RX(x:Am):∀(xs:List Am)(AD:List Pg),CS AD (xs++[x])=(Dx (CS AD xs) x).next (CS AD xs)
 |[],AD=>rfl
 |y::ys,AD=>RX x ys _
def Small(AD:List Pg)(xs:List Am):Prop:=∀k,k<=xs.length->C9 (CS AD (xs.take k))/\(CS AD (xs.take k)).length<64
def Told(AD:List Pg)(xs:List Am)(H:Hp)(zs:List V):Prop:=∀(k:Nat)(x:Am)(v:V)(r:Dt),xs[k]? =some x->zs[k]? =some v->(Dx (CS AD (xs.take k)) x).QV=some r->Rep H r v
def Tw(cN:Ya):Sp:=fun vs H Q _=>∃a d v xs AA AD,vs=[.ref a,v]/\CU cN H a d AA AD/\Rep H (.lst (xs.map Am.dt)) v/\(∀x∈xs,x.Good)/\xs.length<=1000/\Small AD xs/\
 ∀H' kvs' l zs,AO (Ex H d) H'->CU cN H' a d kvs' (CS AD xs)->H' l=some (.lst zs)->zs.length=xs.length->Told AD xs H' zs->Q (.ref l) H'
theorem Wq(hd:H d=some (.dK kk))(s:AO (Ex H d) H'){x:Dt}(r:Rep H x v):Rep H' x v:=(Ma hd r).same s
theorem Z3:Az ["nook","deed","refusal"] ["nook","deed"] (Ao RI):=by ac_rfl
theorem kY{fD:Ya}{fdD:qX}(F:Aj K "answer_deed" "answer_deed" RI f fd)(T:Ii K mg cR fR)(GD:AW P w K mg base (Ci P w) 6 fD fdD ["nook","deed"] (UD K cN cR))(bD:Binds K fdD ["nook","deed"] [])(mD:mg "do_deed" =some (.ref fD))(kD:qo K (.ref fD)=true):
 AW P w K mg base Ah 7 f fd ["nook","deed"] (ZR cN):=by
 refine F.ok Z3 ?_ ?_
 ·rintro _ _ _ _ ⟨_,_,_,_,_,_,rfl,_⟩;rfl
 ·rintro _ A _ s H _ Q E hr ⟨a,d,v,x,AA,AD,rfl,g,nc,h64,rx,good,q⟩;refine⟨_,(AS (kg (tb:=fun E=>Z6 (NT (UD K cN cR) [] E (NV (Ee 0) (NV (Ee 1) Kh)))) (i:=2) (Rc:=cR) Z3.nd rfl rfl (fun pins W E hp=>AS (An (Ck GD hr rfl mD kD bD .nil hp (AE (pv 0) (AE (pv 1) AI))))) rfl T.mR T.cat ⟨rfl,rfl⟩)),?_⟩;refine⟨_,rfl,_,rfl,a,d,v,x,AA,AD,rfl,g,nc,h64,rx,good,?_⟩
  cases e:Dx AD x with
  |no msg=>rw[e] at q;exact fun C D H' xs xa s' hD=>⟨C,D,msg,rfl,rfl,xs,xa,hD,q H' AA _ (Ex.sub.trans s') (g.same s') fun r er=>by cases er;exact .str _⟩
  |ok r p=>rw[e] at q;exact fun H' kvs' u s' g' rr=>q H' kvs' u s' g' fun r er=>by cases er;exact rr
  |un p=>rw[e] at q;exact fun H' kvs' u s' g'=>q H' kvs' u s' g' fun r er=>by cases er
theorem mw:Az ["nook","deeds"] ["nook","deeds"] (Ao RQ):=by ac_rfl
theorem kU(F:Aj K "answer_all" "answer_all" RQ f fd)(HA:Hv P w K mg base "answer_deed" 7 ["nook","deed"] (ZR cN)):
 AW P w K mg base Ah 8 f fd ["nook","deeds"] (Tw cN):=by
 refine F.ok mw ?_ ?_
 ·rintro _ _ _ _ ⟨_,_,_,_,_,_,rfl,_⟩;rfl
 ·rintro _ A _ s H _ Q E hr ⟨a,d,v,xs,AA,AD,rfl,g,rx,good,hz,D6,q⟩;refine⟨_,(AS (An (Es (ts:=["deed"]) (cap:=["nook"]) (ix:=[0]) (Hq rfl rfl (by ac_rfl) (by ac_rfl) rfl rfl rfl rfl rfl) (GN (pv 1)) (fun _ _ _ _ _=>Bc (i:=0) (Gi (by ac_rfl)) rfl (AZ rfl) (Cd rfl))
   (fun _ _ _ _ _=>FG) (fun _ _ _ _ _=>Wy (Ca HA hr rfl A8 (AE (pv 1) (AE (pv 0) AI))))))),?_⟩;obtain⟨l,ys,rfl,hl,rr⟩:=Et rx;have hdc:=g.Br;have nld:l≠d:=CZ hl hdc (by intro z;cases z);have nD:∀D,H D=none->(Ex H d) D=none:=fun D hD=>by
   by_cases z:D=d
   ·rw[z];exact GL
   ·unfold Ex;rw[AF z];exact hD
  refine⟨_,rfl,l,rfl,⟨_,AJ.of hl⟩,fun D hD=>Fm (xs:=ys) (fun i H'=>∃H0 zs kvs',H'=upd H0 D (.lst zs)/\H0 D=none/\AO (Ex H d) H0/\CU cN H0 a d kvs' (CS AD (xs.take i))/\zs.length=i/\Told AD xs H0 zs) ?_ (fun i H' _ c=>?_) (fun i x H' ex c=>?_) fun H' c=>?_⟩
  ·exact⟨H,[],AA,rfl,hD,Ex.sub,g,rfl,fun k x v r _ ev=>by cases ev⟩
  ·obtain⟨H0,zs,kvs',rfl,h0,s0,_⟩:=c;have e:=s0 _ _ (Ex.at hl nld);exact AJ.of (by rw[AQ (A2 e h0)];exact e)
  ·obtain⟨H0,zs,kvs',rfl,h0,s0,g',rz,tl⟩:=c;obtain⟨x0,ex0,rx0⟩:=Hr rr ex;have hi:i<xs.length:=(BX.mp ex0).1;obtain⟨nc,h64⟩:=D6 i (by lia);have eE:Ex (upd H0 D (.lst zs)) D=H0:=by
    rw[Ex.upd];funext b;by_cases z:b=D
    ·rw[z,Ex.self,h0]
    ·rw[Ex.ne z]
   refine⟨E3,D,zs,AN,?_⟩;rw[eE];refine⟨_,rfl,_,rfl,a,d,x,x0,kvs',_,rfl,g',nc,h64,Wq hdc s0 rx0,good x0 (CK ex0),fun H2 kvs2 u s2 g2 r2 h2=>?_⟩;have e2:xs.take (i+1)=xs.take i++[x0]:=by rw[EO,ex0];rfl
   refine⟨zs,AN,?_,H2,zs++[u],kvs2,by rw[KD],h2,(Ex.of_none s0 GL).trans s2,by rw[e2,RX];exact g2,?_,?_⟩
   ·rw[A3]
    lia
   ·rw[A7,DD,rz]
   ·intro k y v r ey ev er;by_cases hk:k<zs.length
    ·rw[DC hk] at ev;exact Wq g'.Br s2 (tl k y v r ey ev er)
    ·rw[Cv (by lia)] at ev;have hk2:k=i:=by
      have:=(BX.mp ev).1;rw[DD] at this
      lia
     subst hk2;rw[rz,ER] at ev;cases ev;rw[ex0] at ey;cases ey;exact r2 r er
  ·obtain⟨H0,zs,kvs',rfl,h0,s0,g',rz,tl⟩:=c;have e:ys.length=xs.length:=by have:=rr.1;rw[AL] at this;lia
   rw[e,Cj] at g';have su:=Aa (o:=.lst zs) h0;exact q _ kvs' _ zs (s0.trans su) (g'.same su) AN (by lia) fun k x v r ex ev er=>(tl k x v r ex ev er).same su
abbrev bM:hX:=VW
abbrev bF:hX:=Vp
def Ld(H:Hp)(as:List Ya)(rows:List (List Int)):Prop:=as.length=rows.length/\∀(i:Nat) a row,as[i]? =some a->rows[i]? =some row->H a=some (.lst (row.map V.int))
variable{rows:List (List Int)}
theorem Ld.same{as:List Ya}(s:AO H H')(h:Ld H as rows):Ld H' as rows:=⟨h.1,fun i a row h1 h2=>s _ _ (h.2 i a row h1 h2)⟩
noncomputable def keysOf(q:Int×Nat):List Key:=[Sum.inl q.1,Sum.inl (q.2:Int)]
def JD(H:Hp)(l:List (Ya×Int×Nat)):Prop:=∀p∈l,H p.1=some (.tup [.int p.2.1,.int (p.2.2:Int)])
theorem JD.same{l:List (Ya×Int×Nat)}(s:AO H H')(h:JD H l):JD H' l:=fun p hp=>s _ _ (h p hp)
def bb(rows:List (List Int)):Prop:=rows.length<=9/\∀row∈rows,row.length<=100000
def Z9:Sp:=fun vs H Q _=>∃(a:Ya)(as:List Ya)(rows:List (List Int)),vs=[.ref a]/\H a=some (.lst (as.map V.ref))/\Ld H as rows/\bb rows/\
 ∀(D:Ya)(l:List (Ya×Int×Nat))(H':Hp),AO H H'->H' D=some (.lst (l.map fun p=>V.ref p.1))->JD H' l->l.length<=900000->Q (.ref D) H'
noncomputable def L7:List Key->Int×Nat
 |[.inl a,.inl b]=>(a,b.toNat)
 |_=>(0,0)
theorem iR(q:Int×Nat):L7 (keysOf q)=q:=by show(q.1,(q.2:Int).toNat)=q;rw[Hj]
theorem P8:Az ["rows","marks","number","row"] ["rows"] (Ao bM):=by ac_rfl
theorem nr(F:Aj K "places_in_order" "places_in_order" bM f fd)(hen:mg "enumerate" =none)(hso:mg "sorted" =none):AW P w K mg base Ah 1 f fd ["rows"] Z9:=by
 refine F.ok P8 ?_ ?_
 ·rintro _ _ _ _ ⟨_,_,_,rfl,_⟩;rfl
 ·rintro _ A _ s H _ Q E hr ⟨a,as,rows,rfl,ha,hrows,Cg,k⟩;refine⟨_,AU (Au (i:=1) P8.nd rfl (AZ rfl) (Bx AI))
   (AU (EI ED rfl (YE rfl hen (AE (pv 0) AI)) (Le rfl (Fn (Bc (i:=2) P8.nd rfl (Cd rfl)) (Fn (Bc (i:=3) P8.nd rfl (AZ rfl)) LW)))
    (AS (Bn (JS D9 PySem.F.slot_list_extend PySem.F.type_list_extend fq (pv 1)
     (AE (Es (ts:=["place"]) (cap:=["number"]) (ix:=[2]) (Hq rfl rfl (by ac_rfl) (by ac_rfl) rfl rfl rfl rfl rfl) (GN (pv 3))
      (fun _ _ _ _ _=>Bc (i:=0) (Gi (by ac_rfl)) rfl (AZ rfl) (Cd rfl)) (fun _ _ _ _ _=>FG) (fun _ _ _ _ _=>CQ (AE (pv 0) (AE (pv 1) AI)))) AI)))))
   (AS (An (BY Ra rfl hso LC (AE (pv 1) AI))))),?_⟩;refine⟨by show 0<=sizeLine;decide,fun mr hmr=>?_⟩;have nam:a≠mr:=A2 ha hmr;refine⟨_,rfl,a,rfl,⟨_,AJ.of (by rw[AQ nam];exact ha)⟩,?_⟩;refine gU (K:=K) (a:=a) (xs:=as.map V.ref) (fun i σ H'=>∃(v2 v3:Option V)(l:List (Ya×Int×Nat)),σ=[some (.ref a),some (.ref mr),v2,v3]/\AO H H'/\H' mr=some (.lst (l.map fun p=>V.ref p.1))/\JD H' l/\l.length<=i*100000)
   ⟨none,none,[],rfl,(AO.refl H).upd hmr,AN,fun p hp=>(by cases hp),CH _⟩ (fun i σ H' _ ⟨_,_,_,_,sm,_⟩=>AJ.of (sm _ _ ha)) ?_ ?_
  ·rintro i x p σ H' hx hp ⟨v2,v3,l,rfl,sm,hm,pl,el⟩;rw[Ax] at hx
   cases ea:as[i]?with
   |none=>rw[ea] at hx;cases hx
   |some ai=>
   rw[ea] at hx;obtain rfl:V.ref ai=x:=Ag hx;have hi:i<rows.length:=by rw[<-hrows.1];exact(BX.mp ea).1
   have er:rows[i]? =some rows[i]:=Aq hi;generalize rows[i]=row at er;have hai:H ai=some (.lst (row.map V.int)):=hrows.2 i ai row ea er;have s1:AO H' (upd H' p (.tup [.int (i:Int),.ref ai])):=Aa hp;have hl1:=Cg.2 _ (CK er);have Nv:=Cg.1;refine⟨p,_,rfl,AV.of AN,rfl,_,_,rfl,_,_,rfl,rfl,?_⟩;have hm1:=s1 _ _ hm;refine⟨_,rfl,.inl ⟨rfl,_,AJ.of hm1⟩,_,rfl,ai,rfl,⟨_,AJ.of ((sm.trans s1) _ _ hai)⟩,fun D hD=>?_⟩;have nmD:mr≠D:=A2 hm1 hD;refine Fm (K:=K) (xs:=row.map V.int) (fun j H2=>∃t:List (Ya×Int×Nat),AO (upd H' p (.tup [.int (i:Int),.ref ai])) H2/\H2 D=some (.lst (t.map fun p=>V.ref p.1))/\JD H2 t/\t.length<=j)
    ⟨[],Aa hD,AN,fun p hp=>(by cases hp),CH _⟩ (fun j H2 _ ⟨_,s2,_⟩=>AJ.of (s2 _ _ ((sm.trans s1) _ _ hai))) ?_ ?_
   ·rintro j y H2 hy ⟨t,s2,hD2,pt,et⟩;rw[Ax] at hy
    cases ey:row[j]?with
    |none=>rw[ey] at hy;cases hy
    |some z=>
    rw[ey] at hy;obtain rfl:V.int z=y:=Ag hy;have hj:j<row.length:=(BX.mp ey).1;refine⟨E3,_,rfl,_,rfl,by show 2<=sizeLine;decide,fun tp htp=>⟨t.map fun p=>V.ref p.1,(Aa htp) _ _ hD2,by rw[AL,A3];lia,t++[(tp,z,i)],(s2.upd (s2.free htp)).upd hD,?_,fun q hq=>?_,?_⟩⟩
    ·rw[AN,BS];rfl
    ·have htD:tp≠D:=(A2 hD2 htp).symm;rcases Bh.mp hq with e|e
     ·have h1:=pt q e;rw[AQ (CZ h1 hD2 (by intro zz;cases zz)),AQ (A2 h1 htp)];exact h1
     ·rw[Bg.mp e,AQ htD,AN]
    ·rw[A7,DD]
     lia
   ·rintro H2 ⟨t,s2,hD2,pt,et⟩;rw[AL] at et;have hm2:=s2 _ _ hm1;refine⟨mr,D,_,_,rfl,rfl,hm2,hD2,by rw[AL,AL,A3];lia,some (.int (i:Int)),some (.ref ai),l++t,rfl,(sm.trans (s1.trans s2)).upd hmr,?_,fun q hq=>?_,?_⟩
    ·rw[AN,BS]
    ·have h1:H2 q.1=some (.tup [.int q.2.1,.int (q.2.2:Int)]):=by
      rcases Bh.mp hq with e|e
      ·exact(s1.trans s2) _ _ (pl q e)
      ·exact pt q e
     rw[AQ (CZ h1 hm2 (by intro zz;cases zz))];exact h1
    ·rw[A7,Nat.succ_mul]
     lia
  ·rintro σ H' ⟨v2,v3,l,rfl,sm,hm,pl,el⟩;rw[AL,hrows.1] at el;have Nv:=Cg.1;refine⟨_,rfl,mr,l.map (fun p=>(p.1,keysOf p.2)),[true,true],rfl,AJ.of (by rw[hm,BV];rfl),by simp,fun q hq=>?_,by rw[AL];lia,fun D qs hD hperm hsort=>?_⟩
   ·obtain⟨p,hp,e⟩:=BI.mp hq;rw[<-e];exact⟨pl p hp,rfl⟩
   ·have p2:(qs.map fun q=>(q.1,L7 q.2)).Perm l:=by
     have:=hperm.map fun q=>(q.1,L7 q.2);rw[BV] at this;have e3:l.map ((fun q:Ya×List Key=>(q.1,L7 q.2))∘fun p:Ya×Int×Nat=>(p.1,keysOf p.2))=l:=by
      conv=>rhs;rw[<-Jv l]
      refine DF fun p hp=>?_;show(p.1,L7 (keysOf p.2))=p;rw[iR]
     rw[e3] at this;exact this
    refine k D (qs.map fun q=>(q.1,L7 q.2)) _ (sm.upd (sm.free hD)) ?_ (fun q hq=>?_) ?_
    ·rw[AN,BV];rfl
    ·have h1:=pl q (p2.mem_iff.mp hq);rw[AQ (A2 h1 hD)];exact h1
    ·rw[p2.length_eq]
     lia
noncomputable def aP:Option Int->V
 |none=>.BA
 |some m=>.int m
def aZ:Sp:=fun vs H Q _=>∃(a:Ya)(as:List Ya)(rows:List (List Int)),vs=[.ref a]/\H a=some (.lst (as.map V.ref))/\Ld H as rows/\bb rows/\
 ∀(b:Option Int)(H':Hp),AO H H'->Q (aP b) H'
theorem iL(h:∀q∈AA,∃n,q.2=V.int n)(k:Key)(p:Int):∀q∈putK AA k (V.int p),∃n,q.2=V.int n:=fun q hq=>by
 unfold putK at hq;split at hq
 ·obtain⟨z,hz,e⟩:=BI.mp hq;split at e
  ·exact⟨p,by rw[<-e]⟩
  ·rw[<-e];exact h z hz
 ·rcases Bh.mp hq with e|e
  ·exact h q e
  ·exact⟨p,by rw[Bg.mp e]⟩
theorem gy(AA:List (Key×V))(k:Key)(v:V):putK AA k v≠[]:=fun z=>by have:=iJ AA k k v;rw[z,AH rfl] at this;cases this
theorem Xx:∀{AA:List (Key×V)},(∀q∈AA,∃n,q.2=V.int n)->∃ns:List Int,AA.map (·.2)=ns.map V.int
 |[],_=>⟨[],rfl⟩
 |q::AA,h=>by obtain⟨ns,e⟩:=Xx fun z hz=>h z (DE _ hz);obtain⟨n,en⟩:=h q Di;exact⟨n::ns,by rw[Av,e,en];rfl⟩
theorem Ka:Az ["rows","latest","best","place","number","length"] ["rows"] (Ao bF):=by ac_rfl
theorem dX:DH X (.builtin "len") (fun xs H Q=>∃a AA,xs=[V.ref a]/\H a=some (.dK AA)/\Q (.int AA.length) H):=by intro pins s σ H xs us Q I r h;obtain⟨a,AA,rfl,ha,q⟩:=h;obtain⟨u,rfl,ru⟩:=vals1 r;cases ru;exact oO I (.inl ha) fun t s' I'=>⟨.int AA.length,H,I',⟨t,rfl⟩,q⟩
theorem nW(F:Aj K "shortest" "shortest" bF f fd)(HP:Hv P w K mg base "places_in_order" 1 ["rows"] Z9)
 (hlen:mg "len" =none)(hmin:mg "min" =none):AW P w K mg base Ah 2 f fd ["rows"] aZ:=by
 refine F.ok Ka ?_ ?_
 ·rintro _ _ _ _ ⟨_,_,_,rfl,_⟩;rfl
 ·rintro _ A _ s H _ Q E hr ⟨a,as,rows,rfl,ha,hrows,Cg,k⟩;have hu:=Cm hr;refine⟨_,AU (Au (i:=1) Ka.nd rfl (AZ rfl) Ow)
   (AU (Au (i:=2) Ka.nd rfl (AZ rfl) kQ)
   (AU (EI ED rfl (GN (Ca HP hr rfl A8 (AE (pv 0) AI))) (Le rfl (Fn (Bc (i:=3) Ka.nd rfl (AZ rfl)) (Fn (Bc (i:=4) Ka.nd rfl (AZ rfl)) LW)))
    (AU (FE hu (pv 1) (pv 4) (pv 3) rfl)
    (AS (A1 (Aw BW (BY dX rfl hlen Dj (AE (pv 1) AI)) (BY IW rfl hlen Dj (AE (pv 0) AI)) (Ar _))
     (AU (Au (i:=5) Ka.nd rfl (AZ rfl) (Ai DO (Ai TR (pv 3) (BY (eT rfl) rfl hmin boot_min (AE (NF MG U1 tj Wc (pv 1)) AI))) Ac))
     (AS (A1 (PW.pt (JT (JM (lC (pv 2))) (JG (Aw JQ (pv 5) (pv 2) (Ar _))))) (AS (Au (i:=2) Ka.nd rfl (AZ rfl) (pv 5))) BE)))
     BE))))
   (AS (An (pv 2))))),?_⟩;intro d hd;have nad:a≠d:=A2 ha hd;have s0:AO H (upd H d (.dK [])):=Aa hd;refine⟨_,rfl,a,as,rows,rfl,s0 _ _ ha,hrows.same s0,Cg,fun D l H1 s1 hD pl hll=>?_⟩;have hd1:H1 d=some (.dK []):=s1 _ _ AN;refine⟨D,rfl,⟨_,AJ.of hD⟩,?_⟩;refine JA (K:=K) (a:=D) (xs:=l.map fun p=>V.ref p.1) (fun i σ H'=>∃(b:Option Int)(v3 v4 v5:Option V)(AA:List (Key×V)),σ=[some (.ref a),some (.ref d),some (aP b),v3,v4,v5]/\AO H H'/\H' D=some (.lst (l.map fun p=>V.ref p.1))/\JD H' l/\H' d=some (.dK AA)/\
   (∀q∈AA,∃n,q.2=V.int n)/\AA.length<=i) ⟨none,none,none,none,[],rfl,s0.trans s1,hD,pl,hd1,fun q hq=>(by cases hq),Ab 0⟩ (fun i σ H' _ ⟨_,_,_,_,_,_,_,h,_⟩=>AJ.of h) ?_ ?_
  ·rintro i x σ H' hx ⟨b,v3,v4,v5,AA,rfl,sm,hD2,pl2,hd2,iz,hkl⟩;rw[Ax] at hx
   cases el:l[i]?with
   |none=>rw[el] at hx;cases hx
   |some q=>
   rw[el] at hx;obtain rfl:V.ref q.1=x:=Ag hx;have hi:i<l.length:=(BX.mp el).1;obtain⟨ad,p,r⟩:=q;have hq:=pl2 _ (CK el);have iz':=iL iz (Sum.inl (r:Int)) p;have hkl':=Od AA (Sum.inl (r:Int)) (V.int p);have hne:=gy AA (Sum.inl (r:Int)) (V.int p);refine⟨ad,_,rfl,AV.of hq,rfl,_,_,rfl,_,_,rfl,rfl,?_⟩;refine⟨_,rfl,_,rfl,_,rfl,d,_,rfl,Dc.kq (k:=Sum.inl (r:Int)) hd2 (by rw[A3];lia),?_⟩;generalize ekv:putK AA (Sum.inl (r:Int)) (V.int p)=kvs' at iz' hkl' hne;have hdd:(upd H' d (.dK kvs')) d=some (.dK kvs'):=AN;have hka:∀b o,H' b=some o->(∀z,o≠.dK z)->(upd H' d (.dK kvs')) b=some o:=fun b o h hz=>by rw[AQ (CZ h hd2 (hz AA))];exact h
   have sm':AO H (upd H' d (.dK kvs')):=sm.upd hd;have hD3:=hka D _ hD2 (by intro z zz;cases zz);have pl3:JD (upd H' d (.dK kvs')) l:=fun y hy=>hka _ _ (pl2 y hy) (by intro z zz;cases zz);generalize upd H' d (.dK kvs')=H2 at hdd sm' hD3 pl3;refine⟨_,rfl,d,kvs',rfl,hdd,_,rfl,a,_,rfl,.inl (AJ.of (sm' _ _ ha)),rfl,_,rfl,?_⟩;have eln:((as.map V.ref).length:Nat)=rows.length:=by rw[AL];exact hrows.1
   by_cases hfull:kvs'.length=rows.length
   ·refine CG (by rw[eln,hfull]) ?_;obtain⟨ns,hv⟩:=Xx iz';have hne:ns≠[]:=by rintro rfl;exact hne (OB.mp hv)
    refine⟨_,rfl,_,rfl,.inr (.inr (.inl ⟨rfl,.inl ⟨_,hdd⟩⟩)),d,kvs',rfl,rfl,hdd,fun vp hvp=>⟨vp,d,kvs',ns,rfl,AN,(Aa hvp) _ _ hdd,hv,hne,fun mn hmn hle=>⟨_,_,rfl,rfl,_,_,rfl,rfl,?_⟩⟩⟩;have sv:AO H2 (upd H2 vp (HH vp d)):=Aa hvp;generalize upd H2 vp (HH vp d)=H3 at sv
    cases b with
    |none=>refine⟨_,rfl,_,rfl,CG rfl (Bm ⟨_,rfl,?_⟩)⟩;exact⟨some (p-mn+1),_,_,_,kvs',rfl,sm'.trans sv,sv _ _ hD3,pl3.same sv,sv _ _ hdd,iz',by lia⟩
    |some b0=>
     refine⟨_,rfl,_,rfl,CT (by intro z;cases z) ⟨_,rfl,_,rfl,_,_,rfl,rfl,_,rfl,?_⟩⟩;by_cases hlt:p-mn+1<b0
     ·refine CG hlt ⟨_,rfl,?_⟩;exact⟨some (p-mn+1),_,_,_,kvs',rfl,sm'.trans sv,sv _ _ hD3,pl3.same sv,sv _ _ hdd,iz',by lia⟩
     ·refine CT hlt ?_;exact⟨some b0,_,_,_,kvs',rfl,sm'.trans sv,sv _ _ hD3,pl3.same sv,sv _ _ hdd,iz',by lia⟩
   ·refine CT (by rw[eln];intro z;exact hfull (by have:=V.int.inj z;lia)) ?_;exact⟨b,_,_,_,kvs',rfl,sm',hD3,pl3,hdd,iz',by lia⟩
  ·rintro σ H' ⟨b,v3,v4,v5,AA,rfl,sm,hD2,pl2,hd2,iz,hkl⟩;exact⟨_,rfl,k b H' sm⟩
def rowsOf(ws:List PR)(pl:List Str):List (List Int):=pl.map fun z=>Ef z 0 ws
theorem W7:∀(ws σ:List Str),(FU σ ws).length<=σ.length+ws.length
 |[],σ=>by simp[FU]
 |z::ws,σ=>by
  have h1:=W7 ws (E7 σ z);have h2:=Xi σ z;rw[FU,CP]
  lia
theorem ju{zs:List V}(r:Ae H (rows.map fun r=>Dt.lst (r.map Dt.int)) zs):∃as,zs=as.map V.ref/\Ld H as rows:=by
 have each:∀(i:Nat) v,zs[i]? =some v->∃a row,v=.ref a/\rows[i]? =some row/\H a=some (.lst (row.map V.int)):=fun i v e=>by obtain⟨row,er,rd⟩:=Hr r e;obtain⟨a,xs,rfl,ha,rr⟩:=Et rd;rw[Rm rr] at ha;exact⟨a,row,rfl,er,ha⟩
 refine⟨zs.map fun v=>match v with|.ref a=>a|_=>0,?_,?_,fun i a row h1 h2=>?_⟩
 ·rw[BV];conv=>lhs;rw[<-Jv zs]
  refine DF fun v hv=>?_;obtain⟨i,hi⟩:=VH hv;obtain⟨a,_,rfl,_⟩:=each i v hi;rfl
 ·have:=r.1;rw[AL] at this;rw[AL,this]
 ·rw[Ax] at h1
  cases e:zs[i]?with
  |none=>rw[e] at h1;cases h1
  |some v=>rw[e] at h1;obtain⟨b,row',rfl,e2,hb⟩:=each i v e;rw[h2] at e2;cases Ag e2;cases Ag h1;exact hb
theorem dO(hK:X.K=K):DH X (.builtin "len") (fun xs H Q=>∃p ys,xs=[.ref p]/\(AJ K H p ys\/AV K H p ys)/\Q (.int ys.length) H):=by subst hK;exact IW
def Y0:Sp:=fun vs H Q _=>∃d v near AA AD,∃ws:List Str,vs=[.ref d,v,.int near]/\H d=some (.dK (As AA))/\DV H AA AD/\MB AD/\Rep H (.tup (ws.map Dt.str)) v/\ws.length<=9/\∀H' u,AO H H'->Q u H'
theorem kZ{o:HO}(s:AO H H'):AO (Ex H d) (upd H' d o):=fun b u e=>by
 by_cases z:b=d
 ·rw[z,Ex.self] at e;cases e
 ·rw[Ex.ne z] at e;rw[AQ z];exact s _ _ e
theorem oj{y:Str}{a b c:V}:Io [x,y,z] [] σ [some a,some b,some c]:=⟨[some a,some b,some c],rfl,rfl⟩
theorem JI:Az ["pages","wanted","near","plains","found","page","words","rows","length","places"] ["pages","wanted","near"] (Ao RR):=by ac_rfl
theorem l7:qc "set" =some (.type "set"):=by ac_rfl
theorem kX:((["length","places","page"]:List Str)++([]:List Str)).Nodup:=by ac_rfl
theorem i4(F:Aj K "pages_near" "pages_near" RR f fd)(O:HW mg)
 (HP:Hv P w K mg base "places_of" 1 ["words","plain"] Zn)
 (HS:Hv P w K mg base "shortest" 2 ["rows"] aZ):AW P w K mg base Ah 3 f fd ["pages","wanted","near"] Y0:=by
 obtain⟨_,_,GP,bP,mP,kP⟩:=HP.ex;refine F.ok JI ?_ ?_
 ·rintro _ _ _ _ ⟨_,_,_,_,_,_,rfl,_⟩;rfl
 ·rintro _ A _ s H _ Q E hr ⟨d,v,near,AA,AD,ws,rfl,hd,g,sm0,rv,hws,q⟩;have hu1:=Cm hr;refine⟨_,(AU (Au (i:=3) JI.nd rfl (AZ rfl) (BY (cp (P:=P) (w:=w) rfl rfl rfl) rfl O.so LC (AE (EE (fj (P:=P) (w:=w) (K:=K) rfl rfl rfl rfl) rfl O.set l7 (AE (pv 1) AI)) AI)))
   (AU (Au (i:=4) JI.nd rfl (AZ rfl) (Bx AI))
   (AU (jM (EI ED rfl (XD (NF MG U3 tw Ww (pv 0))) (Le rfl (Fn (Bc (i:=5) JI.nd rfl (AZ rfl)) (Fn (Bc (i:=6) JI.nd rfl (Cd rfl)) LW)))
    (AU (Sn (i:=7) (ts:=["plain"]) (cap:=["words"]) (ix:=[6]) (Hq rfl rfl (by ac_rfl) (by ac_rfl) rfl rfl rfl rfl rfl) JI.nd rfl rfl (GN (pv 3))
     (fun _ _ _ _ _=>Bc (i:=0) (Gi (by ac_rfl)) rfl (AZ rfl) (Cd rfl)) (fun _ _ _ _ _=>FG) (fun _ _ _ _ _=>Wy (Ck (GP.mono (by decide:1<=2)) hr rfl mP kP bP .nil A8 (AE (pv 1) (AE (pv 0) AI)))))
    (AU (Au (i:=8) JI.nd rfl (AZ rfl) (Ca HS hr rfl A8 (AE (pv 7) AI)))
    (AS (A1 (PW.pt (FJ (JM (jE (pv 8))) (G9 (Aw mv (pv 8) (pv 2) (Ar _)))))
     (AU (Au (i:=9) JI.nd rfl (AZ rfl) (BY (V3 rfl) rfl O.sum tZ (AE (Es (ts:=["row"]) (cap:=[]) (ix:=[]) (cl:=[]) (J2 rfl rfl (by ac_rfl) (by ac_rfl)) (GN (pv 7))
      (fun _ _ _ _ _=>Bc (i:=0) FY rfl (AZ rfl) (Cd rfl)) (fun _ _ _ _ _=>FG) (fun _ _ _ _ _=>BY (dO (K:=K) rfl) rfl O.len Dj (AE (pv 0) AI))) AI)))
     (AS (Bn (JS D9 Fh Fg Ep (pv 4) (AE (CQ (AE (pv 8) (AE (Eb EY (pv 9)) (AE (pv 5) AI)))) AI))))) BE))))))
   (AS (An (Es (ts:=["length","places","page"]) (cap:=[]) (ix:=[]) (cl:=[]) (J2 rfl rfl (by ac_rfl) (by ac_rfl)) (GN (BY Ra rfl O.so LC (AE (pv 4) AI)))
    (fun _ _ _ _ _=>jA (K:=K) (i:=0) (j:=1) (l:=2) rfl rfl kX rfl (AZ rfl) (Cd rfl) rfl (AZ rfl) (Cd rfl) rfl (AZ rfl) (Cd rfl)) (fun _ _ _ _ _=>FG) (fun _ _ _ _ _=>CQ (AE (pv 2) (AE (pv 0) AI))))))))),?_⟩;obtain⟨av,xs,rfl,ha,rr⟩:=CA rv;rw[Jx rr] at ha;refine⟨_,rfl,av,ws,rfl,AV.of ha,by lia,fun Dz hz=>⟨Dz,FU [] ws,rfl,AN,fun Dp ys hDp pz sz=>?_⟩⟩;have ylen:=W7 ws [];rw[<-pz.length_eq,K2,Nat.zero_add] at ylen;have s1:AO H (upd (upd H Dz (L9 P w Dz (FU [] ws))) Dp (.lst (ys.map V.str))):=(Aa hz).trans (Aa hDp);have hp1:(upd (upd H Dz (L9 P w Dz (FU [] ws))) Dp (.lst (ys.map V.str))) Dp=some (.lst (ys.map V.str)):=AN;refine⟨by show 0<=sizeLine;decide,fun fo hfo=>?_⟩;have s2:=s1.trans (Aa (o:=.lst []) hfo);have hp2:=(Aa (o:=.lst []) hfo) _ _ hp1;have hf2:(upd (upd (upd H Dz (L9 P w Dz (FU [] ws))) Dp (.lst (ys.map V.str))) fo (.lst [])) fo=some (.lst []):=AN;have hfH:H fo=none:=s1.free hfo;have nDf:Dp≠fo:=A2 hp1 hfo;generalize upd (upd (upd H Dz (L9 P w Dz (FU [] ws))) Dp (.lst (ys.map V.str))) fo (.lst [])=H2 at s2 hp2 hf2;have hd2:=s2 _ _ hd;refine⟨d,As AA,hd2,_,rfl,.inr (.inr (.inl ⟨rfl,.inl ⟨_,hd2⟩⟩)),d,_,rfl,rfl,hd2,fun p hp=>⟨p,d,As AA,rfl,AN,by rw[AQ (A2 hd2 hp)];exact hd2,fun o=>?_⟩⟩;have gE:=g.ex hd;have sE:AO (Ex H d) (upd (upd H2 p (Hy p d)) d (.BR o (.dK (As AA)))):=kZ (s2.trans (Aa hp));have npd:Dp≠d:=CZ hp2 hd2 (by intro z;cases z);have nfd:fo≠d:=CZ hf2 hd2 (by intro z;cases z);have hpA:(upd (upd H2 p (Hy p d)) d (.BR o (.dK (As AA)))) Dp=some (.lst (ys.map V.str)):=by rw[AQ npd];exact(Aa hp) _ _ hp2
  have hfA:(upd (upd H2 p (Hy p d)) d (.BR o (.dK (As AA)))) fo=some (.lst []):=by rw[AQ nfd];exact(Aa hp) _ _ hf2
  refine eY (fun i σ H'=>∃(v5 v6 v7 v8 v9:Option V)(l:List (Ya×List Key)),σ=[some (.ref d),some (.ref av),some (.int near),some (.ref Dp),some (.ref fo),v5,v6,v7,v8,v9]/\AO (Ex H d) H'/\H' d=some (.BR o (.dK (As AA)))/\H' Dp=some (.lst (ys.map V.str))/\
   H' fo=some (.lst (l.map fun p=>V.ref p.1))/\(∀q∈l,H' q.1=some (.tup (q.2.map kV))/\∃m c n,q.2=[.inl m,.inl c,.inr n])/\l.length<=i) ⟨none,none,none,none,none,[],rfl,sE,AN,hpA,hfA,fun q hq=>(by cases hq),Ab 0⟩ (fun i σ H' ⟨_,_,_,_,_,_,_,_,h,_⟩=>h) ?_ ?_
  ·rintro i k x pr σ H' ex hpr ⟨v5,v6,v7,v8,v9,l,rfl,sm,hdz,hpl,hfl,hl,el⟩;obtain⟨n,ekv,rfl⟩:=PX ex;have hi:i<AD.length:=by rw[<-g.len];exact(BX.mp ekv).1
   have ep:AD[i]? =some AD[i]:=Aq hi;obtain⟨en,rw_⟩:=gE.row i _ _ ekv ep;have en:n=AD[i].1:=en;have rw_:Rep (Ex H d) (DZ AD[i].2) x:=rw_;have wl:AD[i].2.length<=100000:=sm0.short _ (Fj hi);generalize AD[i]=pg at ep en rw_ wl;have s3:AO H' (upd H' pr (.tup [kV (Sum.inr n),x])):=Aa hpr;refine⟨pr,_,rfl,AV.of AN,rfl,_,_,rfl,_,_,rfl,rfl,?_⟩;generalize upd H' pr (.tup [kV (Sum.inr n),x])=H3 at s3;have sm3:=sm.trans s3;have hpl3:=s3 _ _ hpl;refine⟨_,rfl,Dp,rfl,⟨_,AJ.of hpl3⟩,fun D hD=>Fm (xs:=ys.map V.str) (fun j H4=>∃H0 zs,H4=upd H0 D (.lst zs)/\H0 D=none/\AO H3 H0/\Ae H0 ((rowsOf pg.2 (ys.take j)).map fun r=>Dt.lst (r.map Dt.int)) zs) ?_ (fun j H4 _ c=>?_) (fun j y H4 ey' c=>?_) fun H4 c=>?_⟩
   ·exact⟨H3,[],rfl,hD,AO.refl _,Ae.nil⟩
   ·obtain⟨H0,zs,rfl,h0,s0,_⟩:=c;have e:=s0 _ _ hpl3;exact AJ.of (by rw[AQ (A2 e h0)];exact e)
   ·obtain⟨H0,zs,rfl,h0,s0,rz⟩:=c;rw[Ax] at ey'
    cases ez:ys[j]?with
    |none=>rw[ez] at ey';cases ey'
    |some z=>
    rw[ez] at ey';obtain rfl:V.str z=y:=Ag ey';have eE:Ex (upd H0 D (.lst zs)) D=H0:=by
     rw[Ex.upd];funext b;by_cases c:b=D
     ·rw[c,Ex.self,h0]
     ·rw[Ex.ne c]
    refine⟨E3,D,zs,AN,?_⟩;rw[eE];refine⟨_,rfl,_,rfl,x,pg.2,z,rfl,rw_.same (sm3.trans s0),wl,fun u H5 s5 ru h5=>?_⟩;refine⟨zs,AN,?_,H5,zs++[u],by rw[KD],h5,s0.trans s5,?_⟩
    ·have h1:=rz.1;unfold rowsOf at h1;rw[AL,AL] at h1;have h2:=F8 j ys;rw[A3]
     lia
    ·have e2:rowsOf pg.2 (ys.take (j+1))=rowsOf pg.2 (ys.take j)++[Ef z 0 pg.2]:=by unfold rowsOf;rw[EO,ez,BS];rfl
     rw[e2,BS];exact(rz.same s5).snoc ru
   ·obtain⟨H0,zs,rfl,h0,s0,rz⟩:=c;rw[AL,Cj] at rz;obtain⟨as,rfl,ra⟩:=ju rz;have s4:AO H0 (upd H0 D (.lst (as.map V.ref))):=Aa h0;have hD4:(upd H0 D (.lst (as.map V.ref))) D=some (.lst (as.map V.ref)):=AN;have ra4:=ra.same s4;have s34:=s0.trans s4;generalize upd H0 D (.lst (as.map V.ref))=H4 at s4 hD4 ra4 s34;have rl:(rowsOf pg.2 ys).length=ys.length:=by unfold rowsOf;rw[AL]
    have rsm:∀row∈rowsOf pg.2 ys,row.length<=100000:=fun row hr'=>by obtain⟨z,_,rfl⟩:=BI.mp hr';exact BF (SN z pg.2 0) wl
    generalize rowsOf pg.2 ys=rows at ra4 rl rsm rz ra;refine⟨_,rfl,D,as,rows,rfl,hD4,ra4,⟨by lia,rsm⟩,fun bst H5 s5=>?_⟩;have s35:=s34.trans s5;have hdz5:=(s3.trans s35) _ _ hdz;have hpl5:=s35 _ _ hpl3;have hfl5:=(s3.trans s35) _ _ hfl;have hl5:∀q∈l,H5 q.1=some (.tup (q.2.map kV))/\∃m c n,q.2=[.inl m,.inl c,.inr n]:=fun q hq=>⟨(s3.trans s35) _ _ (hl q hq).1,(hl q hq).2⟩;have sm5:=sm3.trans s35
    cases bst with
    |none=>refine⟨_,rfl,_,rfl,EZ rfl ?_⟩;exact⟨_,_,_,_,_,l,rfl,sm5,hdz5,hpl5,hfl5,hl5,by lia⟩
    |some m=>
     refine⟨_,rfl,_,rfl,HK (by intro z;cases z) ⟨_,rfl,_,rfl,_,_,rfl,rfl,_,rfl,?_⟩⟩;by_cases hmn:m<=near
     ·refine CG hmn ?_;have hD5:=s5 _ _ hD4;have ra5:=ra4.same s5;refine⟨_,rfl,D,rfl,⟨_,AJ.of hD5⟩,fun D2 hD2=>Fm (xs:=as.map V.ref) (fun j H6=>CI H5 D2 (((rows.take j).map fun r=>(r.length:Int)).map Dt.int) H6) (CI.start hD2) (fun j H6 _ c=>AJ.of (c.same _ _ hD5)) (fun j y H6 ey' c=>?_) fun H6 c=>?_⟩
      ·rw[Ax] at ey'
       cases ea:as[j]?with
       |none=>rw[ea] at ey';cases ey'
       |some aj=>
       rw[ea] at ey';obtain rfl:V.ref aj=y:=Ag ey';have hj:j<rows.length:=by rw[<-ra5.1];exact(BX.mp ea).1
       have erj:rows[j]? =some rows[j]:=Aq hj;have haj:=c.same _ _ (ra5.2 j aj _ ea erj);refine⟨E3,_,rfl,aj,_,rfl,.inl (AJ.of haj),?_⟩;rw[Gs (f:=fun r:List Int=>(r.length:Int)) erj,BS,AL];refine c.push (.int _) ?_;rw[AL,AL];have:=F8 j rows
       lia
      ·rw[AL,ra5.1,Cj] at c;obtain⟨z2,hz2,rz2⟩:=c.lst;rw[Rm rz2] at hz2;have s6:=c.same;have hfl6:=s6 _ _ hfl5;have h4:=sm0.Cg;refine⟨D2,_,rfl,AJ.of hz2,_,rfl,.inl ⟨rfl,_,AJ.of hfl6⟩,_,rfl,_,rfl,_,rfl,_,rfl,by show 3<=sizeLine;decide,fun tp htp=>?_⟩;have st:=Aa (o:=.tup [.int m,.int (-(((rows.map fun r=>(r.length:Int))).sum)),kV (Sum.inr n)]) htp;have hfl7:=st _ _ hfl6;have s7:=s6.trans st;have hE:(Ex H d) fo=none:=by rw[Ex.ne nfd];exact hfH
       have ntf:tp≠fo:=(A2 hfl6 htp).symm;refine⟨fo,_,_,rfl,rfl,hfl7,by rw[AL,A3];lia,?_⟩;refine⟨_,_,_,_,_,l++[(tp,[.inl m,.inl (-((rows.map fun r=>(r.length:Int)).sum)),.inr pg.1])],rfl,(sm5.trans s7).upd hE,by rw[AQ nfd.symm];exact s7 _ _ hdz5,by rw[AQ nDf];exact s7 _ _ hpl5,?_,fun q hq=>?_,?_⟩
       ·rw[AN,BS];rfl
       ·rcases Bh.mp hq with e|e
        ·have h1:=s7 _ _ (hl5 q e).1;rw[AQ (CZ h1 hfl7 (by intro z;cases z))];exact⟨h1,(hl5 q e).2⟩
        ·rw[Bg.mp e,AQ ntf,AN,en];exact⟨rfl,_,_,_,rfl⟩
       ·rw[A7,DD]
        lia
     ·refine CT hmn ?_;exact⟨_,_,_,_,_,l,rfl,sm5,hdz5,hpl5,hfl5,hl5,by lia⟩
  ·rintro σ H' ⟨v5,v6,v7,v8,v9,l,rfl,sm,hdz,hpl,hfl,hl,el⟩;have e0:(As AA).length=AD.length:=by show(AA.map _).length=_;rw[AL];exact g.len
   rw[e0] at el;refine⟨o,hdz,?_⟩;have sH:AO H (upd H' d (.dK (As AA))):=fun b u e=>by
    by_cases z:b=d
    ·subst z;rw[hd] at e;cases e;exact AN
    ·rw[AQ z];exact sm b u (Ex.at e z)
   have hflA:(upd H' d (.dK (As AA))) fo=some (.lst (l.map fun p=>V.ref p.1)):=by rw[AQ nfd];exact hfl
   have hlA:∀q∈l,(upd H' d (.dK (As AA))) q.1=some (.tup (q.2.map kV)):=fun q hq=>by have h1:=(hl q hq).1;rw[AQ (CZ h1 hdz (by intro z;cases z))];exact h1
   generalize upd H' d (.dK (As AA))=HA at sH hflA hlA;have shp:=fun q hq=>(hl q hq).2;have h4:=sm0.Cg;refine⟨_,rfl,fo,l,[true,true,false],rfl,AJ.of hflA,by simp,fun q hq=>⟨hlA q hq,?_⟩,by lia,fun Ds qs hDs hperm hsort=>?_⟩
   ·obtain⟨m,c,n,e⟩:=shp q hq;rw[e];rfl
   have sB:=Aa (o:=.lst (qs.map fun p=>V.ref p.1)) hDs;have hDB:(upd HA Ds (.lst (qs.map fun p=>V.ref p.1))) Ds=some (.lst (qs.map fun p=>V.ref p.1)):=AN;generalize upd HA Ds (.lst (qs.map fun p=>V.ref p.1))=HB at sB hDB;have sHB:=sH.trans sB;refine⟨Ds,rfl,⟨_,AJ.of hDB⟩,fun D3 hD3=>Fm (xs:=qs.map fun p=>V.ref p.1) (fun j H6=>∃ds:List Dt,CI HB D3 ds H6/\ds.length<=j) ⟨[],CI.start hD3,Ab 0⟩ (fun j H6 _ ⟨_,c,_⟩=>AJ.of (c.same _ _ hDB)) (fun j y H6 ey' ⟨ds,c,hds⟩=>?_) fun H6 ⟨ds,c,_⟩=>q _ _ (sHB.trans c.same)⟩
   ·rw[Ax] at ey';have hjq:j<qs.length:=by
     by_cases z:j<qs.length
     ·exact z
     ·rw[El (by lia)] at ey';cases ey'
    cases ea:qs[j]?with
    |none=>rw[ea] at ey';cases ey'
    |some qq=>
    rw[ea] at ey';obtain rfl:V.ref qq.1=y:=Ag ey';have hq:qq∈l:=hperm.mem_iff.mp (CK ea);obtain⟨m,c',n,e⟩:=shp qq hq;have hqq:=(sB.trans c.same) _ _ (hlA qq hq);rw[e] at hqq;refine⟨qq.1,_,rfl,AV.of hqq,rfl,_,_,rfl,_,_,rfl,_,_,rfl,rfl,oj,_,rfl,_,rfl,by show 2<=sizeLine;decide,fun tp htp=>?_⟩;have st:=Aa (o:=.tup [kV (Sum.inr n),kV (Sum.inl m)]) htp;have c2:=c.ext st;have nt:tp≠D3:=by obtain⟨zz,hz,_⟩:=c.lst;exact(A2 hz htp).symm
    obtain⟨ys',h1,h2,h3⟩:=c2.push (d:=.tup [.str n,.int m]) (Rep.Km (Ex.at AN nt) (Ae.snoc (Ae.snoc Ae.nil (.str n)) (.int m))) (by have h2:=hperm.length_eq;lia);exact⟨ys',h1,h2,_,h3,by rw[A7,DD];lia⟩
theorem gS{AA:List (Str×V)}(g:DV H AA AD):(As AA).map (·.1)=(keys AD).map Sum.inr:=by
 apply Jp;intro i;have e1:(As AA).map (·.1)=AA.map fun p=>(Sum.inr p.1:Key):=by show(AA.map _).map _=_;rw[BV];rfl
 rw[e1];unfold keys;rw[BV,Ax,Ax];by_cases hi:i<AA.length
 ·have hj:i<AD.length:=by rw[<-g.len];exact hi
  rw[Aq hi,Aq hj];have:=(g.row i _ _ (Aq hi) (Aq hj)).1;show some (Sum.inr AA[i].1)=some (Sum.inr AD[i].1);rw[this]
 ·rw[El (by lia),El (by rw[<-g.len];lia)];rfl
theorem jO{n:Str}(h:AG AD n=none):n∉keys AD:=Mw h
theorem lg:Az ["self","wanted","near"] ["self","wanted","near"] (Ao Qs):=by ac_rfl
theorem jb(F:Aj K "find_pages" "Nook.find_pages" Qs f fd)(C:Eh K cN)(R:Rz P w K mg base cR "NoWords" "no words")(O:HW mg)(HT:Hv P w K mg base "pages_near" 3 ["pages","wanted","near"] Y0):
 AW P w K mg base (Ci P w) 4 f fd ["self","wanted","near"] (Yt K cN cR):=by
 refine IH F lg ?_ ?_
 ·rintro _ _ _ _ ⟨_,_,_,_,_,_,_,rfl,_⟩;rfl
 ·rintro _ A _ s H _ Q E hr ⟨a,d,v,ws,far,AA,AD,rfl,g,nc,h64,rv,hws,q⟩;have hu1:=Cm hr;refine⟨_,(AU (A1 (Aw BW (BY IW rfl O.len Dj (AE (pv 1) AI)) Ac (Ar _)) (AS (KW (k:=0) R hr rfl)) BE) (AS (An (Ca HT hr rfl A8 (AE (C0 (pv 0) rfl) (AE (pv 1) (AE (pv 2) AI))))))),?_⟩;have rv0:=rv;obtain⟨av,xs,rfl,ha,rr⟩:=CA rv;rw[Jx rr] at ha;refine⟨_,rfl,av,_,rfl,.inr (AV.of ha),rfl,_,rfl,?_⟩;by_cases e:ws=[]
  ·rw[AH e] at q;subst e;exact CG rfl q
  ·rw[AF e] at q;refine CT (fun z=>e ?_) ?_
   ·have:=V.int.inj z;rw[AL] at this;exact Qc.mp (by lia)
   ·obtain⟨dx,hi⟩:=g.ins;exact⟨_,rfl,a,cN,dx,_,_,rfl,hi,C.cl,C.nf,rfl,_,rfl,_,rfl,d,.ref av,far,AA,AD,ws,rfl,g.Br,g.AD,nc.D6,rv0,hws,fun H1 u s1=>q H1 AA u (Ex.sub.trans s1) (g.same s1)⟩
abbrev Tx:=Str×Str
noncomputable def DT(x:Tx):Dt:=.tup [.str x.1,.str x.2]
def GZ(AD:List Pg)(n:Str):Tx:=(n,By ((AG AD n).getD []))
def CF(AD:List Pg):List Tx:=(Ih (keys AD)).map (GZ AD)
def Yk(cN:Ya):Sp:=fun vs H Q _=>∃a d AA AD,vs=[.ref a]/\CU cN H a d AA AD/\C9 AD/\AD.length<64/\∀H' u,AO H H'->Rep H' (.lst ((CF AD).map DT)) u->Q u H'
theorem Pb{x:Tx}{t:Ya}(h:H t=some (.tup [.str x.1,.str x.2])):Rep H (DT x) (.ref t):=Rep.Km h (Ae.snoc (Ae.snoc Ae.nil (.str _)) (.str _))
theorem lZ:Az ["self"] ["self"] (Ao Q4):=by ac_rfl
theorem jr{fT:Ya}{fdT:qX}(F:Aj K "all_texts" "Nook.all_texts" Q4 f fd)(C:Eh K cN)(O:HW mg)(mT:Meth K cN "text_of" fT)(GT:AW P w K mg base (Ci P w) 5 fT fdT ["self","name"] (S5 K cN cR))(bT:Binds K fdT ["self","name"] []):
 AW P w K mg base Ah 6 f fd ["self"] (Yk cN):=by
 refine F.ok lZ ?_ ?_
 ·rintro _ _ _ _ ⟨_,_,_,_,rfl,_⟩;rfl
 ·rintro _ A _ s H _ Q E hr ⟨a,d,AA,AD,rfl,g,nc,h64,q⟩;refine⟨_,AS (An (Es (ts:=["name"]) (cap:=["self"]) (ix:=[0]) (Hq rfl rfl (by ac_rfl) (by ac_rfl) rfl rfl rfl rfl rfl) (GN (BY (dM rfl) rfl O.so LC (AE (C0 (pv 0) rfl) AI)))
   (fun _ _ _ _ _=>Bc (i:=0) (Gi (by ac_rfl)) rfl (AZ rfl) (Cd rfl)) (fun _ _ _ _ _=>FG) (fun _ _ _ _ _=>CQ (AE (pv 0) (AE (Dl (pv 1) C.cl mT GT hr bT .nil oJ (AE (pv 0) AI)) AI))))),?_⟩;obtain⟨dx,hi⟩:=g.ins;have hkey:(As AA).map (·.1)=(keys AD).map Sum.inr:=gS g.AD;refine⟨_,rfl,a,cN,dx,_,_,rfl,hi,C.cl,C.nf,rfl,d,As AA,keys AD,rfl,g.Br,hkey,?_,fun Ds ys hDs hp hs=>?_⟩
  ·unfold keys;rw[AL];have:=nc.Cg
   lia
  have ey:ys=Ih (keys AD):=Ph Ew hp hs;have sB:=Aa (o:=.lst (ys.map V.str)) hDs;have hDB:(upd H Ds (.lst (ys.map V.str))) Ds=some (.lst (ys.map V.str)):=AN;generalize upd H Ds (.lst (ys.map V.str))=H2 at sB hDB;have g2:=g.same sB;refine⟨Ds,rfl,⟨_,AJ.of hDB⟩,fun D hD=>Fm (xs:=ys.map V.str) (fun i H'=>CI H2 D (((ys.take i).map (GZ AD)).map DT) H') (CI.start hD) (fun i H' _ c=>AJ.of (c.same _ _ hDB)) (fun i y H' ey' c=>?_) fun H' c=>?_⟩
  ·rw[Ax] at ey'
   cases ez:ys[i]?with
   |none=>rw[ez] at ey';cases ey'
   |some z=>
   rw[ez] at ey';obtain rfl:V.str z=y:=Ag ey';have g3:=g2.same c.same;obtain⟨dx3,Ek⟩:=g3.ins;have zk:z∈keys AD:=hp.mem_iff.mp (CK ez);refine⟨E3,_,rfl,_,rfl,a,dx3,_,rfl,Ek,rfl,_,rfl,a,d,z,AA,AD,rfl,g3,nc,fun ws hw H4 s4=>?_,fun zz=>absurd zk (jO zz)⟩;refine⟨by show 2<=sizeLine;decide,fun tp htp=>?_⟩;have st:=Aa (o:=.tup [.str z,.str (By ws)]) htp;have c5:=(c.ext s4).ext st;have nt:tp≠D:=by obtain⟨z5,hz5,_⟩:=(c.ext s4).lst;exact(A2 hz5 htp).symm
   have et:GZ AD z=(z,By ws):=by unfold GZ;rw[hw];rfl
   rw[Gs (f:=GZ AD) ez,BS];refine c5.push (d:=DT (GZ AD z)) (by rw[et];exact Pb (Ex.at AN nt)) ?_;rw[AL,AL];have f1:=F8 i ys;have f3:=hp.length_eq;unfold keys at f3;rw[AL] at f3
   lia
  ·rw[AL,Cj] at c;have:=c.done;rw[ey] at this;exact q _ _ (sB.trans c.same) this
def Xh(cN:Ya):Sp:=fun vs H Q _=>∃v xs,vs=[v]/\Rep H (.lst (xs.map Am.dt)) v/\(∀x∈xs,x.Good)/\xs.length<=1000/\Small [] xs/\∀H' a d AA,AO H H'->CU cN H' a d AA (CS [] xs)->Q (.ref a) H'
def Wk:Sp:=fun vs H Q _=>∃v xs,vs=[v]/\Rep H (.lst (xs.map Am.dt)) v/\(∀x∈xs,x.Good)/\xs.length<=1000/\Small [] xs/\∀H' l zs,AO H H'->H' l=some (.lst zs)->zs.length=xs.length->Told [] xs H' zs->Q (.ref l) H'
theorem Zh{o p:HO}(ha:H a=none)(hdx:H dx=none)(hd:(upd (upd H dx o) a p) d=none)(hda:d≠a)(s1:AO (Ex (upd (upd H dx o) a p) a) H1):AO H H1/\H d=none:=by
 refine⟨fun b u e=>?_,?_⟩
 ·refine s1 b u ?_;have n1:b≠a:=A2 e ha;have n2:b≠dx:=A2 e hdx;rw[Ex.at (by rw[AQ n1,AQ n2];exact e) n1]
 ·rw[AQ hda] at hd;by_cases n2:d=dx
  ·rw[n2,AN] at hd;cases hd
  ·rw[AQ n2] at hd;exact hd
theorem XX:Az ["deeds","nook"] ["deeds"] (Ao RL):=by ac_rfl
theorem eW(F:Aj K "nook_behind" "nook_behind" RL f fd)(M:Mk K cN fI)(GI:AW P w K mg base Ah 1 fI fdI ["self"] (SR cN))(bI:Binds K fdI ["self"] [])(mN:mg "Nook" =some (.ref cN))
 (HA:Hv P w K mg base "answer_all" 8 ["nook","deeds"] (Tw cN)):AW P w K mg base Ah 9 f fd ["deeds"] (Xh cN):=by
 refine F.ok XX ?_ ?_
 ·rintro _ _ _ _ ⟨_,_,rfl,_⟩;rfl
 ·rintro _ A _ s H _ Q E hr ⟨v,xs,rfl,rv,good,hl,D6,q⟩;refine⟨_,(AU (Au (i:=1) XX.nd rfl (AZ rfl) (XZ M GI hr.mn rfl mN bI .nil A8))
   (AU (Bn (Ca HA hr rfl A8 (AE (pv 1) (AE (pv 0) AI)))) (AS (An (pv 1))))),?_⟩;intro a dx ha hdx hne;refine⟨a,dx,rfl,AN,fun H1 d hd hda s1 g=>⟨rfl,?_⟩⟩;obtain⟨sH,hdH⟩:=Zh ha hdx hd hda s1;exact⟨_,rfl,_,rfl,a,d,v,xs,[],[],rfl,g,rv.same sH,good,hl,D6,fun H2 kvs' _ _ s2 g2 _ _ _=>⟨_,rfl,q H2 a d kvs' (fun b z e=>s2 b z (Ex.at (sH _ _ e) (A2 e hdH))) g2⟩⟩
theorem fg:Az ["deeds"] ["deeds"] (Ao Rr):=by ac_rfl
theorem ck(F:Aj K "answers" "answers" Rr f fd)(M:Mk K cN fI)(GI:AW P w K mg base Ah 1 fI fdI ["self"] (SR cN))(bI:Binds K fdI ["self"] [])(mN:mg "Nook" =some (.ref cN))
 (HA:Hv P w K mg base "answer_all" 8 ["nook","deeds"] (Tw cN)):AW P w K mg base Ah 9 f fd ["deeds"] Wk:=by
 refine F.ok fg ?_ ?_
 ·rintro _ _ _ _ ⟨_,_,rfl,_⟩;rfl
 ·rintro _ A _ s H _ Q E hr ⟨v,xs,rfl,rv,good,hl,D6,q⟩;refine⟨_,(AS (An (Ca HA hr rfl A8 (AE (XZ M GI hr.mn rfl mN bI .nil A8) (AE (pv 0) AI))))),?_⟩;intro a dx ha hdx hne;refine⟨a,dx,rfl,AN,fun H1 d hd hda s1 g=>⟨rfl,?_⟩⟩;obtain⟨sH,hdH⟩:=Zh ha hdx hd hda s1;exact⟨_,rfl,a,d,v,xs,[],[],rfl,g,rv.same sH,good,hl,D6,fun H2 kvs' l zs s2 g2 hz hzl t=>q H2 l zs (fun b z e=>s2 b z (Ex.at (sH _ _ e) (A2 e hdH))) hz hzl t⟩
def Xj:Sp:=fun vs H Q _=>∃v xs,vs=[v]/\Rep H (.lst (xs.map Am.dt)) v/\(∀x∈xs,x.Good)/\xs.length<=1000/\Small [] xs/\∀H' u,AO H H'->Rep H' (.lst ((CF (CS [] xs)).map DT)) u->Q u H'
theorem gq:Az ["deeds"] ["deeds"] (Ao Sr):=by ac_rfl
theorem eA{fP:Ya}{fdP:qX}(F:Aj K "texts" "texts" Sr f fd)(C:Eh K cN)(HB:Hv P w K mg base "nook_behind" 9 ["deeds"] (Xh cN))
 (hP:Meth K cN "all_texts" fP)(GP:AW P w K mg base Ah 6 fP fdP ["self"] (Yk cN))(bP:Binds K fdP ["self"] []):AW P w K mg base Ah 10 f fd ["deeds"] Xj:=by
 refine F.ok gq ?_ ?_
 ·rintro _ _ _ _ ⟨_,_,rfl,_⟩;rfl
 ·rintro _ A _ s H _ Q E hr ⟨v,xs,rfl,rv,good,hl,D6,q⟩;refine⟨_,(AS (An (gI (Ca HB hr rfl A8 (AE (pv 0) AI)) C.cl hP GP hr.mn bP .nil A8))),?_⟩;have se:xs.take xs.length=xs:=Cj;obtain⟨nc,h64⟩:=D6 xs.length (Ab _);rw[se] at nc h64;refine⟨_,rfl,v,xs,rfl,rv,good,hl,D6,fun H1 a d AA s1 g=>?_⟩;obtain⟨dx,hi⟩:=g.ins;exact⟨a,dx,_,rfl,hi,rfl,a,d,AA,_,rfl,g,nc,h64,fun H2 u s2 r=>q H2 u (s1.trans s2) r⟩
theorem YS:∀{l:List Pg}{i:Nat}{p q:Pg},l[i]? =some p->BH (l.set i q)+wsum p.2=BH l+wsum q.2
 |x::l,0,p,q,h=>by
  cases Ag h;unfold BH;rw[List.set_cons_zero,Av,B1,Av,B1]
  lia
 |x::l,i+1,p,q,h=>by
  have ih:=YS (l:=l) (i:=i) (p:=p) (q:=q) (by simpa using h);unfold BH at ih⊢;rw[VR,Av,B1,Av,B1]
  lia
theorem YC{l:List Pg}{n:Str}{w0:List PR}(nd:(l.map (·.1)).Nodup)(h:AG l n=some w0):BH (AX l n ws)+wsum w0=BH l+wsum ws:=by obtain⟨i,hi⟩:=GQ h;rw[LN nd hi];exact YS hi
theorem YF(ws:List PR)(n m:Str)(hm:m.length<=40):wsum (Bp ws n m)<=wsum ws:=by
 unfold Bp wsum
 induction ws with
 |nil=>simp
 |cons p ws ih=>
  rw[Av,Av,B1,Av,B1];have:wt (if p=(("to" :Str),n) then(("to" :Str),m) else p)<=wt p:=by
   split
   ·show max 40 m.length+3<=wt p;unfold wt
    lia
   ·exact Ab _
  lia
theorem Ym(AD:List Pg)(n m:Str)(hm:m.length<=40):BH (C7 AD n m)<=BH AD:=by
 unfold C7 BH
 induction AD with
 |nil=>simp
 |cons p AD ih=>
  rw[Av,Av,B1,Av,B1];have:=YF p.2 n m hm;show wsum (Bp p.2 n m)+_<=_
  lia
theorem PD(AD:List Pg)(n m:Str):(C7 AD n m).map (·.1)=AD.map (·.1):=by unfold C7;rw[BV];rfl
theorem jL(x:Str):(C2 x).2.length<=x.length:=by
 unfold C2;split
 ·exact Oa x _ _
 ·exact Ab _
theorem dc(t:Str):wsum (EJ t)<=44*(t.length+1):=by
 have h:=MZ t " " (by decide);unfold EJ CW;generalize Txt.split t " " =L at h;have:∀L:List Str,wsum ((L.filter fun p:Str=> !decide (p=("" :Str))).map C2)<=43*L.length+(L.map (·.length)).sum:=by
  intro L
  induction L with
  |nil=>simp[wsum]
  |cons x L ih=>
   rw[Av,B1,CP];by_cases e:x=("" :Str)
   ·rw[Hg (by simp[e])]
    lia
   ·rw[Gn (by simp[e])];unfold wsum at ih⊢;rw[Av,Av,B1];have:wt (C2 x)<=43+x.length:=by
     have:=jL x;unfold wt
     lia
    lia
 have h2:=this L;have h3:43*L.length<=43*(t.length+1):=Qi _ (by lia)
 lia
structure Sz(k:Nat)(AD:List Pg):Prop where
 nd:(AD.map (·.1)).Nodup
 len:AD.length<=k
 BH:BH AD<=50000*k
theorem Sz.more(s:Sz k AD):Sz (k+1) AD:=⟨s.nd,Nat.le_succ_of_le s.len,by have:=s.BH;lia⟩
theorem Sh(AD:List Pg)(n:Str):(AR AD n).length<=AD.length:=Gp _ _
theorem eL(AD:List Pg)(n:Str):L2.BH (AR AD n)<=L2.BH AD:=by
 unfold AR L2.BH
 induction AD with
 |nil=>simp
 |cons p AD ih=>
  rw[Av,B1];by_cases e:p.1=n
  ·rw[Hg (by simp[e])];lia
  ·rw[Gn (by simp[e]),Av,B1];lia
theorem Sz.next{k:Nat}{AD:List Pg}(s:Sz k AD){x:Am}(g:x.Good):Sz (k+1) ((Dx AD x).next AD):=by
 have s':=s.more;have st:=s.BH;have sl:=s.len
 cases x with
 |write n t=>
  show Sz (k+1) ((GU AD n t).next AD);unfold GU;split
  ·refine⟨EX s.nd,BF (Gz _ _ _) (by lia),?_⟩;have h1:=PL AD n (EJ t) s.nd;have h2:=dc t;have h3:t.length<=1000:=g.2;show L2.BH (AX AD n (EJ t))<=_
   lia
  ·exact s'
 |rename n m=>
  show Sz (k+1) ((EU AD n m).next AD);unfold EU
  cases e:AG AD n with
  |none=>exact s'
  |some ws=>
   dsimp only;split
   ·cases e2:AG AD m with
    |some _=>exact s'
    |none=>
     show Sz (k+1) (renamed AD n m ws);unfold renamed;refine⟨by rw[PD];exact EX (DN s.nd),?_,?_⟩
     ·have h1:=Gz (AR AD n) m ws;have h2:=Sh AD n;show(List.map _ _).length<=_;rw[AL]
      lia
     ·have h1:=Ym (AX (AR AD n) m ws) n m g.2;have h2:=PL (AR AD n) m ws (DN s.nd);have h3:=Mt e
      lia
   ·exact s'
 |join n o=>
  show Sz (k+1) ((Eu AD n o).next AD);unfold Eu
  cases e:AG AD n with
  |none=>exact s'
  |some w1=>
   dsimp only
   cases e2:AG AD o with
   |none=>exact s'
   |some w2=>
    dsimp only;split
    ·exact s'
    ·rename_i hne;show Sz (k+1) (joined AD n o w1 w2);unfold joined;refine⟨by rw[PD];exact EX (DN s.nd),?_,?_⟩
     ·have h1:=Gz (AR AD o) n (w1++w2);have h2:=Sh AD o;show(List.map _ _).length<=_;rw[AL]
      lia
     ·have h1:=Ym (AX (AR AD o) n (w1++w2)) o n g.1;have h2:=YC (ws:=w1++w2) (DN (k:=o) s.nd) (show AG (AR AD o) n=some w1 by rw[EF hne];exact e);have h3:=Mt e2;rw[Oz] at h2
      lia
 |cut n pl m=>
  show Sz (k+1) ((Ga AD n pl m).next AD);unfold Ga
  cases e:AG AD n with
  |none=>exact s'
  |some ws=>
   dsimp only;split
   ·cases e2:AG AD m with
    |some _=>exact s'
    |none=>
     dsimp only;split
     ·exact s'
     ·show Sz (k+1) (cutAt AD n m ws pl.toNat);unfold cutAt;have e3:AG (AX AD m (ws.drop pl.toNat)) n=some ws:=by rw[Cu];rw[AF (fun z=>by rw[z,e2] at e;cases e)];exact e
      have Gi:((AX AD m (ws.drop pl.toNat)).map (·.1)).Nodup:=EX s.nd;refine⟨EX Gi,?_,?_⟩
      ·obtain⟨i,hi⟩:=GQ e3;rw[LN Gi hi,List.length_set];have:=Gz AD m (ws.drop pl.toNat)
       lia
      ·have h1:=YC (ws:=ws.take pl.toNat++[(("to" :Str),m)]) Gi e3;have h2:=PL AD m (ws.drop pl.toNat) s.nd;have h3:wsum (ws.take pl.toNat)+wsum (ws.drop pl.toNat)=wsum ws:=by rw[<-Oz,Dr]
       rw[Oz] at h1;have h4:wsum [(("to" :Str),m)]=43:=by
        have:m.length<=40:=g.2;show(max 40 m.length+3)+0=43
        lia
       lia
   ·exact s'
 |drop n=>
  show Sz (k+1) ((GY AD n).next AD);unfold GY
  cases e:AG AD n with
  |none=>exact s'
  |some ws=>
   refine⟨DN s.nd,BF (Sh _ _) (by lia),?_⟩;have:=eL AD n;show L2.BH (AR AD n)<=_
   lia
 |text n=>
  show Sz (k+1) ((Fw AD n).next AD);unfold Fw
  cases e:AG AD n with
  |none=>exact s'
  |some ws=>exact s'
 |back n=>exact s'
 |find ws far=>
  show Sz (k+1) (Rs.next AD (if ws=[] then .no "no words" else .un AD));split
  ·exact s'
  ·exact s'
theorem NM:∀(xs:List Am)(k:Nat)(AD:List Pg),Sz k AD->(∀x∈xs,x.Good)->Sz (k+xs.length) (CS AD xs)
 |[],k,AD,s,_=>s
 |x::xs,k,AD,s,g=>by have:=NM xs (k+1) _ (s.next (g x Di)) fun y hy=>g y (DE _ hy);rw[CP,show k+(xs.length+1)=k+1+xs.length by lia];exact this
theorem Pe:Sz 0 []:=⟨MW,Ab _,Ab _⟩
theorem R7{xs:List Am}(g:∀x∈xs,x.Good)(hl:xs.length<=63):Small [] xs:=fun k hk=>by
 have s:=NM (xs.take k) 0 [] Pe fun x hx=>g x (Hh hx);have hk2:(xs.take k).length<=63:=by rw[Bl];lia
 have h1:=s.len;have h2:=s.BH;refine⟨⟨s.nd,by lia,?_⟩,by lia⟩;have:50000*(0+(xs.take k).length)<=50000*63:=Qi _ (by lia)
 lia
section
variable[DecidableEq α]
theorem BN{l:List (α×β)}{k:α}{v:β}(h:AG l k=some v):(k,v)∈l:=by obtain⟨i,hi⟩:=GQ h;exact CK hi
theorem GJ{l:List (α×β)}{k:α}{v:β}(nd:(l.map (·.1)).Nodup)(h:(k,v)∈l):AG l k=some v:=by obtain⟨i,hi⟩:=VH h;exact JF nd hi
theorem Mr{l:List (α×β)}{k:α}(h:k∈l.map (·.1)):∃v,AG l k=some v:=by
 cases e:AG l k with
 |some v=>exact⟨v,rfl⟩
 |none=>exact absurd h (Mw e)
theorem SS{l:List (α×β)}{k:α}{v:β}(h:AG l k=some v):k∈l.map (·.1):=BI.mpr ⟨_,BN h,rfl⟩
theorem Ml{l m:List (α×β)}(hk:l.map (·.1)=m.map (·.1))(nd:(l.map (·.1)).Nodup)(h:∀k,k∈l.map (·.1)->AG l k=AG m k):l=m:=by
 have hlen:l.length=m.length:=by have:=BD List.length hk;simpa using this
 refine Jp fun i=>?_;by_cases hi:i<l.length
 ·have hj:i<m.length:=by lia
  have e1:l[i]? =some l[i]:=Aq hi;have e2:m[i]? =some m[i]:=Aq hj;have ek:l[i].1=m[i].1:=by have:=BD (fun x=>x[i]?) hk;rw[Ax,Ax,e1,e2] at this;exact Ag this
  have g1:=JF nd e1;have g2:=JF (hk▸nd) e2;have:=h l[i].1 (BI.mpr ⟨_,Fj hi,rfl⟩);rw[g1,ek,g2] at this;rw[e1,e2];exact BD some (LR ek (Ag this))
 ·rw[El (by lia),El (by lia)]
theorem J1(l:List (α×β))(k:α)(v:β):(AX l k v).map (·.1)=if k∈l.map (·.1) then l.map (·.1) else l.map (·.1)++[k]:=by
 by_cases h:k∈l.map (·.1)
 ·obtain⟨w,hw⟩:=Mr h;rw[AH h];have hm:=BN hw;unfold AX;rw[AH (Jq.mpr ⟨_,hm,by simp⟩),BV];refine DF fun p _=>?_;show(if p.1=k then(p.1,v) else p).1=p.1;split<;>rfl
 ·rw[AF h];have hn:AG l k=none:=by
   cases e:AG l k with
   |none=>rfl
   |some w=>exact absurd (SS e) h
  rw[Gw hn,BS];rfl
theorem LK(l:List (α×β))(k:α):(AR l k).map (·.1)=(l.map (·.1)).filter fun x=>decide (x≠k):=by unfold AR;rw[List.filter_map];rfl
theorem Iz(l:List (α×β))(k:α):AG (AR l k) k=none:=by
 cases e:AG (AR l k) k with
 |none=>rfl
 |some v=>have:=BN e;unfold AR at this;have:=(IT.mp this).2;simp at this
theorem IY{l:List (α×β)}{k:α}{v:β}{p:α×β}(h:p∈AX l k v):p∈l\/p=(k,v):=by
 unfold AX at h;split at h
 ·obtain⟨q,hq,e⟩:=BI.mp h;split at e
  ·rename_i e1;rw[<-e,e1];exact .inr rfl
  ·rw[<-e];exact .inl hq
 ·rcases Bh.mp h with z|z
  ·exact .inl z
  ·exact .inr (Bg.mp z)
theorem EV{l:List (α×β)}{k:α}{p:α×β}(h:p∈AR l k):p∈l/\p.1≠k:=by unfold AR at h;have:=IT.mp h;exact⟨this.1,by simpa using this.2⟩
theorem Gx{l:List (α×β)}{k:α}{p:α×β}(h:p∈l)(hk:p.1≠k):p∈AR l k:=IT.mpr ⟨h,by simpa using hk⟩
end
def sh(names:List (Str×Int))(w:Wd):PR:=if w.to=true then(("to" :Str),if w.no= -1 then w.nm else nameOf names w.no) else(("word" :Str),w.nm)
def Al(n:Nk)(no:Int):List PR:=((AG n.texts no).getD []).map (sh n.names)
def vw(n:Nk):List Pg:=n.names.map fun p=>(p.1,Al n p.2)
def Ej(names:List (Str×Int))(w:Wd):Prop:=w.to=true->(w.no= -1/\AG names w.nm=none)\/∃nm,(nm,w.no)∈names
structure Bq(n:Nk):Prop where
 CV:(n.names.map (·.1)).Nodup
 inj:(n.names.map (·.2)).Nodup
 Cf:(n.texts.map (·.1)).Nodup
 tx:∀p∈n.names,∃ws,AG n.texts p.2=some ws
 own:∀p∈n.texts,∃nm,(nm,p.1)∈n.names
 lt:∀p∈n.texts,0<=p.1/\p.1<n.made
 wd:∀p∈n.texts,∀w∈p.2,Ej n.names w
variable{l:List (Str×Int)}
theorem KI(inj:(l.map (·.2)).Nodup){a b:Str}(ha:(a,no)∈l)(hb:(b,no)∈l):a=b:=by
 induction l with
 |nil=>cases ha
 |cons p l ih=>
  rw[Av,IS] at inj;rcases Ba.mp ha with e1|e1
  ·rcases Ba.mp hb with e2|e2
   ·rw[<-e1] at e2;exact(LD e2).1.symm
   ·exact absurd (BI.mpr ⟨_,e2,by rw[<-e1]⟩) inj.1
  ·rcases Ba.mp hb with e2|e2
   ·exact absurd (BI.mpr ⟨_,e1,by rw[<-e2]⟩) inj.1
   ·exact ih inj.2 e1 e2
theorem Wi(inj:(l.map (·.2)).Nodup){a:Str}(h:(a,no)∈l):nameOf l no=a:=by
 unfold nameOf
 cases e:l.find? fun p=>decide (p.2=no) with
 |none=>have:=VS.mp e _ h;simp at this
 |some p=>
  have h1:=List.mem_of_find?_eq_some e;have h2:p.2=no:=by simpa using List.find?_some e
  show p.1=a;exact KI inj (show(p.1,no)∈l by rw[<-h2];exact h1) h
theorem Bq.Fd(b:Bq n){nm:Str}(h:(nm,no)∈n.names):0<=no/\no<n.made:=by obtain⟨ws,hw⟩:=b.tx _ h;exact b.lt _ (BN hw)
theorem Dv(n:Nk):(vw n).map (·.1)=n.names.map (·.1):=by unfold vw;rw[BV];rfl
theorem FH(n:Nk)(k:Str):AG (vw n) k=(AG n.names k).map (Al n):=by
 unfold vw AG;generalize n.names=l
 induction l with
 |nil=>rfl
 |cons p l ih=>
  rw[Av];by_cases e:p.1=k
  ·rw[MH (by simpa using e),MH (by simpa using e)];rfl
  ·rw[MJ (by simpa using e),MJ (by simpa using e)];exact ih
theorem TC(l:List Pg)(a b k:Str):AG (C7 l a b) k=(AG l k).map fun ws=>Bp ws a b:=by
 unfold C7 AG
 induction l with
 |nil=>rfl
 |cons p l ih=>
  rw[Av];by_cases e:p.1=k
  ·rw[MH (by simpa using e),MH (by simpa using e)];rfl
  ·rw[MJ (by simpa using e),MJ (by simpa using e)];exact ih
theorem M7(n:Nk)(g:Wd->Wd)(no:Int):AG (n.Il g).texts no=(AG n.texts no).map (List.map g):=by
 show AG (n.texts.map fun p=>(p.1,p.2.map g)) no=_;unfold AG;generalize n.texts=l
 induction l with
 |nil=>rfl
 |cons p l ih=>
  rw[Av];by_cases e:p.1=no
  ·rw[MH (by simpa using e),MH (by simpa using e)];rfl
  ·rw[MJ (by simpa using e),MJ (by simpa using e)];exact ih
theorem Bq.same(b:Bq n){a k:Str}{no':Int}(ha:AG n.names a=some no)(hk:AG n.names k=some no'):no'=no↔k=a:=by
 constructor
 ·intro e;rw[e] at hk;exact KI b.inj (BN hk) (BN ha)
 ·intro e;rw[e,ha] at hk;exact(Ag hk).symm
theorem Bq.text(b:Bq n){a:Str}(ha:AG n.names a=some no):∃ws,AG n.texts no=some ws/\∀w∈ws,Ej n.names w:=by obtain⟨ws,hw⟩:=b.tx _ (BN ha);exact⟨ws,hw,b.wd _ (BN hw)⟩
noncomputable def Jh(a b:Str)(p:PR):PR:=if p=(("to" :Str),a) then(("to" :Str),b) else p
theorem Sf(ws:List PR)(a b:Str):Bp ws a b=ws.map (Jh a b):=rfl
theorem nR{a:Str}:((("word" :Str),x):PR)≠(("to" :Str),a):=by intro z;have:("word" :Str)="to" :=(LD z).1;exact absurd this (by ac_rfl)
theorem Yd(a b x:Str):Jh a b (("word" :Str),x)=(("word" :Str),x):=AF nR
theorem Zp(a b:Str):Jh a b (("to" :Str),a)=(("to" :Str),b):=AH rfl
theorem Ox{a b:Str}(h:x≠a):Jh a b (("to" :Str),x)=(("to" :Str),x):=AF fun z=>h (LD z).2
theorem Hs{w:Wd}(h:w.to=false):sh names w=(("word" :Str),w.nm):=by unfold sh;rw[h];rfl
theorem GK{w:Wd}(h:w.to=true)(hn:w.no= -1):sh names w=(("to" :Str),w.nm):=by unfold sh;rw[AH h,AH hn]
theorem iO{w:Wd}(h:w.to=true)(hn:w.no≠-1):sh names w=(("to" :Str),nameOf names w.no):=by unfold sh;rw[AH h,AF hn]
theorem E1(inj:(names.map (·.2)).Nodup){w:Wd}(h:w.to=true)(hn:w.no≠-1)(hx:(x,w.no)∈names):sh names w=(("to" :Str),x):=by rw[iO h hn,Wi inj hx]
theorem Te{n':Nk}{g:Wd->Wd}{h:PR->PR}{ws:List Wd}(e1:AG n.texts no=some ws)(e2:AG n'.texts no=some (ws.map g))(hw:∀w∈ws,sh n'.names (g w)=h (sh n.names w)):Al n' no=(Al n no).map h:=by unfold Al;rw[e1,e2];show(ws.map g).map _=(ws.map _).map h;rw[BV,BV];exact DF fun w hw'=>hw w hw'
theorem Ss{k:Str}{v:Int}(inj:(l.map (·.2)).Nodup)(hk:AG l k=none)(hv:v∉l.map (·.2)):((AX l k v).map (·.2)).Nodup:=by
 rw[Gw hk,BS];refine OJ.mpr ⟨inj,by simp,fun a ha b hb e=>?_⟩;have:b=v:=by simpa using hb
 rw[<-e] at this;exact hv (this▸ha)
theorem My{k:Str}(inj:(l.map (·.2)).Nodup):((AR l k).map (·.2)).Nodup:=by unfold AR;exact List.Nodup.sublist ((List.filter_sublist).map _) inj
section
variable{o:Str}
theorem Ob(ho:AG n.names o=none):(n.added o).names=n.names++[(o,n.made)]:=Gw ho
theorem Ol(no:Int):AG (n.added o).texts no=((if no=n.made then some [] else AG n.texts no):Option (List Wd)).map (List.map (CM o n.made)):=by show AG (Nk.Il _ (CM o n.made)).texts no=_;rw[M7];show(AG (AX n.texts n.made []) no).map _=_;rw[Cu]
theorem Bq.fresh(b:Bq n):n.made∉n.names.map (·.2):=fun h=>by
 obtain⟨p,hp,e⟩:=BI.mp h;have:=(b.Fd (nm:=p.1) (no:=p.2) hp).2
 lia
theorem Vs(b:Bq n)(h0:0<=n.made)(ho:AG n.names o=none){w:Wd}(ok:Ej n.names w):sh (n.added o).names (CM o n.made w)=sh n.names w/\Ej (n.added o).names (CM o n.made w):=by
 have inj':((n.added o).names.map (·.2)).Nodup:=Ss b.inj ho b.fresh;rw[Ob ho] at inj'⊢;unfold CM
 cases ht:w.to with
 |false=>rw[AF (fun z=>by cases z.1)];exact⟨by rw[Hs ht,Hs ht],fun z=>by rw[ht] at z;cases z⟩
 |true=>
  rcases ok ht with⟨hl,hnm⟩|⟨x,hx⟩
  ·by_cases e:w.nm=o
   ·rw[AH ⟨rfl,hl,e⟩];have hin:(o,n.made)∈n.names++[(o,n.made)]:=EB _ (Bg.mpr rfl);refine⟨?_,fun _=>.inr ⟨o,hin⟩⟩;rw[GK ht hl,e];exact E1 inj' (w:=⟨true,o,n.made⟩) rfl (by show n.made≠-1;lia) hin
   ·rw[AF (fun z=>e z.2.2)];refine⟨by rw[GK ht hl,GK ht hl],fun _=>.inl ⟨hl,?_⟩⟩;rw[<-Gw ho,Cu,AF e];exact hnm
  ·have hp:=b.Fd hx;have hn:w.no≠-1:=by lia
   rw[AF (fun z=>hn z.2.1)];have hx':(x,w.no)∈n.names++[(o,n.made)]:=Hi _ hx;exact⟨by rw[E1 inj' ht hn hx',E1 b.inj ht hn hx],fun _=>.inr ⟨x,hx'⟩⟩
theorem Bq.added(b:Bq n)(h0:0<=n.made)(ho:AG n.names o=none):Bq (n.added o):=by
 have hnm:=Ob ho;have tn:AG n.texts n.made=none:=by
  cases e:AG n.texts n.made with
  |none=>rfl
  |some ws=>have:=(b.lt _ (BN e)).2;dsimp only at this;lia
 have etx:(n.added o).texts=(AX n.texts n.made []).map fun p=>(p.1,p.2.map (CM o n.made)):=rfl;have kt:(n.added o).texts.map (·.1)=n.texts.map (·.1)++[n.made]:=by rw[etx,BV];show(AX n.texts n.made []).map (·.1)=_;rw[Gw tn,BS];rfl
 have ndt':((n.added o).texts.map (·.1)).Nodup:=by rw[etx,BV];exact EX b.Cf
 have mem_t:∀p∈(n.added o).texts,∃q∈AX n.texts n.made [],p=(q.1,q.2.map (CM o n.made)):=fun p hp=>by rw[etx] at hp;obtain⟨q,hq,e⟩:=BI.mp hp;exact⟨q,hq,e.symm⟩
 refine⟨EX b.CV,Ss b.inj ho b.fresh,ndt',fun p hp=>?_,fun p hp=>?_,fun p hp=>?_,fun p hp w hw=>?_⟩
 ·rw[Ol];rw[hnm] at hp;rcases Bh.mp hp with e|e
  ·obtain⟨ws,hw⟩:=b.tx p e;by_cases z:p.2=n.made
   ·rw[AH z];exact⟨_,rfl⟩
   ·rw[AF z,hw];exact⟨_,rfl⟩
  ·rw[Bg.mp e,AH rfl];exact⟨_,rfl⟩
 ·obtain⟨q,hq,rfl⟩:=mem_t p hp;rw[hnm];rcases IY hq with e|e
  ·obtain⟨nm,h⟩:=b.own q e;exact⟨nm,Hi _ h⟩
  ·rw[e];exact⟨o,EB _ (Bg.mpr rfl)⟩
 ·obtain⟨q,hq,rfl⟩:=mem_t p hp;show 0<=q.1/\q.1<n.made+1;rcases IY hq with e|e
  ·have:=b.lt q e
   lia
  ·rw[e];show 0<=n.made/\n.made<n.made+1
   lia
 ·obtain⟨q,hq,rfl⟩:=mem_t p hp;obtain⟨w0,h0',rfl⟩:=BI.mp hw;rcases IY hq with e|e
  ·exact(Vs b h0 ho (b.wd q e w0 h0')).2
  ·rw[e] at h0';cases h0'
theorem XU(b:Bq n)(h0:0<=n.made)(ho:AG n.names o=none){ws:List Wd}(hw:AG n.texts no=some ws):Al (n.added o) no=Al n no:=by
 have hne:no≠n.made:=by have:=(b.lt _ (BN hw)).2;dsimp only at this;lia
 have e2:AG (n.added o).texts no=some (ws.map (CM o n.made)):=by rw[Ol,AF hne,hw];rfl
 have:=Te (h:=id) hw e2 fun w hw'=>(Vs b h0 ho (b.wd _ (BN hw) w hw')).1;rw[this,Jv]
theorem W6(b:Bq n)(h0:0<=n.made)(ho:AG n.names o=none):vw (n.added o)=AX (vw n) o []:=by
 have hv:AG (vw n) o=none:=by rw[FH,ho];rfl
 rw[Gw hv];unfold vw;rw[Ob ho,BS];congr 1
 ·refine DF fun p hp=>?_;obtain⟨ws,hw⟩:=b.tx p hp;show(p.1,Al (n.added o) p.2)=_;rw[XU b h0 ho hw]
 ·show[(o,Al (n.added o) n.made)]=_;unfold Al;rw[Ol,AH rfl];rfl
end
section
variable{a:Str}{ws:List Wd}
def Nk.Cn(n:Nk)(no:Int)(ws:List Wd):Nk:={n with texts:=AX n.texts no ws}
theorem Bq.Cn(b:Bq n)(ha:AG n.names a=some no)(ok:∀w∈ws,Ej n.names w):Bq (n.Cn no ws):=by
 refine⟨b.CV,b.inj,EX b.Cf,fun p hp=>?_,fun p hp=>?_,fun p hp=>?_,fun p hp w hw=>?_⟩
 ·show∃x,AG (AX n.texts no ws) p.2=some x;rw[Cu];by_cases z:p.2=no
  ·rw[AH z];exact⟨_,rfl⟩
  ·rw[AF z];exact b.tx p hp
 ·rcases IY hp with e|e
  ·exact b.own p e
  ·rw[e];exact⟨a,BN ha⟩
 ·rcases IY hp with e|e
  ·exact b.lt p e
  ·rw[e];exact b.Fd (BN ha)
 ·rcases IY hp with e|e
  ·exact b.wd p e w hw
  ·rw[e] at hw;exact ok w hw
theorem PB(b:Bq n)(ha:AG n.names a=some no):vw (n.Cn no ws)=AX (vw n) a (ws.map (sh n.names)):=by
 have hin:a∈(vw n).map (·.1):=by rw[Dv];exact SS ha
 refine Ml ?_ (by rw[Dv];exact b.CV) fun k hk=>?_
 ·rw[J1,AH hin,Dv,Dv];rfl
 ·rw[FH,Cu,FH];rw[Dv] at hk;obtain⟨no',hk'⟩:=Mr hk;have hk2:AG n.names k=some no':=hk';show(AG n.names k).map (Al (n.Cn no ws))=_;rw[hk2];show some (Al (n.Cn no ws) no')=_;have e:Al (n.Cn no ws) no'=((AG (AX n.texts no ws) no').getD []).map (sh n.names):=rfl;rw[e,Cu];by_cases z:k=a
  ·rw[AH z,AH ((b.same ha hk2).mpr z)];rfl
  ·rw[AF z,AF (fun y=>z ((b.same ha hk2).mp y))];rfl
end
theorem Xv{l:List Pg}{k:Str}{x y:List PR}(nd:(l.map (·.1)).Nodup):AX (AX l k x) k y=AX l k y:=by
 refine Ml ?_ (EX (EX nd)) fun j hj=>?_
 ·rw[J1,J1,J1];by_cases h:k∈l.map (·.1)
  ·rw[AH h,AH h]
  ·rw[AF h,AH (by simp)]
 ·rw[Cu,Cu,Cu];split<;>rfl
section
variable{a o:Str}
def Nk.renamed(n:Nk)(a o:Str)(no:Int):Nk:=({n with names:=AR n.names a}:Nk).named o no
theorem Mf{a o:Str}(h:AG l o=none):AG (AR l a) o=none:=by
 by_cases z:o=a
 ·rw[z];exact Iz ..
 ·rw[EF z];exact h
theorem Mm(ho:AG n.names o=none):(n.renamed a o no).names=AR n.names a++[(o,no)]:=Gw (Mf ho)
theorem YD(b:Bq n)(ha:AG n.names a=some no)(ho:AG n.names o=none):((n.renamed a o no).names.map (·.2)).Nodup:=by refine Ss (My b.inj) (Mf ho) fun h=>?_;obtain⟨p,hp,e⟩:=BI.mp h;obtain⟨h1,h2⟩:=EV hp;exact h2 (KI b.inj (show(p.1,no)∈n.names by rw[<-e];exact h1) (BN ha))
theorem Xg(b:Bq n)(ha:AG n.names a=some no)(ho:AG n.names o=none){w:Wd}(ok:Ej n.names w):sh (n.renamed a o no).names (CM o no w)=Jh a o (sh n.names w)/\Ej (n.renamed a o no).names (CM o no w):=by
 have inj':=YD b ha ho;have hao:o≠a:=fun z=>by rw[z,ha] at ho;cases ho
 have hpos:=b.Fd (BN ha);have hin:(o,no)∈(n.renamed a o no).names:=by rw[Mm ho];exact EB _ (Bg.mpr rfl)
 have gn:∀k,k≠o->AG n.names k=none->AG (n.renamed a o no).names k=none:=fun k h1 h2=>by show AG (AX (AR n.names a) o no) k=none;rw[Cu,AF h1];exact Mf h2
 have mn:∀x m,(x,m)∈n.names->x≠a->(x,m)∈(n.renamed a o no).names:=fun x m h1 h2=>by rw[Mm ho];exact Hi _ (Gx h1 h2)
 obtain⟨t,nm,m⟩:=w;unfold CM
 cases t with
 |false=>rw[AF (fun z=>by cases z.1)];exact⟨by rw[Hs rfl,Hs rfl,Yd],fun z=>by cases z⟩
 |true=>
  rcases ok rfl with⟨hl,hnm⟩|⟨x,hx⟩
  ·have hl':m= -1:=hl;have hnm':AG n.names nm=none:=hnm;have nna:nm≠a:=fun z=>by rw[z,ha] at hnm';cases hnm'
   rw[GK (names:=n.names) rfl hl,Ox nna];by_cases e:nm=o
   ·rw[AH ⟨rfl,hl',e⟩];refine⟨?_,fun _=>.inr ⟨o,hin⟩⟩;show _=(("to" :Str),nm);rw[e];exact E1 inj' (w:=⟨true,_,no⟩) rfl (by show no≠-1;lia) hin
   ·rw[AF (fun z=>e z.2.2)];exact⟨GK rfl hl,fun _=>.inl ⟨hl,gn _ e hnm'⟩⟩
  ·have hx':(x,m)∈n.names:=hx;have hp:=b.Fd hx';have hn:m≠-1:=by lia
   rw[AF (fun z=>hn z.2.1),E1 b.inj (w:=⟨true,nm,m⟩) rfl hn hx'];by_cases e:x=a
   ·have em:m=no:=by have h1:=GJ b.CV hx';rw[e,ha] at h1;exact(Ag h1).symm
    rw[e,Zp];have hin':(o,m)∈(n.renamed a o no).names:=by rw[em];exact hin
    exact⟨E1 inj' (w:=⟨true,nm,m⟩) rfl hn hin',fun _=>.inr ⟨o,hin'⟩⟩
   ·rw[Ox e];exact⟨E1 inj' (w:=⟨true,nm,m⟩) rfl hn (mn _ _ hx' e),fun _=>.inr ⟨x,mn _ _ hx' e⟩⟩
theorem Xu(m:Int):AG (n.renamed a o no).texts m=(AG n.texts m).map (List.map (CM o no)):=M7 _ _ _
theorem Bq.renamed(b:Bq n)(ha:AG n.names a=some no)(ho:AG n.names o=none):Bq (n.renamed a o no):=by
 have etx:(n.renamed a o no).texts=n.texts.map fun p=>(p.1,p.2.map (CM o no)):=rfl;have mem_t:∀p∈(n.renamed a o no).texts,∃q∈n.texts,p=(q.1,q.2.map (CM o no)):=fun p hp=>by rw[etx] at hp;obtain⟨q,hq,e⟩:=BI.mp hp;exact⟨q,hq,e.symm⟩
 refine⟨EX (DN b.CV),YD b ha ho,by rw[etx,BV];exact b.Cf,fun p hp=>?_,fun p hp=>?_,fun p hp=>?_,fun p hp w hw=>?_⟩
 ·rw[Xu];rw[Mm ho] at hp;have:∃ws,AG n.texts p.2=some ws:=by
   rcases Bh.mp hp with e|e
   ·exact b.tx p (EV e).1
   ·rw[Bg.mp e];exact b.tx (a,no) (BN ha)
  obtain⟨ws,hw⟩:=this;rw[hw];exact⟨_,rfl⟩
 ·obtain⟨q,hq,rfl⟩:=mem_t p hp;obtain⟨nm,h⟩:=b.own q hq;rw[Mm ho];by_cases z:nm=a
  ·have:q.1=no:=by have h1:=GJ b.CV h;rw[z,ha] at h1;exact(Ag h1).symm
   exact⟨o,EB _ (by show(o,q.1)∈_;rw[this];exact Bg.mpr rfl)⟩
  ·exact⟨nm,Hi _ (Gx h z)⟩
 ·obtain⟨q,hq,rfl⟩:=mem_t p hp;exact b.lt q hq
 ·obtain⟨q,hq,rfl⟩:=mem_t p hp;obtain⟨w0,h0',rfl⟩:=BI.mp hw;exact(Xg b ha ho (b.wd q hq w0 h0')).2
theorem kO(b:Bq n)(ha:AG n.names a=some no)(ho:AG n.names o=none):vw (n.renamed a o no)=C7 (AX (AR (vw n) a) o (Al n no)) a o:=by
 have hk0:(vw n).map (·.1)=n.names.map (·.1):=Dv n;refine Ml ?_ (by rw[Dv];exact EX (DN b.CV)) fun k hk=>?_
 ·rw[Dv,PD,J1,LK,hk0];show(AX (AR n.names a) o no).map (·.1)=_;rw[J1,LK]
 ·rw[FH,TC,Cu];show(AG (AX (AR n.names a) o no) k).map _=_;rw[Cu];have key:∀m x,AG n.names x=some m->Al (n.renamed a o no) m=Bp (Al n m) a o:=fun m x hx=>by obtain⟨ws,h1,h2⟩:=b.text hx;rw[Sf];exact Te (h:=Jh a o) h1 (by rw[Xu,h1];rfl) fun w hw=>(Xg b ha ho (h2 w hw)).1
  by_cases z:k=o
  ·rw[AH z,AH z];exact BD some (key no a ha)
  ·rw[AF z,AF z];by_cases z2:k=a
   ·rw[z2,Iz,Iz];rfl
   ·rw[EF z2,EF z2,FH]
    cases e:AG n.names k with
    |none=>rfl
    |some m=>exact BD some (key m k e)
end
section
variable{a o:Str}{no2:Int}
def Nk.dropped(n:Nk)(a:Str)(no:Int):Nk:=({n with names:=AR n.names a,texts:=AR n.texts no}:Nk).turned no a (-1)
theorem WZ(b:Bq n)(ha:AG n.names a=some no){w:Wd}(ok:Ej n.names w):sh (AR n.names a) (CL no a (-1) w)=sh n.names w/\Ej (AR n.names a) (CL no a (-1) w):=by
 have inj':=My (k:=a) b.inj;obtain⟨t,nm,m⟩:=w;unfold CL
 cases t with
 |false=>rw[AF (fun z=>by cases z.1)];exact⟨by rw[Hs rfl,Hs rfl],fun z=>by cases z⟩
 |true=>
  have hpos:=b.Fd (BN ha);rcases ok rfl with⟨hl,hnm⟩|⟨x,hx⟩
  ·have hl':m= -1:=hl;rw[AF (fun z=>by have h2:m=no:=z.2;lia)];exact⟨by rw[GK rfl hl,GK rfl hl],fun _=>.inl ⟨hl,Mf hnm⟩⟩
  ·have hx':(x,m)∈n.names:=hx;have hn:m≠-1:=by have:=b.Fd hx';lia
   rw[E1 b.inj (w:=⟨true,nm,m⟩) rfl hn hx'];by_cases e:m=no
   ·rw[AH ⟨rfl,e⟩];have ex:x=a:=KI b.inj (by rw[<-e];exact hx') (BN ha);rw[ex];exact⟨GK (w:=⟨true,a,-1⟩) rfl rfl,fun _=>.inl ⟨rfl,Iz ..⟩⟩
   ·rw[AF (fun z=>e z.2)];have ex:x≠a:=fun z=>by have h1:=GJ b.CV hx';rw[z,ha] at h1;exact e (Ag h1).symm
    exact⟨E1 inj' (w:=⟨true,nm,m⟩) rfl hn (Gx hx' ex),fun _=>.inr ⟨x,Gx hx' ex⟩⟩
theorem Bq.dropped(b:Bq n)(ha:AG n.names a=some no):Bq (n.dropped a no):=by
 have etx:(n.dropped a no).texts=(AR n.texts no).map fun p=>(p.1,p.2.map (CL no a (-1))):=rfl;have mem_t:∀p∈(n.dropped a no).texts,∃q∈n.texts,q.1≠no/\p=(q.1,q.2.map (CL no a (-1))):=fun p hp=>by rw[etx] at hp;obtain⟨q,hq,e⟩:=BI.mp hp;exact⟨q,(EV hq).1,(EV hq).2,e.symm⟩
 refine⟨DN b.CV,My b.inj,by rw[etx,BV];exact DN b.Cf,fun p hp=>?_,fun p hp=>?_,fun p hp=>?_,fun p hp w hw=>?_⟩
 ·obtain⟨h1,h2⟩:=EV hp;obtain⟨ws,hw⟩:=b.tx p h1;have hne:p.2≠no:=fun z=>h2 (KI b.inj (show(p.1,no)∈n.names by rw[<-z];exact h1) (BN ha));have:AG (n.dropped a no).texts p.2=(AG (AR n.texts no) p.2).map (List.map (CL no a (-1))):=M7 _ _ _;rw[this,EF hne,hw];exact⟨_,rfl⟩
 ·obtain⟨q,hq,hne,rfl⟩:=mem_t p hp;obtain⟨nm,h⟩:=b.own q hq;refine⟨nm,Gx h fun z=>hne ?_⟩;have h1:=GJ b.CV h;have z':nm=a:=z;rw[z',ha] at h1;exact(Ag h1).symm
 ·obtain⟨q,hq,_,rfl⟩:=mem_t p hp;exact b.lt q hq
 ·obtain⟨q,hq,_,rfl⟩:=mem_t p hp;obtain⟨w0,h0',rfl⟩:=BI.mp hw;exact(WZ b ha (b.wd q hq w0 h0')).2
theorem j6(b:Bq n)(ha:AG n.names a=some no):vw (n.dropped a no)=AR (vw n) a:=by
 refine Ml ?_ (by rw[Dv];exact DN b.CV) fun k hk=>?_
 ·rw[Dv,LK,Dv];exact LK ..
 ·rw[FH];show(AG (AR n.names a) k).map _=_;by_cases z:k=a
  ·rw[z,Iz,Iz];rfl
  ·rw[EF z,EF z,FH]
   cases e:AG n.names k with
   |none=>rfl
   |some m=>
    obtain⟨ws,h1,h2⟩:=b.text e;have hne:m≠no:=fun y=>z ((b.same ha e).mp y);have e2:AG (n.dropped a no).texts m=some (ws.map (CL no a (-1))):=by have:AG (n.dropped a no).texts m=(AG (AR n.texts no) m).map (List.map (CL no a (-1))):=M7 _ _ _;rw[this,EF hne,h1];rfl
    have:=Te (n':=n.dropped a no) (h:=id) h1 e2 fun w hw=>(WZ b ha (h2 w hw)).1;show some (Al (n.dropped a no) m)=some (Al n m);rw[this,Jv]
end
section
variable{a o:Str}{no2:Int}{w1 w2:List Wd}
theorem WU(b:Bq n)(ha:AG n.names a=some no)(ho:AG n.names o=some no2)(hne:a≠o){w:Wd}(ok:Ej n.names w):sh (AR n.names o) (CL no2 "" no w)=Jh o a (sh n.names w)/\Ej (AR n.names o) (CL no2 "" no w):=by
 have inj':=My (k:=o) b.inj;have hin:(a,no)∈AR n.names o:=Gx (BN ha) hne;have hpos:=b.Fd (BN ha);have hpos2:=b.Fd (BN ho);obtain⟨t,nm,m⟩:=w;unfold CL
 cases t with
 |false=>rw[AF (fun z=>by cases z.1)];exact⟨by rw[Hs rfl,Hs rfl,Yd],fun z=>by cases z⟩
 |true=>
  rcases ok rfl with⟨hl,hnm⟩|⟨x,hx⟩
  ·have hl':m= -1:=hl;have hnm':AG n.names nm=none:=hnm;have nno:nm≠o:=fun z=>by rw[z,ho] at hnm';cases hnm'
   rw[AF (fun z=>by have h2:m=no2:=z.2;lia)];exact⟨by rw[GK rfl hl,GK rfl hl,Ox nno],fun _=>.inl ⟨hl,Mf hnm⟩⟩
  ·have hx':(x,m)∈n.names:=hx;have hn:m≠-1:=by have:=b.Fd hx';lia
   rw[E1 b.inj (w:=⟨true,nm,m⟩) rfl hn hx'];by_cases e:m=no2
   ·rw[AH ⟨rfl,e⟩];have ex:x=o:=KI b.inj (by rw[<-e];exact hx') (BN ho);rw[ex,Zp];exact⟨E1 inj' (w:=⟨true,"",no⟩) rfl (by show no≠-1;lia) hin,fun _=>.inr ⟨a,hin⟩⟩
   ·rw[AF (fun z=>e z.2)];have ex:x≠o:=fun z=>by have h1:=GJ b.CV hx';rw[z,ho] at h1;exact e (Ag h1).symm
    rw[Ox ex];exact⟨E1 inj' (w:=⟨true,nm,m⟩) rfl hn (Gx hx' ex),fun _=>.inr ⟨x,Gx hx' ex⟩⟩
theorem R9(m:Int):AG (n.joined no o no2 w1 w2).texts m=((if m=no then some (w1++w2) else AG (AR n.texts no2) m):Option (List Wd)).map (List.map (CL no2 "" no)):=by show AG (Nk.Il _ (CL no2 "" no)).texts m=_;rw[M7];show(AG (AX (AR n.texts no2) no (w1++w2)) m).map _=_;rw[Cu]
theorem Bq.joined(b:Bq n)(ha:AG n.names a=some no)(ho:AG n.names o=some no2)(hne:a≠o)(h1:AG n.texts no=some w1)(h2:AG n.texts no2=some w2):Bq (n.joined no o no2 w1 w2):=by
 have nn:no≠no2:=fun z=>hne ((b.same ho ha).mp z);have etx:(n.joined no o no2 w1 w2).texts=(AX (AR n.texts no2) no (w1++w2)).map fun p=>(p.1,p.2.map (CL no2 "" no)):=rfl;have mem_t:∀p∈(n.joined no o no2 w1 w2).texts,∃q,((q∈n.texts/\q.1≠no2)\/q=(no,w1++w2))/\p=(q.1,q.2.map (CL no2 "" no)):=fun p hp=>by
  rw[etx] at hp;obtain⟨q,hq,e⟩:=BI.mp hp;refine⟨q,?_,e.symm⟩;rcases IY hq with z|z
  ·exact .inl (EV z)
  ·exact .inr z
 refine⟨DN b.CV,My b.inj,by rw[etx,BV];exact EX (DN b.Cf),fun p hp=>?_,fun p hp=>?_,fun p hp=>?_,fun p hp w hw=>?_⟩
 ·obtain⟨g1,g2⟩:=EV hp;obtain⟨ws,hw⟩:=b.tx p g1;rw[R9];by_cases z:p.2=no
  ·rw[AH z];exact⟨_,rfl⟩
  ·have hne2:p.2≠no2:=fun z=>g2 (KI b.inj (show(p.1,no2)∈n.names by rw[<-z];exact g1) (BN ho));rw[AF z,EF hne2,hw];exact⟨_,rfl⟩
 ·obtain⟨q,hq,rfl⟩:=mem_t p hp;rcases hq with⟨hq,hq2⟩|rfl
  ·obtain⟨nm,h⟩:=b.own q hq;refine⟨nm,Gx h fun z=>hq2 ?_⟩;have g1:=GJ b.CV h;have z':nm=o:=z;rw[z',ho] at g1;exact(Ag g1).symm
  ·exact⟨a,Gx (BN ha) hne⟩
 ·obtain⟨q,hq,rfl⟩:=mem_t p hp;rcases hq with⟨hq,_⟩|rfl
  ·exact b.lt q hq
  ·exact b.Fd (BN ha)
 ·obtain⟨q,hq,rfl⟩:=mem_t p hp;obtain⟨w0,h0',rfl⟩:=BI.mp hw;refine(WU b ha ho hne ?_).2;rcases hq with⟨hq,_⟩|rfl
  ·exact b.wd q hq w0 h0'
  ·rcases Bh.mp h0' with z|z
   ·exact b.wd _ (BN h1) w0 z
   ·exact b.wd _ (BN h2) w0 z
theorem i3(b:Bq n)(ha:AG n.names a=some no)(ho:AG n.names o=some no2)(hne:a≠o)(h1:AG n.texts no=some w1)(h2:AG n.texts no2=some w2):
 vw (n.joined no o no2 w1 w2)=C7 (AX (AR (vw n) o) a (Al n no++Al n no2)) o a:=by
 have hk0:(vw n).map (·.1)=n.names.map (·.1):=Dv n;have okAll:∀ws:List Wd,(∀w∈ws,Ej n.names w)->(ws.map (CL no2 "" no)).map (sh (AR n.names o))=(ws.map (sh n.names)).map (Jh o a):=fun ws h=>by rw[BV,BV];exact DF fun w hw=>(WU b ha ho hne (h w hw)).1
 refine Ml ?_ (by rw[Dv];exact DN b.CV) fun k hk=>?_
 ·rw[Dv,PD,J1,LK,hk0,AH]
  ·exact LK ..
  ·exact IT.mpr ⟨SS ha,by simpa using hne⟩
 ·rw[FH,TC,Cu];show(AG (AR n.names o) k).map _=_;by_cases z:k=o
  ·rw[z,Iz,AF hne.symm,Iz];rfl
  ·rw[EF z];by_cases y:k=a
   ·rw[AH y,y,ha];show some (((AG (n.joined no o no2 w1 w2).texts no).getD []).map (sh (AR n.names o)))=some (Bp _ o a);rw[R9,AH rfl,Sf];show some (((w1++w2).map (CL no2 "" no)).map (sh (AR n.names o)))=_;rw[okAll _ fun w hw=>by
     rcases Bh.mp hw with z|z
     ·exact b.wd _ (BN h1) w z
     ·exact b.wd _ (BN h2) w z];unfold Al;rw[h1,h2,BS];rfl
   ·rw[AF y,EF z,FH]
    cases e:AG n.names k with
    |none=>rfl
    |some m=>obtain⟨ws,g1,g2⟩:=b.text e;have m1:m≠no:=fun q=>y ((b.same ha e).mp q);have m2:m≠no2:=fun q=>z ((b.same ho e).mp q);show some (((AG (n.joined no o no2 w1 w2).texts m).getD []).map (sh (AR n.names o)))=some (Bp (Al n m) o a);rw[R9,AF m1,EF m2,g1,Sf];show some ((ws.map (CL no2 "" no)).map (sh (AR n.names o)))=_;rw[okAll ws g2];unfold Al;rw[g1];rfl
end
def Nk.wrote(n:Nk)(a t:Str):Nk:=match AG n.names a with
 |some no=>n.Cn no (GX n.names t)
 |none=>(n.added a).Cn n.made (GX (n.added a).names t)
def Nk.ID(n:Nk)(no:Int)(k:Nat)(o:Str):Nk:=((n.added o).Cn n.made (((AG (n.added o).texts no).getD []).drop k)).Cn no (((AG (n.added o).texts no).getD []).take k++[⟨true,o,n.made⟩])
theorem str_list{a b:Str}:a=b↔a.cps.toList=b.cps.toList:=⟨fun h=>by rw[h],fun h=>Vb h⟩
theorem Vw(l:List Nat)(a:Nat):∀m,(List.range m).filterMap (fun k=>l[a+k]?)=(l.drop a).take m
 |0=>by simp
 |m+1=>by rw[List.range_succ,List.filterMap_append,Vw l a m,List.take_succ,Kx];congr 1
theorem slice_list(x:Str)(l u:Option Int)(lo hi:Nat)(hl:lo<=x.length)(hu:hi<=x.length)
 (DA:Builtin.Str.strSliceIndices l u 1 x.length=sliceRange (lo:Int) (hi:Int) 1):(Txt.slice x l u).cps.toList=(x.cps.toList.drop lo).take (hi-lo):=by
 have hn:x.cps.toList.length=x.length:=by simp[Str.length]
 have idx:Builtin.Str.strSliceIndices l u 1 x.length=(List.range (hi-lo)).map fun k=>lo+k:=by
  rw[DA];unfold sliceRange;simp only[show(1:Int)>0 by decide,CJ];have ec:((if(lo:Int)<(hi:Int) then((hi:Int)-lo+1-1)/1 else 0):Int).toNat=hi-lo:=by split<;>lia
  rw[ec];refine DF fun k _=>?_;show((lo:Int)+1*(k:Int)).toNat=lo+k
  lia
 unfold Txt.slice;rw[idx];split
 ·rename_i h;have:hi-lo=x.length:=by simpa using h
  have h0:lo=0:=by lia
  rw[h0,OS,Fi (by lia)]
 ·show(((List.range (hi-lo)).map fun k=>lo+k).filterMap fun i=>x.cps[i]?)=_;rw[List.filterMap_map];have:=Vw x.cps.toList lo (hi-lo);rw[<-this];have ef:((fun i=>x.cps[i]?)∘fun k=>lo+k)=fun k=>x.cps.toList[lo+k]? :=funext fun k=>by show x.cps[lo+k]? =_;rw[F7]
  rw[ef]
theorem Rj(x:Str):(Txt.slice x none (some 1)).cps.toList=x.cps.toList.take 1:=by
 have:=slice_list x none (some 1) 0 (min 1 x.length) (CH _) (Nat.min_le_right ..) (by
  unfold Builtin.Str.strSliceIndices;simp only[show(1:Int)>0 by decide,CJ,show¬(1:Int)<0 by decide,Bs];congr 1
  lia);rw[this,OS];have hn:x.cps.toList.length=x.length:=by simp[Str.length]
 by_cases h:1<=x.length
 ·rw[show min 1 x.length-0=1 by lia]
 ·rw[Fi (by lia),Fi (by lia)]
theorem Q7(x:Str):(Txt.slice x (some (-1)) none).cps.toList=x.cps.toList.drop (x.length-1):=by
 have:=slice_list x (some (-1)) none (x.length-1) x.length (by lia) (Ab _) (by
  unfold Builtin.Str.strSliceIndices;simp only[show(1:Int)>0 by decide,CJ,show(-1:Int)<0 by decide];congr 1
  lia);rw[this];have hn:x.cps.toList.length=x.length:=by simp[Str.length]
 rw[Fi (by rw[EC];lia)]
theorem Vc(x:Str):(Txt.slice x (some 1) (some (-1))).cps.toList=(x.cps.toList.drop 1).take (x.length-2):=by
 have:=slice_list x (some 1) (some (-1)) (min 1 x.length) (x.length-1) (Nat.min_le_right ..) (by lia) (by unfold Builtin.Str.strSliceIndices;simp only[show(1:Int)>0 by decide,CJ,show(-1:Int)<0 by decide,show¬(1:Int)<0 by decide,Bs];congr 1<;>lia);rw[this];have hn:x.cps.toList.length=x.length:=by simp[Str.length]
 by_cases h:1<=x.length
 ·rw[show min 1 x.length=1 by lia,show x.length-1-1=x.length-2 by lia]
 ·rw[show x.length-1-min 1 x.length=0 by lia,show x.length-2=0 by lia];simp
theorem KN:("[" :Str).cps.toList=[91]:=by ac_rfl
theorem KJ:("]" :Str).cps.toList=[93]:=by ac_rfl
theorem LS(a b:Str):(a++b).cps.toList=a.cps.toList++b.cps.toList:=by show(a.cps++b.cps).toList=_;rw[F9]
theorem Rq(x:Str):decide (V.str (Txt.slice x none (some 1))=V.str "[")=Txt.startswith x "[" :=by
 have hn:x.cps.toList.length=x.length:=by simp[Str.length]
 have l1:("[" :Str).length=1:=by ac_rfl
 have e1:(V.str (Txt.slice x none (some 1))=V.str "[")↔x.cps.toList.take 1=[91]:=by rw[V.str.injEq,str_list,Rj,KN]
 have e2:Txt.startswith x "[" =true↔x.cps.toList.take 1=[91]:=by
  unfold Txt.startswith Builtin.Str.subAt;rw[l1,Du,OG,FC,<-Js,KN,VL];constructor
  ·intro h;have:=h.2;simpa[U0] using this
  ·intro h;refine⟨?_,by simpa[U0] using h⟩;have:=BD List.length h;rw[Bl,hn] at this;have t2:min 1 x.length=1:=this
   lia
 cases e:Txt.startswith x "[" with
 |true=>exact BZ (e1.mpr (e2.mp e))
 |false=>exact BJ fun z=>by rw[e2.mpr (e1.mp z)] at e;cases e
theorem Su(x:Str):decide (V.str (Txt.slice x (some (-1)) none)=V.str "]")=Txt.endswith x "]" :=by
 have hn:x.cps.toList.length=x.length:=by simp[Str.length]
 have l1:("]" :Str).length=1:=by ac_rfl
 have e1:(V.str (Txt.slice x (some (-1)) none)=V.str "]")↔x.cps.toList.drop (x.length-1)=[93]:=by rw[V.str.injEq,str_list,Q7,KJ]
 have e2:Txt.endswith x "]" =true↔x.cps.toList.drop (x.length-1)=[93]:=by
  unfold Txt.endswith Builtin.Str.subAt;rw[l1,Du,OG,FC,<-Js,KJ,VL];have et:∀h:1<=x.length,List.extract x.cps.toList (x.length-1) (x.length-1+1)=x.cps.toList.drop (x.length-1):=fun h=>by rw[U0,Fi (by rw[EC];lia)]
  constructor
  ·intro h;rw[<-et (by lia)];exact h.2
  ·intro h;have h1:1<=x.length:=by
    have:=BD List.length h;rw[EC,hn] at this;have t2:x.length-(x.length-1)=1:=this
    lia
   exact⟨by lia,by rw[et h1];exact h⟩
 cases e:Txt.endswith x "]" with
 |true=>exact BZ (e1.mpr (e2.mp e))
 |false=>exact BJ fun z=>by rw[e2.mpr (e1.mp z)] at e;cases e
theorem PQ(z:Str):DI z=isNm z:=by
 unfold DI isNm;congr 1;generalize z.cps.toList=l
 induction l with
 |nil=>rfl
 |cons c l ih=>
  have hb:E9 c= !Dq c:=by unfold E9 Dq;rw[Bool.not_or]
  rw[K7,hb,<-ih]
  cases e:Dq c with
  |true=>rw[Gn e];rfl
  |false=>rw[Hg (by simp[e])];rfl
theorem XB(p:Str):Hz p=EK p:=by unfold Hz EK;rw[Rq,Su,PQ];rfl
theorem Wa(x:Str):Txt.slice ("[" ++x++ "]") (some 1) (some (-1))=x:=by
 rw[str_list,Vc,LS,LS,KN,KJ];have hn:x.cps.toList.length=x.length:=by simp[Str.length]
 have hl:("[" ++x++ "]" :Str).length=x.length+2:=by
  have:("[" ++x++ "]" :Str).cps.toList.length=("[" ++x++ "]" :Str).length:=by simp[Str.length]
  rw[<-this,LS,LS,KN,KJ];simp;omega
 rw[hl,Bb];show((x.cps.toList++[93]).take (x.length+2-2))=_;rw[List.take_append_of_le_length (by lia),Fi (by lia)]
theorem Wb(inj:(names.map (·.2)).Nodup)(pos:∀p∈names,0<=p.2)(t:Str):(GX names t).map (sh names)=EJ t/\∀w∈GX names t,Ej names w:=by
 have one:∀p:Str,(D5 names p=none/\p="")\/∃w,D5 names p=some w/\p≠ "" /\sh names w=C2 p/\Ej names w:=fun p=>by
  unfold D5;by_cases hp:Hz p=true
  ·rw[AH hp];refine .inr ⟨_,rfl,fun z=>?_,?_,fun _=>?_⟩
   ·rw[z] at hp;exact absurd hp (by ac_rfl)
   ·have hp':EK p=true:=by rw[<-XB];exact hp
    have er:C2 p=(("to" :Str),inner p):=by unfold C2;rw[AH hp'];rfl
    rw[er]
    cases e:AG names (inner p) with
    |none=>exact GK (w:=⟨true,inner p,-1⟩) rfl rfl
    |some no=>have hm:=BN e;have:=pos _ hm;exact E1 inj (w:=⟨true,inner p,no⟩) rfl (by show no≠-1;have t2:(0:Int)<=no:=this;lia) hm
   ·cases e:AG names (inner p) with
    |none=>exact .inl ⟨rfl,rfl⟩
    |some no=>exact .inr ⟨inner p,BN e⟩
  ·rw[AF hp];by_cases he:p=""
   ·rw[AH he];exact .inl ⟨rfl,he⟩
   ·rw[AF he];refine .inr ⟨_,rfl,he,?_,fun z=>by cases z⟩;have hp':¬EK p=true:=by rw[<-XB];exact hp
    have er:C2 p=(("word" :Str),p):=by unfold C2;rw[AF hp']
    rw[er];exact Hs rfl
 unfold GX EJ CW;generalize Txt.split t " " =L
 induction L with
 |nil=>exact⟨rfl,fun w hw=>by cases hw⟩
 |cons p L ih=>
  obtain⟨ih1,ih2⟩:=ih;rcases one p with⟨e1,e2⟩|⟨w,e1,e2,e3,e4⟩
  ·rw[List.filterMap_cons_none e1,Hg (by simp[e2])];exact⟨ih1,ih2⟩
  ·rw[List.filterMap_cons_some e1,Gn (by simp[e2]),Av,Av,ih1,e3];refine⟨rfl,fun w' hw'=>?_⟩;rcases Ba.mp hw' with z|z
   ·rw[z];exact e4
   ·exact ih2 w' z
def wl(n:Nk):Prop:=∀p∈n.texts,∀w∈p.2,w.nm.length<=1000
structure Bd(n:Nk):Prop where
 b:Bq n
 h0:0<=n.made
 nm:∀p∈n.names,p.1.length<=40
 wl:wl n
theorem YM(o:Str)(no:Int)(w:Wd):(CM o no w).nm=w.nm:=by unfold CM;split<;>rfl
theorem X9{other:Int}{nm:Str}{w:Wd}(h1:nm.length<=1000)(h2:w.nm.length<=1000):(CL no nm other w).nm.length<=1000:=by
 unfold CL;split
 ·exact h1
 ·exact h2
theorem Pd{g:Wd->Wd}(h:wl n)(hg:∀w,w.nm.length<=1000->(g w).nm.length<=1000):wl (n.Il g):=fun p hp w hw=>by obtain⟨q,hq,rfl⟩:=BI.mp hp;obtain⟨w0,h0,rfl⟩:=BI.mp hw;exact hg w0 (h q hq w0 h0)
theorem S7{ws:List Wd}(h:wl n)(hw:∀w∈ws,w.nm.length<=1000):wl {n with texts:=AX n.texts no ws}:=fun p hp w hw'=>by
 rcases IY hp with e|e
 ·exact h p e w hw'
 ·rw[e] at hw';exact hw w hw'
theorem Yb(h:wl n):wl {n with texts:=AR n.texts no}:=fun p hp w hw'=>h p (EV hp).1 w hw'
theorem Wf{t:Str}(ht:t.length<=1000):∀w∈GX names t,w.nm.length<=1000:=fun w hw=>by
 unfold GX at hw;obtain⟨p,hp,e⟩:=Qn.mp hw;have h1:=VX t p hp;unfold D5 at e;split at e
 ·cases Ag e;have:=Oa p (some 1) (some (-1));show(inner p).length<=1000;unfold inner
  lia
 ·split at e
  ·cases e
  ·cases Ag e;show p.length<=1000
   lia
theorem Bd.added{n:Nk}{o:Str}(h:Bd n)(ho:AG n.names o=none)(hl:o.length<=40):Bd (n.added o):=by
 refine⟨h.b.added h.h0 ho,by show 0<=n.made+1;have:=h.h0;lia,fun p hp=>?_,Pd (S7 (n:={n with made:=n.made+1}) h.wl (fun w hw=>by cases hw)) fun w hw=>by rw[YM];exact hw⟩;rw[Ob ho] at hp;rcases Bh.mp hp with e|e
 ·exact h.nm p e
 ·rw[Bg.mp e];exact hl
theorem Bd.Cn{n:Nk}{a:Str}{no:Int}{ws:List Wd}(h:Bd n)(ha:AG n.names a=some no)(ok:∀w∈ws,Ej n.names w)(hw:∀w∈ws,w.nm.length<=1000):Bd (n.Cn no ws):=
 ⟨h.b.Cn ha ok,h.h0,h.nm,S7 h.wl hw⟩
noncomputable def Am.asks:Am->Bool
 |.text _=>true
 |.back _=>true
 |.find _ _=>true
 |_=>false
def A0(n:Nk)(a:Str):Int:=(AG n.names a).getD 0
def CD(n:Nk)(no:Int):List Wd:=(AG n.texts no).getD []
def Pp(n:Nk):Am->Nk
 |.write a t=>n.wrote a t
 |.rename a o=>n.renamed a o (A0 n a)
 |.join a o=>n.joined (A0 n a) o (A0 n o) (CD n (A0 n a)) (CD n (A0 n o))
 |.cut a p o=>n.ID (A0 n a) p.toNat o
 |.drop a=>n.dropped a (A0 n a)
 |_=>n
def HL(n:Nk)(x:Am):Nk:=if x.asks=true then n else if BU n x="" then Pp n x else n
theorem gL{a t:Str}(h:Bd n)(hl:a.length<=40)(ht:t.length<=1000):Bd (n.wrote a t)/\vw (n.wrote a t)=AX (vw n) a (EJ t):=by
 have pos:∀{m:Nk},Bd m->∀p∈m.names,0<=p.2:=fun hm p hp=>(hm.b.Fd (nm:=p.1) (no:=p.2) hp).1;unfold Nk.wrote
 cases e:AG n.names a with
 |some no=>obtain⟨p1,p2⟩:=Wb h.b.inj (pos h) t;exact⟨h.Cn e p2 (Wf ht),by rw[PB h.b e,p1]⟩
 |none=>
  have h':=h.added e hl;have e2:AG (n.added a).names a=some n.made:=by show AG (AX n.names a n.made) a=_;rw[Cu,AH rfl]
  obtain⟨p1,p2⟩:=Wb h'.b.inj (pos h') t;refine⟨h'.Cn e2 p2 (Wf ht),?_⟩;show vw ((n.added a).Cn n.made _)=_;rw[PB h'.b e2,p1,W6 h.b h.h0 e,Xv (by rw[Dv];exact h.b.CV)]
theorem kb{a o:Str}(h:Bd n)(ha:AG n.names a=some no)(ho:AG n.names o=none)(hl:o.length<=40):
 Bd (n.ID no k o)/\vw (n.ID no k o)=AX (AX (vw n) o ((Al n no).drop k)) a ((Al n no).take k++[(("to" :Str),o)]):=by
 have h1:=h.added ho hl;have em:AG (n.added o).names o=some n.made:=by show AG (AX n.names o n.made) o=_;rw[Cu,AH rfl]
 have hne:a≠o:=fun z=>by rw[z,ho] at ha;cases ha
 have ea:AG (n.added o).names a=some no:=by show AG (AX n.names o n.made) a=_;rw[Cu,AF hne];exact ha
 obtain⟨w0,hw0,ok0⟩:=h.b.text ha;obtain⟨ws,hw,ok⟩:=h1.b.text ea;have pg:Al n no=ws.map (sh (n.added o).names):=by rw[<-XU h.b h.h0 ho hw0];unfold Al;rw[hw];rfl
 have wl1:∀w∈ws,w.nm.length<=1000:=fun w hw'=>h1.wl _ (BN hw) w hw';unfold Nk.ID;rw[hw];show Bd (((n.added o).Cn n.made (ws.drop k)).Cn no (ws.take k++[⟨true,o,n.made⟩]))/\_;have h2:=h1.Cn (ws:=ws.drop k) em (fun w hw'=>ok w (Jm hw')) fun w hw'=>wl1 w (Jm hw');have ok3:∀w∈ws.take k++[(⟨true,o,n.made⟩:Wd)],Ej (n.added o).names w:=fun w hw'=>by
  rcases Bh.mp hw' with z|z
  ·exact ok w (Hh z)
  ·rw[Bg.mp z];exact fun _=>.inr ⟨o,BN em⟩
 have ea2:AG ((n.added o).Cn n.made (ws.drop k)).names a=some no:=ea;refine⟨h2.Cn ea2 ok3 fun w hw'=>?_,?_⟩
 ·rcases Bh.mp hw' with z|z
  ·exact wl1 w (Hh z)
  ·rw[Bg.mp z];show o.length<=1000
   lia
 ·show vw (((n.added o).Cn n.made (ws.drop k)).Cn no (ws.take k++[⟨true,o,n.made⟩]))=_;have sm:sh (n.added o).names ⟨true,o,n.made⟩=(("to" :Str),o):=E1 h1.b.inj (w:=⟨true,o,n.made⟩) rfl (by show n.made≠-1;have:=h.h0;lia) (BN em);rw[PB h2.b ea2,PB h1.b em,W6 h.b h.h0 ho,Xv (by rw[Dv];exact h.b.CV)];show AX (AX (vw n) o ((ws.drop k).map (sh (n.added o).names))) a ((ws.take k++[(⟨true,o,n.made⟩:Wd)]).map (sh (n.added o).names))=_;rw[pg,BS,OX,OW];show AX _ a (_++[sh (n.added o).names (Wd.mk true o n.made)])=_;rw[sm]
theorem Bd.renamed{n:Nk}{a o:Str}{no:Int}(h:Bd n)(ha:AG n.names a=some no)(ho:AG n.names o=none)(hl:o.length<=40):Bd (n.renamed a o no):=by
 refine⟨h.b.renamed ha ho,h.h0,fun p hp=>?_,Pd (n:={n with names:=AX (AR n.names a) o no}) h.wl fun w hw=>by rw[YM];exact hw⟩;rw[Mm ho] at hp;rcases Bh.mp hp with e|e
 ·exact h.nm p (EV e).1
 ·rw[Bg.mp e];exact hl
theorem Bd.dropped{n:Nk}{a:Str}{no:Int}(h:Bd n)(ha:AG n.names a=some no):Bd (n.dropped a no):=
 ⟨h.b.dropped ha,h.h0,fun p hp=>h.nm p (EV hp).1,Pd (n:={n with names:=AR n.names a,texts:=AR n.texts no}) (Yb (n:=n) h.wl) fun w hw=>X9 (by have:=h.nm _ (BN ha);dsimp only at this;lia) hw⟩
theorem Bd.joined{n:Nk}{a o:Str}{no no2:Int}{w1 w2:List Wd}(h:Bd n)(ha:AG n.names a=some no)(ho:AG n.names o=some no2)(hne:a≠o)(h1:AG n.texts no=some w1)(h2:AG n.texts no2=some w2):Bd (n.joined no o no2 w1 w2):=by
 refine⟨h.b.joined ha ho hne h1 h2,h.h0,fun p hp=>h.nm p (EV hp).1,Pd (S7 (n:={n with names:=AR n.names o,texts:=AR n.texts no2}) (Yb (n:=n) h.wl) fun w hw=>?_) fun w hw=>X9 (by ac_rfl) hw⟩;rcases Bh.mp hw with z|z
 ·exact h.wl _ (BN h1) w z
 ·exact h.wl _ (BN h2) w z
def Cz(s:Str):Rs->Prop
 |.no m=>s=m/\m≠ ""
 |.ok _ _=>s=""
 |.un _=>s=""
theorem ZD(n:Nk)(x:Am):Cz (BU n x) (Dx (vw n) x):=by
 have hg:=FH n
 cases x with
 |write a t=>
  show Cz (if DI a=true then "" else "no name") (GU (vw n) a t);unfold GU;rw[PQ];by_cases e:isNm a=true
  ·rw[AH e,AH e];exact rfl
  ·rw[AF e,AF e];exact⟨rfl,by ac_rfl⟩
 |rename a o=>
  show Cz (if AG n.names a=none then "no page" else if DI o=false then "no name" else if AG n.names o=none then "" else "taken") (EU (vw n) a o);unfold EU;rw[PQ,hg a]
  cases e:AG n.names a with
  |none=>rw[AH rfl];exact⟨rfl,by ac_rfl⟩
  |some no=>
   rw[AF (by simp)];show Cz _ (if isNm o=true then _ else _)
   cases e2:isNm o with
   |false=>exact⟨rfl,by ac_rfl⟩
   |true=>
    rw[AH rfl,AF (by simp),hg o]
    cases e3:AG n.names o with
    |none=>rw[AH rfl];exact rfl
    |some no2=>rw[AF (by simp)];exact⟨rfl,by ac_rfl⟩
 |join a o=>
  show Cz (if AG n.names a=none then "no page" else if AG n.names o=none then "no page" else if a=o then "same page" else "") (Eu (vw n) a o);unfold Eu;rw[hg a]
  cases e:AG n.names a with
  |none=>rw[AH rfl];exact⟨rfl,by ac_rfl⟩
  |some no=>
   rw[AF (by simp),hg o]
   cases e2:AG n.names o with
   |none=>rw[AH rfl];exact⟨rfl,by ac_rfl⟩
   |some no2=>
    rw[AF (by simp)];show Cz _ (if a=o then _ else _);by_cases e3:a=o
    ·rw[AH e3,AH e3];exact⟨rfl,by ac_rfl⟩
    ·rw[AF e3,AF e3];exact rfl
 |cut a p o=>
  show Cz (match AG n.names a with
   |none=>"no page"
   |some no=>if DI o=false then "no name" else if AG n.names o=none then(if p<0 then "no place" else if((AG n.texts no).getD []).length<p then "no place" else "") else "taken") (Ga (vw n) a p o);unfold Ga;rw[PQ,hg a]
  cases e:AG n.names a with
  |none=>exact⟨rfl,by ac_rfl⟩
  |some no=>
   show Cz (if isNm o=false then _ else _) (if isNm o=true then _ else _)
   cases e2:isNm o with
   |false=>exact⟨rfl,by ac_rfl⟩
   |true=>
    rw[AH rfl,AF (by simp),hg o]
    cases e3:AG n.names o with
    |some no2=>rw[AF (by simp)];exact⟨rfl,by ac_rfl⟩
    |none=>
     rw[AH rfl];have hlen:(Al n no).length=((AG n.texts no).getD []).length:=by unfold Al;rw[AL]
     show Cz _ (if p<0\/((Al n no).length:Int)<p then _ else _);rw[hlen];by_cases c1:p<0
     ·rw[AH c1,AH (AZ c1)];exact⟨rfl,by ac_rfl⟩
     ·by_cases c2:(((AG n.texts no).getD []).length:Int)<p
      ·rw[AF c1,AH c2,AH (Cd c2)];exact⟨rfl,by ac_rfl⟩
      ·rw[AF c1,AF c2,AF (fun z=>Or.elim z c1 c2)];exact rfl
 |drop a=>
  show Cz (if AG n.names a=none then "no page" else "") (GY (vw n) a);unfold GY;rw[hg a]
  cases e:AG n.names a with
  |none=>rw[AH rfl];exact⟨rfl,by ac_rfl⟩
  |some no=>rw[AF (by simp)];exact rfl
 |text a=>
  show Cz (if AG n.names a=none then "no page" else "") (Fw (vw n) a);unfold Fw;rw[hg a]
  cases e:AG n.names a with
  |none=>rw[AH rfl];exact⟨rfl,by ac_rfl⟩
  |some no=>rw[AF (by simp)];exact rfl
 |back a=>exact rfl
 |find ws far=>
  show Cz (if ws=[] then "no words" else "") (if ws=[] then .no "no words" else .un (vw n));by_cases e:ws=[]
  ·rw[AH e,AH e];exact⟨rfl,by ac_rfl⟩
  ·rw[AF e,AF e];exact rfl
theorem jI(h:Bd n){x:Am}(g:x.Good):Bd (HL n x)/\vw (HL n x)=(Dx (vw n) x).next (vw n):=by
 have br:=ZD n x;have hg:=FH n;unfold HL;by_cases ha:x.asks=true
 ·rw[AH ha];refine⟨h,?_⟩
  cases x with
  |text a=>show _=(Fw (vw n) a).next (vw n);unfold Fw;cases AG (vw n) a<;>rfl
  |back a=>rfl
  |find ws far=>show _=Rs.next (vw n) (if ws=[] then .no "no words" else .un (vw n));split<;>rfl
  |_=>cases ha
 ·rw[AF ha];by_cases hb:BU n x=""
  ·rw[AH hb];rw[hb] at br
   cases x with
   |write a t=>
    obtain⟨r1,r2⟩:=gL (n:=n) (a:=a) (t:=t) h g.1 g.2;refine⟨r1,r2.trans ?_⟩;have br':Cz "" (GU (vw n) a t):=br;show _=(GU (vw n) a t).next (vw n);unfold GU at br'⊢;by_cases e:isNm a=true
    ·rw[AH e];rfl
    ·rw[AF e] at br';exact absurd br'.1.symm br'.2
   |rename a o=>
    have br':Cz "" (EU (vw n) a o):=br;show Bd (n.renamed a o (A0 n a))/\vw (n.renamed a o (A0 n a))=(EU (vw n) a o).next (vw n);unfold EU A0 at*;rw[hg a] at br'⊢
    cases e:AG n.names a with
    |none=>rw[e] at br';exact absurd br'.1.symm br'.2
    |some no=>
     rw[e] at br';have br2:Cz "" (if isNm o=true then(match AG (vw n) o with|some _=>.no "taken" |none=>.ok (.int (L2.cnt (L2.renamed (vw n) a o (Al n no)) o)) (L2.renamed (vw n) a o (Al n no))) else .no "no name"):=br';show Bd (n.renamed a o no)/\vw (n.renamed a o no)=Rs.next (vw n) (if isNm o=true then(match AG (vw n) o with|some _=>.no "taken" |none=>.ok (.int (L2.cnt (L2.renamed (vw n) a o (Al n no)) o)) (L2.renamed (vw n) a o (Al n no))) else .no "no name");by_cases e2:isNm o=true
     ·rw[AH e2,hg o] at br2⊢
      cases e3:AG n.names o with
      |some no2=>rw[e3] at br2;exact absurd br2.1.symm br2.2
      |none=>exact⟨h.renamed e e3 g.2,kO h.b e e3⟩
     ·rw[AF e2] at br2;exact absurd br2.1.symm br2.2
   |join a o=>
    have br':Cz "" (Eu (vw n) a o):=br;show Bd (n.joined (A0 n a) o (A0 n o) (CD n (A0 n a)) (CD n (A0 n o)))/\vw (n.joined (A0 n a) o (A0 n o) (CD n (A0 n a)) (CD n (A0 n o)))=(Eu (vw n) a o).next (vw n);unfold Eu at*;rw[hg a,hg o] at br'⊢;unfold A0
    cases e:AG n.names a with
    |none=>rw[e] at br';exact absurd br'.1.symm br'.2
    |some no=>
     cases e2:AG n.names o with
     |none=>rw[e,e2] at br';exact absurd br'.1.symm br'.2
     |some no2=>
      rw[e,e2] at br';have br2:Cz "" (if a=o then .no "same page" else .ok (.int (L2.cnt (L2.joined (vw n) a o (Al n no) (Al n no2)) a)) (L2.joined (vw n) a o (Al n no) (Al n no2))):=br';show Bd (n.joined no o no2 (CD n no) (CD n no2))/\vw (n.joined no o no2 (CD n no) (CD n no2))=Rs.next (vw n) (if a=o then .no "same page" else .ok (.int (L2.cnt (L2.joined (vw n) a o (Al n no) (Al n no2)) a)) (L2.joined (vw n) a o (Al n no) (Al n no2)));by_cases e3:a=o
      ·rw[AH e3] at br2;exact absurd br2.1.symm br2.2
      ·rw[AF e3];obtain⟨w1,h1,_⟩:=h.b.text e;obtain⟨w2,h2,_⟩:=h.b.text e2;unfold CD;rw[h1,h2];exact⟨h.joined e e2 e3 h1 h2,i3 h.b e e2 e3 h1 h2⟩
   |cut a p o=>
    have br':Cz "" (Ga (vw n) a p o):=br;show Bd (n.ID (A0 n a) p.toNat o)/\vw (n.ID (A0 n a) p.toNat o)=(Ga (vw n) a p o).next (vw n);unfold Ga at*;rw[hg a,hg o] at br'⊢;unfold A0
    cases e:AG n.names a with
    |none=>rw[e] at br';exact absurd br'.1.symm br'.2
    |some no=>
     rw[e] at br';by_cases e2:isNm o=true
     ·cases e3:AG n.names o with
      |some no2=>rw[e3] at br';have br2:Cz "" (if isNm o=true then .no "taken" else .no "no name"):=br';rw[AH e2] at br2;exact absurd br2.1.symm br2.2
      |none=>
       rw[e3] at br';have br2:Cz "" (if isNm o=true then(if p<0\/((Al n no).length:Int)<p then .no "no place" else .ok (.int (((Al n no).drop p.toNat).length:Nat)) (cutAt (vw n) a o (Al n no) p.toNat)) else .no "no name"):=br';show Bd (n.ID no p.toNat o)/\vw (n.ID no p.toNat o)=Rs.next (vw n) (if isNm o=true then(if p<0\/((Al n no).length:Int)<p then .no "no place" else .ok (.int (((Al n no).drop p.toNat).length:Nat)) (cutAt (vw n) a o (Al n no) p.toNat)) else .no "no name");rw[AH e2] at br2⊢;by_cases c:p<0\/((Al n no).length:Int)<p
       ·rw[AH c] at br2;exact absurd br2.1.symm br2.2
       ·rw[AF c];exact kb h e e3 g.2
     ·cases e3:AG n.names o with
      |some no2=>rw[e3] at br';have br2:Cz "" (if isNm o=true then .no "taken" else .no "no name"):=br';rw[AF e2] at br2;exact absurd br2.1.symm br2.2
      |none=>rw[e3] at br';have br2:Cz "" (if isNm o=true then(if p<0\/((Al n no).length:Int)<p then .no "no place" else .ok (.int (((Al n no).drop p.toNat).length:Nat)) (cutAt (vw n) a o (Al n no) p.toNat)) else .no "no name"):=br';rw[AF e2] at br2;exact absurd br2.1.symm br2.2
   |drop a=>
    have br':Cz "" (GY (vw n) a):=br;show Bd (n.dropped a (A0 n a))/\vw (n.dropped a (A0 n a))=(GY (vw n) a).next (vw n);unfold GY at*;rw[hg a] at br'⊢;unfold A0
    cases e:AG n.names a with
    |none=>rw[e] at br';exact absurd br'.1.symm br'.2
    |some no=>exact⟨h.dropped e,j6 h.b e⟩
   |text a=>exact absurd rfl ha
   |back a=>exact absurd rfl ha
   |find ws far=>exact absurd rfl ha
  ·rw[AF hb];refine⟨h,?_⟩;generalize Dx (vw n) x=r at br
   cases r with
   |no m=>rfl
   |ok a b=>exact absurd br hb
   |un a=>exact absurd br hb
def chg(n:Nk):Am->Int
 |.write a t=>(GX (n.wrote a t).names t).length
 |.rename a o=>(n.renamed a o (A0 n a)).led (A0 n a)
 |.join a o=>(n.joined (A0 n a) o (A0 n o) (CD n (A0 n a)) (CD n (A0 n o))).led (A0 n a)
 |.cut a p o=>((CD (n.added o) (A0 n a)).length:Int)-p
 |.drop a=>n.led (A0 n a)
 |_=>0
def WG:Sp:=fun vs H Q _=>∃(a:Ya)(d:V)(x:Am)(H0:Hp)(n:Nk),vs=[.ref a,d]/\Ce H0 H a n/\Fits n/\Bd n/\n.texts.length<1000/\n.names.length<1000/\Rep H0 x.dt d/\x.Good/\x.asks=false/\BU n x="" /\
 (∀a' o',x=.join a' o'->(CD n (A0 n a')++CD n (A0 n o')).length<=100000)/\∀H',Ce H0 H' a (Pp n x)->Q (.int (chg n x)) H'
theorem Fits.Tp(h:Fits n)(a:Str):Fits {n with names:=AR n.names a}:=
 ⟨DN h.CV,h.Cf,BF (Gp _ _) h.names,h.texts,h.words⟩
theorem Fits.Pl(h:Fits n)(no:Int):Fits {n with texts:=AR n.texts no}:=
 ⟨h.CV,DN h.Cf,h.names,BF (Gp _ _) h.texts,fun p hp=>h.words p (EV hp).1⟩
theorem Fits.named(h:Fits n)(o:Str)(no:Int)(hl:n.names.length<1000):Fits (n.named o no):=by have h1:Fits {n with names:=AX n.names o no}:=⟨EX h.CV,h.Cf,by show(AX n.names o no).length<=1000;have:=Gz n.names o no;lia,h.texts,h.words⟩;exact h1.map
theorem Ce.ext{H0 H H':Hp}{a:Ya}{n:Nk}(h:Ce H0 H a n)(s:AO H H'):Ce H0 H' a n:=by obtain⟨x,y,z,nk⟩:=h;exact⟨x,y,z,nk.ext s⟩
theorem WB(b:Bq n):AG n.texts n.made=none:=by
 cases e:AG n.texts n.made with
 |none=>rfl
 |some ws=>have:=(b.lt _ (BN e)).2;dsimp only at this;lia
theorem Ou{x:Am}{a:Str}(h:BU n x="")(hx:(∃o,x=.rename a o)\/(∃o,x=.join a o)\/(∃p o,x=.cut a p o)\/x=.drop a):∃no,AG n.names a=some no:=by
 cases e:AG n.names a with
 |some no=>exact⟨no,rfl⟩
 |none=>
  exfalso;rcases hx with⟨o,rfl⟩|⟨o,rfl⟩|⟨p,o,rfl⟩|rfl
  ·have h':(if AG n.names a=none then("no page" :Str) else _)="" :=h;rw[e,AH rfl] at h';exact absurd h' (by ac_rfl)
  ·have h':(if AG n.names a=none then("no page" :Str) else _)="" :=h;rw[e,AH rfl] at h';exact absurd h' (by ac_rfl)
  ·simp only[BU,e] at h;exact absurd h (by ac_rfl)
  ·have h':(if AG n.names a=none then("no page" :Str) else _)="" :=h;rw[e,AH rfl] at h';exact absurd h' (by ac_rfl)
theorem Jz:Az ["_law_nook","_law_deed","_law_name","_law_words","_law_number","_law_fresh","_law_many"] ["_law_nook","_law_deed"] (Ao SK):=by ac_rfl
theorem dF{fNa fLe fTu:Ya}{fdNa fdLe fdTu:qX}(F:Aj K "_law_changed" "_law_changed" SK f fd)(O:Own mg)
 (HAd:Hv P w K mg base "_law_added" 2 ["_law_nook","_law_name"] Xy)
 (HPi:Hv P w K mg base "_law_penned_in" 2 ["_law_nook","_law_text"] Vy)
 (FNa:Aj K "_law_named" "_law_named" NH fNa fdNa)(bNa:Binds K fdNa ["_law_nook","_law_name","_law_number"] [])(mNa:mg "_law_named" =some (.ref fNa))
 (FLe:Aj K "_law_led" "_law_led" NX fLe fdLe)(bLe:Binds K fdLe ["_law_nook","_law_number"] [])(mLe:mg "_law_led" =some (.ref fLe))
 (HJo:Hv P w K mg base "_law_joined" 2 ["_law_nook","_law_number","_law_other"] Xd)
 (FTu:Aj K "_law_turned" "_law_turned" M5 fTu fdTu)(bTu:Binds K fdTu ["_law_nook","_law_number","_law_name","_law_other"] [])(mTu:mg "_law_turned" =some (.ref fTu)):
 AW P w K mg base Ah 3 f fd ["_law_nook","_law_deed"] WG:=by
 have GNa:AW P w K mg base Ah 1 fNa fdNa ["_law_nook","_law_name","_law_number"] So:=W2 FNa O;have GLe:AW P w K mg base Ah 1 fLe fdLe ["_law_nook","_law_number"] Tj:=Yu FLe O;have GTu:AW P w K mg base Ah 1 fTu fdTu ["_law_nook","_law_number","_law_name","_law_other"] Ru:=V1 FTu O;refine F.ok Jz ?_ ?_
 ·rintro _ _ _ _ ⟨_,_,_,_,_,rfl,_⟩;rfl
 ·rintro _ A _ s H _ Q E hr ⟨a,dv,x,H0,n,rfl,nk0,fit,bd,tl,nl,rd,gd,na,br,jl,q⟩;have hu1:=Cm hr;refine⟨_,(AU (Au (i:=2) Jz.nd rfl (AZ rfl) (A9 (pv 1))) (AU (A1 (Aw BW (A9 (pv 1)) AY (Ar _))
   (AU (A1 (JM (Oo hu1 (pv 2) (CN hu1 (pv 0))))
   (AS (Bn (Ca HAd hr rfl A8 (AE (pv 0) (AE (pv 2) AI)))))
   BE) (AU (Au (i:=3) Jz.nd rfl (AZ rfl) (Ca HPi hr rfl A8 (AE (pv 0) (AE (A9 (pv 1)) AI)))) (AU (FE hu1 (CN hu1 (pv 0)) (Dm hu1 (CN hu1 (pv 0)) (pv 2) (fun _ _=>rfl)) (pv 3) rfl) (AS (An (BY HQ rfl O.len Dj (AE (pv 3) AI)))))))
   BE) (AU (Au (i:=4) Jz.nd rfl (AZ rfl) (Dm hu1 (CN hu1 (pv 0)) (pv 2) (fun _ _=>rfl))) (AU (A1 (Aw BW (A9 (pv 1)) AY (Ar _))
   (AU (Bn (JB (CN hu1 (pv 0)) (pv 2) ⟨rfl,rfl,rfl,rfl⟩)) (AU (Bn (Ck GNa hr.mn rfl mNa FNa.kp bNa .nil A8 (AE (pv 0) (AE (A9 (pv 1)) (AE (pv 4) AI))))) (AS (An (Ck GLe hr.mn rfl mLe FLe.kp bLe .nil A8 (AE (pv 0) (AE (pv 4) AI)))))))
   BE) (AU (A1 (Aw BW (A9 (pv 1)) AY (Ar _))
   (AS (An (Ca HJo hr rfl A8 (AE (pv 0) (AE (pv 4) (AE (A9 (pv 1)) AI))))))
   BE) (AU (A1 (Aw BW (A9 (pv 1)) AY (Ar _))
   (AU (Au (i:=5) Jz.nd rfl (AZ rfl) (Ca HAd hr rfl A8 (AE (pv 0) (AE (A9 (pv 1)) AI)))) (AU (Au (i:=3) Jz.nd rfl (AZ rfl) (Dm hu1 (CN hu1 (pv 0)) (pv 4) (fun _ _=>rfl))) (AU (FE hu1 (CN hu1 (pv 0)) (pv 5) (Fo T8 (pv 3) (Dk (A9 (pv 1))) KG) rfl) (AU (FE hu1 (CN hu1 (pv 0)) (pv 4) (Ai JL (Fo T8 (pv 3) KG (Dk (A9 (pv 1)))) (Bx (AE (Bx (AE AY (AE (A9 (pv 1)) (AE (pv 5) AI)))) AI))) rfl) (AS (An (Ai TR (BY HQ rfl O.len Dj (AE (pv 3) AI)) (A9 (pv 1)))))))))
   BE) (AU (Au (i:=6) Jz.nd rfl (AZ rfl) (Ck GLe hr.mn rfl mLe FLe.kp bLe .nil A8 (AE (pv 0) (AE (pv 4) AI)))) (AU (Bn (JB (CN hu1 (pv 0)) (pv 4) ⟨rfl,rfl,rfl,rfl⟩)) (AU (Bn (JB (CN hu1 (pv 0)) (pv 2) ⟨rfl,rfl,rfl,rfl⟩)) (AU (Bn (Ck GTu hr.mn rfl mTu FTu.kp bTu .nil A8 (AE (pv 0) (AE (pv 4) (AE (pv 2) (AE (Eb EY Ac) AI)))))) (AS (An (pv 6))))))))))))),?_⟩;obtain⟨an,at_,tx,nk⟩:=nk0;have sm:=nk.same;have no_eq:∀{p r:Str},p≠r->V.str p≠V.str r:=fun h z=>h (V.str.inj z)
  cases x with
  |write nm t=>
   obtain⟨d,xs,rfl,hd0,rs⟩:=CA rd;obtain⟨u,v,x,rfl,r1,r2,r3⟩:=Ez rs;cases Be r1;cases Be r2;cases Be r3;have hd:=sm _ _ hd0;refine⟨_,rfl,d,_,_,.str nm,rfl,rfl,AV.of hd,rfl,?_⟩;refine QY rfl hd ?_;refine⟨_,rfl,_,rfl,a,_,rfl,ES nk.ha,an,_,rfl,EW nk.hn nm,_,rfl,?_⟩;rcases e:AG n.names nm with _|no;refine Bm ?_;refine⟨_,rfl,_,rfl,a,nm,H0,n,rfl,⟨an,at_,tx,nk⟩,fit,tl,WB bd.b,fun H1 nk1=>?_⟩;have g1:AG (n.added nm).names nm=some n.made:=by show AG (AX n.names nm n.made) nm=_;rw[Cu,AH rfl]
   have e1:n.wrote nm t=(n.added nm).Cn n.made (GX (n.added nm).names t):=by unfold Nk.wrote;rw[e]
   have Kn:(n.added nm).texts.length<=1000:=by
    show((AX n.texts n.made []).map _).length<=1000;rw[AL];have:=Gz n.texts n.made []
    lia
   rotate_left
   refine BK ?_;have g1:=e;have e1:n.wrote nm t=n.Cn no (GX n.names t):=by unfold Nk.wrote;rw[e]
   have nk1:Ce H0 H a n:=⟨an,at_,tx,nk⟩;have Kn:n.texts.length<=1000:=by lia
   all_goals
    obtain⟨an1,at1,tx1,k1⟩:=nk1;have hd1:=k1.same _ _ hd0;refine⟨_,rfl,_,rfl,d,_,_,.str t,rfl,rfl,AV.of hd1,rfl,a,t,H0,_,rfl,⟨an1,at1,tx1,k1⟩,gd.2,fun L ws H2 s2 hL hL2 pw=>?_⟩;have k2:=k1.ext s2;have htl:(CO tx1).length<sizeLine:=by
     show(tx1.map _).length<_;rw[AL,k1.len,A3]
     lia
    have dgn:=EW k2.hn nm;rw[g1] at dgn;have dp:=fun no=>Dc.kq (k:=.inl no) (v:=.ref L) k2.ht htl;have e2:=fun no=>(J0 (g:=fun p:Ya×List Ya=>V.ref p.1) FF no (L,ws) tx1:putK (CO tx1) (.inl no) (.ref L)=CO (AX tx1 no (L,ws)));simp only[e2] at dp;refine⟨_,rfl,_,rfl,a,_,rfl,Gv k2.ha,_,rfl,a,_,rfl,ES k2.ha,_,rfl,an1,_,rfl,dgn,at1,_,rfl,dp _,?_⟩;have k3:=fun no=>k2.Nm no (l:=L) (ws:=ws) (CW:=_) hL2 pw.len pw.at_ (fun w hw=>k1.same.free (pw.new w hw));have hL3:∀no,(upd H2 at1 (.dK (CO (AX tx1 no (L,ws))))) L=some (.lst (ws.map V.ref)):=fun no=>by rw[AQ (CZ hL2 k2.ht (by intro z;cases z))];exact hL2
    refine⟨_,rfl,L,_,rfl,.inl (AJ.of (hL3 _)),?_⟩;have q1:=q _ (by show Ce H0 _ a (n.wrote nm t);rw[e1];exact⟨an1,at1,_,k3 _⟩);have ec:chg n (.write nm t)=((ws.map V.ref).length:Nat):=by show((GX (n.wrote nm t).names t).length:Int)=_;rw[e1,AL,pw.len];rfl
    rw[ec] at q1;exact q1
  |rename nm o=>
   obtain⟨d,xs,rfl,hd0,rs⟩:=CA rd;obtain⟨u,v,x,rfl,r1,r2,r3⟩:=Ez rs;cases Be r1;cases Be r2;cases Be r3;have hd:=sm _ _ hd0;obtain⟨no,e⟩:=Ou br (.inl ⟨o,rfl⟩);have eno:A0 n nm=no:=by unfold A0;rw[e];rfl
   have dgn:=EW nk.hn nm;rw[e] at dgn;refine⟨_,rfl,d,_,_,.str nm,rfl,rfl,AV.of hd,rfl,?_⟩;refine IJ rfl hd (by ac_rfl) ?_;refine⟨_,rfl,a,_,rfl,ES nk.ha,_,rfl,an,_,rfl,dgn,?_⟩;refine QY rfl hd ?_;have v1:Bk (F2 n.names) (.inr nm)=some (.int no):=by rw[Er Fp,e];rfl
   refine⟨_,rfl,a,_,rfl,ES nk.ha,an,rfl,.inl ⟨_,.inl nk.hn⟩,_,rfl,_,.inr nm,_,nk.hn,rfl,v1,?_⟩;rw[LH Fp];have nk1:=nk.putN (AR n.names nm);generalize upd H an (.dK (F2 (AR n.names nm)))=H1 at nk1;have hd1:=nk1.same _ _ hd0;have nl1:(AR n.names nm).length<1000:=Nat.lt_of_le_of_lt (Gp _ _) nl;refine⟨_,rfl,_,rfl,d,_,_,.str o,rfl,rfl,AV.of hd1,rfl,_,rfl,a,o,no,H0,_,rfl,⟨an,at_,tx,nk1⟩,fit.Tp nm,fun H2 nk2=>?_⟩;refine⟨_,rfl,_,rfl,a,no,H0,_,rfl,nk2,(fit.Tp nm).named o no nl1,fun H3 s3=>?_⟩;have q1:=q H3 (by show Ce H0 H3 a (n.renamed nm o (A0 n nm));rw[eno];exact nk2.ext s3);have ec:chg n (.rename nm o)=((n.renamed nm o no).led no:Nat):=by show((n.renamed nm o (A0 n nm)).led (A0 n nm):Int)=_;rw[eno]
   rw[ec] at q1;exact q1
  |join nm o=>
   obtain⟨d,xs,rfl,hd0,rs⟩:=CA rd;obtain⟨u,v,x,rfl,r1,r2,r3⟩:=Ez rs;cases Be r1;cases Be r2;cases Be r3;have hd:=sm _ _ hd0;obtain⟨no,e⟩:=Ou br (.inr (.inl ⟨o,rfl⟩));have br':(if AG n.names nm=none then("no page" :Str) else if AG n.names o=none then "no page" else if nm=o then "same page" else "")="" :=br;rw[e,AF (by simp)] at br'
   cases e2:AG n.names o with
   |none=>rw[e2,AH rfl] at br';exact absurd br' (by ac_rfl)
   |some no2=>
   rw[e2,AF (by simp)] at br';have hne:nm≠o:=fun z=>by rw[AH z] at br';exact absurd br' (by ac_rfl)
   have eno:A0 n nm=no:=by unfold A0;rw[e];rfl
   have eno2:A0 n o=no2:=by unfold A0;rw[e2];rfl
   obtain⟨w1,h1,_⟩:=bd.b.text e;obtain⟨w2,h2,_⟩:=bd.b.text e2;have ew1:CD n no=w1:=by unfold CD;rw[h1];rfl
   have ew2:CD n no2=w2:=by unfold CD;rw[h2];rfl
   have nn:no≠no2:=fun z=>hne ((bd.b.same e2 e).mp z);have jl':=jl nm o rfl;rw[eno,eno2,ew1,ew2] at jl';have dgn:=EW nk.hn nm;rw[e] at dgn;refine⟨_,rfl,d,_,_,.str nm,rfl,rfl,AV.of hd,rfl,?_⟩;refine IJ rfl hd (by ac_rfl) ?_;refine⟨_,rfl,a,_,rfl,ES nk.ha,_,rfl,an,_,rfl,dgn,?_⟩;refine IJ rfl hd (by ac_rfl) ?_;refine QY rfl hd ?_;refine⟨_,rfl,_,rfl,_,rfl,d,_,_,.str o,rfl,rfl,AV.of hd,rfl,a,no,o,H0,n,no2,w1,w2,rfl,⟨an,at_,tx,nk⟩,fit,e2,h1,h2,nn,jl',fun H2 nk2=>?_⟩;have es:Pp n (.join nm o)=n.joined no o no2 w1 w2:=by show n.joined (A0 n nm) o (A0 n o) (CD n (A0 n nm)) (CD n (A0 n o))=_;rw[eno,eno2,ew1,ew2]
   have q1:=q H2 (by rw[es];exact nk2);have ec:chg n (.join nm o)=((n.joined no o no2 w1 w2).led no:Nat):=by show((n.joined (A0 n nm) o (A0 n o) (CD n (A0 n nm)) (CD n (A0 n o))).led (A0 n nm):Int)=_;rw[eno,eno2,ew1,ew2]
   rw[ec] at q1;exact q1
  |cut nm p o=>
   obtain⟨d,xs,rfl,hd0,rs⟩:=CA rd;obtain⟨u,v,x,y,rfl,r1,r2,r3,r4⟩:=Pu rs;cases Be r1;cases Be r2;cases r3;cases Be r4;have hd:=sm _ _ hd0;obtain⟨no,e⟩:=Ou br (.inr (.inr (.inl ⟨p,o,rfl⟩)));have eno:A0 n nm=no:=by unfold A0;rw[e];rfl
   obtain⟨w0,h0,_⟩:=bd.b.text e;have br':(if DI o=false then("no name" :Str) else if AG n.names o=none then(if p<0 then "no place" else if((w0.length:Nat):Int)<p then "no place" else "") else "taken")="" :=by have:=br;simp only[BU,e,h0] at this;exact this
   have hnm:¬DI o=false:=fun z=>by rw[AH z] at br';exact absurd br' (by ac_rfl)
   rw[AF hnm] at br';have ho:AG n.names o=none:=by
    cases eo:AG n.names o with
    |none=>rfl
    |some z=>rw[eo,AF (by simp)] at br';exact absurd br' (by ac_rfl)
   rw[AH ho] at br';have p0:¬p<0:=fun z=>by rw[AH z] at br';exact absurd br' (by ac_rfl)
   rw[AF p0] at br';have p1:¬((w0.length:Nat):Int)<p:=fun z=>by rw[AH z] at br';exact absurd br' (by ac_rfl)
   have dgn:=EW nk.hn nm;rw[e] at dgn;refine⟨_,rfl,d,_,_,.str nm,rfl,rfl,AV.of hd,rfl,?_⟩;refine IJ rfl hd (by ac_rfl) ?_;refine⟨_,rfl,a,_,rfl,ES nk.ha,_,rfl,an,_,rfl,dgn,?_⟩;refine IJ rfl hd (by ac_rfl) ?_;refine IJ rfl hd (by ac_rfl) ?_;refine QY rfl hd ?_;refine⟨_,rfl,_,rfl,d,_,_,.str o,rfl,rfl,AV.of hd,rfl,a,o,H0,n,rfl,⟨an,at_,tx,nk⟩,fit,tl,WB bd.b,fun H1 nk1=>?_⟩;obtain⟨an1,at1,tx1,k1⟩:=nk1;have hd1:=k1.same _ _ hd0;have bd1:=bd.b.added bd.h0 ho;have nno:no≠n.made:=by have:=(bd.b.Fd (BN e)).2;lia
   have hw:AG (n.added o).texts no=some (w0.map (CM o n.made)):=by rw[Ol,AF nno,h0];rfl
   have wlen:(w0.map (CM o n.made)).length=w0.length:=AL .. ;generalize w0.map (CM o n.made)=ws at hw wlen;obtain⟨l1,ws1,g1,hl1,E8,at1',new1⟩:=k1.find bd1.Cf hw;have d1:BP H1 at1 (.int no) (some (.ref l1)):=by have:=BP.kq (k:=.inl no) k1.ht;rw[Er FF,g1] at this;exact this
   have c0:0<=p:=by lia
   have c1:p<=(ws1.map V.ref).length:=by rw[AL];lia
   have zl:ws1.length<=100000:=by
    have:=fit.words _ (BN h0);dsimp only at this
    lia
   have Kn:tx1.length<=1000:=by
    have h1:=k1.len;have h2:(n.added o).texts.length<=n.texts.length+1:=by show((AX n.texts n.made []).map _).length<=_;rw[AL];exact Gz ..
    lia
   refine⟨_,rfl,a,_,rfl,Gv k1.ha,_,rfl,at1,_,rfl,d1,?_⟩;refine⟨_,rfl,_,rfl,d,_,_,.int p,rfl,rfl,AV.of hd1,rfl,_,rfl,l1,_,rfl,AJ.of hl1,fun l3 hl3=>?_⟩;rw[Xe c0 c1,<-OX];have s3:=Aa (o:=.lst ((ws1.drop p.toNat).map V.ref)) hl3;have k2:=k1.ext s3;have hl3':(upd H1 l3 (.lst ((ws1.drop p.toNat).map V.ref))) l3=some (.lst ((ws1.drop p.toNat).map V.ref)):=AN;have hl1':=s3 _ _ hl1;have at2:=fun j w wd (e1:ws1[j]? =some w)(e2:ws[j]? =some wd)=>s3 _ _ (at1' j w wd e1 e2);generalize upd H1 l3 (.lst ((ws1.drop p.toNat).map V.ref))=H2 at k2 hl3' hl1' at2;have dp:=Dc.kq (k:=.inl n.made) (v:=.ref l3) k2.ht (by show(tx1.map _).length<_;rw[AL,A3];lia);have e3:putK (CO tx1) (.inl n.made) (.ref l3)=CO (AX tx1 n.made (l3,ws1.drop p.toNat)):=J0 (g:=fun p:Ya×List Ya=>V.ref p.1) FF n.made (l3,ws1.drop p.toNat) tx1;rw[e3] at dp;refine⟨_,rfl,a,_,rfl,Gv k2.ha,_,rfl,at1,_,rfl,dp,?_⟩;have k3:=k2.Nm n.made (l:=l3) (ws:=ws1.drop p.toNat) (CW:=ws.drop p.toNat) hl3' (by rw[EC,EC,E8]) (fun j w wd f1 f2=>by
    rw[Kx] at f1 f2;exact at2 _ w wd f1 f2) (fun w hw'=>new1 w (Jm hw'));have keep:∀b xs,H2 b=some (.lst xs)->(upd H2 at1 (.dK (CO (AX tx1 n.made (l3,ws1.drop p.toNat))))) b=some (.lst xs):=fun b xs f=>by
    rw[AQ (CZ f k2.ht (by intro z;cases z))];exact f
   have hl3a:=keep _ _ hl1';have at3:=fun j w wd (e1:ws1[j]? =some w)(e2:ws[j]? =some wd)=>keep _ _ (at2 j w wd e1 e2);generalize upd H2 at1 (.dK (CO (AX tx1 n.made (l3,ws1.drop p.toNat))))=H3 at k3 hl3a at3;have hd3:=k3.same _ _ hd0;refine⟨_,rfl,_,rfl,d,_,_,.int p,rfl,rfl,AV.of hd3,rfl,_,rfl,l1,_,rfl,AJ.of hl3a,fun l5 hl5=>?_⟩;rw[ZF c0 c1,<-OW];have s5:=Aa (o:=.lst ((ws1.take p.toNat).map V.ref)) hl5;have h5:(upd H3 l5 (.lst ((ws1.take p.toNat).map V.ref))) l5=some (.lst ((ws1.take p.toNat).map V.ref)):=AN;generalize upd H3 l5 (.lst ((ws1.take p.toNat).map V.ref))=H5 at s5 h5;refine⟨_,rfl,d,_,_,.str o,rfl,rfl,AV.of (s5 _ _ hd3),rfl,_,rfl,by show 3<=sizeLine;decide,fun wq hwq=>⟨by show 1<=sizeLine;decide,fun l6 hl6=>?_⟩⟩;have s6:=Aa (o:=.lst (⟨true,o,n.made⟩:Wd).vq) hwq;have h6:(upd H5 wq (.lst (⟨true,o,n.made⟩:Wd).vq)) wq=some (.lst (⟨true,o,n.made⟩:Wd).vq):=AN;have hq0:H0 wq=none:=k3.same.free (s5.free hwq);have hl6':(upd H5 wq (.lst (⟨true,o,n.made⟩:Wd).vq)) l6=none:=hl6;show∃_,_;have s7:=Aa (o:=.lst [V.ref wq]) hl6';have h7:(upd (upd H5 wq (.lst (⟨true,o,n.made⟩:Wd).vq)) l6 (.lst [V.ref wq])) l6=some (.lst [V.ref wq]):=AN;refine⟨l5,l6,(ws1.take p.toNat).map V.ref,[V.ref wq],rfl,rfl,(s6.trans s7) _ _ h5,h7,by rw[AL,Bl,A3,DD];lia,fun l8 hl8=>?_⟩;have s8:=Aa (o:=.lst ((ws1.take p.toNat).map V.ref++[V.ref wq])) hl8;have s38:=s5.trans (s6.trans (s7.trans s8));have k8:=k3.ext s38;have h8:(upd (upd (upd H5 wq (.lst (⟨true,o,n.made⟩:Wd).vq)) l6 (.lst [V.ref wq])) l8 (.lst ((ws1.take p.toNat).map V.ref++[V.ref wq]))) l8=some (.lst ((ws1.take p.toNat).map V.ref++[V.ref wq])):=AN;have hq8:=(s7.trans s8) _ _ h6;have at8:=fun j w wd (e1:ws1[j]? =some w)(e2:ws[j]? =some wd)=>s38 _ _ (at3 j w wd e1 e2);have hl8a:=s38 _ _ hl3a;have dp8:=Dc.kq (k:=.inl no) (v:=.ref l8) k8.ht (by
    show((AX tx1 n.made (l3,ws1.drop p.toNat)).map _).length<_;rw[AL,A3];have:=Gz tx1 n.made (l3,ws1.drop p.toNat)
    lia);have e8:putK (CO (AX tx1 n.made (l3,ws1.drop p.toNat))) (.inl no) (.ref l8)=CO (AX (AX tx1 n.made (l3,ws1.drop p.toNat)) no (l8,ws1.take p.toNat++[wq])):=J0 (g:=fun p:Ya×List Ya=>V.ref p.1) FF no (l8,ws1.take p.toNat++[wq]) _;rw[e8] at dp8;refine⟨_,rfl,a,_,rfl,Gv k8.ha,_,rfl,at1,_,rfl,dp8,?_⟩;have k9:=k8.Nm no (l:=l8) (ws:=ws1.take p.toNat++[wq]) (CW:=ws.take p.toNat++[⟨true,o,n.made⟩]) (by rw[BS];exact h8) (by rw[A7,A7,Bl,Bl,E8];rfl) (fun j w wd f1 f2=>by
    by_cases hj:j<(ws1.take p.toNat).length
    ·rw[DC hj] at f1;rw[DC (by rw[Bl] at hj⊢;lia)] at f2;rw[Qo] at f1 f2;split at f1
     ·rename_i hjp;rw[AH hjp] at f2;exact at8 j w wd f1 f2
     ·cases f1
    ·have hj1:j<(ws1.take p.toNat++[wq]).length:=(BX.mp f1).1;rw[A7,DD] at hj1;obtain rfl:j=(ws1.take p.toNat).length:=by lia
     have el:(ws1.take p.toNat).length=(ws.take p.toNat).length:=by rw[Bl,Bl,E8]
     rw[Cv (Ab _),ER] at f1;rw[Cv (by lia),el,ER] at f2;cases Ag f1;cases Ag f2;exact hq8) (fun w hw'=>(Bh.mp hw').elim (fun z=>new1 w (Hh z)) fun z=>by rw[Bg.mp z];exact hq0);have hd9:=k9.same _ _ hd0;have hl9:(upd (upd (upd (upd H5 wq (.lst (⟨true,o,n.made⟩:Wd).vq)) l6 (.lst [V.ref wq])) l8 (.lst ((ws1.take p.toNat).map V.ref++[V.ref wq]))) at1 (.dK (CO (AX (AX tx1 n.made (l3,ws1.drop p.toNat)) no (l8,ws1.take p.toNat++[wq]))))) l1=some (.lst (ws1.map V.ref)):=by
    rw[AQ (CZ hl8a k8.ht (by intro z;cases z))];exact hl8a
   refine⟨_,rfl,l1,_,rfl,.inl (AJ.of hl9),_,rfl,d,_,_,.int p,rfl,rfl,AV.of hd9,rfl,_,_,rfl,rfl,?_⟩;have ew:CD (n.added o) no=ws:=by unfold CD;rw[hw];rfl
   have es:Pp n (.cut nm p o)=((n.added o).Cn n.made (ws.drop p.toNat)).Cn no (ws.take p.toNat++[⟨true,o,n.made⟩]):=by show n.ID (A0 n nm) p.toNat o=_;rw[eno];unfold Nk.ID;rw[hw];rfl
   have q1:=q _ (by rw[es];exact⟨an1,at1,_,k9⟩);have ec:chg n (.cut nm p o)=(((ws1.map V.ref).length:Nat):Int)-p:=by show((CD (n.added o) (A0 n nm)).length:Int)-p=_;rw[eno,ew,AL,E8]
   rw[ec] at q1;exact q1
  |drop nm=>
   obtain⟨d,xs,rfl,hd0,rs⟩:=CA rd;obtain⟨u,v,rfl,r1,r2⟩:=HN rs;cases Be r1;cases Be r2;have hd:=sm _ _ hd0;obtain⟨no,e⟩:=Ou br (.inr (.inr (.inr rfl)));have eno:A0 n nm=no:=by unfold A0;rw[e];rfl
   have dgn:=EW nk.hn nm;rw[e] at dgn;obtain⟨w1,h1,_⟩:=bd.b.text e;refine⟨_,rfl,d,_,_,.str nm,rfl,rfl,AV.of hd,rfl,?_⟩;refine IJ rfl hd (by ac_rfl) ?_;refine⟨_,rfl,a,_,rfl,ES nk.ha,_,rfl,an,_,rfl,dgn,?_⟩;refine IJ rfl hd (by ac_rfl) ?_;refine IJ rfl hd (by ac_rfl) ?_;refine IJ rfl hd (by ac_rfl) ?_;refine⟨_,rfl,_,rfl,a,no,H0,n,rfl,⟨an,at_,tx,nk⟩,fit,fun H1 s1=>?_⟩;have nk1:=nk.ext s1;obtain⟨l1,ws1,g1,hl1,_⟩:=nk1.find fit.Cf h1;have v2:Bk (CO tx) (.inl no)=some (.ref l1):=by rw[Er FF,g1];rfl
   refine⟨_,rfl,a,_,rfl,Gv nk1.ha,at_,rfl,.inl ⟨_,.inl nk1.ht⟩,_,rfl,_,.inl no,_,nk1.ht,rfl,v2,?_⟩;rw[LH FF];have nk2:=nk1.Pl no;generalize upd H1 at_ (.dK (CO (AR tx no)))=H2 at nk2;have v1:Bk (F2 n.names) (.inr nm)=some (.int no):=by rw[Er Fp,e];rfl
   refine⟨_,rfl,a,_,rfl,ES nk2.ha,an,rfl,.inl ⟨_,.inl nk2.hn⟩,_,rfl,_,.inr nm,_,nk2.hn,rfl,v1,?_⟩;rw[LH Fp];have nk3:=nk2.putN (AR n.names nm);generalize upd H2 an (.dK (F2 (AR n.names nm)))=H3 at nk3;refine⟨_,rfl,_,rfl,_,rfl,_,rfl,a,no,nm,-1,H0,_,rfl,⟨an,at_,_,nk3⟩,(fit.Pl no).Tp nm,fun H4 nk4=>⟨_,rfl,?_⟩⟩;have q1:=q H4 (by show Ce H0 H4 a (n.dropped nm (A0 n nm));rw[eno];exact nk4);have ec:chg n (.drop nm)=(n.led no:Nat):=by show(n.led (A0 n nm):Int)=_;rw[eno]
   rw[ec] at q1;exact q1
  |text nm=>cases na
  |back nm=>cases na
  |find ws far=>cases na
theorem YU{out:List Dt}{d:Dt}(c:CI H1 D out H)(r:Rep (Ex H D) d y)(hl:out.length<10000000):∃ys,H D=some (.lst ys)/\ys.length<sizeLine/\CI H1 D (out++[d]) (upd H D (.lst (ys++[y]))):=by
 obtain⟨ys,h,rr⟩:=c.lst;refine⟨ys,h,?_,c.same.upd c.fr,c.fr,ys++[y],AN,?_⟩
 ·have:=rr.1;rw[A3]
  lia
 ·rw[Ex.upd];exact rr.snoc r
theorem dW(h:Bd n){ws:List Wd}(hws:AG n.texts no=some ws):ws.map (shown n.names)=(Al n no).map Bo:=by
 have e:Al n no=ws.map (sh n.names):=by unfold Al;rw[hws];rfl
 rw[e,BV];refine DF fun w hw=>?_;obtain⟨nm,hn⟩:=h.b.own (no,ws) (BN hws);obtain⟨ws',hws',ok⟩:=h.b.text (GJ h.b.CV hn);rw[show AG n.texts (no,ws).1=some ws from hws] at hws';cases Ag hws';show shown n.names w=Bo (sh n.names w)
 cases ht:w.to with
 |false=>rw[Hs ht];unfold shown Bo;rw[ht,AF CY,AF (show¬("word" :Str)="to" by ac_rfl)]
 |true=>
  rcases ok w hw ht with⟨hl,_⟩|⟨x,hx⟩
  ·rw[GK ht hl];unfold shown Bo;rw[AH ht,AH hl,AH rfl]
  ·have hn:w.no≠-1:=by have:=h.b.Fd hx;lia
   rw[E1 h.b.inj ht hn hx];unfold shown Bo;rw[AH ht,AF hn,Wi h.b.inj hx,AH rfl]
def Zg:Sp:=fun vs H Q _=>∃(a:Ya)(nm:Str)(no:Int)(H0:Hp)(n:Nk),vs=[.ref a,.str nm]/\Ce H0 H a n/\Fits n/\Bd n/\AG n.names nm=some no/\wsum (Al n no)<=4000000/\∀H',AO H H'->Q (.str (By (Al n no))) H'
def Wu:Sp:=fun vs H Q _=>∃(a:Ya)(H0:Hp)(n:Nk),vs=[.ref a]/\Ce H0 H a n/\Fits n/\Bd n/\n.names.length<64/\BH (vw n)<=4000000/\∀u H',AO H H'->Rep H' (.lst ((CF (vw n)).map DT)) u->Q u H'
theorem ZZ:Az ["_law_nook","_law_name","_law_words"] ["_law_nook","_law_name"] (Ao SW):=by ac_rfl
theorem lN(F:Aj K "_law_text_of" "_law_text_of" SW f fd)
 (HSh:Hv P w K mg base "_law_shown" 2 ["_law_nook","_law_word"] X1):AW P w K mg base Ah 3 f fd ["_law_nook","_law_name"] Zg:=by
 refine F.ok ZZ ?_ ?_
 ·rintro _ _ _ _ ⟨_,_,_,_,_,rfl,_⟩;rfl
 ·rintro _ A _ s H _ Q E hr ⟨a,nm,no,H0,n,rfl,⟨an,at_,tx,nk⟩,fit,bd,hno,hw,q⟩;have hu1:=Cm hr;refine⟨_,AU (Au (i:=2) ZZ.nd rfl (AZ rfl) (Dm hu1 (CN hu1 (pv 0)) (Dm hu1 (CN hu1 (pv 0)) (pv 1) (fun _ _=>rfl)) (fun _ _=>rfl)))
   (AS (An (D7 Jl VD VC SU AY (AE (Es (ts:=["_law_word"]) (cap:=["_law_nook"]) (ix:=[0]) (Hq rfl rfl (by ac_rfl) (by ac_rfl) rfl rfl rfl rfl rfl) (FQ (pv 2))
    (fun _ _ _ _ _=>Bc (i:=0) (Gi (by ac_rfl)) rfl (AZ rfl) (Cd rfl)) (fun _ _ _ _ _=>FG) (fun _ _ _ _ _=>Ca HSh hr rfl A8 (AE (pv 1) (AE (pv 0) AI)))) AI)))),?_⟩;obtain⟨ws,hws,_⟩:=bd.b.text hno;obtain⟨l1,ws1,g1,hl1,E8,at1,new1⟩:=nk.find fit.Cf hws;have dgn:=EW nk.hn nm;rw[hno] at dgn;have d1:BP H at_ (.int no) (some (.ref l1)):=by
   have:=BP.kq (k:=.inl no) nk.ht;rw[Er FF,g1] at this;exact this
  refine⟨_,rfl,a,_,rfl,Gv nk.ha,_,rfl,a,_,rfl,ES nk.ha,_,rfl,an,_,rfl,dgn,at_,_,rfl,d1,?_⟩;have est:=dW bd hws;have el:(Al n no).length=ws.length:=by have:=BD List.length est;rw[AL,AL] at this;lia
  have hwl:=LP (Al n no);refine⟨rfl,_,rfl,l1,rfl,⟨_,AJ.of hl1⟩,fun D hD=>Fm (xs:=ws1.map V.ref) (fun i H'=>CI H D (((ws.take i).map (shown n.names)).map Dt.str) H') (CI.start hD) (fun i H' _ c=>AJ.of (c.same _ _ hl1)) (fun i x H' ex c=>?_) fun H' c=>?_⟩
  ·rw[Ax] at ex
   cases ea:ws1[i]?with
   |none=>rw[ea] at ex;cases ex
   |some aw=>
   rw[ea] at ex;obtain rfl:V.ref aw=x:=Ag ex;have hj:i<ws.length:=by rw[<-E8];exact(BX.mp ea).1
   have ewj:ws[i]? =some ws[i]:=Aq hj;generalize ws[i]=wd at ewj;have nk4:=nk.ext c.same;have haw:H' aw=some (.lst wd.vq):=c.same _ _ (at1 i aw wd ea ewj);have nml:wd.nm.length<=2000:=by
    have h1:=bd.wl _ (BN hws) wd (CK ewj)
    lia
   have nl2:∀p∈n.names,p.1.length<=2000:=fun p hp'=>by have:=bd.nm p hp';lia
   refine⟨E3,_,rfl,_,rfl,a,aw,wd,H0,n,rfl,⟨an,at_,tx,nk4⟩,fit,haw,nml,nl2,fun H5 s5=>?_⟩;rw[Gs (f:=shown n.names) ewj,BS];refine(c.ext s5).push (.str _) ?_;have h2:=F8 i ws;rw[AL,AL]
   lia
  ·rw[AL,E8,Cj,est] at c;obtain⟨ys,hy,ry⟩:=c.lst;have lb:(" " :Str).length=1:=by ac_rfl
   refine⟨" ",D,(Al n no).map Bo,rfl,rfl,AJ.of (by rw[hy,Jx ry]),?_,?_,q _ c.same⟩
   ·have:=Ov (" " :Str).length (by lia) (Al n no) 0;rw[A3]
    lia
   ·have:=O3 (g:=" ") (by lia) (Al n no);rw[A3]
    lia
theorem gZ:Az ["_law_nook"] ["_law_nook"] (Ao TY):=by ac_rfl
theorem dr(F:Aj K "_law_texts" "_law_texts" TY f fd)(O:Own mg)(hso:mg "sorted" =none)
 (HT:Hv P w K mg base "_law_text_of" 3 ["_law_nook","_law_name"] Zg):AW P w K mg base Ah 4 f fd ["_law_nook"] Wu:=by
 refine F.ok gZ ?_ ?_
 ·rintro _ _ _ _ ⟨_,_,_,rfl,_⟩;rfl
 ·rintro _ A _ s H _ Q E hr ⟨a,H0,n,rfl,⟨an,at_,tx,nk⟩,fit,bd,h64,ht,q⟩;have hu1:=Cm hr;refine⟨_,AS (An (Es (ts:=["_law_name"]) (cap:=["_law_nook"]) (ix:=[0]) (Hq rfl rfl (by ac_rfl) (by ac_rfl) rfl rfl rfl rfl rfl) (FQ (BY Vn rfl hso LC (AE (EE (LF rfl) rfl O.lst Fs (AE (CN hu1 (pv 0)) AI)) AI)))
   (fun _ _ _ _ _=>Bc (i:=0) (Gi (by ac_rfl)) rfl (AZ rfl) (Cd rfl)) (fun _ _ _ _ _=>FG) (fun _ _ _ _ _=>CQ (AE (pv 0) (AE (Ca HT hr rfl A8 (AE (pv 1) (AE (pv 0) AI))) AI))))),?_⟩;refine⟨_,rfl,a,_,rfl,ES nk.ha,an,_,rfl,nk.hn,fun ld hld=>?_⟩;have ek:((F2 n.names).map fun kv=>kV kv.1)=(n.names.map (·.1)).map V.str:=by
   show(n.names.map _).map _=_;rw[BV,BV];rfl
  rw[ek];have s2:=Aa (o:=.lst ((n.names.map (·.1)).map V.str)) hld;have h2:(upd H ld (.lst ((n.names.map (·.1)).map V.str))) ld=some (.lst ((n.names.map (·.1)).map V.str)):=AN;generalize upd H ld (.lst ((n.names.map (·.1)).map V.str))=H2 at s2 h2;refine⟨ld,n.names.map (·.1),rfl,AJ.of h2,by rw[AL];exact h64,fun Ds ys hDs hp hs=>?_⟩;have ey:ys=Ih (n.names.map (·.1)):=Ph Ew hp hs;have s3:=Aa (o:=.lst (ys.map V.str)) hDs;have h3:(upd H2 Ds (.lst (ys.map V.str))) Ds=some (.lst (ys.map V.str)):=AN;generalize upd H2 Ds (.lst (ys.map V.str))=H3 at s3 h3;have s13:=s2.trans s3;refine⟨Ds,rfl,⟨_,AJ.of h3⟩,fun D hD=>Fm (xs:=ys.map V.str) (fun i H'=>CI H3 D (((ys.take i).map (GZ (vw n))).map DT) H') (CI.start hD) (fun i H' _ c=>AJ.of (c.same _ _ h3)) (fun i y H' ey' c=>?_) fun H' c=>?_⟩
  ·rw[Ax] at ey'
   cases ez:ys[i]?with
   |none=>rw[ez] at ey';cases ey'
   |some z=>
   rw[ez] at ey';obtain rfl:V.str z=y:=Ag ey';have zk:z∈n.names.map (·.1):=hp.mem_iff.mp (CK ez);obtain⟨no,hno⟩:=Mr zk;have hv:AG (vw n) z=some (Al n no):=by rw[FH,hno];rfl
   have hwt:wsum (Al n no)<=4000000:=by
    have:=J9 (BN hv);have h1:wsum (Al n no)<=BH (vw n):=this
    lia
   refine⟨E3,_,rfl,_,rfl,_,rfl,a,z,no,H0,n,rfl,⟨an,at_,tx,nk.ext (s13.trans c.same)⟩,fit,bd,hno,hwt,fun H4 s4=>?_⟩;refine⟨by show 2<=sizeLine;decide,fun tp htp=>?_⟩;have st:=Aa (o:=.tup [.str z,.str (By (Al n no))]) htp;have c5:=(c.ext s4).ext st;have nt:tp≠D:=by obtain⟨z5,hz5,_⟩:=(c.ext s4).lst;exact(A2 hz5 htp).symm
   have et:GZ (vw n) z=(z,By (Al n no)):=by unfold GZ;rw[hv];rfl
   rw[Gs (f:=GZ (vw n)) ez,BS];refine c5.push (d:=DT (GZ (vw n) z)) (by rw[et];exact Pb (Ex.at AN nt)) ?_;rw[AL,AL];have f1:=F8 i ys;have f3:=hp.length_eq;rw[AL] at f3
   lia
  ·rw[AL,Cj,ey] at c;have ek2:keys (vw n)=n.names.map (·.1):=Dv n;refine q _ _ (s13.trans c.same) ?_;unfold CF;rw[ek2];exact c.done
theorem HV:DH X (.builtin "isinstance") (fun xs H Q=>∃x c t b,xs=[x,.ty c]/\(∀K:tN,Bj K H x t)/\(∀K:tN,rV K t (.type c)=some b)/\Q (.bl b) H):=
 fun _ _ _ _ _ _ _ I r ⟨x,c,t,b,e,y,k,z⟩=>fz _ _ _ _ _ _ _ I r ⟨x,c,t,b,e,y _,k _,z⟩
theorem m9:DH X (.builtin "isinstance") (fun xs H Q=>∃(x:V)(p:Ya)(cs:List String)(t:AB)(b:Bool),xs=[x,.ref p]/\H p=some (.tup (cs.map V.ty))/\(∀K:tN,Bj K H x t)/\(∀K:tN,kitAny K t (cs.map Value.type)=some b)/\Q (.bl b) H):=
 fun _ _ _ _ _ _ _ I r ⟨x,p,cs,t,b,e,h,y,k,z⟩=>fk _ _ _ _ _ _ _ I r ⟨x,p,cs,t,b,e,h,y _,k _,z⟩
theorem aL:He X (qO []):=Co.or (Py.or PZ)
section
variable{o:hY}{to:TE}{id:String}
theorem pT(pa:rj T)(slot:Slot T name id)(hty:typeOf (.builtin id)=pure (.type "method_descriptor"))(hm:Np X id r)(ho:PE X o to)
 (hbase:qd o name X.env (qZ o X.env)=qZ o X.env:=by rfl)(hline:(apos.endLine==cpos.line)=true:=by rfl):PE X (.Call (.Attribute o name apos) [] [] cpos) (af [] T r to):=
 fun pins s σ H Q I h=>NF pa slot hty hm ho.mc hbase hline pins s σ H Q I ⟨_,h,fun _ _ ⟨y,z⟩=>⟨Z7 y,z⟩⟩
theorem o6(hu:X.A.units<qh):Bv X (qW .NotEq) (fun x y H Q=>∃a b xs,x=.ref a/\y=.ref b/\AJ [] H a xs/\AJ [] H b []/\Q (.bl (!xs.isEmpty)) H):=
 fun _ _ _ _ _ _ _ _ _ I r r' ⟨p,b,xs,e,e',q,q',z⟩=>d7 hu _ _ _ _ _ _ _ _ _ I r r' ⟨p,b,xs,e,e',Fz q,Fz q',z⟩
end
abbrev Uc:hX:=ZK
abbrev aY:hX:=az
def aX:Sp:=fun vs H Q _=>∃(x y:V)(d:Dt),vs=[x,y]/\Rep H d x/\Rep H d y/\d.sz<=1000000/\∀H',AO H H'->Q (.bl true) H'
def ag:Sp:=fun vs H Q _=>∃i:Int,vs=[.int i]/\Q (.bl true) H
theorem om:Az ["_law_found"] ["_law_found"] (Ao Uc):=by ac_rfl
theorem md(F:Aj K "_law_whole" "_law_whole" Uc f fd)(O:Own mg):AW P w K mg base Ah 1 f fd ["_law_found"] ag:=by
 refine F.ok om ?_ ?_
 ·rintro _ _ _ _ ⟨_,rfl,_⟩;rfl
 ·rintro _ A _ s H _ Q E hr ⟨i,rfl,k⟩;refine⟨_,AS (An (PV (BY HV rfl O.Gh GV (AE (pv 0) (AE (Ft (v:=.ty "int") rfl O.int JJ rfl) AI)))
   (Pc (kH (BY HV rfl O.Gh GV (AE (pv 0) (AE (Ft (v:=.ty "bool") rfl O.bl Sx rfl) AI))))))),?_⟩;exact⟨_,rfl,_,_,_,_,rfl,(fun _=>Bj.int i),(fun _=>Ht _),_,rfl,Bm ⟨_,rfl,_,_,_,_,rfl,(fun _=>Bj.int i),(fun _=>ZX),_,rfl,k⟩⟩
theorem Px:Az ["_law_found","_law_due","_law_todo","_law_pair","_law_k"] ["_law_found","_law_due"] (Ao aY):=by ac_rfl
theorem mY{fW:Ya}{fdW:qX}(F:Aj K "_law_alike" "_law_alike" aY f fd)(O:Own mg)(FW:Aj K "_law_whole" "_law_whole" Uc fW fdW)(bW:Binds K fdW ["_law_found"] [])(mW:mg "_law_whole" =some (.ref fW)):
 AW P w K mg base Ah 2 f fd ["_law_found","_law_due"] aX:=by
 have GW:AW P w K mg base Ah 1 fW fdW ["_law_found"] ag:=md FW O;refine F.ok Px ?_ ?_
 ·rintro _ _ _ _ ⟨_,_,_,rfl,_⟩;rfl
 ·rintro _ A _ s H _ Q E hr ⟨x0,y0,d0,rfl,rx0,ry0,hd0,k⟩;have hu:=hr.TJ;refine⟨_,AU (Au (i:=2) Px.nd rfl (AZ rfl) (Bx (AE (CQ (AE (pv 0) (AE (pv 1) AI))) AI)))
   (AU (gr ED (Aw (o6 hu) (pv 2) (Bx AI) (Ar _))
    (AU (Au (i:=3) Px.nd rfl (AZ rfl) (pT D9 PySem.F.slot_list_pop PySem.F.type_list_pop lD (pv 2)))
    (AS (A1 (EG (BY m9 rfl O.Gh GV (AE (A9 (pv 3)) (AE (CQ (AE (Ft (v:=.ty "list") rfl O.lst Fs rfl) (AE (Ft (v:=.ty "tuple") rfl O.tup Rx rfl) AI))) AI))))
     (AU (A1 (Aw Fy (BY HV rfl O.Gh GV (AE (A9 (pv 3)) (AE (Ft (v:=.ty "list") rfl O.lst Fs rfl) AI))) (BY HV rfl O.Gh GV (AE (A9 (pv 3)) (AE (Ft (v:=.ty "list") rfl O.lst Fs rfl) AI))) (Ar _)) (AS (An Ia)) BE)
     (AU (A1 (Aw Fy (BY HV rfl O.Gh GV (AE (A9 (pv 3)) (AE (Ft (v:=.ty "tuple") rfl O.tup Rx rfl) AI))) (BY HV rfl O.Gh GV (AE (A9 (pv 3)) (AE (Ft (v:=.ty "tuple") rfl O.tup Rx rfl) AI))) (Ar _)) (AS (An Ia)) BE)
     (AU (A1 (Aw Fy (BY HQ rfl O.len Dj (AE (A9 (pv 3)) AI)) (BY HQ rfl O.len Dj (AE (A9 (pv 3)) AI)) (Ar _)) (AS (An Ia)) BE)
     (AS (EI ED rfl (Rp rfl O.Ks (AE (BY HQ rfl O.len Dj (AE (A9 (pv 3)) AI)) AI)) (Bc (i:=4) Px.nd rfl (AZ rfl))
      (AS (Bn (D7 D9 Fh Fg Ep (pv 2) (AE (CQ (AE (Bt aL (A9 (pv 3)) (pv 4) (fun _ _=>rfl)) (AE (Bt aL (A9 (pv 3)) (pv 4) (fun _ _=>rfl)) AI))) AI)))))))))
     (AS (A1 (EG (BY HV rfl O.Gh GV (AE (A9 (pv 3)) (AE (Ft (v:=.ty "str") rfl O.str Ys rfl) AI))))
      (AS (A1 (PW.pt (JT (Hx (EG (BY HV rfl O.Gh GV (AE (A9 (pv 3)) (AE (Ft (v:=.ty "str") rfl O.str Ys rfl) AI))))) (JG (Aw Fy (A9 (pv 3)) (A9 (pv 3)) (Ar _))))) (AS (An Ia)) BE))
      (AS (A1 (EG (BY HV rfl O.Gh GV (AE (A9 (pv 3)) (AE (Ft (v:=.ty "bool") rfl O.bl Sx rfl) AI))))
       (AS (A1 (PW.pt (JT (Hx (EG (BY HV rfl O.Gh GV (AE (A9 (pv 3)) (AE (Ft (v:=.ty "bool") rfl O.bl Sx rfl) AI))))) (JG (Aw Fy (A9 (pv 3)) (A9 (pv 3)) (Ar _))))) (AS (An Ia)) BE))
       (AS (A1 (PW.pt (JT (Hx (EG (Ck GW hr rfl mW FW.kp bW .nil A8 (AE (A9 (pv 3)) AI)))) (JG (Aw Fy (A9 (pv 3)) (A9 (pv 3)) (Ar _))))) (AS (An Ia)) BE))))))))))
   (AS (An Ia))),?_⟩;refine⟨_,rfl,_,rfl,by show 2<=sizeLine;decide,fun p0 hp0=>⟨by show 1<=sizeLine;decide,fun t ht=>?_⟩⟩;have hp0t:p0≠t:=A2 AN ht;have htn:H t=none:=(Aa hp0).free ht;refine⟨fun m σ H'=>∃(ps:List Ya)(ds:List Dt)(v3 v4:Option V),σ=[some x0,some y0,some (.ref t),v3,v4]/\H' t=some (.lst (ps.map V.ref))/\AO H H'/\m=Dt.Cs ds/\m<=1000000/\EN H H' ds ps,
   ⟨Dt.Cs [d0],[p0],[d0],none,none,rfl,AN,((AO.refl H).upd hp0).upd htn,rfl,by simp only[Dt.Cs];lia,?_⟩,?_⟩
  ·refine EN.snoc (ds:=[]) (ps:=[]) (x:=x0) (y:=y0) ⟨rfl,fun i d p e=>by simp at e⟩ ?_ rx0 ry0;rw[AQ hp0t,AN]
  rintro m σ H' ⟨ps,ds,v3,v4,rfl,hT,sm,rfl,hm,st⟩;refine⟨_,rfl,by show 0<=sizeLine;decide,fun q hq=>⟨t,q,_,rfl,rfl,AJ.of (by rw[AQ (A2 hT hq)];exact hT),AJ.of AN,_,rfl,?_⟩⟩;have s1:AO H' (upd H' q (.lst [])):=Aa hq;rcases List.eq_nil_or_concat ps with e|⟨ps',p,e⟩
  ·subst e;refine BK ?_;exact k _ (sm.trans s1)
  rw[List.concat_eq_append] at e;subst e;obtain⟨ds',d,x,y,rfl,st',hp,rx,ry⟩:=st.lA;have hTq:t≠q:=A2 hT hq;have hpt:p≠t:=CZ hp hT (by intro z;cases z);have em:((ps'++[p]).map V.ref)=ps'.map V.ref++[V.ref p]:=by rw[BS];rfl
  have hne:(!((ps'++[p]).map V.ref).isEmpty)=true:=by rw[em];simp
  rw[hne];refine Bm ⟨fun σ' H2=>∃(ps:List Ya)(ds:List Dt)(v3 v4:Option V),σ'=[some x0,some y0,some (.ref t),v3,v4]/\H2 t=some (.lst (ps.map V.ref))/\AO H H2/\Dt.Cs ds<Dt.Cs (ds'++[d])/\EN H H2 ds ps,
   fun σ' H2 ⟨ps2,ds2,a3,a4,e1,e2,e3,e4,e5⟩=>⟨Dt.Cs ds2,e4,ps2,ds2,a3,a4,e1,e2,e3,rfl,by lia,e5⟩,?_⟩;have hT1:(upd H' q (.lst [])) t=some (.lst (ps'.map V.ref++[V.ref p])):=by rw[AQ hTq,hT,em]
  refine⟨_,rfl,.inl ⟨rfl,_,AJ.of hT1⟩,t,_,.ref p,rfl,rfl,hT1,by simp,?_⟩;have esz:Dt.Cs (ds'++[d])=Dt.Cs ds'+d.sz:=by rw[Dt.PU];simp only[Dt.Cs];lia
  have hdl:(ps'.map V.ref++[V.ref p]).dropLast=ps'.map V.ref:=by simp
  rw[hdl];generalize hH2:upd (upd H' q (.lst [])) t (.lst (ps'.map V.ref))=H2;have s2:AO H H2:=by rw[<-hH2];exact(sm.trans s1).upd htn
  have t2:H2 t=some (.lst (ps'.map V.ref)):=by rw[<-hH2];exact AN
  have kt2:∀b xs,H' b=some (.tup xs)->H2 b=some (.tup xs):=fun b xs e=>by rw[<-hH2,AQ (CZ e hT (by intro z;cases z)),AQ (A2 e hq)];exact e
  have p2:H2 p=some (.tup [x,y]):=kt2 _ _ hp;have st2:EN H H2 ds' ps':=st'.same kt2;refine⟨_,rfl,p,_,1,y,rfl,rfl,AV.of p2,rfl,by show 2<=sizeLine;decide,fun tq htq=>?_⟩;generalize hH3:upd H2 tq (.tup [V.ty "list",V.ty "tuple"])=H3;have s23:AO H2 H3:=by rw[<-hH3];exact Aa htq
  have s3:AO H H3:=s2.trans s23;have t3:H3 t=some (.lst (ps'.map V.ref)):=s23 _ _ t2;have p3:H3 p=some (.tup [x,y]):=s23 _ _ p2;have q3:H3 tq=some (.tup [V.ty "list",V.ty "tuple"]):=by rw[<-hH3];exact AN
  have st3:EN H H3 ds' ps':=st2.same fun b xs e=>s23 _ _ e;have fin:∃(ps:List Ya)(ds:List Dt)(a3 a4:Option V),([some x0,some y0,some (V.ref t),some (V.ref p),v4]:St)=[some x0,some y0,some (.ref t),a3,a4]/\H3 t=some (.lst (ps.map V.ref))/\AO H H3/\Dt.Cs ds<Dt.Cs (ds'++[d])/\EN H H3 ds ps:=by have:=d.Yn;exact⟨ps',ds',_,_,rfl,t3,s3,by lia,st3⟩
  cases d with
  |lst ds1=>
   cases rx with
   |@lst _ a xs hx lx fx=>
   cases ry with
   |@lst _ b ys hy ly fy=>
   have a3:H3 a=some (.lst xs):=s3 _ _ hx;have b3:H3 b=some (.lst ys):=s3 _ _ hy;have hsz:(Dt.lst ds1).sz=1+Dt.Cs ds1:=by simp only[Dt.sz]
   have hl1:=Dt.KA ds1;refine⟨.ref b,tq,["list","tuple"],.type "list",true,rfl,q3,(fun _=>Bj.lst b3),(fun _=>ZG _ (.inl rfl)),_,rfl,Bm ?_⟩;refine⟨_,rfl,p,_,0,.ref a,rfl,rfl,AV.of p3,rfl,.ref a,"list",.type "list",true,rfl,(fun _=>Bj.lst a3),(fun _=>Ht _),_,rfl,p,_,1,.ref b,rfl,rfl,AV.of p3,rfl,.ref b,"list",.type "list",true,rfl,(fun _=>Bj.lst b3),(fun _=>Ht _),rfl,_,rfl,EZ rfl ?_⟩;refine⟨_,rfl,p,_,0,.ref a,rfl,rfl,AV.of p3,rfl,.ref a,"tuple",.type "list",false,rfl,(fun _=>Bj.lst a3),(fun _=>Zw),_,rfl,p,_,1,.ref b,rfl,rfl,AV.of p3,rfl,.ref b,"tuple",.type "list",false,rfl,(fun _=>Bj.lst b3),(fun _=>Zw),rfl,_,rfl,EZ rfl ?_⟩;refine⟨_,rfl,p,_,0,.ref a,rfl,rfl,AV.of p3,rfl,a,xs,rfl,.inl (AJ.of a3),_,rfl,p,_,1,.ref b,rfl,rfl,AV.of p3,rfl,b,ys,rfl,.inl (AJ.of b3),rfl,_,rfl,EZ (by rw[<-lx,<-ly]) ?_⟩;refine⟨_,rfl,p,_,1,.ref b,rfl,rfl,AV.of p3,rfl,b,ys,rfl,.inl (AJ.of b3),(ys.length:Int),rfl,by lia,by lia,?_⟩;refine Oi (lo:=0) (n:=ys.length) (fun i σ' H4=>∃(nps:List Ya)(u4:Option V),σ'=[some x0,some y0,some (.ref t),some (.ref p),u4]/\H4 t=some (.lst ((ps'++nps).map V.ref))/\AO H H4/\H4 p=some (.tup [.ref a,.ref b])/\EN H H4 (ds'++ds1.take i) (ps'++nps))
    ⟨[],v4,rfl,by rw[C5];exact t3,s3,p3,by rw[K3,C5,C5];exact st3⟩ ?_ ?_
   ·rintro i σ' H4 hi ⟨nps,u4,rfl,t4,s4,p4,st4⟩;have hxi:xs[i]? =some xs[i]:=Aq (by lia);have hyi:ys[i]? =some ys[i]:=Aq hi;have hdi:ds1[i]? =some ds1[i]:=Aq (by lia);have hps:(ps'++nps).length<=1000000:=by
     have h1:=st4.1;have h2:=Dt.KA (ds'++ds1.take i);have h3:=Dt.KA ds';rw[A7,Bl] at h1
     lia
    have e0:(0:Int)+(i:Nat)=(i:Nat):=Int.zero_add _;refine⟨_,rfl,.inl ⟨rfl,_,AJ.of t4⟩,_,rfl,p,_,0,.ref a,rfl,rfl,AV.of p4,rfl,_,rfl,.inl ⟨a,xs,_,xs[i],rfl,rfl,AJ.of (s4 _ _ hx),by rw[e0];exact Bw hxi,_,rfl,p,_,1,.ref b,rfl,rfl,AV.of p4,rfl,_,rfl,
     .inl ⟨b,ys,_,ys[i],rfl,rfl,AJ.of (s4 _ _ hy),by rw[e0];exact Bw hyi,by show 2<=sizeLine;decide,fun np hnp=>?_⟩⟩⟩;have Lz:t≠np:=A2 t4 hnp;have npp:p≠np:=A2 p4 hnp;have hpt4:p≠t:=CZ p4 t4 (by intro z;cases z);refine⟨t,_,.ref np,rfl,rfl,by rw[AQ Lz];exact t4,by rw[AL,A3];lia,nps++[np],_,rfl,?_,(s4.upd (s4.free hnp)).upd htn,by rw[AQ hpt4,AQ npp];exact p4,?_⟩
    ·rw[AN];simp only[BS,Av,LA,Bb]
    ·have kk:∀c zs,H4 c=some (.tup zs)->(upd (upd H4 np (.tup [xs[i],ys[i]])) t (.lst ((ps'++nps).map V.ref++[V.ref np]))) c=some (.tup zs):=fun c zs e=>by rw[AQ (CZ e t4 (by intro z;cases z)),AQ (A2 e hnp)];exact e
     rw[EO,hdi,<-Bb,<-Bb];refine(st4.same kk).snoc (x:=xs[i]) (y:=ys[i]) ?_ (fx i _ _ hdi hxi) (fy i _ _ hdi hyi);rw[AQ Lz.symm,AN]
   ·rintro σ' H4 ⟨nps,u4,rfl,t4,s4,p4,st4⟩;rw[<-ly,Cj] at st4;refine⟨ps'++nps,ds'++ds1,_,_,rfl,t4,s4,?_,st4⟩;rw[esz,Dt.PU,hsz]
    lia
  |tup ds1=>
   cases rx with
   |@tup _ a xs hx lx fx=>
   cases ry with
   |@tup _ b ys hy ly fy=>
   have a3:H3 a=some (.tup xs):=s3 _ _ hx;have b3:H3 b=some (.tup ys):=s3 _ _ hy;have hsz:(Dt.tup ds1).sz=1+Dt.Cs ds1:=by simp only[Dt.sz]
   have hl1:=Dt.KA ds1;refine⟨.ref b,tq,["list","tuple"],.type "tuple",true,rfl,q3,(fun _=>Bj.tup b3),(fun _=>ZG _ (.inr rfl)),_,rfl,Bm ?_⟩;refine⟨_,rfl,p,_,0,.ref a,rfl,rfl,AV.of p3,rfl,.ref a,"list",.type "tuple",false,rfl,(fun _=>Bj.tup a3),(fun _=>Zx),_,rfl,p,_,1,.ref b,rfl,rfl,AV.of p3,rfl,.ref b,"list",.type "tuple",false,rfl,(fun _=>Bj.tup b3),(fun _=>Zx),rfl,_,rfl,EZ rfl ?_⟩;refine⟨_,rfl,p,_,0,.ref a,rfl,rfl,AV.of p3,rfl,.ref a,"tuple",.type "tuple",true,rfl,(fun _=>Bj.tup a3),(fun _=>Ht _),_,rfl,p,_,1,.ref b,rfl,rfl,AV.of p3,rfl,.ref b,"tuple",.type "tuple",true,rfl,(fun _=>Bj.tup b3),(fun _=>Ht _),rfl,_,rfl,EZ rfl ?_⟩;refine⟨_,rfl,p,_,0,.ref a,rfl,rfl,AV.of p3,rfl,a,xs,rfl,.inr (AV.of a3),_,rfl,p,_,1,.ref b,rfl,rfl,AV.of p3,rfl,b,ys,rfl,.inr (AV.of b3),rfl,_,rfl,EZ (by rw[<-lx,<-ly]) ?_⟩;refine⟨_,rfl,p,_,1,.ref b,rfl,rfl,AV.of p3,rfl,b,ys,rfl,.inr (AV.of b3),(ys.length:Int),rfl,by lia,by lia,?_⟩;refine Oi (lo:=0) (n:=ys.length) (fun i σ' H4=>∃(nps:List Ya)(u4:Option V),σ'=[some x0,some y0,some (.ref t),some (.ref p),u4]/\H4 t=some (.lst ((ps'++nps).map V.ref))/\AO H H4/\H4 p=some (.tup [.ref a,.ref b])/\EN H H4 (ds'++ds1.take i) (ps'++nps))
    ⟨[],v4,rfl,by rw[C5];exact t3,s3,p3,by rw[K3,C5,C5];exact st3⟩ ?_ ?_
   ·rintro i σ' H4 hi ⟨nps,u4,rfl,t4,s4,p4,st4⟩;have hxi:xs[i]? =some xs[i]:=Aq (by lia);have hyi:ys[i]? =some ys[i]:=Aq hi;have hdi:ds1[i]? =some ds1[i]:=Aq (by lia);have hps:(ps'++nps).length<=1000000:=by
     have h1:=st4.1;have h2:=Dt.KA (ds'++ds1.take i);have h3:=Dt.KA ds';rw[A7,Bl] at h1
     lia
    have e0:(0:Int)+(i:Nat)=(i:Nat):=Int.zero_add _;refine⟨_,rfl,.inl ⟨rfl,_,AJ.of t4⟩,_,rfl,p,_,0,.ref a,rfl,rfl,AV.of p4,rfl,_,rfl,.inr (.inl ⟨a,xs,_,xs[i],rfl,rfl,AV.of (s4 _ _ hx),by rw[e0];exact Bw hxi,_,rfl,p,_,1,.ref b,rfl,rfl,AV.of p4,rfl,_,rfl,
     .inr (.inl ⟨b,ys,_,ys[i],rfl,rfl,AV.of (s4 _ _ hy),by rw[e0];exact Bw hyi,by show 2<=sizeLine;decide,fun np hnp=>?_⟩)⟩)⟩;have Lz:t≠np:=A2 t4 hnp;have npp:p≠np:=A2 p4 hnp;have hpt4:p≠t:=CZ p4 t4 (by intro z;cases z);refine⟨t,_,.ref np,rfl,rfl,by rw[AQ Lz];exact t4,by rw[AL,A3];lia,nps++[np],_,rfl,?_,(s4.upd (s4.free hnp)).upd htn,by rw[AQ hpt4,AQ npp];exact p4,?_⟩
    ·rw[AN];simp only[BS,Av,LA,Bb]
    ·have kk:∀c zs,H4 c=some (.tup zs)->(upd (upd H4 np (.tup [xs[i],ys[i]])) t (.lst ((ps'++nps).map V.ref++[V.ref np]))) c=some (.tup zs):=fun c zs e=>by rw[AQ (CZ e t4 (by intro z;cases z)),AQ (A2 e hnp)];exact e
     rw[EO,hdi,<-Bb,<-Bb];refine(st4.same kk).snoc (x:=xs[i]) (y:=ys[i]) ?_ (fx i _ _ hdi hxi) (fy i _ _ hdi hyi);rw[AQ Lz.symm,AN]
   ·rintro σ' H4 ⟨nps,u4,rfl,t4,s4,p4,st4⟩;rw[<-ly,Cj] at st4;refine⟨ps'++nps,ds'++ds1,_,_,rfl,t4,s4,?_,st4⟩;rw[esz,Dt.PU,hsz]
    lia
  |str z=>cases rx;cases ry;refine⟨.str z,tq,["list","tuple"],.type "str",false,rfl,q3,(fun _=>Bj.str z),(fun _=>Sv _ (.inl rfl)),_,rfl,BK ?_⟩;refine⟨_,rfl,p,_,1,.str z,rfl,rfl,AV.of p3,rfl,.str z,"str",.type "str",true,rfl,(fun _=>Bj.str z),(fun _=>Ht _),_,rfl,Bm ?_⟩;refine⟨_,rfl,p,_,0,.str z,rfl,rfl,AV.of p3,rfl,.str z,"str",.type "str",true,rfl,(fun _=>Bj.str z),(fun _=>Ht _),_,rfl,BK ⟨_,rfl,p,_,0,.str z,rfl,rfl,AV.of p3,rfl,_,rfl,p,_,1,.str z,rfl,rfl,AV.of p3,rfl,rfl,_,rfl,EZ rfl fin⟩⟩
  |bl z=>cases rx;cases ry;refine⟨.bl z,tq,["list","tuple"],.type "bool",false,rfl,q3,(fun _=>Bj.bl z),(fun _=>Sv _ (.inr (.inr rfl))),_,rfl,BK ?_⟩;refine⟨_,rfl,p,_,1,.bl z,rfl,rfl,AV.of p3,rfl,.bl z,"str",.type "bool",false,rfl,(fun _=>Bj.bl z),(fun _=>ni),_,rfl,BK ?_⟩;refine⟨_,rfl,p,_,1,.bl z,rfl,rfl,AV.of p3,rfl,.bl z,"bool",.type "bool",true,rfl,(fun _=>Bj.bl z),(fun _=>Ht _),_,rfl,Bm ?_⟩;refine⟨_,rfl,p,_,0,.bl z,rfl,rfl,AV.of p3,rfl,.bl z,"bool",.type "bool",true,rfl,(fun _=>Bj.bl z),(fun _=>Ht _),_,rfl,BK ⟨_,rfl,p,_,0,.bl z,rfl,rfl,AV.of p3,rfl,_,rfl,p,_,1,.bl z,rfl,rfl,AV.of p3,rfl,rfl,_,rfl,EZ rfl fin⟩⟩
  |int z=>cases rx;cases ry;refine⟨.int z,tq,["list","tuple"],.type "int",false,rfl,q3,(fun _=>Bj.int z),(fun _=>Sv _ (.inr (.inl rfl))),_,rfl,BK ?_⟩;refine⟨_,rfl,p,_,1,.int z,rfl,rfl,AV.of p3,rfl,.int z,"str",.type "int",false,rfl,(fun _=>Bj.int z),(fun _=>nV),_,rfl,BK ?_⟩;refine⟨_,rfl,p,_,1,.int z,rfl,rfl,AV.of p3,rfl,.int z,"bool",.type "int",false,rfl,(fun _=>Bj.int z),(fun _=>ZX),_,rfl,BK ?_⟩;exact⟨_,rfl,p,_,0,.int z,rfl,rfl,AV.of p3,rfl,z,rfl,_,rfl,BK ⟨_,rfl,p,_,0,.int z,rfl,rfl,AV.of p3,rfl,_,rfl,p,_,1,.int z,rfl,rfl,AV.of p3,rfl,rfl,_,rfl,EZ rfl fin⟩⟩
theorem WC{α:Type}[DecidableEq α]:∀{l m:List α},l.Nodup->(∀x∈l,x∈m)->l.length<=m.length
 |[],_,_,_=>CH _
 |a::t,m,hn,hs=>by
  obtain⟨h1,h2⟩:=IS.mp hn;have ha:=hs a Di;have:=WC (l:=t) (m:=m.erase a) h2 fun x hx=>(List.mem_erase_of_ne (fun z=>h1 (by rw[<-z];exact hx))).mpr (hs x (DE _ hx));rw[List.length_erase_of_mem ha] at this;have hp:0<m.length:=U9 ha;rw[CP]
  lia
def Ey(n:Nk)(xs:List Am):Nk:=xs.foldl HL n
theorem dQ(n:Nk)(xs:List Am)(x:Am):Ey n (xs++[x])=HL (Ey n xs) x:=by unfold Ey;rw[List.foldl_append];rfl
theorem Ry:∀(xs:List Am)(n:Nk),Bd n->(∀x∈xs,x.Good)->Bd (Ey n xs)/\vw (Ey n xs)=CS (vw n) xs
 |[],n,h,_=>⟨h,rfl⟩
 |x::xs,n,h,g=>by obtain⟨p1,p2⟩:=jI h (g x Di);obtain⟨q1,q2⟩:=Ry xs (HL n x) p1 fun y hy=>g y (DE _ hy);refine⟨q1,?_⟩;show vw (Ey (HL n x) xs)=CS ((Dx (vw n) x).next (vw n)) xs;rw[q2,p2]
theorem bL:Bd F4:=⟨⟨MW,MW,MW,fun p hp=>(by cases hp),fun p hp=>(by cases hp),fun p hp=>(by cases hp),fun p hp=>(by cases hp)⟩,Int.le_refl _,fun p hp=>(by cases hp),fun p hp=>(by cases hp)⟩
theorem n8(b:Bq n){p:Int×List Wd}(hp:p∈n.texts):∃nm,(nm,Al n p.1)∈vw n/\(Al n p.1).length=p.2.length:=by obtain⟨nm,h⟩:=b.own p hp;refine⟨nm,BI.mpr ⟨_,h,rfl⟩,?_⟩;unfold Al;rw[GJ b.Cf (show(p.1,p.2)∈n.texts from hp)];show(p.2.map _).length=_;rw[AL]
def Pq(ws:List PR):Nat:=wsum ws
theorem fits_of(h:Bd n)(s:Sz k (vw n))(hk:k<=64):Fits n/\n.names.length<=k/\n.texts.length<=k:=by
 have hl:n.names.length<=k:=by have:=s.len;unfold vw at this;rw[AL] at this;exact this
 have ht:n.texts.length<=n.names.length:=by
  have:=WC (l:=n.texts.map (·.1)) (m:=n.names.map (·.2)) h.b.Cf fun x hx=>by obtain⟨p,hp,rfl⟩:=BI.mp hx;obtain⟨nm,hn⟩:=h.b.own p hp;exact BI.mpr ⟨_,hn,rfl⟩
  rw[AL,AL] at this;exact this
 refine⟨⟨h.b.CV,h.b.Cf,by lia,by lia,fun p hp=>?_⟩,hl,by lia⟩;obtain⟨nm,h1,h2⟩:=n8 h.b hp;have h3:=J9 h1;have h4:=LP (Al n p.1);have h5:=s.BH;have h6:Pq (Al n p.1)<=L2.BH (vw n):=h3;have h7:50000*k<=50000*64:=Qi _ hk;unfold Pq at h6
 lia
theorem cn(h:Bd n)(s:Sz k (vw n))(hk:k<=63){a o:Str}(g:(Am.join a o).Good)(br:BU n (.join a o)=""):(CD n (A0 n a)++CD n (A0 n o)).length<=100000:=by
 have s':=s.next g;have be:=ZD n (.join a o);rw[br] at be;have be':Cz "" (Eu (vw n) a o):=be;have s2:Sz (k+1) ((Eu (vw n) a o).next (vw n)):=s';unfold Eu at be' s2;rw[FH n a,FH n o] at be' s2
 cases e:AG n.names a with
 |none=>rw[e] at be';exact absurd be'.1.symm be'.2
 |some no=>
  cases e2:AG n.names o with
  |none=>rw[e,e2] at be';exact absurd be'.1.symm be'.2
  |some no2=>
   rw[e,e2] at be' s2;have be2:Cz "" (if a=o then .no "same page" else .ok (.int (L2.cnt (L2.joined (vw n) a o (Al n no) (Al n no2)) a)) (L2.joined (vw n) a o (Al n no) (Al n no2))):=be';have s3:Sz (k+1) (Rs.next (vw n) (if a=o then .no "same page" else .ok (.int (L2.cnt (L2.joined (vw n) a o (Al n no) (Al n no2)) a)) (L2.joined (vw n) a o (Al n no) (Al n no2)))):=s2;by_cases e3:a=o
   ·rw[AH e3] at be2;exact absurd be2.1.symm be2.2
   ·rw[AF e3] at s3;have s4:Sz (k+1) (L2.joined (vw n) a o (Al n no) (Al n no2)):=s3;have ga:AG (L2.joined (vw n) a o (Al n no) (Al n no2)) a=some (Bp (Al n no++Al n no2) o a):=by unfold L2.joined;rw[TC,Cu,AH rfl];rfl
    have h3:=J9 (BN ga);have h4:=LP (Bp (Al n no++Al n no2) o a);rw[XI,A7] at h4;have h5:=s4.BH;have h6:Pq (Bp (Al n no++Al n no2) o a)<=L2.BH (L2.joined (vw n) a o (Al n no) (Al n no2)):=h3;unfold Pq at h6;have l1:(CD n (A0 n a)).length=(Al n no).length:=by unfold CD A0 Al;rw[e,AL];rfl
    have l2:(CD n (A0 n o)).length=(Al n no2).length:=by unfold CD A0 Al;rw[e2,AL];rfl
    have h7:50000*(k+1)<=50000*64:=Qi _ (by lia);rw[A7,l1,l2]
    lia
def XQ:Sp:=fun vs H Q _=>∃(v:V)(xs:List Am),vs=[v]/\Rep H (.lst (xs.map Am.dt)) v/\(∀x∈xs,x.Good)/\xs.length<=63/\∀a H',Ce H H' a (Ey F4 xs)->Q (.ref a) H'
noncomputable def Am.word:Am->Str
 |.write _ _=>"write" |.rename _ _=>"rename" |.join _ _=>"join" |.cut _ _ _=>"cut" |.drop _=>"drop" |.text _=>"text" |.back _=>"back" |.find _ _=>"find"
theorem eS(x:Am):(Gf (.str x.word) [.str "text",.str "back",.str "find"])=x.asks:=by
 cases x with
 |write a b=>exact(by ac_rfl:Gf (.str "write") [.str "text",.str "back",.str "find"]=false)
 |rename a b=>exact(by ac_rfl:Gf (.str "rename") [.str "text",.str "back",.str "find"]=false)
 |join a b=>exact(by ac_rfl:Gf (.str "join") [.str "text",.str "back",.str "find"]=false)
 |cut a p b=>exact(by ac_rfl:Gf (.str "cut") [.str "text",.str "back",.str "find"]=false)
 |drop a=>exact(by ac_rfl:Gf (.str "drop") [.str "text",.str "back",.str "find"]=false)
 |text a=>exact(by ac_rfl:Gf (.str "text") [.str "text",.str "back",.str "find"]=true)
 |back a=>exact(by ac_rfl:Gf (.str "back") [.str "text",.str "back",.str "find"]=true)
 |find a b=>exact(by ac_rfl:Gf (.str "find") [.str "text",.str "back",.str "find"]=true)
theorem jN{x:Am}(r:Rep H x.dt v):∃d xs,v=.ref d/\H d=some (.tup (.str x.word::xs)):=by
 cases x with
 |write a b=>obtain⟨d,xs,rfl,hd,rs⟩:=CA r;obtain⟨u,v,x,rfl,r1,_⟩:=Ez rs;cases Be r1;exact⟨d,_,rfl,hd⟩
 |rename a b=>obtain⟨d,xs,rfl,hd,rs⟩:=CA r;obtain⟨u,v,x,rfl,r1,_⟩:=Ez rs;cases Be r1;exact⟨d,_,rfl,hd⟩
 |join a b=>obtain⟨d,xs,rfl,hd,rs⟩:=CA r;obtain⟨u,v,x,rfl,r1,_⟩:=Ez rs;cases Be r1;exact⟨d,_,rfl,hd⟩
 |cut a p b=>obtain⟨d,xs,rfl,hd,rs⟩:=CA r;obtain⟨u,v,x,y,rfl,r1,_⟩:=Pu rs;cases Be r1;exact⟨d,_,rfl,hd⟩
 |drop a=>obtain⟨d,xs,rfl,hd,rs⟩:=CA r;obtain⟨u,v,rfl,r1,_⟩:=HN rs;cases Be r1;exact⟨d,_,rfl,hd⟩
 |text a=>obtain⟨d,xs,rfl,hd,rs⟩:=CA r;obtain⟨u,v,rfl,r1,_⟩:=HN rs;cases Be r1;exact⟨d,_,rfl,hd⟩
 |back a=>obtain⟨d,xs,rfl,hd,rs⟩:=CA r;obtain⟨u,v,rfl,r1,_⟩:=HN rs;cases Be r1;exact⟨d,_,rfl,hd⟩
 |find ws far=>obtain⟨d,xs,rfl,hd,rs⟩:=CA r;obtain⟨u,v,x,rfl,r1,_⟩:=Ez rs;cases Be r1;exact⟨d,_,rfl,hd⟩
theorem SA:Az ["_law_asked","_law_nook","_law_deed"] ["_law_asked"] (Ao Sg):=by ac_rfl
theorem fL{fBe:Ya}{fdBe:qX}(F:Aj K "_law_played" "_law_played" Sg f fd)
 (FBe:Aj K "_law_begun" "_law_begun" PY fBe fdBe)(bBe:Binds K fdBe [] [])(mBe:mg "_law_begun" =some (.ref fBe))
 (HBa:Hv P w K mg base "_law_barred" 2 ["_law_nook","_law_deed"] W5)
 (HCh:Hv P w K mg base "_law_changed" 3 ["_law_nook","_law_deed"] WG):AW P w K mg base Ah 4 f fd ["_law_asked"] XQ:=by
 have GBe:AW P w K mg base Ah 1 fBe fdBe [] YQ:=iN FBe;refine F.ok SA ?_ ?_
 ·rintro _ _ _ _ ⟨_,_,rfl,_⟩;rfl
 ·rintro _ A _ s H _ Q E hr ⟨v,xs,rfl,rv,good,hl,q⟩;refine⟨_,(AU (Au (i:=1) SA.nd rfl (AZ rfl) (Xk GBe hr.mn rfl mBe FBe.kp bBe .nil A8)) (AU (EI ED rfl (FQ (pv 0)) (Bc (i:=2) SA.nd rfl (AZ rfl))
   (AS (A1 (PW.pt (FJ (Aw cO (A9 (pv 2)) (Bx (AE AY (AE AY (AE AY AI)))) rfl) (G9 (Aw BW (Ca HBa hr.mn rfl A8 (AE (pv 1) (AE (pv 2) AI))) AY (Ar _)))))
   (AS (Bn (Ca HCh hr rfl A8 (AE (pv 1) (AE (pv 2) AI)))))
   BE))) (AS (An (pv 1))))),?_⟩;obtain⟨l,ys,rfl,hll,rr⟩:=Et rv;refine⟨rfl,fun a H1 nk0=>?_⟩;have sOf:∀{n:Nk}{H':Hp},Ce H H' a n->AO H H':=fun h=>let⟨_,_,_,nk⟩:=h;nk.same;refine⟨_,rfl,l,rfl,⟨_,AJ.of (sOf nk0 _ _ hll)⟩,JA (K:=[]) (a:=l) (xs:=ys) (fun i σ H'=>∃v2:Option V,σ=[some (.ref l),some (.ref a),v2]/\Ce H H' a (Ey F4 (xs.take i)))
   ⟨none,rfl,nk0⟩ (fun i σ H' _ ⟨_,_,h⟩=>AJ.of (sOf h _ _ hll)) ?_ ?_⟩
  ·rintro i y σ H' ey ⟨v2,rfl,nk⟩;obtain⟨x,ex,rx⟩:=Hr rr ey;have hi:i<xs.length:=(BX.mp ex).1;have gi:∀z∈xs.take i,z.Good:=fun z hz=>good z (Hh hz);obtain⟨bd,ev⟩:=Ry (xs.take i) F4 bL gi;have sz:=NM (xs.take i) 0 [] Pe gi;have ev':vw (Ey F4 (xs.take i))=CS [] (xs.take i):=ev;rw[<-ev'] at sz;have hk:0+(xs.take i).length<=63:=by rw[Bl];lia
   obtain⟨fit,nl,tl⟩:=fits_of bd sz (by lia);have etk:Ey F4 (xs.take (i+1))=HL (Ey F4 (xs.take i)) x:=by rw[EO,ex];exact dQ ..
   have gx:=good x (CK ex);generalize Ey F4 (xs.take i)=n at nk bd sz fit nl tl etk;obtain⟨d,ds,rfl,hd⟩:=jN rx;have hd':=sOf nk _ _ hd;refine⟨_,rfl,d,_,_,.str x.word,rfl,rfl,AV.of hd',Bw (j:=0) rfl,by show 3<=sizeLine;decide,fun lq hlq=>?_⟩;have s2:=Aa (o:=.lst [V.str "text",V.str "back",V.str "find"]) hlq;have nk2:=nk.ext s2;refine⟨lq,_,rfl,.inl (AJ.of AN),rfl,rfl,_,rfl,?_⟩;have aw:=eS x;show if(!Gf (.str x.word) [.str "text",.str "back",.str "find"])=true then _ else _;rw[aw]
   cases ha:x.asks with
   |true=>refine BK (BK ?_);refine⟨_,rfl,?_⟩;rw[etk];unfold HL;rw[AH ha];exact nk2
   |false=>
    generalize upd H' lq (.lst [V.str "text",V.str "back",V.str "find"])=H2 at nk2;refine Bm ⟨_,rfl,_,rfl,a,.ref d,x,H,n,rfl,nk2,fit,rx.same (sOf nk2),gx,fun nm no h=>bd.b.tx _ (BN h),fun H3 s3=>⟨rfl,_,rfl,?_⟩⟩;have nk3:=nk2.ext s3;by_cases hb:BU n x=""
    ·refine CG (by rw[hb]) ⟨_,rfl,_,rfl,a,.ref d,x,H,n,rfl,nk3,fit,bd,by lia,by lia,rx,gx,ha,hb,fun a' o' e=>?_,fun H4 nk4=>⟨_,rfl,?_⟩⟩
     ·subst e;exact cn bd sz hk gx hb
     ·rw[etk];unfold HL;rw[AF (by rw[ha];exact CY),AH hb];exact nk4
    ·refine CT (fun z=>hb (V.str.inj z)) ?_;refine⟨_,rfl,?_⟩;rw[etk];unfold HL;rw[AF (by rw[ha];exact CY),AF hb];exact nk3
  ·rintro σ H' ⟨v2,rfl,nk⟩;have e6:ys.length=xs.length:=by have:=rr.1;rw[AL] at this;exact this.symm
   rw[e6,Cj] at nk;exact⟨_,rfl,q a H' nk⟩
def jk:V->List V->Hp->VK->Prop:=fun x vs H Q=>∃(l:Ya)(z:Str)(zs:List Str),x=.ref l/\vs=[.str z]/\H l=some (.lst (zs.map V.str))/\Q (.int (zs.countP fun y=>decide (y=z):Nat)) H
theorem YB{z:Str}:∀{zs:List Str}{us:List AB},Vals (zs.map V.str) us->us.countP (D8 (.str z))=zs.countP fun y=>decide (y=z)
 |[],_,h=>by cases h;rfl
 |y::zs,_,h=>by
  cases h with
  |cons r t=>
   rw[Ky,Ky,YB t,TV r rfl];show _+(if(y==z)=true then 1 else 0)=_;by_cases e:y=z
   ·rw[AH (FC.mpr e),AH (BZ e)]
   ·rw[AF (fun q=>e (FC.mp q)),AF (fun q=>e (IM q))]
theorem fN:Ha X "list.count" jk:=by
 intro pins s σ H x vs v us Q I rx rv h;obtain⟨l,z,zs,rfl,rfl,hl,q⟩:=h;cases rx;obtain⟨u,rfl,ru⟩:=rv.one;have fs:(zs.map V.str).all IC=true:=by rw[List.all_map];exact Jr.mpr fun _ _=>rfl
 obtain⟨y,AM,n,r,hl',e⟩:=I.JX hl;refine I8 F.slot_list_count ⟨_,e,rfl⟩ F.entry_list_count (F.args_list_count_2 _ _) (SeqAt.list_countAt l AM.toArray n none #[] u (D8 (.str z))) ⟨e,fun w hw=>LL ru rfl r fs w (by simpa using hw),?_⟩;refine⟨.int _,H,I.tok _,⟨_,rfl⟩,?_⟩;show Q (.int (AM.countP (D8 (.str z)):Nat)) H;rw[YB r];exact q
theorem kI(L:List Str):II " " L=Str.join ⟨#[32]⟩ L:=by
 rw[<-blank_eq]
 match L with
 |[]=>rfl
 |[_]=>rfl
 |_::_::_=>exact StrLaws.glued_eq_join _ _
theorem Vt{L:List Str}(hn:L≠[])(hf:∀p∈L,32∉p.cps.toList):Txt.split (II " " L) " " =L:=by refine WL _ _ ?_;rw[Ve,kI,RY];refine TL _ (fun z=>hn (OB.mp z)) fun p hp=>?_;obtain⟨q,hq,rfl⟩:=BI.mp hp;exact hf q hq
theorem jc{n:Str}(h:isNm n=true):32∉n.cps.toList:=fun z=>by unfold isNm at h;rw[Du] at h;have:=Jr.mp h.2 32 z;revert this;decide+kernel
theorem Ms(n:Str):("[" ++n++ "]" :Str).cps.toList=91::(n.cps.toList++[93]):=by rw[LS,LS,KN,KJ,Bb];rfl
theorem Pa(n:Str):("[" ++n++ "]" :Str).length=n.length+2:=by rw[<-LJ,Ms,CP,A7,LJ];rfl
theorem oQ{n:Str}(h:isNm n=true):EK ("[" ++n++ "]")=true:=by
 unfold EK HZ;have e1:Txt.slice ("[" ++n++ "]") none (some 1)="[" :=by rw[str_list,Rj,Ms,KN];rfl
 have e2:Txt.slice ("[" ++n++ "]") (some (-1)) none="]" :=by
  rw[str_list,Q7,Ms,Pa,KJ,<-MV];refine List.drop_left' ?_;rw[CP,LJ]
  lia
 rw[Wa,h,<-Rq,<-Su,e1,e2,BZ rfl,BZ rfl];rfl
theorem ZQ{n:Str}(h:isNm n=true):C2 ("[" ++n++ "]")=(("to" :Str),n):=by unfold C2;rw[AH (oQ h)];unfold HZ;rw[Wa]
theorem kl{w:Str}(h:EK w=true): "[" ++HZ w++ "]" =w:=by
 unfold EK at h;rw[Du,Du,<-Rq,<-Su] at h;have e1:=BD (fun z:Str=>z.cps.toList) (V.str.inj (IM h.1));have e2:=BD (fun z:Str=>z.cps.toList) (V.str.inj (IM h.2.1));have e3:HZ w≠ "" :=fun z=>by rw[z] at h;exact absurd h.2.2 (by ac_rfl)
 rw[Rj,KN] at e1;rw[Q7,KJ] at e2;have ei:(HZ w).cps.toList=(w.cps.toList.drop 1).take (w.length-2):=Vc w;have hl:3<=w.length:=by
  rcases Nat.lt_or_ge 2 w.length with z|z
  ·exact z
  ·refine absurd (str_list.mpr ?_) e3;rw[ei,show w.length-2=0 by lia];rfl
 rw[str_list,Ms,ei];have hc:=LJ w;generalize w.cps.toList=c at e1 e2 hc
 cases c with
 |nil=>cases e1
 |cons a c=>
  have ea:a=91:=by simpa using e1
  rw[ea];rw[CP] at hc;rw[show w.length-1=(w.length-2)+1 by lia,List.drop_succ_cons] at e2;rw[<-e2];show 91::(c.take (w.length-2)++c.drop (w.length-2))=_;rw[Dr]
theorem YG:("word" :Str)≠ "to" :=by ac_rfl
theorem NA(n:Str):Bo (("to" :Str),n)="[" ++n++ "]" :=AH rfl
theorem Sw(x:Str):Bo (("word" :Str),x)=x:=AF YG
def Kt(n:Str):Prop:=isNm n=true/\n.length≠5
inductive WQ:PR->Prop
 |to {n:Str}:Kt n->WQ (("to" :Str),n)
 |wd {x:Str}:x≠ "" ->32∉x.cps.toList->¬EK x=true->WQ (("word" :Str),x)
section
variable{p:PR}{n:Str}
theorem WQ.back(h:WQ p):C2 (Bo p)=p:=by
 cases h with
 |to h=>rw[NA,ZQ h.1]
 |wd _ _ h=>rw[Sw];unfold C2;rw[AF h]
theorem WQ.free(h:WQ p):32∉(Bo p).cps.toList:=by
 cases h with
 |to h=>
  rw[NA,Ms];intro z;rcases Ba.mp z with e|e
  ·cases e
  ·rcases Bh.mp e with e|e
   ·exact jc h.1 e
   ·cases Bg.mp e
 |wd _ h _=>rw[Sw];exact h
theorem WQ.ne(h:WQ p):Bo p≠ "" :=fun z=>by
 cases h with
 |to h=>rw[NA] at z;have:=BD Str.length z;rw[Pa] at this;cases this
 |wd h _ _=>rw[Sw] at z;exact h z
theorem WQ.told(h:WQ p)(hn:isNm n=true):Bo p="[" ++n++ "]"↔p=(("to" :Str),n):=by
 constructor
 ·intro e;rw[<-h.back,e,ZQ hn]
 ·intro e;rw[e,NA]
theorem Vu(h:∀p∈ws,WQ p):Txt.split (By ws) " " =if ws=[] then[("" :Str)] else ws.map Bo:=by
 by_cases e:ws=[]
 ·rw[AH e,e];refine Vt (L:=[("" :Str)]) (List.cons_ne_nil _ _) fun p hp=>?_;rw[Bg.mp hp];decide
 ·rw[AF e];refine Vt (fun z=>e (OB.mp z)) fun p hp=>?_;obtain⟨q,hq,rfl⟩:=BI.mp hp;exact(h q hq).free
theorem ZU(n:Str):("" :Str)≠ "[" ++n++ "]" :=fun z=>by have:=BD Str.length z;rw[Pa] at this;cases this
theorem gz(h:∀p∈ws,WQ p)(hn:isNm n=true):(((Txt.split (By ws) " ").countP fun z=>decide (z="[" ++n++ "]"):Nat):Int)=Ie ws n:=by
 rw[Vu h];unfold Ie;by_cases e:ws=[]
 ·rw[AH e,e,Ky,AF (by simpa using ZU n)];rfl
 ·rw[AF e,List.countP_map];refine BD Nat.cast (List.countP_congr fun p hp=>?_);show decide (Bo p=_)=true↔_;rw[Qm,Qm,(h p hp).told hn]
theorem WQ.rd{w:Str}(h0:w≠ "")(hf:32∉w.cps.toList)(h7:w.length≠7):WQ (C2 w):=by
 unfold C2;by_cases e:EK w=true
 ·rw[AH e];have e2:=e;unfold EK at e2;rw[Du,Du] at e2;refine .to ⟨e2.2.2,fun z=>h7 ?_⟩;rw[<-kl e,Pa,z]
 ·rw[AF e];exact .wd h0 hf e
theorem WQ.split{t:Str}(h:T7 t.cps.toList):∀p∈EJ t,WQ p:=fun p hp=>by
 obtain⟨w,hw,rfl⟩:=BI.mp hp;obtain⟨h1,h2⟩:=IT.mp hw;refine WQ.rd (by simpa using h2) ?_ ?_
 ·rw[blank_eq] at h1;exact StrLaws.split_free t 32 w h1
 ·rw[<-LJ];refine h _ ?_;rw[<-Ve];exact List.mem_map_of_mem h1
theorem WQ.on(h:∀p∈ws,WQ p)(hm:Kt m):∀p∈Bp ws n m,WQ p:=fun p hp=>by
 obtain⟨q,hq,rfl⟩:=BI.mp hp;by_cases e:q=(("to" :Str),n)
 ·rw[AH e];exact .to hm
 ·rw[AF e];exact h q hq
end
def DK(l:List Pg):Prop:=∀p∈l,Kt p.1/\∀q∈p.2,WQ q
section
variable{l:List Pg}{k a b:Str}{v:List PR}
theorem NQ(h:DK l)(hk:Kt k)(hv:∀q∈v,WQ q):DK (AX l k v):=fun p hp=>by
 rcases IY hp with z|rfl
 ·exact h p z
 ·exact⟨hk,hv⟩
theorem Sy(h:DK l):DK (AR l k):=fun p hp=>h p (EV hp).1
theorem Z2(h:DK l)(hb:Kt b):DK (C7 l a b):=fun p hp=>by obtain⟨q,hq,rfl⟩:=BI.mp hp;exact⟨(h q hq).1,WQ.on (h q hq).2 hb⟩
theorem IZ(h:DK l)(e:AG l k=some v):Kt k/\∀q∈v,WQ q:=h _ (BN e)
theorem i9(h:DK l)(x:Am)(hx:x.Kp):DK ((Dx l x).next l):=by
 cases x with
 |write n t=>
  show DK ((GU l n t).next l);unfold GU;by_cases e:isNm n=true
  ·rw[AH e];exact NQ h ⟨e,hx.1⟩ (WQ.split hx.2)
  ·rw[AF e];exact h
 |rename n m=>
  show DK ((EU l n m).next l);unfold EU
  cases e:AG l n with
  |none=>exact h
  |some ws=>
   dsimp only;by_cases e2:isNm m=true
   ·rw[AH e2]
    cases e3:AG l m with
    |none=>exact Z2 (NQ (Sy h) ⟨e2,hx⟩ (IZ h e).2) ⟨e2,hx⟩
    |some _=>exact h
   ·rw[AF e2];exact h
 |join n o=>
  show DK ((Eu l n o).next l);unfold Eu
  cases e:AG l n with
  |none=>exact h
  |some w1=>
   dsimp only
   cases e2:AG l o with
   |none=>exact h
   |some w2=>
    dsimp only;by_cases e3:n=o
    ·rw[AH e3];exact h
    ·rw[AF e3];refine Z2 (NQ (Sy h) (IZ h e).1 fun q hq=>?_) (IZ h e).1;rcases Bh.mp hq with z|z
     ·exact(IZ h e).2 q z
     ·exact(IZ h e2).2 q z
 |cut n p m=>
  show DK ((Ga l n p m).next l);unfold Ga
  cases e:AG l n with
  |none=>exact h
  |some ws=>
   dsimp only;by_cases e2:isNm m=true
   ·rw[AH e2]
    cases e3:AG l m with
    |some _=>exact h
    |none=>
     dsimp only;split
     ·exact h
     ·refine NQ (NQ h ⟨e2,hx⟩ fun q hq=>(IZ h e).2 q (Jm hq)) (IZ h e).1 fun q hq=>?_;rcases Bh.mp hq with z|z
      ·exact(IZ h e).2 q (Hh z)
      ·rw[Bg.mp z];exact .to ⟨e2,hx⟩
   ·rw[AF e2];exact h
 |drop n=>
  show DK ((GY l n).next l);unfold GY
  cases e:AG l n with
  |none=>exact h
  |some _=>exact Sy h
 |text n=>
  show DK ((Fw l n).next l);unfold Fw
  cases e:AG l n with
  |none=>exact h
  |some _=>exact h
 |back n=>exact h
 |find ws far=>show DK ((if ws=[] then Rs.no "no words" else Rs.un l).next l);split<;>exact h
theorem Y5:∀(xs:List Am){l:List Pg},DK l->(∀x∈xs,x.Kp)->DK (CS l xs)
 |[],_,h,_=>h
 |x::xs,_,h,hx=>Y5 xs (i9 h x (hx x Di)) fun y hy=>hx y (DE _ hy)
end
def Fr(m:Str)(l:List Pg):Prop:=∀p∈l,p.1≠m/\(("to" :Str),m)∉p.2
noncomputable def cW(n:Str)(x:Tx):Int:=((Txt.split x.2 " ").countP fun z=>decide (z="[" ++n++ "]"):Nat)
theorem WQ.inv{p:PR}(h:WQ p)(e:p.1=("to" :Str)):Kt p.2:=by
 cases h with
 |to h=>exact h
 |wd=>exact absurd e YG
def tt(p:Pg):Tx:=(p.1,By p.2)
section
variable{l l':List Pg}{n:Str}
theorem O9(nd:(l.map (·.1)).Nodup):(CF l).Perm (l.map tt):=by unfold CF keys;refine((I9 Ew _).map _).trans (.of_eq ?_);rw[BV];refine DF fun p hp=>?_;show(p.1,By ((AG l p.1).getD []))=_;rw[GJ nd hp];rfl
theorem i5(nd:(l.map (·.1)).Nodup)(h:l.Perm l'):CF l=CF l':=by have nd':(l'.map (·.1)).Nodup:=(h.map _).nodup_iff.mp nd;have ek:Ih (keys l)=Ih (keys l'):=hV Ew (h.map _);unfold CF;rw[<-ek];refine DF fun k hk=>?_;obtain⟨v,hv⟩:=Mr ((I9 Ew (keys l)).mem_iff.mp hk);unfold GZ;rw[hv,GJ nd' (h.mem_iff.mp (BN hv))]
theorem XR{a b:List Int}(h:a.Perm b):a.sum=b.sum:=by
 induction h with
 |nil=>rfl
 |cons x _ ih=>rw[B1,B1,ih]
 |swap x y l=>
  simp only[B1]
  lia
 |trans _ _ i1 i2=>exact i1.trans i2
theorem Wm(h:l.Perm l')(a:Str):cnt l a=cnt l' a:=XR (h.map _)
theorem d6(nd:(l.map (·.1)).Nodup)(h:AG l n=some ws):l.Perm (AR l n++[(n,ws)]):=by
 have nl:l.Nodup:=(OI.mp nd).imp fun h e=>h (BD _ e);refine(List.perm_ext_iff_of_nodup nl (OJ.mpr ⟨nl.filter _,IS.mpr ⟨Iy,MW⟩,fun a ha b hb z=>?_⟩)).mpr fun x=>?_
 ·rw[z,Bg.mp hb] at ha;exact(EV ha).2 rfl
 ·rw[Bh,Bg];constructor
  ·intro hx;by_cases e:x.1=n
   ·refine .inr ?_;have:=GJ nd hx;rw[e,h] at this;exact LR e (Ag this).symm
   ·exact .inl (Gx hx e)
  ·rintro(z|z)
   ·exact(EV z).1
   ·rw[z];exact BN h
theorem mh(h:DK l)(hm:m.length=5):Fr m l:=fun p hp=>⟨fun e=>(h p hp).1.2 (by rw[e,hm]),fun z=>(((h p hp).2 _ z).inv rfl).2 hm⟩
theorem Td(h:Fr m l):AG l m=none:=by
 cases e:AG l m with
 |none=>rfl
 |some v=>exact absurd rfl (h _ (BN e)).1
theorem jm(nd:(l.map (·.1)).Nodup)(h:DK l)(hn:isNm n=true):((CF l).map (cW n)).sum=cnt l n:=by rw[XR ((O9 nd).map _),BV];exact BD List.sum (DF fun p hp=>gz (h p hp).2 hn)
end
noncomputable def gW(n m z:Str):Str:=if z="[" ++n++ "]" then "[" ++m++ "]" else z
section
variable{n:Str}
theorem XE(h:∀p∈ws,WQ p)(hn:isNm n=true):(Txt.split (By ws) " ").map (gW n m)=if ws=[] then[("" :Str)] else(Bp ws n m).map Bo:=by
 rw[Vu h];unfold Bp;by_cases e:ws=[]
 ·rw[AH e,AH e];show[gW n m ""]=_;unfold gW;rw[AF (ZU n)]
 ·rw[AF e,AF e,BV,BV];refine DF fun p hp=>?_;show gW n m (Bo p)=Bo (if _ then _ else _);unfold gW;by_cases z:p=(("to" :Str),n)
  ·rw[AH (((h p hp).told hn).mpr z),AH z,NA]
  ·rw[AF fun y=>z (((h p hp).told hn).mp y),AF z]
theorem WV(h:∀p∈ws,WQ p)(hn:isNm n=true):II " " ((Txt.split (By ws) " ").map (gW n m))=By (Bp ws n m):=by
 rw[XE h hn];by_cases e:ws=[]
 ·rw[AH e,e];rfl
 ·rw[AF e];rfl
theorem kr(h:∀p∈ws,WQ p)(hn:isNm n=true)(hm:m.length<=40)(hb:wsum ws<=4000000):((Txt.split (By ws) " ").map (gW n m)).foldl (·+·.length+(" " :Str).length) 0<=sizeLine/\(II " " ((Txt.split (By ws) " ").map (gW n m))).length<=sizeLine:=by
 have w1:=YF ws n m hm;rw[A3];constructor
 ·rw[XE h hn];by_cases e:ws=[]
  ·rw[AH e];decide+kernel
  ·rw[AF e];have:=Ov 1 (Ab 1) (Bp ws n m) 0;exact BF this (by lia)
 ·rw[WV h hn];have:=O3 (g:=" ") (by ac_rfl) (Bp ws n m);exact BF this (by lia)
end
def rn(n m:Str)(p:Pg):Pg:=(if p.1=n then m else p.1,Bp p.2 n m)
def g5(n m:Str)(x:Tx):Tx:=(if x.1=n then m else x.1,II " " ((Txt.split x.2 " ").map (gW n m)))
section
variable{l l':List Pg}{n:Str}
theorem SD(nd:(l.map (·.1)).Nodup)(h:AG l n=some ws)(hm:AG l m=none):(renamed l n m ws).Perm (l.map (rn n m)):=by
 have hne:m≠n:=fun e=>by rw[e,h] at hm;cases hm
 unfold L2.renamed;rw[Gw (by rw[EF hne];exact hm)];refine List.Perm.symm (((d6 nd h).map _).trans (.of_eq ?_));unfold L2.C7;rw[BS,BS];congr 1
 ·refine DF fun p hp=>?_;show(if p.1=n then m else p.1,_)=_;rw[AF (EV hp).2]
 ·show[(if n=n then m else n,_)]=_;rw[AH rfl];rfl
theorem lH(h:Fr m l):cnt (l.map (rn n m)) m=cnt l n:=by
 unfold L2.cnt;rw[BV];refine BD List.sum (DF fun p hp=>?_);show Ie (Bp p.2 n m) m=Ie p.2 n;unfold Ie Bp;rw[List.countP_map];refine BD Nat.cast (List.countP_congr fun q hq=>?_);show decide ((if _ then _ else _)=_)=true↔_;rw[Qm,Qm];by_cases e:q=(("to" :Str),n)
 ·rw[AH e];exact⟨fun _=>e,fun _=>rfl⟩
 ·rw[AF e];exact⟨fun z=>absurd (z▸hq) (h p hp).2,fun z=>absurd z e⟩
theorem my(h:Fr m l):(l.map (rn n m)).map (rn m n)=l:=by
 rw[BV];conv=>rhs;rw[<-Jv l]
 refine DF fun p hp=>LR ?_ ?_
 ·show(if(if p.1=n then m else p.1)=m then n else(if p.1=n then m else p.1))=p.1;by_cases e:p.1=n
  ·rw[AH e,AH rfl,e]
  ·rw[AF e,AF (h p hp).1]
 ·show Bp (Bp p.2 n m) m n=p.2;unfold Bp;rw[BV];conv=>rhs;rw[<-Jv p.2]
  refine DF fun q hq=>?_;show(if(if q=_ then _ else q)=_ then _ else(if q=_ then _ else q))=q;by_cases e:q=(("to" :Str),n)
  ·rw[AH e,AH rfl,e]
  ·rw[AF e,AF fun z:q=(("to" :Str),m)=>(h p hp).2 (z▸hq)]
theorem dR(nd:(l.map (·.1)).Nodup)(nd':(l'.map (·.1)).Nodup)(h:DK l)(hn:isNm n=true)(hp:l'.Perm (l.map (rn n m))):(CF l').Perm ((CF l).map (g5 n m)):=by refine(O9 nd').trans ((hp.map tt).trans (.trans (.of_eq ?_) ((O9 nd).map (g5 n m)).symm));rw[BV,BV];exact DF fun p hp=>LR rfl (WV (h p hp).2 hn).symm
theorem pS(nd:(l.map (·.1)).Nodup)(FY:((renamed l n m ws).map (·.1)).Nodup)(fr:Fr m l)(h:AG l n=some ws):
 cnt (renamed l n m ws) m=cnt l n/\∃w1,AG (renamed l n m ws) m=some w1/\AG (renamed l n m ws) n=none/\(renamed (renamed l n m ws) m n w1).Perm l:=by
 have pm:=SD nd h (Td fr);have hw1:AG (renamed l n m ws) m=some (Bp ws n m):=by refine GJ FY (pm.mem_iff.mpr (BI.mpr ⟨_,BN h,?_⟩));show(if n=n then m else n,_)=_;rw[AH rfl]
 have hn1:AG (renamed l n m ws) n=none:=by
  cases e:AG (renamed l n m ws) n with
  |none=>rfl
  |some v=>
   obtain⟨p,hp,e2⟩:=BI.mp (pm.mem_iff.mp (BN e));have e3:(if p.1=n then m else p.1)=n:=BD Prod.fst e2;by_cases z:p.1=n
   ·rw[AH z] at e3;exact absurd (z.trans e3.symm) (fr p hp).1
   ·rw[AF z] at e3;exact absurd e3 z
 exact⟨(Wm pm _).trans (lH fr),_,hw1,hn1,(SD FY hw1 hn1).trans ((pm.map _).trans (.of_eq (my fr)))⟩
end
def Ts(K:tN):Sp:=fun vs H Q _=>∃(a:Ya)(ns:List Int),vs=[.ref a]/\AJ K H a (ns.map V.int)/\ns.length<=63/\∀H',Q (.bl true) H'
def aA(K:tN):Sp:=fun vs H Q _=>∃(a:Ya)(ns:List Int)(m b:Int),vs=[.ref a,.int m,.int b]/\AJ K H a (ns.map V.int)/\ns.length<=63/\Q (.int m) H
theorem jQ(ns:List Int)(b:Nat):∃ms:List Int,DQ (ns.map V.int) (some 1) (some (1+(b:Int)))=ms.map V.int/\ms.length<=b:=by
 unfold DQ;refine⟨(ns.drop (BC (ns.map V.int).length 0 (some 1))).take (BC (ns.map V.int).length (ns.map V.int).length (some (1+(b:Int)))-BC (ns.map V.int).length 0 (some 1)),by rw[OW,OX],?_⟩;have e1:=SQ (ns.map V.int).length 0 1;have e2:=SQ (ns.map V.int).length (ns.map V.int).length (1+b);rw[show(some (((1+b:Nat)):Int))=some (1+(b:Int)) by rw[Int.natCast_add];rfl] at e2;rw[Bl,EC,e2,show(some (1:Int))=some ((1:Nat):Int) from rfl,e1]
 lia
theorem RK(hK:X.K=K):DH X (.type "list") (fun xs H Q=>∃p ys,xs=[.ref p]/\(AJ K H p ys\/AV K H p ys)/\∀l,H l=none->Q (.ref l) (upd H l (.lst ys))):=by subst hK;exact cK
theorem S8:∀l:List Tx,Dt.Cs (l.map DT)=3*l.length
 |[]=>rfl
 |t::l=>by
  rw[Av,CP];have:=S8 l;show(DT t).sz+Dt.Cs (l.map DT)=_;rw[this];have:(DT t).sz=3:=rfl
  lia
def au(K:tN):Sp:=fun vs H Q _=>∃(a:Ya)(ns:List Int)(k:Nat),vs=[.ref a,.int k]/\AJ K H a (ns.map V.int)/\Q (.int (ns.getD k 0)) H
theorem qJ{a b:Str}:Ae H [.str a,.str b] [.str a,.str b]:=Ae.snoc (Ae.snoc Ae.nil (.str _)) (.str _)
theorem UY{a b c:Str}:Ae H [.str a,.str b,.str c] [.str a,.str b,.str c]:=Ae.snoc qJ (.str _)
theorem gX{tp:Ya}{xs:List V}{ds:List Am}(d:Am){dds:List Dt}{es:List V}(hL:H1 L=some (.lst xs))(rs:Ae (Ex H1 L) (ds.map Am.dt) xs)(ht:H1 tp=none)(ed:d.dt=.tup dds)(re:∀H,Ae H dds es):
 ∃H2,upd (upd H1 tp (.tup es)) L (.lst (xs++[.ref tp]))=H2/\H2 L=some (.lst (xs++[.ref tp]))/\Ae (Ex H2 L) ((ds++[d]).map Am.dt) (xs++[.ref tp])/\∀G,AO G H1->G L=none->AO G H2:=by
 refine⟨_,rfl,AN,?_,fun G s h=>(s.trans (Aa ht)).upd h⟩;rw[Ex.upd,BS];refine(rs.same (Ex.mono (Aa ht))).snoc ?_;rw[ed];exact Rep.Km (Ex.at AN (A2 hL ht).symm) (re _)
theorem Wn{t l:Ya}{xs:List V}{ds:List Am}(d:Am){dds:List Dt}{es:List V}(rs:Ae H (ds.map Am.dt) xs)(ht:H t=none)(hl:(upd H t (.tup es)) l=none)(hf:(upd (upd H t (.tup es)) l (.lst [.ref t])) f=none)(ed:d.dt=.tup dds)(re:∀H,Ae H dds es):
 ∃H',upd (upd (upd H t (.tup es)) l (.lst [.ref t])) f (.lst (xs++[.ref t]))=H'/\AO H H'/\H' f=some (.lst (xs++[.ref t]))/\Ae H' ((ds++[d]).map Am.dt) (xs++[.ref t]):=by
 have s1:=Aa (o:=.tup es) ht;have s2:=Aa (o:=.lst [.ref t]) hl;have s3:=Aa (o:=.lst (xs++[.ref t])) hf;refine⟨_,rfl,s1.trans (s2.trans s3),AN,?_⟩;rw[BS];refine(rs.same (s1.trans (s2.trans s3))).snoc ?_;rw[ed];exact Rep.Km ((s2.trans s3) _ _ AN) (re _)
theorem gA(zs:List V)(k:Nat)(h:k<=zs.length):DQ zs (some (k:Int)) none=zs.drop k:=by unfold DQ;rw[SQ,iM,K1 h];exact Fi (by rw[EC];lia)
theorem ic{ds:List Am}{d e:Am}{zs:List V}(t:Told [] (ds++[d]++[e]) H zs)(hz:zs.length=(ds++[d]++[e]).length){x y:Dt}(hx:(Dx (CS [] ds) d).QV=some x)(hy:(Dx (CS [] (ds++[d])) e).QV=some y):
 Ae H [x,y] (zs.drop ds.length):=by
 rw[A7,A7,DD,DD] at hz;have e1:zs.drop ds.length=[zs[ds.length]'(by lia),zs[ds.length+1]'(by lia)]:=by rw[Kv (by lia),Kv (by lia),Kw (by lia)]
 rw[e1];refine Ae.snoc (Ae.snoc Ae.nil ?_) ?_
 ·refine t ds.length d _ _ ?_ (Aq _) ?_
  ·rw[Bb,Cv (Ab _),ER];rfl
  ·rw[Bb,List.take_left];exact hx
 ·refine t (ds.length+1) e _ _ ?_ (Aq _) ?_
  ·have l1:(ds++[d]).length=ds.length+1:=by rw[A7,DD]
   rw[<-l1,Cv (Ab _),ER];rfl
  ·have l1:(ds++[d]).length=ds.length+1:=by rw[A7,DD]
   rw[<-l1,List.take_left];exact hy
noncomputable def KQ(x:Tx):List Key:=[.inr x.1,.inr x.2]
theorem kT(nd:(AD.map (·.1)).Nodup):((CF AD).map KQ).Pairwise fun x y=>DU y x=false:=by unfold CF;rw[BV];have h1:=O7 Ew (keys AD);have h2:(Ih (keys AD)).Nodup:=(I9 Ew (keys AD)).nodup_iff.mpr nd;refine OI.mpr ((h1.and h2).imp fun{a b} z=>?_);show(if(Sum.inr b:Key)=Sum.inr a then _ else EM (.inr b) (.inr a))=false;rw[AF fun e=>z.2 (Sum.inr.inj e).symm];exact z.1
theorem TZ{x:Tx}(r:Rep H (DT x) y):∃t,y=.ref t/\H t=some (.tup [.str x.1,.str x.2]):=by obtain⟨t,xs,rfl,ht,rr⟩:=CA r;obtain⟨u,v,rfl,r1,r2⟩:=HN rr;cases r1;cases r2;exact⟨t,rfl,ht⟩
theorem Z5{H:Hp}:∀(l:List Tx)(ys:List V),Ae H (l.map DT) ys->∃ps:List (Ya×List Key),ys=ps.map (fun p=>V.ref p.1)/\ps.map (·.2)=l.map KQ/\∀p∈ps,H p.1=some (.tup (p.2.map kV))/\p.2.map kd=[kd (.inr ""),kd (.inr "")]
 |[],ys,r=>by
  cases ys with
  |nil=>exact⟨[],rfl,rfl,fun p hp=>by cases hp⟩
  |cons _ _=>have:=r.1;cases this
 |x::l,ys,r=>by
  cases ys with
  |nil=>have:=r.1;cases this
  |cons y ys=>
   obtain⟨ps,e1,e2,e3⟩:=Z5 l ys ⟨Nat.succ.inj r.1,fun i d z h1 h2=>r.2 (i+1) d z h1 h2⟩;obtain⟨t,rfl,ht⟩:=TZ (r.2 0 _ _ rfl rfl);refine⟨(t,KQ x)::ps,by rw[e1];rfl,by rw[Av,Av,e2],fun p hp=>?_⟩;rcases Ba.mp hp with e|e
   ·rw[e];exact⟨ht,rfl⟩
   ·exact e3 p e
theorem Zy{H:Hp}:∀(l:List Tx)(qs:List (Ya×List Key)),qs.map (·.2)=l.map KQ->(∀p∈qs,H p.1=some (.tup (p.2.map kV)))->Ae H (l.map DT) (qs.map fun p=>V.ref p.1)
 |[],qs,e,_=>by
  cases qs with
  |nil=>exact Ae.nil
  |cons _ _=>cases e
 |x::l,qs,e,h=>by
  cases qs with
  |nil=>cases e
  |cons q qs=>
   obtain⟨e1,e2⟩:=Gu e;have r:=Zy l qs e2 fun p hp=>h p (DE _ hp);have hq:=h q Di;rw[show q.2=KQ x from e1] at hq;refine⟨BD Nat.succ r.1,fun i d z h1 h2=>?_⟩
   cases i with
   |zero=>cases Ag h1;cases Ag h2;exact Pb hq
   |succ i=>exact r.2 i d z h1 h2
theorem Rh(d:Am)(xs:List Am):CS [] (xs++[d])=(Dx (CS [] xs) d).next (CS [] xs):=RX d xs []
theorem pe:Az ["_law_script","_law_most","_law_bound"] ["_law_script","_law_most","_law_bound"] (Ao Po):=by ac_rfl
theorem mX(F:Aj K "_law_room" "_law_room" Po f fd)(O:Own mg):AW P w K mg base Ah 1 f fd ["_law_script","_law_most","_law_bound"] (aA K):=by
 refine F.ok pe ?_ ?_
 ·rintro _ _ _ _ ⟨_,_,_,_,rfl,_⟩;rfl
 ·rintro _ A _ s H _ Q E hr ⟨a,ns,m,b,rfl,hS,hl,q⟩;refine⟨_,AU (A1 (Aw Tv (BY IW rfl O.len Dj (AE (pv 0) AI)) Ac (Ar _)) (AS (An (pv 2))) BE) (AS (An (pv 1))),?_⟩;refine⟨_,rfl,a,_,rfl,.inl hS,_,_,rfl,rfl,_,rfl,CT (by rw[AL];lia) ⟨_,rfl,q⟩⟩
theorem oZ:Az ["_law_script","_law_k"] ["_law_script","_law_k"] (Ao QU):=by ac_rfl
theorem nO(F:Aj K "_law_at" "_law_at" QU f fd)(O:Own mg):AW P w K mg base Ah 1 f fd ["_law_script","_law_k"] (au K):=by
 refine F.ok oZ ?_ ?_
 ·rintro _ _ _ _ ⟨_,_,_,rfl,_⟩;rfl
 ·rintro _ A _ s H _ Q E hr ⟨a,ns,k,rfl,hS,q⟩;refine⟨_,AU (A1 (Aw JQ (pv 1) (BY IW rfl O.len Dj (AE (pv 0) AI)) (Ar _)) (AS (An (Bt X6 (pv 0) (pv 1) (fun _ _=>rfl)))) BE) (AS (An Ac)),?_⟩;refine⟨_,rfl,_,rfl,a,_,rfl,.inl hS,_,_,rfl,rfl,_,rfl,?_⟩;by_cases h:(k:Int)<((ns.map V.int).length:Nat)
  ·refine CG h ?_;rw[AL] at h;have hk:k<ns.length:=by lia
   refine⟨_,rfl,_,rfl,a,_,_,.int (ns.getD k 0),rfl,rfl,hS,Bw ?_,q⟩;rw[Ax,Aq hk,Ct,Aq hk];rfl
  ·refine CT h ?_;rw[AL] at h;have hk:ns.length<=k:=by lia
   rw[Ct,El hk] at q;exact q
theorem Ea:Az ["_law_script","_law_asked","_law_nook","_law_before","_law_names","_law_name","_law_later","_law_many","_law_one","_law_text","_law_words","_law_first","_law_second","_law_found"] ["_law_script"] (Ao Ln):=by ac_rfl
theorem ki{fRo fAt:Ya}{fdRo fdAt:qX}(F:Aj K "law" "law" Ln f fd)(O:Own mg)(hso:mg "sorted" =none)
 (HDe:Hv P w K mg base "_law_deeds" 3 ["_law_cells"] X2)
 (FRo:Aj K "_law_room" "_law_room" Po fRo fdRo)(bRo:Binds K fdRo ["_law_script","_law_most","_law_bound"] [])(mRo:mg "_law_room" =some (.ref fRo))
 (FAt:Aj K "_law_at" "_law_at" QU fAt fdAt)(bAt:Binds K fdAt ["_law_script","_law_k"] [])(mAt:mg "_law_at" =some (.ref fAt))
 (HAn:Hv P w K mg base "answers" 9 ["deeds"] Wk)
 (HTe:Hv P w K mg base "texts" 10 ["deeds"] Xj)
 (HPy:Hv P w K mg base "_law_played" 4 ["_law_asked"] XQ)
 (HAl:Hv P w K mg base "_law_alike" 2 ["_law_found","_law_due"] aX)
 (HTx:Hv P w K mg base "_law_texts" 4 ["_law_nook"] Wu):
 AW P w K mg base Ah 11 f fd ["_law_script"] (Ts K):=by
 have GRo:AW P w K mg base Ah 1 fRo fdRo ["_law_script","_law_most","_law_bound"] (aA K):=mX FRo O;have GAt:AW P w K mg base Ah 1 fAt fdAt ["_law_script","_law_k"] (au K):=nO FAt O;refine F.ok Ea ?_ ?_
 ·rintro _ _ _ _ ⟨_,_,rfl,_⟩;rfl
 ·rintro _ A _ s H _ Q E hr ⟨a,ns,rfl,hS,hlen,k⟩;refine⟨_,(AU (Au (i:=1) Ea.nd rfl (AZ rfl) (Ca HDe hr.mn rfl A8 (AE (Fo O2 (pv 0) (Dk Ac) (Dk (Ai DO Ac (Ck GRo hr.mn rfl mRo FRo.kp bRo .nil A8 (AE (pv 0) (AE Ac (AE Ac AI))))))) AI))) (AU (Bn (D7 D9 Fh Fg Ep (pv 1) (AE (CQ (AE AY (AE AY (AE AY AI)))) AI))) (AU (Au (i:=2) Ea.nd rfl (AZ rfl) (Ca HPy hr.mn rfl A8 (AE (pv 1) AI))) (AU (Au (i:=3) Ea.nd rfl (AZ rfl) (Ca HTx hr.mn rfl A8 (AE (pv 2) AI))) (AU (Sn (i:=4) (ts:=["_law_row"]) (cap:=[]) (ix:=[]) (J2 rfl rfl (by ac_rfl) (by ac_rfl)) Ea.nd rfl rfl (FQ (pv 3)) (fun _ _ _ _ _=>Bc (i:=0) FY rfl (AZ rfl) (Cd rfl)) (fun _ _ _ _ _=>FG) (fun _ _ _ _ _=>(A9 (pv 0)))) (AU (Au (i:=5) Ea.nd rfl (Cd rfl) (Bt Co (pv 4) (Ai CB (Ck GAt hr.mn rfl mAt FAt.kp bAt .nil A8 (AE (pv 0) (AE Ac AI))) (BY HQ rfl O.len Dj (AE (pv 4) AI))) (fun _ _=>rfl))) (AU (Au (i:=6) Ea.nd rfl (AZ rfl) (Bx AI)) (AU (Au (i:=7) Ea.nd rfl (AZ rfl) Ac) (AU (EI ED rfl (FQ (pv 3)) (Le rfl (Fn (Bc (i:=8) Ea.nd rfl (AZ rfl)) (Fn (Bc (i:=9) Ea.nd rfl (AZ rfl)) LW)))
   (AU (Au (i:=10) Ea.nd rfl (AZ rfl) (D7 Jl U8 U7 SG (pv 9) (AE AY AI))) (AU (Au (i:=7) Ea.nd rfl (AZ rfl) (Ai DO (pv 7) (D7 D9 tm tu fN (pv 10) (AE (Ai ET (Ai ET AY (pv 5)) AY) AI)))) (AU (A1 (Aw aC (Ai ET (Ai ET AY (pv 5)) AY) (pv 10) rfl)
   (AS (Sn (i:=10) (ts:=["_law_word"]) (cap:=["_law_name"]) (ix:=[5]) (Hq rfl rfl (by ac_rfl) (by ac_rfl) rfl rfl rfl rfl rfl) Ea.nd rfl rfl (FQ (pv 10)) (fun _ _ _ _ _=>Bc (i:=0) (Gi (by ac_rfl)) rfl (AZ rfl) (Cd rfl)) (fun _ _ _ _ _=>FG) (fun _ _ _ _ _=>(Bt Co (Bx (AE AY (AE (pv 0) AI))) (EE Jy rfl O.int JJ (AE (G0 Fy (pv 0) (Ai ET (Ai ET AY (pv 1)) AY) (Ar _)) AI)) (fun _ _=>rfl)))))
   BE) (AS (Bn (D7 D9 Fh Fg Ep (pv 6) (AE (CQ (AE (Bt Co (Bx (AE AY (AE (pv 8) AI))) (EE Jy rfl O.int JJ (AE (G0 Fy (pv 8) (pv 5) (Ar _)) AI)) (fun _ _=>rfl)) (AE (D7 Jl VD VC SU AY (AE (pv 10) AI)) AI))) AI)))))))) (AU (Au (i:=11) Ea.nd rfl (AZ rfl) (Ai JL (pv 1) (Bx (AE (CQ (AE AY (AE (pv 5) (AE AY AI)))) AI)))) (AU (Au (i:=12) Ea.nd rfl (AZ rfl) (Ai JL (pv 11) (Bx (AE (CQ (AE AY (AE AY (AE (pv 5) AI)))) AI)))) (AU (Au (i:=13) Ea.nd rfl (AZ rfl) (Ca HAn hr.mn rfl A8 (AE (EE (RK (K:=K) rfl) rfl O.lst Fs (AE (pv 12) AI)) AI))) (AU (A1 (PW.pt (JT (Hx (EG (BY HV rfl O.Gh GV (AE (pv 13) (AE (Ft (v:=.ty "list") rfl O.lst Fs rfl) AI))))) (JG (Hx (EG (Ca HAl hr.mn rfl A8 (AE (Fo T8 (pv 13) (Dk (BY HQ rfl O.len Dj (AE (pv 1) AI))) KG) (AE (Bx (AE (pv 7) (AE (pv 7) AI))) AI))))))))
   (AS (An Ia))
   BE) (AU (A1 (Hx (EG (Ca HAl hr.mn rfl A8 (AE (Ca HTe hr.mn rfl A8 (AE (EE (RK (K:=K) rfl) rfl O.lst Fs (AE (pv 11) AI)) AI)) (AE (BY Ra rfl hso LC (AE (pv 6) AI)) AI)))))
   (AS (An Ia))
   BE) (AS (An (Ca HAl hr.mn rfl A8 (AE (Ca HTe hr.mn rfl A8 (AE (EE (RK (K:=K) rfl) rfl O.lst Fs (AE (pv 12) AI)) AI)) (AE (pv 3) AI))))))))))))))))))),?_⟩;obtain⟨ms,em,hml⟩:=jQ ns 32;refine⟨_,rfl,_,rfl,_,rfl,a,ns,32,100,rfl,hS,hlen,_,_,rfl,rfl,_,rfl,a,_,rfl,hS,fun p hp=>?_⟩;refine⟨p,ms,rfl,AJ.of (by rw[AN];exact BD (fun z=>some (HO.lst z)) em),by lia,fun L ds0 xs0 H1 s1 hLn hL0 rs0 hdl good0=>?_⟩;have hSp:AJ K (upd H p (.lst (DQ (ns.map V.int) (some 1) (some (1+32))))) a (ns.map V.int):=(Aa hp).seq hS;generalize upd H p (.lst (DQ (ns.map V.int) (some 1) (some (1+32))))=Hp0 at s1 hLn hSp;have xl0:xs0.length=ds0.length:=by have:=rs0.1;rw[AL] at this;lia
  refine⟨_,rfl,.inl ⟨rfl,_,AJ.of hL0⟩,by show 3<=sizeLine;decide,fun t1 ht1=>⟨L,xs0,_,rfl,rfl,(Aa ht1) _ _ hL0,by rw[A3];lia,?_⟩⟩;obtain⟨H3,e,hL,rs,s3⟩:=gX (.write "b" "oak [b] [quince]") hL0 rs0 ht1 rfl fun _=>UY;rw[e];have s3:=s3 _ s1 hLn;have goodQ:∀d∈ds0++[Am.write "b" "oak [b] [quince]"],d.Good/\d.Kp:=fun d hd=>by
   rcases Bh.mp hd with e|e
   ·exact good0 d e
   ·rw[Bg.mp e];exact⟨⟨by ac_rfl,by ac_rfl⟩,by ac_rfl,by ac_rfl⟩
  have hd33:(ds0++[Am.write "b" "oak [b] [quince]"]).length<=33:=by rw[A7,DD];lia
  have hne:CS [] (ds0++[Am.write "b" "oak [b] [quince]"])≠[]:=fun z=>by rw[Rh] at z;have z2:AX (CS [] ds0) "b" (EJ "oak [b] [quince]")=[]:=z;have:=Cu (k:=("b" :Str)) (j:="b") (v:=EJ "oak [b] [quince]") (CS [] ds0);rw[z2,AH rfl] at this;cases this
  generalize ds0++[Am.write "b" "oak [b] [quince]"]=ds at rs goodQ hd33 hne;generalize xs0++[V.ref t1]=xs at hL rs;have good:∀d∈ds,d.Good:=fun d hd=>(goodQ d hd).1;have rsL:Ae H3 (ds.map Am.dt) xs:=rs.same Ex.sub;have xl:xs.length=ds.length:=by have:=rsL.1;rw[AL] at this;lia
  clear rs0 rs hL0 good0;refine⟨_,rfl,_,ds,rfl,Rep.Fc hL rsL,good,by lia,fun an H4 nk=>?_⟩;obtain⟨bd,ev⟩:=Ry ds F4 bL good;have ev':vw (Ey F4 ds)=CS [] ds:=ev;have sz:=NM ds 0 [] Pe good;have szv:=sz;rw[<-ev'] at szv;obtain⟨fit,nl,tl⟩:=fits_of bd szv (by lia);have s4:AO H3 H4:=let⟨_,_,_,nk⟩:=nk;nk.same;have hst:=sz.BH;have nd:=sz.nd;have pi:DK (CS [] ds):=Y5 ds (fun p hp=>by cases hp) fun d hd=>(goodQ d hd).2;have pl:=sz.len;have k40:∀k∈keys (CS [] ds),k.length<=40:=fun k hk=>by rw[<-ev'] at hk;have hk:k∈(vw (Ey F4 ds)).map (·.1):=hk;rw[Dv] at hk;obtain⟨p,hp,rfl⟩:=BI.mp hk;exact bd.nm p hp
  refine⟨_,rfl,an,H3,Ey F4 ds,rfl,nk,fit,bd,by lia,by rw[ev'];lia,fun u H5 s5 ru=>?_⟩;rw[ev'] at ru;have t5:AO H3 H5:=s4.trans s5;have hS5:=(s3.trans t5).seq hSp;have hL5:=t5 _ _ hL;have rs5:=rsL.same t5;generalize epg:CS [] ds=AD at*;clear rsL nk s4 s5 hL szv fit bd ev ev' nl tl s1 s3 hSp hLn t5;obtain⟨lb,bs,rfl,hlb,rb⟩:=Et ru;have hpl:0<AD.length:=by
   cases AD with
   |nil=>exact absurd rfl hne
   |cons _ _=>exact Nat.succ_pos _
  have txl:(CF AD).length=AD.length:=by unfold CF keys;rw[AL,(I9 Ew _).length_eq,AL]
  have bl:bs.length=AD.length:=by have:=rb.1;rw[AL] at this;lia
  refine⟨_,rfl,lb,rfl,⟨_,AJ.of hlb⟩,fun D1 hD1=>Fm (K:=[]) (xs:=bs) (fun i H'=>CI H5 D1 ((((CF AD).take i).map (·.1)).map Dt.str) H') (CI.start hD1) (fun i H' _ c=>AJ.of (c.same _ _ hlb)) (fun i y H' ey c=>?_) fun H6 c=>?_⟩
  ·obtain⟨r,er,rry⟩:=Hr rb ey;obtain⟨tp,rfl,htp⟩:=TZ rry;rw[Gs er,BS];refine⟨E3,_,rfl,tp,_,0,.str r.1,rfl,rfl,AV.of (c.same _ _ htp),rfl,c.push (d:=.str r.1) (.str _) ?_⟩;rw[AL,AL];have:=F8 i (CF AD)
   lia
  rw[bl,<-txl,Cj] at c;obtain⟨ys,hy,ry⟩:=c.lst;obtain rfl:=Jx ry;have s6:=c.same;clear c ry;have yl:(((CF AD).map (·.1)).map V.str).length=AD.length:=by rw[AL,AL,txl]
  obtain⟨v,hv,ev⟩:=Fu (((CF AD).map (·.1)).map V.str) _ rfl (by lia) (ns.getD 0 0);obtain⟨nm,hnm,rfl⟩:=BI.mp hv;have hxk:nm∈keys AD:=by obtain⟨m,hm,e⟩:=BI.mp hnm;obtain⟨q,hq,e2⟩:=BI.mp hm;rw[<-e,<-e2];exact(I9 Ew (keys AD)).mem_iff.mp hq
  obtain⟨w0,hw0⟩:=Mr hxk;have hnq:=(IZ pi hw0).1;have nml:=k40 _ hxk;refine⟨_,rfl,_,rfl,a,ns,0,rfl,s6.seq hS5,_,rfl,D1,_,rfl,.inl (AJ.of hy),_,_,rfl,rfl,(by lia),D1,_,_,.str nm,rfl,rfl,AJ.of hy,ev,?_⟩;clear hv hnm ev k40;refine⟨by show 0<=sizeLine;decide,fun tl htl=>?_⟩;have hlb6:=s6 _ _ hlb;have rb6:=rb.same s6;have hL6:=s6 _ _ hL5;have rs6:=rs5.same s6;have ln1:("[" :Str).length+nm.length<=sizeLine:=by
   rw[A3,show("[" :Str).length=1 by ac_rfl]
   lia
  have ln2:("[" ++nm:Str).length+("]" :Str).length<=sizeLine:=by
   rw[Hu,A3,show("[" :Str).length=1 by ac_rfl,show("]" :Str).length=1 by ac_rfl]
   lia
  refine⟨_,rfl,lb,rfl,⟨_,AJ.of ((Aa htl) _ _ hlb6)⟩,JA (K:=[]) (a:=lb) (xs:=bs) (fun j σ H'=>∃v8 v9 v10:Option V,σ=[some (.ref a),some (.ref L),some (.ref an),some (.ref lb),some (.ref D1),some (.str nm),some (.ref tl),some (.int (((CF AD).take j).map (cW nm)).sum),v8,v9,v10,none,none,none]/\CI H6 tl ((((CF AD).take j).map (g5 nm "quill")).map DT) H')
   ⟨_,_,_,rfl,CI.start htl⟩ (fun j σ H' _ ⟨_,_,_,_,c⟩=>AJ.of (c.same _ _ hlb6)) ?_ ?_⟩
  ·rintro j y σ H' ey ⟨v8,v9,v10,rfl,c⟩;obtain⟨r,er,rry⟩:=Hr rb6 ey;obtain⟨tp,rfl,htp⟩:=TZ rry;have hr1:r∈AD.map tt:=(O9 nd).mem_iff.mp (CK er);obtain⟨pg,hpg,rfl⟩:=BI.mp hr1;have hwq:=(pi pg hpg).2;have hws:wsum pg.2<=4000000:=by have:=J9 hpg;lia
   have htx:(By pg.2).length<=4000000:=BF (O3 (by ac_rfl) pg.2) hws;refine⟨tp,_,rfl,AV.of (c.same _ _ htp),rfl,_,_,rfl,_,_,rfl,rfl,?_⟩;refine⟨_,rfl,rfl,By pg.2,_,rfl,rfl,by ac_rfl,by rw[A3];lia,fun D0 hD0=>?_⟩;have c2:=c.ext (Aa (o:=.lst ((Txt.split (By pg.2) " ").map V.str)) hD0);have h0:(upd H' D0 (.lst ((Txt.split (By pg.2) " ").map V.str))) D0=some (.lst ((Txt.split (By pg.2) " ").map V.str)):=AN;generalize upd H' D0 (.lst ((Txt.split (By pg.2) " ").map V.str))=H7 at c2 h0;refine⟨_,rfl,_,rfl,.inl ⟨rfl,_,AJ.of h0⟩,_,rfl,_,_,rfl,rfl,ln1,_,_,rfl,rfl,ln2,D0,_,_,rfl,rfl,h0,_,_,rfl,rfl,?_⟩;have es:(((CF AD).take j).map (cW nm)).sum+(((Txt.split (By pg.2) " ").countP fun y=>decide (y="[" ++nm++ "]"):Nat):Int)=(((CF AD).take (j+1)).map (cW nm)).sum:=by rw[Gs er,List.sum_append,List.sum_singleton];rfl
   dsimp only[Dy];rw[es];have ef:(((CF AD).take (j+1)).map (g5 nm "quill")).map DT=(((CF AD).take j).map (g5 nm "quill")).map DT++[DT (g5 nm "quill" (tt pg))]:=by rw[Gs er,BS];rfl
   refine Mv (fun σ H8=>∃Dw:Ya,σ=[some (.ref a),some (.ref L),some (.ref an),some (.ref lb),some (.ref D1),some (.str nm),some (.ref tl),some (.int (((CF AD).take (j+1)).map (cW nm)).sum),some (.str pg.1),some (.str (By pg.2)),some (.ref Dw),none,none,none]/\H8 Dw=some (.lst (((Txt.split (By pg.2) " ").map (gW nm "quill")).map V.str))/\CI H6 tl ((((CF AD).take j).map (g5 nm "quill")).map DT) H8) ?_ ?_
   ·rintro σ H8 ⟨Dw,rfl,hDw,c⟩;obtain⟨g1,g2⟩:=kr (m:="quill") hwq hnq.1 (by ac_rfl) hws;obtain⟨z0,hz0,_⟩:=c.lst;have en:Fe [V.str "quill",V.str pg.1] (if(!decide (V.str pg.1=V.str nm))=true then 1 else 0)=some (.str (if pg.1=nm then "quill" else pg.1)):=by
     by_cases z:pg.1=nm
     ·rw[AH z,BZ (BD V.str z)];rfl
     ·rw[AF z,BJ fun q=>z (V.str.inj q)];rfl
    refine⟨_,rfl,.inl ⟨rfl,_,AJ.of hz0⟩,_,rfl,by show 2<=sizeLine;decide,fun l2 hl2=>⟨_,rfl,_,rfl,rfl,.inr ⟨_,rfl,l2,_,_,.str (if pg.1=nm then "quill" else pg.1),rfl,rfl,AJ.of AN,en,rfl,_,rfl," ",Dw,_,rfl,rfl,AJ.of ((Aa hl2) _ _ hDw),g1,g2,by show 2<=sizeLine;decide,fun tn htn=>?_⟩⟩⟩;have c6:=(c.ext (Aa hl2)).ext (Aa (o:=.tup [.str (if pg.1=nm then "quill" else pg.1),.str (II " " ((Txt.split (By pg.2) " ").map (gW nm "quill")))]) htn);have nt:tn≠tl:=(A2 ((Aa hl2) _ _ hz0) htn).symm;obtain⟨z6,hz6,hlz,c7⟩:=YU c6 (d:=DT (g5 nm "quill" (tt pg))) (y:=.ref tn) (Pb (x:=g5 nm "quill" (tt pg)) (Ex.at AN nt)) (by
     rw[AL,AL];have:=F8 j (CF AD)
     lia);rw[<-ef] at c7;exact⟨tl,z6,_,rfl,rfl,hz6,hlz,_,_,_,rfl,c7⟩
   ·intro hG;have fl:((Txt.split (By pg.2) " ").map V.str).all IC=true:=by rw[List.all_map];exact Jr.mpr fun _ _=>rfl
    refine⟨_,rfl,_,_,rfl,rfl,ln1,_,_,rfl,rfl,ln2,_,rfl,D0,_,rfl,.inl (AJ.of h0),rfl,fl,_,rfl,FR (fun _=>?_) (fun hin=>?_)⟩
    ·refine⟨_,rfl,D0,rfl,⟨_,AJ.of h0⟩,fun Dw hDw=>Fm (K:=[]) (xs:=(Txt.split (By pg.2) " ").map V.str) (fun i H'=>CI H7 Dw ((((Txt.split (By pg.2) " ").take i).map (gW nm "quill")).map Dt.str) H') (CI.start hDw) (fun i H' _ c=>AJ.of (c.same _ _ h0)) (fun i y H9 ey cw=>?_) fun H8 cw=>?_⟩
     ·rw[Ax] at ey
      cases ez:(Txt.split (By pg.2) " ")[i]?with
      |none=>rw[ez] at ey;cases ey
      |some z=>
      rw[ez] at ey;obtain rfl:V.str z=y:=Ag ey;have en:Fe [V.str "[quill]",V.str z] (if(!decide (V.str z=V.str ("[" ++nm++ "]")))=true then 1 else 0)=some (.str (gW nm "quill" z)):=by
       unfold gW;by_cases q:z="[" ++nm++ "]"
       ·rw[AH q,BZ (BD V.str q),show("[" ++ "quill" ++ "]" :Str)="[quill]" by ac_rfl];rfl
       ·rw[AF q,BJ fun y=>q (V.str.inj y)];rfl
      rw[Gs ez,BS];refine⟨E3,_,rfl,by show 2<=sizeLine;decide,fun l2 hl2=>⟨_,rfl,_,rfl,_,_,rfl,rfl,ln1,_,_,rfl,rfl,ln2,rfl,.inr ⟨_,rfl,l2,_,_,.str (gW nm "quill" z),rfl,rfl,AJ.of AN,en,YU (cw.ext (Aa hl2)) (d:=.str (gW nm "quill" z)) (.str _) ?_⟩⟩⟩;rw[AL,AL];have h1:=F8 i (Txt.split (By pg.2) " ");have h2:=split_le (By pg.2) " "
      lia
     ·rw[AL,Cj] at cw;obtain⟨yw,hyw,ryw⟩:=cw.lst;exact hG _ _ ⟨Dw,rfl,by rw[hyw,Jx ryw],c2.ext cw.same⟩
    ·refine hG _ _ ⟨D0,rfl,?_,c2⟩;rw[h0];refine BD (fun z:List Str=>some (HO.lst (z.map V.str))) (((Jv _).symm.trans (DF fun z hz=>?_)));have hq:z≠ "[" ++nm++ "]" :=fun q=>hin (Jq.mpr ⟨V.str z,List.mem_map_of_mem hz,by rw[q];exact IP _⟩);exact(AF hq).symm
  ·rintro σ H' ⟨v8,v9,v10,eσ,c⟩;have emany:(((CF AD).take bs.length).map (cW nm)).sum=cnt AD nm:=by rw[bl,<-txl,Cj];exact jm nd pi hnq.1
   rw[emany] at eσ;subst eσ;rw[bl,<-txl,Cj] at c;obtain⟨zl,hzl,rzl⟩:=c.lst;have rzl:=rzl.same Ex.sub;have sC:=c.same;clear c;have hLA:=sC _ _ hL6;have rsA:=rs6.same sC;have hlbA:=sC _ _ hlb6;have rbA:=rb6.same sC;clear hlb rb hlb6 rb6 hy hL5 rs5 hL6 rs6 ru s6 sC hD1 htl hS5;refine⟨_,rfl,_,rfl,by show 3<=sizeLine;decide,fun a1 ha1=>⟨by show 1<=sizeLine;decide,fun b1 hb1=>⟨L,b1,_,_,rfl,rfl,(Aa hb1) _ _ ((Aa ha1) _ _ hLA),AN,by rw[A3];show xs.length+1<=_;lia,fun f1 hf1=>?_⟩⟩⟩;obtain⟨H7,e,sF,hF,rF⟩:=Wn (.rename nm "quill") rsA ha1 hb1 hf1 rfl fun _=>UY;rw[e];refine⟨_,rfl,_,rfl,by show 3<=sizeLine;decide,fun a2 ha2=>⟨by show 1<=sizeLine;decide,fun b2 hb2=>⟨f1,b2,_,_,rfl,rfl,(Aa hb2) _ _ ((Aa ha2) _ _ hF),AN,by rw[A3,A7];show xs.length+1+1<=_;lia,fun f2 hf2=>?_⟩⟩⟩;obtain⟨H8,e,sG,hG,rG⟩:=Wn (.rename "quill" nm) rF ha2 hb2 hf2 rfl fun _=>UY;rw[e];have q40:("quill" :Str).length<=40:=by ac_rfl
   have good1:∀d∈ds++[Am.rename nm "quill"],d.Good:=fun d hd=>by
    rcases Bh.mp hd with e|e
    ·exact good d e
    ·rw[Bg.mp e];exact⟨nml,q40⟩
   have good2:∀d∈ds++[Am.rename nm "quill"]++[Am.rename "quill" nm],d.Good:=fun d hd=>by
    rcases Bh.mp hd with e|e
    ·exact good1 d e
    ·rw[Bg.mp e];exact⟨q40,nml⟩
   have l1:(ds++[Am.rename nm "quill"]).length=ds.length+1:=by rw[A7,DD]
   have l2:(ds++[Am.rename nm "quill"]++[Am.rename "quill" nm]).length=ds.length+2:=by rw[A7,l1,DD]
   have fr:=mh pi (m:="quill") (by ac_rfl);have d1:Dx AD (.rename nm "quill")=.ok (.int (cnt (L2.renamed AD nm "quill" w0) "quill")) (L2.renamed AD nm "quill" w0):=by show EU AD nm "quill" =_;unfold EU;rw[hw0];dsimp only;rw[AH (by ac_rfl),Td fr]
   have p1:CS [] (ds++[Am.rename nm "quill"])=L2.renamed AD nm "quill" w0:=by rw[Rh,epg,d1];rfl
   have FY:((L2.renamed AD nm "quill" w0).map (·.1)).Nodup:=by
    have:=(NM (ds++[Am.rename nm "quill"]) 0 [] Pe good1).nd
    rwa [p1] at this
   obtain⟨ec,w1,hw1,hn1,pm2⟩:=pS nd FY fr hw0;have pmL:=dR nd FY pi hnq.1 (SD nd hw0 (Td fr));generalize L2.renamed AD nm "quill" w0=pg1 at d1 p1 FY ec hw1 hn1 pm2 pmL;rw[ec] at d1;have d2:Dx pg1 (.rename "quill" nm)=.ok (.int (cnt AD nm)) (L2.renamed pg1 "quill" nm w1):=by show EU pg1 "quill" nm=_;unfold EU;rw[hw1];dsimp only;rw[AH hnq.1,hn1];dsimp only;rw[Wm pm2]
   have p2:CS [] (ds++[Am.rename nm "quill"]++[Am.rename "quill" nm])=L2.renamed pg1 "quill" nm w1:=by rw[Rh,p1,d2];rfl
   have et2:CF (L2.renamed pg1 "quill" nm w1)=CF AD:=(i5 nd pm2.symm).symm;refine⟨_,rfl,f2,_,rfl,.inl (AJ.of hG),fun c1 hc1=>?_⟩;have s9:=Aa (o:=.lst (xs++[.ref a1]++[.ref a2])) hc1;have rc1:Rep (upd H8 c1 (.lst (xs++[.ref a1]++[.ref a2]))) (.lst ((ds++[Am.rename nm "quill"]++[Am.rename "quill" nm]).map Am.dt)) (.ref c1):=Rep.Fc AN (rG.same s9);generalize upd H8 c1 (.lst (xs++[.ref a1]++[.ref a2]))=H9 at s9 rc1;refine⟨_,_,rfl,rc1,good2,by lia,R7 good2 (by lia),fun HA lf zs sA hlf zl2 told=>?_⟩;have t8:AO H8 HA:=s9.trans sA;have t7:AO H7 HA:=sG.trans t8;have t6:AO H' HA:=sF.trans t7;refine⟨_,rfl,.ref lf,"list",.type "list",true,rfl,(fun _=>Bj.lst hlf),(fun _=>Ht _),_,rfl,BK ?_⟩;refine⟨_,rfl,_,rfl,L,_,rfl,.inl (AJ.of (t6 _ _ hLA)),_,rfl,lf,_,rfl,AJ.of hlf,fun sl hsl=>⟨_,rfl,_,rfl,by show 2<=sizeLine;decide,fun ml hml2=>?_⟩⟩;have sS:=Aa (o:=.lst (DQ zs (some (xs.length:Int)) none)) hsl;have sM:=Aa (o:=.lst [V.int (cnt AD nm),V.int (cnt AD nm)]) hml2;have rz:=(ic told zl2 (x:=.int (cnt AD nm)) (y:=.int (cnt AD nm)) (by rw[epg,d1];rfl) (by rw[p1,d2];rfl)).same (sS.trans sM);refine⟨_,_,_,rfl,Rep.Fc (sM _ _ (by rw[AN,gA _ _ (by lia),xl])) rz,Rep.Fc AN (Ae.snoc (Ae.snoc Ae.nil (.int _)) (.int _)),by show 1+(1+(1+0))<=1000000;decide,fun HC sC=>⟨_,rfl,BK ?_⟩⟩;have tC:AO HA HC:=sS.trans (sM.trans sC);have hFC:=tC _ _ (t7 _ _ hF);have hGC:=tC _ _ (t8 _ _ hG);have rFC:=(rF.same t7).same tC;have rGC:=(rG.same t8).same tC;have hzC:=tC _ _ (t6 _ _ hzl);have rzC:=(rzl.same t6).same tC;have hlC:=tC _ _ (t6 _ _ hlbA);have rbC:=(rbA.same t6).same tC;clear hLA rsA hlbA rbA hzl rzl sF hF rF sG hG rG s9 rc1 sA hlf told t8 t7 t6 rz sS sM sC tC hsl hml2;refine⟨_,rfl,f1,_,rfl,.inl (AJ.of hFC),fun c3 hc3=>?_⟩;have s3':=Aa (o:=.lst (xs++[.ref a1])) hc3;refine⟨_,_,rfl,Rep.Fc AN (rFC.same s3'),good1,by lia,R7 good1 (by lia),fun HE ue sE rue=>?_⟩;rw[p1] at rue;have tE:AO HC HE:=s3'.trans sE;obtain⟨ps,e1,e2,e3⟩:=Z5 _ _ (rzC.same tE);have hcq':HE tl=some (.lst (ps.map fun p=>V.ref p.1)):=by rw[tE _ _ hzC,e1]
   have pln:=BD List.length e2;rw[AL,AL,AL,txl] at pln;refine⟨_,rfl,tl,ps,[kd (.inr ""),kd (.inr "")],rfl,AJ.of hcq',(by intro z;cases z),e3,by lia,fun DS qs hDS hpq hsq=>?_⟩;have eqs:qs.map (·.2)=(CF pg1).map KQ:=RW lexOrd _ _ ((hpq.map _).trans ((List.Perm.of_eq e2).trans (pmL.map KQ).symm)) (OI.mpr hsq) (kT FY);have sS:=Aa (o:=.lst (qs.map fun p=>V.ref p.1)) hDS;have lpg:=pmL.length_eq;rw[AL,txl] at lpg;refine⟨_,_,_,rfl,rue.same sS,Rep.Fc AN (Zy _ _ eqs fun p hp=>sS _ _ (e3 p (hpq.mem_iff.mp hp)).1),?_,fun HI sI=>⟨_,rfl,BK ?_⟩⟩
   ·show 1+Dt.Cs _<=_;rw[S8]
    lia
   have tI:AO HC HI:=tE.trans (sS.trans sI);refine⟨_,rfl,f2,_,rfl,.inl (AJ.of (tI _ _ hGC)),fun c4 hc4=>?_⟩;have s4':=Aa (o:=.lst (xs++[.ref a1]++[.ref a2])) hc4;refine⟨_,_,rfl,Rep.Fc AN ((rGC.same tI).same s4'),good2,by lia,R7 good2 (by lia),fun HG ug sG rug=>?_⟩;rw[p2,et2] at rug;refine⟨_,rfl,_,_,_,rfl,rug,Rep.Fc (sG _ _ (s4' _ _ (tI _ _ hlC))) (((rbC.same tI).same s4').same sG),?_,fun HJ sJ=>k HJ⟩;show 1+Dt.Cs _<=_;rw[S8]
   lia
section
variable{N R:Ya}{nm q:Str}{bs:List AB}{hd ab:Bool}{sn:List Str}{sub:List AB}{col:Option Bool}{k0 k1 k2 k3 k5:Option AB}
theorem NW:Ic [.type "Exception",.type "BaseException",.type "object"]:=⟨by ac_rfl,by ac_rfl,by ac_rfl,by ac_rfl⟩
theorem oW:Ic [.ref R,.type "Exception",.type "BaseException",.type "object"]:=⟨IA NW.exc rfl,IA NW.base rfl,IA NW.Jc rfl,IA NW.bu rfl⟩
theorem k6(x:K.lookup R=some (rM nm q R N bs bm hd sn sub ab col dd k0 k1 k2 k3 k5 "Exception.__new__"))(y:bm=[.type "Exception",.type "BaseException",.type "object"]):UP K R:=
 ⟨bm,N,fun _ X=>⟨_,_,_,_,_,_,_,_,_,_,_,_,_,_,X _ _ x⟩,by rw[y];exact NW⟩
theorem Xm(x:K.lookup C=some (rM nm q C N bs bm hd sn sub ab col dd k0 k1 k2 k3 k5 "Exception.__new__"))(y:bm=[.ref R,.type "Exception",.type "BaseException",.type "object"])
 (e1:rJ K C=true)(e2:qb K (.ref C) "answer" =some none)(e3:qb K (.ref C) "__setattr__" =some (some (.builtin "object.__setattr__")))(e4:qb K (.ref C) "__getattribute__" =some (some (.builtin "BaseException.__getattribute__")))(e5:qb K (.ref C) "__getattr__" =some none):DY K C "answer" :=by
 refine⟨e1,e2,e3,e4,e5,?_⟩;unfold clsIn;rw[x];subst y;refine⟨_,[.ref C,.ref R],rfl,rfl,fun c hc=>?_⟩;rcases Ba.mp hc with e|e
 ·exact⟨_,e⟩
 ·exact⟨_,Bg.mp e⟩
theorem n9(m:mg x=some (.ref C))(xl:K.lookup C=some (rM nm q C N bs bm hd sn sub ab col dd k0 k1 k2 k3 k5 "Exception.__new__"))(y:bm=[.ref R,.type "Exception",.type "BaseException",.type "object"])
 (ei:qb K (.ref C) "__init__" =some (some (.ref f)))(en:isFn K (.ref f)=true)(ek:qo K (.ref C)=true)(xa:DY K C "answer")
 (F:AW P w K mg base Ah 2 f fd ["self"] (Fv C "answer" msg))(b:Binds K fd ["self"] []):Rz P w K mg base R x msg:=by
 subst y;exact⟨C,f,fd,_,m,⟨⟨N,fun _ X=>⟨_,_,_,_,_,_,_,_,_,_,_,_,_,_,X _ _ xl⟩⟩,ei,oW,en,ek⟩,F,b,⟨_,N,fun _ X=>⟨_,_,_,_,_,_,_,_,_,_,_,_,_,_,X _ _ xl⟩,by rw[Qp,Qp,IP,Bool.true_or,Bool.or_true]⟩,xa⟩
end
def Nf(K:tN):List (Str×hX)->Prop
 |[]=>True
 |(x,st)::r=>(∃f fd,tO K g0 x=some (some (.ref f))/\Aj K x x st f fd)/\Nf K r
def ae(K:tN)(mg:Str->Option AB):List (Str×hX)->Prop
 |[]=>True
 |(x,st)::r=>(∃f fd,mg x=some (.ref f)/\Aj K x x st f fd)/\ae K mg r
def UR(K:tN)(C:Ya):List (Str×Str×hX)->Prop
 |[]=>True
 |(x,q,st)::r=>(∃f fd,Meth K C x f/\Aj K x q st f fd)/\UR K C r
def UQ(K:tN)(R:Ya):List (Str×Str×hX)->Prop
 |[]=>True
 |(x,q,st)::r=>(∃C f fd,tO K g0 x=some (some (.ref C))/\DY K C "answer" /\Aj K "__init__" q st f fd/\
  ∀(P:qV)(w:qa)(mg:Str->Option AB)(base:qY)(msg:Str),mg x=some (.ref C)->AW P w K mg base Ah 2 f fd ["self"] (Fv C "answer" msg)->Binds K fd ["self"] []->Rz P w K mg base R x msg)/\UQ K R r
def QE(K:tN):List Str->Prop
 |[]=>True
 |x::r=>tO K g0 x=some none/\QE K r
section
variable{st:hX}{R N:Ya}{oc kV doc pm cdv ct:AB}{an:Option Ya}
theorem S3(X:K.In h)(G:h.Ns g0 mg):∀{L:List (Str×hX)},Nf K L->ae K mg L
 |[],_=>Cw
 |_::_,⟨⟨f,fd,a,F⟩,t⟩=>⟨⟨f,fd,IU X G a,F⟩,S3 X G t⟩
theorem Xs(X:K.In h)(G:h.Ns g0 mg):∀{L:List Str},QE K L->∀x∈L,mg x=none
 |_::_,⟨a,_⟩,_,.head _=>mg_none_of X G a
 |_::_,⟨_,t⟩,_,.tail _ e=>Xs X G t _ e
local macro_rules| `(tactic|trivial)=> `(tactic|(
 intro _ _ _ _ _ _;first
  |exact all1 (fun _=>rfl)
  |exact all2 (fun _ _=>rfl)
  |exact pJ (fun _ _ _=>rfl)
  |exact oe rfl
  |exact pU (fun _ _ _ _=>rfl)))
theorem hv{st:hX}(F:Aj K x x st f fd)(G:AW P w K mg base Ah k f fd ps sp)(m:mg x=some (.ref f))
 (h:∀(kV doc pm:AB)(an:Option Ya)(cdv ct:AB)(us:List AB),us.length=ps.length->bindArgs (fnOf x x (JC st) (Fq st) (Ao st) .none kV doc pm an cdv ct) ⟨us,[]⟩=pure (ps.zip us):=by trivial):Hv P w K mg base x k ps sp:=⟨⟨_,_,G,F.binds h,m,F.kp⟩⟩
set_option maxRecDepth 10000 in
theorem all_mk{l:PySem.W.OpenLaw}{fa fRi NR:Ya}{nm qq:Str}{bs sub:List AB}{hd ab:Bool}{sn:List Str}{col:Option Bool}{k0 k1 k2 k3 k5:Option AB}(X:K.In h)(G:h.Ns g0 mg)(hfa:mg "law" =some (.ref fa))
 (aR:tO K g0 "Refusal" =some (some (.ref cR)))(xR:K.lookup cR=some (rM nm qq cR NR bs bm hd sn sub ab col dd k0 k1 k2 k3 k5 "Exception.__new__"))(yR:bm=[.type "Exception",.type "BaseException",.type "object"])
 (rdR:readsIn K cR (.type "type")=true)(fiR:findCls K (.ref cR) (.type "type") "__init__" =some (.val (.ref fRi)))(spR:sP K (.ref cR) "__getattribute__" =some (some (.builtin "type.__getattribute__")))
 (lRi:K.lookup fRi=some ⟨oc,od,.func (fnOf "__init__" "Refusal.__init__" (JC Jt) (Fq Jt) (Ao Jt) .none kV doc pm an cdv ct),osl⟩)(cRi:codeIn K cdv "Refusal.__init__" =true)(kRi:qo K (.ref fRi)=true)
 (E:UQ K cR (Us.map fun z=>(z.1,z.2.1,z.2.2.1)))
 (aN:tO K g0 "Nook" =some (some (.ref cN)))(pgN:r9 K cN Str.empty=true)(hdN:rJ K cN=true)(poN:plainOver K cN=true)(saN:qb K (.ref cN) "__setattr__" =some (some (.builtin "object.__setattr__")))(mkN:makesIn K cN=true)(kcN:qo K (.ref cN)=true)(npN:qb K (.ref cN) "pages" =some none)
 (M:UR K cN Uk)
 (T:Nf K Uo)(T2:Nf K UI)
 (Z:QE K ["isinstance","list","tuple","str","int","bool","len","range","sum","sorted","set","enumerate","all","min"]):
 ∃fd:qX,(∀(s:Yf)(v:AB),sg s fd ⟨[v],[]⟩ [("_law_script",v)])/\∀base:qY,K.In base->base.Ns g0 mg->AW l.prog w K mg base Ah 11 fa fd ["_law_script"] (Ts K):=by
 have FRi:=lX (st:=Jt) lRi cRi kRi;obtain⟨⟨_,_,mL,FL⟩,⟨_,_,mPI,FPI⟩,⟨_,_,mSH,FSH⟩,⟨_,_,mCP,FCP⟩,⟨_,_,mPP,FPP⟩,⟨_,_,mPO,FPO⟩,⟨_,_,mPN,FPN⟩,⟨_,_,mIN,FIN⟩,⟨_,_,mRW,FRW⟩,⟨_,_,mSU,FSU⟩,⟨_,_,mTW,FTW⟩,⟨_,_,mTT,FTT⟩,⟨_,_,mPT,FPT⟩,⟨_,_,mDD,FDD⟩,⟨_,_,mAD,FAD⟩,⟨_,_,mAA,FAA⟩,⟨_,_,mNB,FNB⟩,⟨_,_,mAN,FAN⟩,⟨_,_,mTE,FTE⟩,⟨_,_,msRoom,FsRoom⟩,-⟩:=S3 X G T;obtain⟨⟨_,_,msDraw,FsDraw⟩,⟨_,_,msWhole,FsWhole⟩,⟨_,_,msAl,FsAl⟩,⟨_,_,msOdd,FsOdd⟩,⟨_,_,msPenned,FsPenned⟩,⟨_,_,msSought,FsSought⟩,⟨_,_,msDeeds,FsDeeds⟩,⟨_,_,msIsName,FsIsName⟩,⟨_,_,msBegun,FsBegun⟩,⟨_,_,msNamed,FsNamed⟩,⟨_,_,msAdded,FsAdded⟩,⟨_,_,msLed,FsLed⟩,⟨_,_,msTurned,FsTurned⟩,⟨_,_,msPennedIn,FsPennedIn⟩,⟨_,_,msNameOf,FsNameOf⟩,⟨_,_,msShown,FsShown⟩,⟨_,_,msBarred,FsBarred⟩,⟨_,_,msJoined,FsJoined⟩,⟨_,_,msChanged,FsChanged⟩,⟨_,_,msPlayed,FsPlayed⟩,⟨_,_,msAt,FsAt⟩,⟨_,_,msTextOf,FsTextOf⟩,⟨_,_,msTexts,FsTexts⟩,-⟩:=S3 X G T2;obtain⟨⟨_,_,a1,FM1⟩,⟨_,_,a2,FM2⟩,⟨_,_,a3,FM3⟩,⟨_,_,a4,FM4⟩,⟨_,_,a5,FM5⟩,⟨_,_,a6,FM6⟩,⟨_,_,a7,FM7⟩,⟨_,_,a8,FM8⟩,⟨_,_,a9,FM9⟩,⟨_,_,a10,FM10⟩,⟨_,_,a11,FM11⟩,⟨_,_,a12,FM12⟩,⟨_,_,a14,FM14⟩,-⟩:=M;obtain⟨⟨_,_,_,aE1,xa1,FE1,rE1⟩,⟨_,_,_,aE2,xa2,FE2,rE2⟩,⟨_,_,_,aE3,xa3,FE3,rE3⟩,⟨_,_,_,aE4,xa4,FE4,rE4⟩,⟨_,_,_,aE5,xa5,FE5,rE5⟩,⟨_,_,_,aE6,xa6,FE6,rE6⟩,-⟩:=E;cases hfa.symm.trans mL;have n:=Xs X G Z;have nlen:=n "len" (by simp);have nsorted:=n "sorted" (by simp);obtain⟨oc,od,kV,doc,pm,an,cdv,ct,osl,rfl,lk,hcd⟩:=FL.ex;refine⟨fnOf "law" "law" (JC Ln) (Fq Ln) (Ao Ln) .none kV doc pm an cdv ct,fun s v=>.of_eq rfl,fun base _ _=>?_⟩;have O:Own mg:=⟨(n "isinstance" (by simp)),(n "list" (by simp)),(n "tuple" (by simp)),(n "str" (by simp)),(n "int" (by simp)),(n "bool" (by simp)),nlen,(n "range" (by simp))⟩;have OP:HW mg:=⟨(n "sum" (by simp)),nsorted,(n "set" (by simp)),nlen,(n "enumerate" (by simp)),(n "list" (by simp)),(n "all" (by simp)),(n "min" (by simp))⟩;have U:Ii K mg cR fRi:=⟨IU X G aR,rdR,fiR,spR,kRi,k6 xR yR⟩;have GR:AW l.prog w K mg base Ah 1 fRi _ ["self","answer"] (Ib K):=k7 FRi;have R1:=rE1 l.prog w mg base "no page" (IU X G aE1) (e9 FE1 U GR (FRi.binds (by trivial)) xa1) (FE1.binds (by trivial));have R2:=rE2 l.prog w mg base "no name" (IU X G aE2) (eB FE2 U GR (FRi.binds (by trivial)) xa2) (FE2.binds (by trivial));have R3:=rE3 l.prog w mg base "same page" (IU X G aE3) (cg FE3 U GR (FRi.binds (by trivial)) xa3) (FE3.binds (by trivial));have R4:=rE4 l.prog w mg base "taken" (IU X G aE4) (gC FE4 U GR (FRi.binds (by trivial)) xa4) (FE4.binds (by trivial));have R5:=rE5 l.prog w mg base "no place" (IU X G aE5) (dI FE5 U GR (FRi.binds (by trivial)) xa5) (FE5.binds (by trivial));have R6:=rE6 l.prog w mg base "no words" (IU X G aE6) (dZ FE6 U GR (FRi.binds (by trivial)) xa6) (FE6.binds (by trivial));have C:Eh K cN:=⟨⟨pgN,hdN,poN,saN⟩,npN⟩;have M:L0 l.prog w K mg base cN cR:=⟨⟨_,_,a2,jy FM2 C R1,(FM2.binds (by trivial))⟩,⟨_,_,a3,iy FM3 C R2 R4 FIN (FIN.binds (by trivial)) mIN OP,(FM3.binds (by trivial))⟩,⟨_,_,a4,iE FM4 C OP FPT (FPT.binds (by trivial)) mPT,(FM4.binds (by trivial))⟩,⟨_,_,mCP,FCP.kp,kh FCP OP,(FCP.binds (by trivial))⟩⟩;have GSH:=nW FSH (hv FPI (nr (P:=l.prog) (w:=w) (base:=base) FPI (n "enumerate" (by simp)) nsorted) mPI) nlen (n "min" (by simp));have GPN:=i4 FPN OP (hv FPO (lP FPO OP) mPO) (hv FSH GSH mSH);have MD:bh l.prog w K mg base cN cR:=⟨⟨_,_,a5,iF FM5 C OP R2 FIN (FIN.binds (by trivial)) mIN (hv FSU (mf FSU (hv FRW (nB FRW FIN (FIN.binds (by trivial)) mIN (n "all" (by simp))) mRW)) mSU),(FM5.binds (by trivial))⟩,⟨_,_,a6,eN FM6 C M,(FM6.binds (by trivial))⟩,⟨_,_,a7,jX FM7 C M R3,(FM7.binds (by trivial))⟩,⟨_,_,a8,mB FM8 C M R5 OP,(FM8.binds (by trivial))⟩,⟨_,_,a9,jJ FM9 C M,(FM9.binds (by trivial))⟩,⟨_,_,a10,Yc FM10 C M (hv FTT (Zr FTT FTW (FTW.binds (by trivial)) mTW) mTT),(FM10.binds (by trivial))⟩,⟨_,_,a11,j3 FM11 C (hv FPP (kJ FPP OP) mPP),(FM11.binds (by trivial))⟩,⟨_,_,a12,(jb FM12 C R6 OP (hv FPN GPN mPN)).mono (by decide),(FM12.binds (by trivial))⟩⟩;have GAA:=kU FAA (hv FAD (kY FAD U (nS FDD C MD) (FDD.binds (by trivial)) mDD FDD.kp) mAD);have GNB:=eW FNB ⟨mkN,a1.at_,a1.fn,kcN⟩ (W4 FM1 C) (FM1.binds (by trivial)) (IU X G aN) (hv FAA GAA mAA);have GAN:=ck FAN ⟨mkN,a1.at_,a1.fn,kcN⟩ (W4 FM1 C) (FM1.binds (by trivial)) (IU X G aN) (hv FAA GAA mAA);have GDe:=iZ (P:=l.prog) (w:=w) (base:=base) FsDeeds O (hv FsPenned (eV FsPenned O FsDraw (FsDraw.binds (by trivial)) msDraw FsOdd (FsOdd.binds (by trivial)) msOdd) msPenned) FsSought (FsSought.binds (by trivial)) msSought;have GAl:=mY (P:=l.prog) (w:=w) (base:=base) FsAl O FsWhole (FsWhole.binds (by trivial)) msWhole;have GAd:=iW (P:=l.prog) (w:=w) (base:=base) FsAdded O FsNamed (FsNamed.binds (by trivial)) msNamed;have GPi:=cZ (P:=l.prog) (w:=w) (base:=base) FsPennedIn FsIsName (FsIsName.binds (by trivial)) msIsName;have GJo:=fY (P:=l.prog) (w:=w) (base:=base) FsJoined O FsTurned (FsTurned.binds (by trivial)) msTurned FsLed (FsLed.binds (by trivial)) msLed;have GSw:=ig (P:=l.prog) (w:=w) (base:=base) FsShown O FsNameOf (FsNameOf.binds (by trivial)) msNameOf;have GBa:=d8 (P:=l.prog) (w:=w) (base:=base) FsBarred O FsIsName (FsIsName.binds (by trivial)) msIsName;have GCh:=dF FsChanged O (hv FsAdded GAd msAdded) (hv FsPennedIn GPi msPennedIn) FsNamed (FsNamed.binds (by trivial)) msNamed FsLed (FsLed.binds (by trivial)) msLed (hv FsJoined GJo msJoined) FsTurned (FsTurned.binds (by trivial)) msTurned;have GPy:=fL FsPlayed FsBegun (FsBegun.binds (by trivial)) msBegun (hv FsBarred GBa msBarred) (hv FsChanged GCh msChanged);have GTe:=eA FTE C (hv FNB GNB mNB) a14 (jr FM14 C OP a10 (Yc FM10 C M (hv FTT (Zr FTT FTW (FTW.binds (by trivial)) mTW) mTT)) (FM10.binds (by trivial))) (FM14.binds (by trivial));have GTo:=lN FsTextOf (hv FsShown GSw msShown);have GTx:=dr FsTexts O nsorted (hv FsTextOf GTo msTextOf);exact ki FL O nsorted (hv FsDeeds GDe msDeeds) FsRoom (FsRoom.binds (by trivial)) msRoom FsAt (FsAt.binds (by trivial)) msAt (hv FAN GAN mAN) (hv FTE GTe mTE) (hv FsPlayed GPy msPlayed) (hv FsAl GAl msAl) (hv FsTexts GTx msTexts)
end
theorem Tz{v:Option (Option AB)}(h:Nx v=true):v=some (some (.ref (hRf v))):=by
 unfold Nx at h;split at h
 ·rfl
 ·cases h
section
variable{q:Str}{st:hX}
theorem P9(e:Ly K f q=Lu x q st):(∃fd,Aj K x q st f fd)/\isFn K (.ref f)=true:=by
 unfold Ly at e;split at e
 ·rename_i oc od d osl h;obtain⟨a1,a2,a3,a4,a5,a6,a7,a8,a9,a10,a11,a12,a13,a14,a15⟩:=d;simp only[Lu,Option.some.injEq,K6,Du] at e;obtain⟨rfl,rfl,rfl,rfl,rfl,rfl,rfl,rfl,rfl,⟨c,k⟩,i⟩:=e;exact⟨⟨_,⟨_,_,_,_,_,_,_,_,_,rfl,h,c⟩,k⟩,i⟩
 ·cases e
theorem aI(e:QR K C=QN C bm):∃(nm qq:Str)(N:Ya)(bs:List AB)(hd:Bool)(sn:List Str)(sub:List AB)(ab:Bool)(col:Option Bool)(dd:Option Ya)(k0 k1 k2 k3 k5:Option AB),
 K.lookup C=some (rM nm qq C N bs bm hd sn sub ab col dd k0 k1 k2 k3 k5 "Exception.__new__"):=by
 unfold QR at e;split at e
 ·rename_i c od d sl h;obtain⟨a1,a2,a3,a4,a5,a6,a7,a8,a9,a10,a11⟩:=d;obtain⟨sl⟩:=sl;simp only[QN,Option.some.injEq,K6] at e;obtain⟨rfl,rfl,rfl,e⟩:=e;split at e
  ·cases Ag e;exact⟨_,_,_,_,_,_,_,_,_,_,_,_,_,_,_,h⟩
  ·cases e
 ·cases e
end
section
variable{R:Ya}
theorem aq:∀{L:List (Str×Str×hX×Ya)},bX K L=bA R L->UQ K R (L.map fun z=>(z.1,z.2.1,z.2.2.1))
 |[],_=>Cw
 |(x,q,st,C)::L,e=>by obtain⟨e,r⟩:=Gu e;simp only[bg,bQ,K6] at e;obtain⟨a,z,e1,e2,e3,e4,e5,e6,i,g⟩:=e;obtain⟨_,_,_,_,_,_,_,_,_,_,_,_,_,_,_,z⟩:=aI z;obtain⟨⟨fd,F⟩,i'⟩:=P9 g;exact⟨⟨C,_,fd,a,Xm z rfl e1 e2 e3 e4 e5,F,fun _ _ _ _ _ m G B=>n9 m z rfl (Tz i) i' e6 (Xm z rfl e1 e2 e3 e4 e5) G B⟩,aq r⟩
theorem aO:∀{L:List (Str×Str×hX)},bK K C L=bq L->UR K C L
 |[],_=>Cw
 |(x,q,st)::L,e=>by obtain⟨e,r⟩:=Gu e;obtain⟨i,g⟩:=LD e;obtain⟨⟨fd,F⟩,i'⟩:=P9 g;exact⟨⟨_,fd,⟨Tz i,i',F.kp⟩,F⟩,aO r⟩
theorem UO:∀{L:List (Str×hX)},Ud K L=Uu L->Nf K L
 |[],_=>Cw
 |(x,st)::L,e=>by obtain⟨e,r⟩:=Gu e;obtain⟨i,g⟩:=LD e;obtain⟨⟨fd,F⟩,i'⟩:=P9 g;exact⟨⟨_,fd,Tz i,F⟩,UO r⟩
theorem aH:∀{L:List Str},L.map (tO K g0)=L.map (fun _=>some none)->QE K L
 |[],_=>Cw
 |_::_,e=>⟨(Gu e).1,aH (Gu e).2⟩
end
section
open PySem.W
theorem qR{l:OpenLaw}{n:Nat}{q:qV}{loose:List Str}{d:DefRec}{sp:Frag->Sp}
 (hn:l.most=some n)(hn2:n<=sizeLine)(hdf:d.params.defaults=[])(hr:Bi k sD)
 (F:∀(w:qa)(mg:Str->Option AB)(fa:Ya)(h:qY)(K:Frag),Kb K=Kc->K.In h->h.Ns g0 mg->mg d.name=some (.ref fa)->
  ∃fd:qX,(∀(s:Yf)(u:AB),sg s fd ⟨[u],[]⟩ [(x,u)])/\∀base:qY,K.In base->base.Ns g0 mg->AW l.prog w K mg base CX k fa fd [x] (sp K))
 (hsp:∀(K:Frag)(H:Hp)(a:Ya)(ns:List Int),ns.length<=n->UM H->AJ K H a (ns.map V.int)->sp K [.ref a] H (fun v _=>v=.bl true) fun _ _ _=>False)
 (hCX:∀(H:Hp)(s:Yf)(e:AB)(s':Yf),CX [] H s (fun _ _ _=>False) e s'->False):
 WalkO q loose XP UZ l.row.toRowW d [] (fun f vs=>PySem.call f vs):=by
 refine cf hn hdf fun w s₀ s₁ mg mb fa o pm cd doc a vs ns G Y ho hd hcd hmg hobj hints hlen hg=>?_;obtain⟨K,KX,g⟩:=Y;obtain⟨fd,hb,hF⟩:=F w mg fa _ K g KX G.T.g hmg;exact iK KX G.T.g G.T.b G.T.builtins G.T.nolimit hg hobj hints (BF hlen hn2) hr hF hb (fun H hO hS=>hsp K H a ns hlen hO hS) fun H e s'=>hCX H s₁ e s'
theorem qT{K:Frag}{l:OpenLaw}{fa:Ya}(g:Kb K=Kc)(X:K.In h)(G:h.Ns g0 mg)(hfa:mg "law" =some (.ref fa)):
 ∃fd:qX,(∀(s:Yf)(v:AB),sg s fd ⟨[v],[]⟩ [("_law_script",v)])/\∀base:qY,K.In base->base.Ns g0 mg->AW l.prog w K mg base Ah 11 fa fd ["_law_script"] (Ts K):=by
 simp only[Kb,Kc,K6] at g;obtain⟨r,e,n,m,t,t2,z⟩:=g;simp only[bH,bx,K6] at r;obtain⟨aR,xR,rd,sp,fi⟩:=r;obtain⟨_,_,_,_,_,_,_,_,_,_,_,_,_,_,_,xR⟩:=aI xR;split at fi;case h_2=>cases fi
 rename_i f hfi;obtain⟨⟨_,⟨oc,od,kV,doc,pm,an,cdv,ct,osl,rfl,l,c⟩,k⟩,_⟩:=P9 fi;simp only[bJ,bU,K6,Du] at n;obtain⟨aN,⟨⟨⟨⟨n1,n2⟩,n3⟩,n4⟩,n5⟩,sa,np⟩:=n;exact all_mk X G hfa aR xR rfl rd hfi sp l c k (aq e) aN n1 n2 n3 sa n4 n5 np (aO m) (UO t) (UO t2) (aH z)
end
end L2
end
open PySem PySem.W PyProof.Rows
theorem PySem.Challenge.cw_pagenook_k05_whole_renamed_holds : PySem.Challenge.rw_pagenook_k05_whole_renamed.Holds := by
 exact L2.qS fun d hn hd=>L2.qR (l:=PySem.Challenge.rw_pagenook_k05_whole_renamed) (n:=63) (k:=11) (x:="_law_script") (CX:=L2.Ah) (sp:=L2.Ts) rfl (by decide) hd ⟨rfl,by decide,by decide⟩ (fun _ _ _ _ _ g X G m=>L2.qT g X G (hn▸m)) (fun _ _ a ns hl _ hS=>⟨a,ns,rfl,hS,hl,fun _=>rfl⟩) fun _ _ _ _ z=>z
