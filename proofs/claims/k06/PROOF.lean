import PyProof.Rows.All
import Wide.All
import OpenK.AllK
import Wide.FinOn
import Lean
import PyProof.EqAt
import PyProof.EqKinds
import PyProof.TupleCall
import PyProof.ExcAttrAll.Exception
import PyProof.InstStoreFacts
import PyProof.Rows.SetFrom
import PyProof.SetKind
import KE.KSetInts
import KE.KSortTup
import KE.KDictList
import PySem.Challenge.RW_pagenook_k06_whole_cut_and_joined
set_option Elab.async false
set_option linter.all false
set_option maxRecDepth 100000
set_option maxHeartbeats 0
open Array renaming length_toList→En,getElem?_toList→GB,toList_append→GF,getD_eq_getD_getElem?→Gu,toList_inj→J0,perm_iff_toList_perm→MP,toList_push→Md,toList_reverse→VQ,toList_extract→VR
open Bool renaming false_ne_true→CZ,false_eq_true→DU,and_eq_true→D6,and_false→LB,true_eq_false→MZ,false_and→Mq,eq_iff_iff→Of,not_true→RY,false_or→RZ
open Int renaming toNat_natCast→Ho,emod_lt_of_pos→MY,emod_nonneg→Mn
open List renaming length_map→AK,getElem?_eq_getElem→Ap,length_append→Au,map_cons→Ay,getElem?_map→A0,map_append→A8,mem_map→BP,getElem?_eq_some_iff→BZ,append_assoc→Bb,length_take→Bc,mem_cons→Be,map_map→Bf,mem_singleton→Bj,mem_append→Bk,sum_cons→Bz,mem_of_getElem?→CF,length_singleton→CK,length_cons→CS,size_toArray→Cc,getElem?_append_right→Cj,getD_eq_getElem?_getD→Cs,append_nil→Ct,take_length→Cy,getElem?_append_left→C4,length_drop→C9,find?_cons→DA,mem_cons_of_mem→DJ,take_append_drop→DQ,mem_cons_self→DR,mem_append_right→Dq,map_congr_left→EF,take_add_one→EW,getElem?_eq_none→Em,filter_cons_of_pos→Fi,take_of_length_le→Fj,getElem_mem→Fl,filter_cons_of_neg→F8,length_filter_le→F9,mem_append_left→GC,mem_of_mem_take→Gv,lookup_cons→Gw,length_take_le'→Hn,perm_append_comm→IP,mem_iff_getElem→IQ,nodup_cons→IV,mem_filter→IW,any_cons→IY,mem_of_mem_drop→I0,filter_append→I9,not_mem_nil→JC,drop_eq_getElem_cons→Jt,getElem?_drop→Jv,ext_getElem?→Jx,countP_cons→Jy,any_eq_true→Jz,map_take→J7,map_drop→J8,map_id→KC,drop_eq_nil_of_le→K4,all_eq_true→K5,length_nil→K8,take_zero→K9,mem_range→LA,all_cons→LD,map_nil→LH,find?_cons_of_pos→MR,find?_cons_of_neg→MS,pairwise_map→Mc,cons_append→Mm,nodup_nil→Mo,drop_zero→Mp,pairwise_iff_getElem→OH,getElem?_eq_none_iff→OI,getElem?_set_self→OL,getElem?_set_ne→OQ,map_eq_nil_iff→OS,pairwise_cons→OU,getElem?_take→OV,nodup_append→OZ,sum_append→Oe,drop_append_of_le_length→Qm,length_eq_zero_iff→Qo,filterMap_cons→Qw,mem_filterMap→Qz,countP_append→Q1,contains_cons→Q2,length_range→Q9,find?_append→RA,nil_append→RM,take_take→RQ,extract_eq_drop_take→U8,pairwise_singleton→VC,head_eq_of_cons_eq→VD,length_pos_of_mem→VF,getElem?_toArray→VM,getElem?_of_mem→VO,getElem?_range→VU,filter_eq_self→VW,set_cons_succ→VZ,find?_eq_none→Va
open List.Perm renaming append_left→ON,refl→Oh,append_right→VG
open List.cons renaming inj→Gy
open Nat renaming le_refl→Ad,le_trans→BF,ne_of_lt→BN,zero_le→CG,lt_of_lt_of_le→C8,sub_self→EX,ne_of_gt→Eo,le_succ→Ep,le_of_lt→Fm,min_eq_left→J1,lt_succ_self→Ml,lt_irrefl→Mr,lt_succ_of_lt→OY,le_of_not_lt→Ob,not_lt→Oz,mul_le_mul_left→Qv
open Ne renaming symm→DL
open Option renaming bind_some→Mf,map_eq_some_iff→OJ,map_some→Od
open Option.some renaming inj→Ai
open Or renaming inl→Aa,inr→Cv
open Prod.mk renaming injEq→LC,inj→LK
open PyProof.Rows renaming wpS_bind→Ak,wpS_pure→Aq,wpS_forRange→FA,wpS_get→Hz,boot_sorted→KA,wpS_modify→KD,wpS_lift→LW,split_weight→Ms,slot_tuple_getitem→U6,callWith_type1→U7
open PyProof.Rows.F renaming plain_set_update_loop→VE
open PySem renaming wpAny_bind→AL,wpAny_pure→Af,sizeLine_eq→Aw,boot_len→DB,wpAny_mono→DC,wpAny_holding→GG,strLen_append→Hs,wpAny_rule→Ht,wpAny_newObj_type→IS,codeAny_builtin→IU,mem_of_lookup→I8,wpAny_loadPart_at→JA,call_meets→JG,wpAny_field→J9,wpAny_passesOwn→K6,codeAny_mono→LG,typeIs_str→LM,wpAny_isSubtype_exc→MU,wpAny_setField_rec→MW,wpAny_Call_Name_kw→MX,wpAny_truthy_bool→Ma,wpAny_setState_of→Mb,wpAny_call→Mv,tupleKind_room_in1→OT,wpAny_call_entry→Oa,wpAny_execs_nil→Oc,wpAny_setField→Og,wpAny_standAt→Oi,plainId_quiet→Oj,call_meetsIn→Om,wpAny_getItem_str_slice→Qn,post_val_or_str→RL,wpAny_newList→RX,codeAny_call_builtin→VN
open PySem.Around renaming under_plainId→MT
open PySem.Calls renaming callWith_builtin→Qr,spliced_cons→Q3,evalArgs_plain→VP,Constant_str→Vc
open PySem.Code renaming quiet_builtin→OW
open PySem.F renaming plainAttrs_list→ED,type_list_append→Fg,slot_list_append→Fh,excBase_Exception→Iw,plainAttrs_str→Iy,called_set→Ju,plainAttrs_dict→MQ,plain_extend_loop→OG,type_str_split→Qp,slot_str_split→Qq,slot_dict_values→U9,slot_dict_items→VB,type_str_join→VI,slot_str_join→VJ,slot_dict_get→VL,args_str_split_2→Vb,slot_dict_itemiterator_iter→cL
open PySem.Heap renaming lt_size→A1,get?_push_of_some→BC,get?_push_size→By,get?_update_other→EE,size_push→Gx,get?_update_self→Iz,get?_update_ne→MV,size_after_update→OM,size_update→RH
open PySem.Heap.SameBut renaming update→VX
open PySem.Paired renaming length→JF
open PySem.PassesOwn renaming never→EG
open PySem.Txt renaming slice_le→Oo
open PySem.W renaming kia_tup→Hq,kia_one→Hr,mg_of→IX,looks_findIn→OO,callWith_K0→Qu,kitx_list→Q7,kitx_dict→Q8,methodCall_KW→VH,plainGet_of→VS,looks_clsIn→VT,callWith_K→VY
open True renaming intro→Cz
open PyProof.Rows renaming Keyed→cm,pendingOf→dA,arrOf→dq,SortSt→qk,failedOf→qz,seqObj→rA,elem'→rL,setPending→rW,envOfC→rm,AllBare→sP,reverseSlice'→sR,wpS_mono→sr,mirror→tP,get?_update_seq→tV,size_push'→tm,mergeAt'→tu,subscriptTail→uG,listUpdate_at→uH,Constant_none→uI
open PySem renaming Value→AB,Addr→Ya,Shared→Yf,model→ax,wpAny→bt,starEach→dy,mainGlobals→g0,Stmt→hX,Expr→hY,Program→ql,compareOp→qm,FuncData→qo,Heap→qp,eval→qr,World→qu,bootBuiltins→qw,attributeBase→qy,backTo→q5,cLine→rC,importedModules→rE,sysModules→rH,keywordEach→rJ,unsupported→rN,treeTable→rP,scanBound→rQ,rawInt→rR,pyNext→rS,codeAny→rT,Around→rV,sliceBounds→rY,binaryOp→rZ,letOwnedTupleGo→rg,relabel→rh,backToKw→rq,excClassObj→r9,Keyword→sO,GenState→sW,holding→sX,assignEach→sY,valueAt→sd,tupleKind→sf,swapsWith→sg,getMethod→sj,getItem→sk,PlainAttrs→sq,wpAny_typeOf→tD,callerA→tG,Scope→tH,plainObj_wpAny_Assign_Attribute→tK,wpAny_askSetting→tL,setFlight→tO,IsPart→tQ,subscripted→tR,wpAny_updateSeq→tS,wpAny_ite_split→tU,codeAny_of_tree→tW,standAt→tX,getAttr→tY,collect→tZ,BindsTo→tj,isSubtype_type→tw,isInstance→t9,builtinsNs→uA,atKey→uC,assign→uD,NameKind→uE,wpAny_attempt→uF
open PySem.W renaming findIn→qv,boot_heap→rK,keepIn→rM,emptyDict→rX,hasDictIn→rj,behindTheImports→sV,kitOne→sZ,instObj→si,plainGet→tF,specialIn→tN,boot_drawn→uB
open PyProof.Rows renaming boot_sum→uU
open PySem renaming Within→uM,wpAt_of_wpAny→uQ
open PySem.F renaming slot_dict_pop→uN,entry_dict_get→uO,args_dict_get_3→uP,plain_set_new→uR,slot_set_iter→uS,entry_extend_loop→uT,type_dict_values→uV,slot_list_count→uW,type_list_count→uX,type_dict_items→uY
open PySem.W renaming Frag→uJ,nsIn→uK,Looks→uL
noncomputable section
namespace L2
open PySem PySem.Spec PyProof.Rows
open PySem.W (InitBack InstAt any_some bind_fn cellsFrom_some check_slot clsIn cls_value codeIn codeRec_of emptyDict eq_bytes findCls findIn findObj findObj_own fnOf get_value handedIn handedOut_of hasDictIn hideAll hideAll_get hideAll_none hideAll_size holds_open instObj isFn keepIn ki_setAt ki_setBack kitAny kitOne kitx_bool kitx_float kitx_int kitx_none kitx_own kitx_str kitx_tuple lookIn looks_find looks_mroIn make_core makesIn makes_of methodObj method_cls method_fn mg_none_of mroIn ne_bytes of_hideAll osa_eq osa_open plainGet plainOver readsIn set_plain specialIn takerIn takesIn typeIn)
abbrev AG:=@if_neg
abbrev AH:=@if_pos
abbrev BJ:=@congrArg
abbrev BO:=@decide_eq_false
abbrev BW:=@decide_eq_true
abbrev Bs:=@if_false
abbrev CH:=@if_true
abbrev DV:=@ite_congr
abbrev FE:=@beq_iff_eq
abbrev GH:=@getElem?_pos
abbrev IT:=@of_decide_eq_true
abbrev JB:=@beq_self_eq_true
abbrev Jw:=@bne_self_eq_false
abbrev KN:=@or_false
abbrev K7:=@beq_false_of_ne
abbrev LF:=@decide_false
abbrev LJ:=@decide_true
abbrev OR:=@beq_eq_false_iff_ne
abbrev OX:=@decide_eq_true_eq
abbrev Qy:=@of_decide_eq_false
abbrev VA:=@decide_eq_false_iff_not
local macro_rules|`(tactic|left)=>`(tactic|first|decide+kernel|exact⟨rfl,rfl,rfl,by decide+kernel,rfl,by decide+kernel,by decide+kernel⟩)
noncomputable def inClass(s:hX)(j:Nat):hX:=match s with
 |.ClassDef _ _ _ body _ _ _ _ _ _ _=>body.getD j (.Pass ⟨0,0,0,0⟩)
 |_=>.Pass ⟨0,0,0,0⟩
noncomputable def JP(s:hX):Arguments:=match s with
 |.FunctionDef _ a _ _ _ _ _ _ _ _=>a
 |_=>{posonlyargs:=[],args:=[],vararg:=none,kwonlyargs:=[],kw_defaults:=[],kwarg:=none,defaults:=[]}
noncomputable def Ft(s:hX):List hX:=match s with
 |.FunctionDef _ _ b _ _ _ _ _ _ _=>b
 |_=>[]
noncomputable def Ao(s:hX):tH:=match s with
 |.FunctionDef _ _ _ _ _ _ sc _ _ _=>sc
 |_=>{kind:=.function,names:=[],isGenerator:=false,isCoroutine:=false}
noncomputable def top(i:Nat):hX:=PySem.Challenge.pw_pagenook_k06_whole_cut_and_joined.main.body.getD i (.Pass ⟨0,0,0,0⟩)
abbrev J2:hX:=inClass (top 2) 0
abbrev RV:hX:=inClass (top 3) 0
abbrev RT:hX:=inClass (top 4) 0
abbrev RJ:hX:=inClass (top 5) 0
abbrev Rg:hX:=inClass (top 6) 0
abbrev RO:hX:=inClass (top 7) 0
abbrev RN:hX:=inClass (top 8) 0
abbrev Vd:hX:=top 10
abbrev V6:hX:=top 11
abbrev RE:hX:=top 13
abbrev RG:hX:=top 14
abbrev Ov:hX:=top 15
abbrev Ra:hX:=top 16
abbrev Wf:hX:=top 18
abbrev Vr:hX:=top 19
abbrev Vv:hX:=top 20
abbrev Ou:hX:=top 21
abbrev Ri:hX:=top 22
abbrev Mu:hX:=top 24
abbrev Rh:hX:=inClass (top 25) 0
abbrev RB:hX:=inClass (top 25) 1
abbrev Qs:hX:=inClass (top 25) 2
abbrev Qt:hX:=inClass (top 25) 3
abbrev Q4:hX:=inClass (top 25) 4
abbrev Qx:hX:=inClass (top 25) 5
abbrev Q6:hX:=inClass (top 25) 6
abbrev RK:hX:=inClass (top 25) 7
abbrev RD:hX:=inClass (top 25) 8
abbrev RP:hX:=inClass (top 25) 9
abbrev RC:hX:=inClass (top 25) 10
abbrev Q5:hX:=inClass (top 25) 11
abbrev RF:hX:=inClass (top 25) 12
abbrev Rr:hX:=top 27
abbrev RR:hX:=top 28
abbrev Rb:hX:=top 29
abbrev RU:hX:=top 30
abbrev R7:hX:=top 31
abbrev S2:hX:=top 32
abbrev Px:hX:=top 34
abbrev P8:hX:=top 35
abbrev Y5:hX:=top 36
abbrev QS:hX:=top 37
abbrev cH:hX:=top 38
abbrev QF:hX:=top 39
abbrev Pc:hX:=top 40
abbrev NG:hX:=top 41
abbrev Tb:hX:=top 42
abbrev NK:hX:=top 43
abbrev Pr:hX:=top 44
abbrev Nf:hX:=top 45
abbrev TJ:hX:=top 46
abbrev Nw:hX:=top 47
abbrev NJ:hX:=top 48
abbrev R8:hX:=top 49
abbrev PZ:hX:=top 50
abbrev TY:hX:=top 51
abbrev Ss:hX:=top 52
abbrev Sh:hX:=top 53
abbrev S6:hX:=top 54
abbrev SJ:hX:=top 55
abbrev S8:hX:=top 56
abbrev TZ:hX:=top 57
abbrev QQ:hX:=top 58
abbrev Lz:hX:=top 59
section
open PySem.W
noncomputable def hRf:Option (Option AB)->Ya
 |some (some (.ref a))=>a
 |_=>0
noncomputable def N9:Option (Option AB)->Bool
 |some (some (.ref _))=>true
 |_=>false
abbrev bz:=Option (Str×Str×Arguments×FuncBody×tH×Ya×List (Str×Ya)×AB×Ya×Bool)
noncomputable def ML(K:uJ)(f:Ya)(q:Str):bz:=match K.lookup f with
 |some ⟨_,_,.func d,_⟩=>some (d.name,d.qualname,d.params,d.body,d.scope,d.globals,d.closure,d.defaults,d.builtins,codeIn K d.code q&&rM K (.ref f)&&isFn K (.ref f))
 |_=>none
def MA(x q:Str)(st:hX):bz:=some (x,q,JP st,.stmts (Ft st),Ao st,g0,[],.none,uA,true)
noncomputable def Qh(K:uJ)(C:Ya):Option (AB×List AB×Bool×Option (Option AB)):=match K.lookup C with
 |some ⟨c,_,.cls d,sl⟩=>some (c,d.mro,d.hasDel,match sl.toList with|[_,_,_,_,k,_]=>some k|_=>none)
 |_=>none
noncomputable def QV(C:Ya)(bm:List AB):Option (AB×List AB×Bool×Option (Option AB)):=some (.type "type",.ref C::bm,false,some (some (.builtin "Exception.__new__")))
abbrev bK:List AB:=[.type "Exception",.type "BaseException",.type "object"]
def bL(K:uJ)(x q:Str)(C:Ya):=(uK K g0 x,Qh K C,rj K C,qv K (.ref C) "answer",qv K (.ref C) "__setattr__",qv K (.ref C) "__getattribute__",
 qv K (.ref C) "__getattr__",rM K (.ref C),N9 (qv K (.ref C) "__init__"),ML K (hRf (qv K (.ref C) "__init__")) q)
def bj(q:Str)(st:hX)(R C:Ya):=(some (some (Value.ref C)),QV C (.ref R::bK),true,(some none:Option (Option AB)),some (some (Value.builtin "object.__setattr__")),some (some (Value.builtin "BaseException.__getattribute__")),
 (some none:Option (Option AB)),true,true,MA "__init__" q st)
def bU(K:uJ)(L:List (Str×Str×hX×Ya)):=L.map fun z=>bL K z.1 z.2.1 z.2.2.2
def bX(R:Ya)(L:List (Str×Str×hX×Ya)):=L.map fun z=>bj z.2.1 z.2.2.1 R z.2.2.2
def bN(K:uJ)(C:Ya)(L:List (Str×Str×hX)):=L.map fun z=>(N9 (qv K (.ref C) z.1),ML K (hRf (qv K (.ref C) z.1)) z.2.1)
def bG(L:List (Str×Str×hX)):=L.map fun z=>(true,MA z.1 z.2.1 z.2.2)
def Ud(K:uJ)(L:List (Str×hX)):=L.map fun z=>(N9 (uK K g0 z.1),ML K (hRf (uK K g0 z.1)) z.1)
def Um(L:List (Str×hX)):=L.map fun z=>(true,MA z.1 z.1 z.2)
def ba(K:uJ)(R:Ya):=(uK K g0 "Refusal",Qh K R,readsIn K R (.type "type"),tN K (.ref R) "__getattribute__",
 (match findCls K (.ref R) (.type "type") "__init__" with|some (.val (.ref f))=>ML K f "Refusal.__init__" |_=>none))
def bZ(st:hX)(R:Ya):=(some (some (Value.ref R)),QV R bK,true,some (some (Value.builtin "type.__getattribute__")),MA "__init__" "Refusal.__init__" st)
noncomputable def bh(K:uJ)(C:Ya):=(uK K g0 "Nook",tF K C Str.empty&&rj K C&&plainOver K C&&makesIn K C&&rM K (.ref C),qv K (.ref C) "__setattr__",qv K (.ref C) "pages")
noncomputable def cF(C:Ya):=(some (some (Value.ref C)),true,some (some (Value.builtin "object.__setattr__")),(some none:Option (Option AB)))
noncomputable def P6(h:qp):uJ:=(List.range h.objs.size).filterMap fun a=>(h.get? a).map fun o=>(a,o)
def U0:List (Str×Str×hX×Ya):=[("NoPage","NoPage.__init__",RV,58),("NoName","NoName.__init__",RT,77),("SamePage","SamePage.__init__",RJ,96),("Taken","Taken.__init__",Rg,115),("NoPlace","NoPlace.__init__",RO,134),("NoWords","NoWords.__init__",RN,153)]
def Uv:List (Str×Str×hX):=[("__init__","Nook.__init__",Rh),("need_page","Nook.need_page",RB),("need_free_name","Nook.need_free_name",Qs),("point_all_on","Nook.point_all_on",Qt),("write_page","Nook.write_page",Q4),("rename_page","Nook.rename_page",Qx),("join_pages","Nook.join_pages",Q6),("cut_page","Nook.cut_page",RK),("drop_page","Nook.drop_page",RD),("text_of","Nook.text_of",RP),("back_from","Nook.back_from",RC),("find_pages","Nook.find_pages",Q5),("all_texts","Nook.all_texts",RF)]
def U4:List (Str×hX):=[("law",Lz),("places_in_order",Vd),("shortest",V6),("count_pointers",RE),("pages_pointing",RG),("places_of",Ov),("pages_near",Ra),("is_name",Wf),("read_word",Vr),("split_up",Vv),("tell_word",Ou),("tell_text",Ri),("point_on",Mu),("do_deed",Rr),("answer_deed",RR),("answer_all",Rb),("nook_behind",RU),("answers",R7),("texts",S2),("_law_room",Px)]
def US:List (Str×hX):=[("_law_draw",P8),("_law_whole",Y5),("_law_alike",cH),("_law_odd_word",QF),("_law_penned",Pc),("_law_sought",NG),("_law_deeds",Tb),("_law_is_name",NK),("_law_begun",Pr),("_law_named",Nf),("_law_added",TJ),("_law_led",Nw),("_law_turned",NJ),("_law_penned_in",R8),("_law_name_of",PZ),("_law_shown",TY),("_law_barred",Sh),("_law_joined",S6),("_law_changed",SJ),("_law_played",S8),("_law_at",QS),("_law_text_of",Ss),("_law_texts",TZ),("_law_put",QQ)]
noncomputable def bx:List Str:=["isinstance","list","tuple","str","int","bool","len","range","sum","sorted","set","enumerate","all","min"]
def Kh(K:Frag):=(ba K 38,bU K U0,bh K 327,bN K 327 Uv,Ud K U4,Ud K US,bx.map (nsIn K g0))
def Kp:=(bZ J2 38,bX 38 U0,cF 327,bG Uv,Um U4,Um US,bx.map fun _=>(some none:Option (Option AB)))
def Uh(_:qu)(h:qp):Prop:=∃K:Frag,K.In h/\Kh K=Kp
abbrev DH:ql:=PySem.Challenge.pw_pagenook_k06_whole_cut_and_joined
noncomputable def F3:ql:=view DH ((List.range 60).filter fun i=> !([1,9,12,17,23,26,33]:List Nat).contains i)
noncomputable def hZ:Pos:=⟨0,0,0,0⟩
noncomputable def Lx:Env:={scope:=DH.main.scope,locals:=mainNs,globals:=mainNs,cells:=[],code:=.ref 13,frame:=some 14}
def hC:Code:=.body (sV DH) Lx
noncomputable def hO(cls:AB)(d:Data)(sl:Array (Option AB)):Obj:={cls:=cls,data:=d,slots:=sl}
noncomputable def oa(P:Params):BT:=
 let n (o:Obj):=BT.node o .nil .nil
 .node (boot_o_0 P) (.node (boot_o_1 P) (.node (boot_o_3 P) (n (boot_o_7 P)) (n (hO (.type "tuple") (.seq #[] 0) #[]))) (.node (boot_o_5 P) (n (boot_o_9 P))
  (n (hO (.type "code") (.fields #[.str "<module>" 182,.str "<module>" 183,.str "/claim/cut.py" 184,.int 1 0,.int 0 0,.int 0 0,.int 0 0,.int 0 0,.ref 11,.bool false,.int 181 0,.ref 12,.none,.none,.none,.none,.int 185 0,.int 1 0,.str "/claim/cut.py" 186]) #[]))))
  (.node (boot_o_2 P) (.node (boot_o_4 P) (n (boot_o_8 P)) (n (hO .none (.fields #[]) #[]))) (.node (boot_o_6 P) (n (boot_o_10 P)) (n (hO (.type "frame") .plain #[some (.ref 13),some (.ref 3),some (.ref 3),none,some (.str "__main__" 164),none,some (.ref 0)]))))
noncomputable def hS(w:qu)(os:OsState):SharedT:=⟨oa w.params,15,(rK w.params).life,#[],uB,187,os⟩
noncomputable def Iq(w:qu)(os:OsState):Option (Flow×SharedT×Code×Pos):=Fast.tw10110043849684766642 Fast.tw14364793385576792824 DH w 11 (some (.ref 6)) 1 3731 (hS w os) (piecesOf (sV DH) Lx hC hZ [topFrame hZ])
def oA(w:qu):(fun os=>(Iq w os).map fun z=>(z.1,z.2.2.1,staticsOk (rE DH.main.body) (rK w.params) z.2.1.abs.heap&&namesBound DH z.2.1.abs.heap&&gensDone z.2.1.abs&&laidKept (rK w.params) z.2.1.abs.heap))=fun _=>some (Flow.next,hC,true):=by kernel_rfl
def mj(w:qu):(fun os=>(Iq w os).map fun z=>Fast.tw4187177175401517315 F3 [] (rE DH.main.body) (fun s=>xlAt F3 [] s&&recOk [] s) true z.2.1.abs)=fun _=>some (openGood F3 []):=by kernel_rfl
def nZ(w:qu):(fun os=>(Iq w os).map fun z=>Kh (P6 z.2.1.abs.heap))=fun _=>some Kp:=by kernel_rfl
def pZ(w:qu):(fun os=>topGo rP DH w 11 (some (.ref 6)) 12 ⟨rK w.params,#[],uB,boot_toks,os⟩ (topStub DH))=fun os=>some ((hS w os).abs,⟨denote rP hC,hC,hZ,[topFrame hZ]⟩):=by kernel_rfl
def oM(w:qu):((rK w.params).isNs g0&&(#[]:Array sW).size==0,(rK w.params).objs.size,(rK w.params).nsMap g0 "__annotations__")=(true,11,some (.ref 6)):=by kernel_rfl
def nU:PySem.Challenge.rw_pagenook_k06_whole_cut_and_joined.wellSaid=true:=by left
def pC(w:qu)(os:OsState):segRunT rP DH w 11 (some (.ref 6)) 1 3731 (hS w os) (piecesOf (sV DH) Lx hC hZ [topFrame hZ])=Iq w os:=by unfold Iq;rw[<-Fast.te10110043849684766642,<-Fast.te14364793385576792824]
end
variable{w:qu}{os:OsState}
section
open PySem.W
def kJ{s:SharedT}{q:Pos}(h:Iq w os=some (.next,s,hC,q)):
 topRun rP DH w 11 (some (.ref 6)) (12+(1+(3731+2))) ⟨rK w.params,#[],uB,boot_toks,os⟩ (topStub DH)=some s.abs:=by
 refine go_top (congrFun (pZ w) os) (piece_block (s':=(hS w os).abs) (p':=hZ) (env:=Lx) (b:=sV DH) rfl ?_);have k:=piece_app (env:=Lx) (rest:=[]) (segRun_of ((pC w os).trans h)) (piece_nil (env:=Lx) (N:=2) (r:=s.abs) rfl);rw[Ct] at k;exact k
def qb:opening DH=plainProg DH.main.scope.names:=by kernel_rfl
def qO(s:Yf):fenceModules? DH s=some s:=by kernel_rfl
def qV(w:qu):∃os,fencedOpening rP DH w 7586=some ⟨rK w.params,#[],uB,boot_toks,os⟩:=by obtain⟨⟨h,gs,d,k,os⟩,e,e'⟩:=OJ.mp (boot_open qb (N:=7586) (by decide) qO w);cases e';exact⟨os,e⟩
end
variable{ann:Option AB}{s:Yf}
section
open PySem.W
def qM{p:ql}{n₀ n N:Nat}{r:Yf}{t:Thread}(h:topRun rP p w n₀ ann n s t=some r)(k:n+(N-n)=N):topRun rP p w n₀ ann N s t=some r:=
 k▸topRun_mono (N-n) n s t r h
end
variable{α β:Type}
section
open PySem.W
def bJ{o:Option α}{f:α->β}{z:α}{y:β}(e:o=some z)(r:o.map f=some y):f z=y:=by subst e;exact Ai r
def p9{p q:ql}{N n₀:Nat}{X:Yf->Bool}{Y:Yf->α}{y:α}{s₀ s₁:Yf}(e:fencedOpening rP p w N=some s₀)
 (z:(s₀.heap.isNs g0&&s₀.gens.size==0,s₀.heap.objs.size,s₀.heap.nsMap g0 "__annotations__")=(true,n₀,ann))(t:topRun rP p w n₀ ann N s₀ (topStub p)=some s₁)
 (g:(staticsOk (rE p.main.body) s₀.heap s₁.heap&&namesBound p s₁.heap&&gensDone s₁&&laidKept s₀.heap s₁.heap)=true)(r1:openSeen q [] (rE p.main.body) X true s₁=openGood q [])(r2:Y s₁=y):
 (openEnds rP p w N).map (fun s=>(openSeen q [] (rE p.main.body) X true s,Y s))=some (openGood q [],y):=by
 obtain⟨z1,z2,z3⟩:_/\_/\_:=by simpa only[LC] using z
 subst z2 z3;unfold openEnds;rw[e,Mf];unfold topFrom;rw[z1];dsimp only;rw[t,Mf,g];dsimp only;rw[Od,r1,r2]
def qf{s:SharedT}{q:Pos}(h:Iq w os=some (.next,s,hC,q)):openSeen F3 [] (rE DH.main.body) (fun s=>xlAt F3 [] s&&recOk [] s) true s.abs=openGood F3 []:=by rw[Fast.te4187177175401517315];have k:=bJ h (congrFun (mj w) os);exact k
def qc{s:SharedT}{q:Pos}(h:Iq w os=some (.next,s,hC,q)):Kh (P6 s.abs.heap)=Kp:=
 have k:=bJ h (congrFun (nZ w) os)
 k
def qR(w:qu)(os:OsState):∃s q,Iq w os=some (.next,s,hC,q)/\(staticsOk (rE DH.main.body) (rK w.params) s.abs.heap&&namesBound DH s.abs.heap&&gensDone s.abs&&laidKept (rK w.params) s.abs.heap)=true:=by obtain⟨⟨f,s,c,q⟩,er,r0⟩:=OJ.mp (congrFun (oA w) os);obtain⟨e1,e2⟩:=LK r0;obtain⟨e3,e4⟩:=LK e2;dsimp only at e1 e3;subst e1 e3;exact⟨s,q,er,e4⟩
def nY:LeftO DH F3 [] (fun s=>xlAt F3 [] s&&recOk [] s) (fun s=>Kh (P6 s.heap)) (fun _=>Kp) 7586:=fun w=>
 have⟨os,e⟩:=qV w;have⟨_,_,er,g⟩:=qR w os
 p9 e (oM w) (qM (kJ er) (by decide)) g (qf er) (qc er)
def jI(h:qp):(P6 h).In h:=by
 intro a o e;have m:∀{l:List (Ya×Obj)},l.lookup a=some o->(a,o)∈l:=by
  intro l
  induction l with
  |nil=>intro z;cases z
  |cons p l ih=>
   intro z;obtain⟨b,u⟩:=p;rw[Gw] at z
   cases hb:a==b with
   |true=>rw[hb] at z;cases z;rw[FE.mp hb];exact DR
   |false=>rw[hb] at z;exact DJ _ (ih z)
 obtain⟨b,_,q⟩:=Qz.mp (m e);obtain⟨u,hu,q⟩:=OJ.mp q;cases q;exact hu
def qj(hc:∀d:DefRec,d.name="law" ->d.params.defaults=[]->WalkO F3 [] (XL F3 []) Uh PySem.Challenge.rw_pagenook_k06_whole_cut_and_joined.row.toRowW d [] (fun f vs=>PySem.call f vs)):PySem.Challenge.rw_pagenook_k06_whole_cut_and_joined.Holds:=by
 refine holds_law nU fun said=>?_;refine holds_open (q:=F3) (loose:=[]) (Xt:=fun s=>xlAt F3 [] s&&recOk [] s) (XP:=XL F3 []) (YP:=Uh) (N:=7586) nY (fun _ s e=>⟨_,jI s.heap,e⟩) (fun _ _ _ ⟨K,k,e⟩ q=>⟨K,fun a o z=>q a o (k a o z),e⟩)
  (fun s e=>xl_of s (Bool.and_eq_true_iff.mp e).1) XL.keeps (by rfl) (by rfl) (by rfl) (fun s e=>recFacts_of (Bool.and_eq_true_iff.mp e).2) (by rfl) said (by left) ⟨rfl,rfl,rfl,rfl,rfl,by left⟩ ?hw ?hc;case hw=>w_witness2
 case hc=>exact hc _ rfl rfl
end
abbrev Key:=Sum Int Str
noncomputable def JX:Key->AB->Bool
 |.inl k,v=>Value.isInt k v
 |.inr x,v=>Value.isStrOf x v
noncomputable def pA(w:qu):Key->Int
 |.inl k=>hashInt k
 |.inr x=>hashStr w x
def GJ:∀{k:Key}{v:AB},JX k v=true->(∃i t,k=Sum.inl i/\v=Value.int i t)\/(∃x t,k=Sum.inr x/\v=Value.str x t)
 |.inl i,v,h=>by obtain⟨t,e⟩:=Value.isInt_shape (k:=i) (v:=v) h;exact .inl ⟨i,t,rfl,e⟩
 |.inr x,v,h=>by obtain⟨t,e⟩:=Value.isStrOf_shape (x:=x) (v:=v) h;exact .inr ⟨x,t,rfl,e⟩
def fH(i:Int)(t:Tok):JX (.inl i) (.int i t)=true:=by simp[JX,Value.isInt]
def fE(x:Str)(t:Tok):JX (.inr x) (.str x t)=true:=by simp[JX,Value.isStrOf]
def ZV(a b:Int):decide ((Sum.inl a:Key)=Sum.inl b)=(a==b):=by
 by_cases e:a=b
 ·subst e;simp
 ·have h:¬(Sum.inl a:Key)=Sum.inl b:=fun q=>e (Sum.inl.inj q);rw[BO h];exact(OR.mpr e).symm
def Y1(a b:Str):decide ((Sum.inr a:Key)=Sum.inr b)=decide (a=b):=by
 by_cases e:a=b
 ·subst e;simp
 ·have h:¬(Sum.inr a:Key)=Sum.inr b:=fun q=>e (Sum.inr.inj q);rw[BO h,BO e]
def k7(a:Int)(b:Str):decide ((Sum.inl a:Key)=Sum.inr b)=false:=BO (fun q=>nomatch q)
def mJ(a:Str)(b:Int):decide ((Sum.inr a:Key)=Sum.inl b)=false:=BO (fun q=>nomatch q)
def Cd(prog:ql)(w:qu):PySem.KeyKind prog w Key where
 is:=JX
 hash:=pA w
 inj:=fun v a b ha hb=>by
  rcases GJ ha with⟨i,t,rfl,rfl⟩|⟨x,t,rfl,rfl⟩
  ·rcases GJ hb with⟨j,u,rfl,e⟩|⟨y,u,rfl,e⟩
   ·injection e with e1 _;rw[e1]
   ·exact nomatch e
  ·rcases GJ hb with⟨j,u,rfl,e⟩|⟨y,u,rfl,e⟩
   ·exact nomatch e
   ·injection e with e1 _;rw[e1]
 byValue:=fun k v h=>by rcases GJ h with⟨i,t,rfl,rfl⟩|⟨x,t,rfl,rfl⟩<;>rfl
 pyHash:=fun hv h=>by
  rcases GJ hv with⟨i,t,rfl,rfl⟩|⟨x,t,rfl,rfl⟩
  ·exact wpAny_pyHash_int h
  ·exact wpAny_pyHash_str h
 eqBool:=fun hu hv h=>by
  rcases GJ hu with⟨i,t,rfl,rfl⟩|⟨x,t,rfl,rfl⟩
  ·rcases GJ hv with⟨j,u,rfl,rfl⟩|⟨y,u,rfl,rfl⟩
   ·rw[ZV] at h;exact wpAny_eqBool_int h
   ·rw[k7] at h;exact SeqAt.EqAt.int_str i t y u _ _ _ _ h
  ·rcases GJ hv with⟨j,u,rfl,rfl⟩|⟨y,u,rfl,rfl⟩
   ·rw[mJ] at h;exact SeqAt.EqAt.str_int x t j u _ _ _ _ h
   ·rw[Y1] at h;exact wpAny_eqBool_str h
 «strs»:=fun k x t v h=>by
  rcases GJ h with⟨i,u,rfl,e⟩|⟨y,u,rfl,e⟩
  ·exact nomatch e
  ·injection e with e1 _;subst e1;cases v<;>rfl
def ck(prog:ql)(w:qu)(i:Int)(t:Tok):(Cd prog w).is (.inl i) (.int i t)=true:=fH i t
def cv(prog:ql)(w:qu)(x:Str)(t:Tok):(Cd prog w).is (.inr x) (.str x t)=true:=fE x t
inductive V where
 |BB|bl (b:Bool)|int (i:Int)|str (x:Str)|F6 (b:Array UInt8)|Iu (b:UInt64)|ref (a:Ya)|ty (n:String)
 deriving DecidableEq
def RelV:V->AB->Prop
 |.BB,u=>u=Value.none
 |.bl b,u=>u=Value.bool b
 |.int i,u=>∃t,u=Value.int i t
 |.str x,u=>∃t,u=Value.str x t
 |.F6 b,u=>∃t,u=Value.bytes b t
 |.Iu b,u=>∃t,u=Value.float b t
 |.ref a,u=>u=Value.ref a
 |.ty n,u=>u=Value.type n
abbrev Vals:List V->List AB->Prop:=Paired RelV
def Vals.length{xs:List V}{us:List AB}(r:Vals xs us):xs.length=us.length:=JF r
def Vals.get:∀{xs:List V}{us:List AB}{i:Nat}{x:V},Vals xs us->xs[i]? =some x->∃u,us[i]? =some u/\RelV x u
 |_,_,_,_,.nil,e=>by simp at e
 |_,_,0,_,.cons r _,e=>by simp at e;subst e;exact⟨_,rfl,r⟩
 |_,_,i+1,x,.cons _ t,e=>by obtain⟨u,h1,h2⟩:=Vals.get (i:=i) (x:=x) t (by simpa using e);exact⟨u,by simpa using h1,h2⟩
def Vals.set{x:V}{u:AB}(r:RelV x u):∀{xs:List V}{us:List AB}(i:Nat),Vals xs us->Vals (xs.set i x) (us.set i u)
 |_,_,_,.nil=>.nil
 |_,_,0,.cons _ t=>.cons r t
 |_,_,i+1,.cons q t=>.cons q (Vals.set r i t)
def Vals.append:∀{xs ys:List V}{us ws:List AB},Vals xs us->Vals ys ws->Vals (xs++ys) (us++ws)
 |_,_,_,_,.nil,s=>s
 |_,_,_,_,.cons r t,s=>.cons r (Vals.append t s)
def Vals.take:∀{xs:List V}{us:List AB}(n:Nat),Vals xs us->Vals (xs.take n) (us.take n)
 |_,_,0,_=>.nil
 |_,_,_+1,.nil=>.nil
 |_,_,n+1,.cons r t=>.cons r (Vals.take n t)
def Vals.drop:∀{xs:List V}{us:List AB}(n:Nat),Vals xs us->Vals (xs.drop n) (us.drop n)
 |_,_,0,r=>r
 |_,_,_+1,.nil=>.nil
 |_,_,n+1,.cons _ t=>Vals.drop n t
def Dj:Option V->Option AB->Prop
 |some v,some u=>RelV v u
 |none,none=>True
 |_,_=>False
def KV{κ:Type}:List (κ×V)->List (κ×AB)->Prop:=Paired fun(p:κ×V)(q:κ×AB)=>p.1=q.1/\RelV p.2 q.2
noncomputable def kV:Key->V
 |.inl i=>.int i
 |.inr x=>.str x
inductive HO where
 |lst (xs:List V)
 |tup (xs:List V)
 |dK (AA:List (Key×V))|dT (AA:List (List Key×V))
 |set (S:Int->Bool) (n:Nat)
 |ins (C dx:Ya) (fs:List (Str×V))
 |own (x:Ya)
 |xd (fs:List (Str×V))
 |met (f x:Ya)
 |Ku (lo hi:Int)
 |BU (o:Obj) (u:HO)
 |Jr (ps:Array AB)
 |ext (φ:qp->Prop)
abbrev Hp:=Ya->Option HO
noncomputable def upd(H:Hp)(a:Ya)(o:HO):Hp:=fun b=>if b=a then some o else H b
variable{H:Hp}{a:Ya}
def AM{o:HO}:upd H a o a=some o:=by unfold upd;rw[AH rfl]
variable{b:Ya}
def AR{o:HO}(h:b≠a):upd H a o b=H b:=by unfold upd;rw[AG h]
def KO{o u:HO}:upd (upd H a o) a u=upd H a u:=by funext b;unfold upd;split<;>rfl
def Ca{o u:HO}(h:H a=some o)(h':H b=some u)(d:o≠u):a≠b:=by intro e;subst e;rw[h] at h';exact d (Ai h')
def A9{o:HO}(h:H a=some o)(h':H b=none):a≠b:=by intro e;subst e;rw[h] at h';cases h'
section
variable(P:ql)(w:qu)
def BR(H:Hp)(h:qp)(a:Ya):HO->Prop
 |.lst xs=>xs.length<=sizeLine/\∃(AO:List AB)(n:Nat),Vals xs AO/\h.get? a=some {cls:=.type "list",data:=.seq AO.toArray n}
 |.tup xs=>xs.length<=sizeLine/\∃AO:List AB,Vals xs AO/\IsTup h a AO.toArray
 |.dK AA=>AA.length<=sizeLine/\(a==rH)=false/\∃vs,KV AA vs/\h.DictOf (Cd P w) a vs
 |.dT AA=>AA.length<=sizeLine/\(a==rH)=false/\∃xs:List (List Key×Ya×AB),
  Paired (fun(p:List Key×V)(q:List Key×Ya×AB)=>p.1=q.1/\H q.2.1=some (.tup (p.1.map kV))/\RelV p.2 q.2.2) AA xs/\
  ∃o es ep,h.get? a=some o/\o.ExactDict/\o.data=.dict es ep/\es.toList=xs.map (entryOfKey (sf (Cd P w)))/\(xs.map (·.1)).Nodup
 |.set S n=>h.SetOf (intKind P w) a S n
 |.ins C dx fs=>H dx=some (.own a)/\fs.length<=1000/\dx≠a/\h.get? a=some (si C dx)/\
  ∃mA,h.Ns1 dx mA/\(∀f,Dj (fs.lookup f) (mA f))/\uM mA (fs.map (·.1))
 |.own _=>∃o,h.get? a=some o
 |.xd fs=>∃mA,h.Ns1 a mA/\∀f,Dj (fs.lookup f) (mA f)
 |.Ku lo hi=>∃t u v,h.get? a=some {cls:=.type "range",data:=.fields #[.int lo t,.int hi u,.int 1 v]}
 |.BU o u=>h.get? a=some o/\BR H h a u
 |.Jr ps=>h.get? a=some {cls:=.none,data:=.fields ps}
 |.met f x=>h.get? a=some (methodObj (.ref f) (.ref x))
 |.ext φ=>φ h/\(∃o,h.get? a=some o)/\∀h1 h2:qp,φ h1->(∀o,h1.get? a=some o->h2.get? a=some o)->φ h2
def Bw(H:Hp)(h:qp):Prop:=∀a o,H a=some o->BR P w H h a o
end
variable{P:ql}{h:qp}
section
variable{o:HO}
def BR.lt(x:BR P w H h a o):a<h.objs.size:=by
 cases o with
 |lst xs=>obtain⟨_,_,_,_,e⟩:=x;exact A1 e
 |tup xs=>obtain⟨_,_,_,p⟩:=x;exact p.lt
 |dK AA=>obtain⟨_,_,_,_,o,_,_,e,_⟩:=x;exact A1 e
 |dT AA=>obtain⟨_,_,_,_,o,_,_,e,_⟩:=x;exact A1 e
 |set S n=>obtain⟨o,_,_,_,e,_⟩:=x;exact A1 e
 |ins C dx fs=>obtain⟨_,_,_,e,_⟩:=x;exact A1 e
 |own y=>obtain⟨_,e⟩:=x;exact A1 e
 |xd fs=>obtain⟨_,⟨_,_,_,e,_⟩,_⟩:=x;exact A1 e
 |Ku lo hi=>obtain⟨_,_,_,e⟩:=x;exact A1 e
 |BU ob u=>obtain⟨e,_⟩:=x;exact A1 e
 |Jr ps=>exact A1 (show h.get? a=some _ from x)
 |met f y=>exact A1 (show h.get? a=some _ from x)
 |ext φ=>obtain⟨_,⟨_,e⟩,_⟩:=x;exact A1 e
def Paired.UI{α β:Type}{F G:α->β->Prop}:∀{l₁:List α}{l₂:List β},Paired F l₁ l₂->(∀a b,F a b->G a b)->Paired G l₁ l₂
 |_,_,.nil,_=>.nil
 |_,_,.cons r t,f=>.cons (f _ _ r) (Paired.UI t f)
end
variable{H':Hp}{h':qp}
section
variable{o:HO}
def BR.Ec(x:BR P w H h a o)(k:∀b u,(b=a\/H b=some (.own a))->h.get? b=some u->h'.get? b=some u)
 (ho:∀b,H b=some (.own a)->H' b=some (.own a))(ht:∀b xs,H b=some (.tup xs)->H' b=some (.tup xs)):BR P w H' h' a o:=by
 induction o with
 |lst xs=>obtain⟨z,AO,n,r,e⟩:=x;exact⟨z,AO,n,r,k _ _ (.inl rfl) e⟩
 |tup xs=>obtain⟨z,AO,r,ob,e,c⟩:=x;exact⟨z,AO,r,ob,k _ _ (.inl rfl) e,c⟩
 |dK AA=>obtain⟨z,y,vs,r,ob,es,ep,e,c⟩:=x;exact⟨z,y,vs,r,ob,es,ep,k _ _ (.inl rfl) e,c⟩
 |dT AA=>obtain⟨z,y,xs,r,ob,es,ep,e,c⟩:=x;exact⟨z,y,xs,Paired.UI r fun p q z=>⟨z.1,ht _ _ z.2.1,z.2.2⟩,ob,es,ep,k _ _ (.inl rfl) e,c⟩
 |set S n=>obtain⟨ob,es,ep,t,e,c⟩:=x;exact⟨ob,es,ep,t,k _ _ (.inl rfl) e,c⟩
 |ins C dx fs=>obtain⟨d,z,ne,e,mA,⟨od,es,ep,e2,c⟩,r⟩:=x;exact⟨ho _ d,z,ne,k _ _ (.inl rfl) e,mA,⟨od,es,ep,k _ _ (.inr d) e2,c⟩,r⟩
 |own y=>obtain⟨ob,e⟩:=x;exact⟨ob,k _ _ (.inl rfl) e⟩
 |xd fs=>obtain⟨mA,⟨od,es,ep,e,c⟩,r⟩:=x;exact⟨mA,⟨od,es,ep,k _ _ (.inl rfl) e,c⟩,r⟩
 |Ku lo hi=>obtain⟨t,u,v,e⟩:=x;exact⟨t,u,v,k _ _ (.inl rfl) e⟩
 |BU ob u ih=>obtain⟨e,q⟩:=x;exact⟨k _ _ (.inl rfl) e,ih q⟩
 |Jr ps=>have e:h.get? a=some {cls:=.none,data:=.fields ps}:=x;show h'.get? a=some {cls:=.none,data:=.fields ps};exact k a _ (.inl rfl) e
 |met f y=>have e:h.get? a=some (methodObj (.ref f) (.ref y)):=x;show h'.get? a=some (methodObj (.ref f) (.ref y));exact k a _ (.inl rfl) e
 |ext φ=>obtain⟨p,⟨o,e⟩,st⟩:=x;exact⟨st _ _ p fun o q=>k _ _ (.inl rfl) q,⟨o,k _ _ (.inl rfl) e⟩,st⟩
def Bw.lt(x:Bw P w H h)(e:H a=some o):a<h.objs.size:=(x a o e).lt
def Bw.fresh(x:Bw P w H h)(e:h.objs.size<=a):H a=none:=by
 cases q:H a with
 |none=>rfl
 |some u=>exact absurd (C8 (x.lt q) e) (Mr _)
def Bw.kept(x:Bw P w H h)(k:∀b u,h.get? b=some u->h'.get? b=some u):Bw P w H h':=fun a o e=>(x a o e).Ec (fun b u _ q=>k b u q) (fun _ q=>q) fun _ _ q=>q
def Bw.laid(x:Bw P w H h)(k:∀b u,h.get? b=some u->h'.get? b=some u)(hp:h.objs.size<=a)(new:BR P w (upd H a o) h' a o):Bw P w (upd H a o) h':=fun b u e=>by
 have hn:=x.fresh hp;by_cases hb:b=a
 ·subst hb;rw[AM] at e;cases e;exact new
 ·rw[AR hb] at e;exact(x b u e).Ec (fun c v _ q=>k c v q) (fun c q=>by rw[AR (A9 q hn)];exact q) fun c xs q=>by rw[AR (A9 q hn)];exact q
end
def Rd(H:Hp)(a:Ya)(u:HO):Prop:=H a=some u\/∃o,H a=some (.BU o u)
def Rd.ok{u:HO}(r:Rd H a u)(x:Bw P w H h):BR P w H h a u:=by
 rcases r with r|⟨o,r⟩
 ·exact x a u r
 ·obtain⟨_,q⟩:=x a _ r;exact q
def N8:Option HO->Prop
 |some (.lst _)=>True
 |some (.dK _)=>True
 |some (.dT _)=>True
 |some (.set _ _)=>True
 |some (.ins _ _ _)=>True
 |some (.ext _)=>True
 |_=>False
section
variable{x e:Ya}{o':HO}
def Bw.write(ok:Bw P w H h)(mu:N8 (H x))(he:e=x\/H e=some (.own x))(k:∀b u,b≠e->h.get? b=some u->h'.get? b=some u)(heo:∃u,h'.get? e=some u)
 (new:BR P w (upd H x o') h' x o'):Bw P w (upd H x o') h':=fun b u q=>by
 have nown:∀c y,H c=some (.own y)->c≠x:=fun c y r z=>by subst z;rw[r] at mu;exact mu
 have ntup:∀c xs,H c=some (.tup xs)->c≠x:=fun c xs r z=>by subst z;rw[r] at mu;exact mu
 by_cases hb:b=x
 ·subst hb;rw[AM] at q;cases q;exact new
 ·rw[AR hb] at q;by_cases hbe:b=e
  ·have q':H b=some (.own x):=by
    rcases he with z|z
    ·exact absurd (hbe.trans z) hb
    ·rw[hbe];exact z
   rw[q] at q';cases q';obtain⟨v,hv⟩:=heo;exact⟨v,by rw[hbe];exact hv⟩
  ·refine(ok b u q).Ec (fun c v hc r=>k c v ?_ r) (fun c r=>by rw[AR (nown c b r)];exact r) fun c xs r=>by rw[AR (ntup c xs r)];exact r
   rcases hc with rfl|hc
   ·exact hbe
   ·rintro rfl;rcases he with z|z
    ·exact nown c b hc z
    ·rw[hc] at z;cases z;exact hb rfl
end
structure Un(fs ex:List Ya)(H H':Hp)(h h':qp):Prop where
 keep:∀b o,h.get? b=some o->H b=none->b∉fs->b∉ex->h'.get? b=some o
 slot:∀b o,h.get? b=some o->H b=none->b∈fs->b∉ex->∃sl,h'.get? b=some {o with slots:=sl}
 free:∀b o,h.get? b=some o->H b=none->b∉ex->H' b=none
 there:∀b o,h.get? b=some o->b∉ex->∃o',h'.get? b=some o'
 E7:∀b xs,H b=some (.tup xs)->H' b=some (.tup xs)
 ES:∀b o u,H b=some (.BU o u)->H' b=some (.BU o u)
 E8:∀b ps,H b=some (.Jr ps)->∃more,H' b=some (.Jr (ps++more))
variable{H1:Hp}
section
variable{fs fs' ex ex':List Ya}{h1 h2:qp}{x e:Ya}{o:HO}
def Un.any(u:Un fs ex H H1 h h1){ob:Obj}(q:h.get? b=some ob)(n:H b=none)(hx:b∉ex):∃sl,h1.get? b=some {ob with slots:=sl}:=by
 by_cases hb:b∈fs
 ·exact u.slot b ob q n hb hx
 ·exact⟨ob.slots,u.keep b ob q n hb hx⟩
def Un.kept(k:∀b u,h.get? b=some u->h'.get? b=some u):Un fs ex H H h h':=
 ⟨fun b ob q _ _ _=>k b ob q,fun b ob q _ _ _=>⟨ob.slots,k b ob q⟩,fun _ _ _ n _=>n,fun b ob q _=>⟨ob,k b ob q⟩,fun _ _ q=>q,fun _ _ _ q=>q,fun _ ps q=>⟨#[],by rw[q];simp⟩⟩
def Un.refl:Un fs ex H H h h:=Un.kept fun _ _ q=>q
def Un.laid(k:∀b u,h.get? b=some u->h'.get? b=some u)(hp:h.objs.size<=a)(hn:H a=none):Un fs ex H (upd H a o) h h' where
 keep:=fun b u q _ _ _=>k b u q
 slot:=fun b u q _ _ _=>⟨u.slots,k b u q⟩
 free:=fun b u q n _=>by rw[AR (BN (C8 (A1 q) hp))];exact n
 there:=fun b u q _=>⟨u,k b u q⟩
 E7:=fun b xs q=>by rw[AR (A9 q hn)];exact q
 ES:=fun b u xs q=>by rw[AR (A9 q hn)];exact q
 E8:=fun b ps q=>⟨#[],by rw[AR (A9 q hn),q];simp⟩
def Un.write(mu:N8 (H x))(he:e=x\/H e=some (.own x))(k:∀b u,b≠e->h.get? b=some u->h'.get? b=some u)(heo:∃u,h'.get? e=some u):Un fs ex H (upd H x o) h h':=by
 have hx:∀b,H b=none->b≠x:=fun b n z=>by subst z;rw[n] at mu;exact mu
 have hb:∀b,H b=none->b≠e:=fun b n z=>by
  subst z;rcases he with r|r
  ·exact hx b n r
  ·rw[n] at r;cases r
 have hm:∀b u,H b=some u->¬N8 (some u)->b≠x:=fun b u q nm z=>by subst z;rw[q] at mu;exact nm mu
 refine⟨fun b u q n _ _=>k b u (hb b n) q,fun b u q n _ _=>⟨u.slots,k b u (hb b n) q⟩,fun b u q n _=>by rw[AR (hx b n)];exact n,fun b u q _=>?_,
  fun b xs q=>by rw[AR (hm b _ q fun z=>z)];exact q,fun b u xs q=>by rw[AR (hm b _ q fun z=>z)];exact q,fun b ps q=>⟨#[],by rw[AR (hm b _ q fun z=>z),q];simp⟩⟩;by_cases hbe:b=e
 ·subst hbe;exact heo
 ·exact⟨u,k b u hbe q⟩
end
noncomputable def Qd(h:qp)(H:Hp):List Ya:=(List.range h.objs.size).filter fun a=>(H a).isSome
def Im(h:qp)(H:Hp):qp:=hideAll h (Qd h H)
def gB(h:qp)(H:Hp):(Im h H).objs.size=h.objs.size:=hideAll_size _ _
variable{o:Obj}
def iC(e:h.get? b=some o)(n:H b=none):(Im h H).get? b=some o:=
 hideAll_get _ e fun hm=>by have q:(H b).isSome=true:=(IW.mp hm).2;rw[n] at q;simp at q
def jz(e:(Im h H).get? b=some o):h.get? b=some o/\H b=none:=by
 have e':h.get? b=some o:=of_hideAll (Qd h H) e;refine⟨e',?_⟩
 cases q:H b with
 |none=>rfl
 |some x=>have hm:b∈Qd h H:=IW.mpr ⟨LA.mpr (A1 e'),by simp[q]⟩;have z:(Im h H).get? b=none:=hideAll_none (Qd h H) hm;rw[z] at e;cases e
structure Mod(K:uJ)(mg:Str->Option AB)(base:qp):Prop where
 N7:K.In base
 glob:base.Ns g0 mg
 blt:∃mb,base.Ns uA mb/\∀x:Str,x≠ "__name__" ->mb x=qw x
 nolimit:base.NoLimit
structure Cx where
 prog:ql
 w:qu
 K:uJ
 mg:Str->Option AB
 base:qp
 A:rV
 N:List Str
 s₀:Yf
 H₀:Hp
 env:Env
 outer:List Env
 stack:List Env
 ex:List Ya
 fn:Str->Bool
 calm:Bool
 pn:List (Ya×Obj)
 xe:AB->Yf->Prop
noncomputable def Cp(l:List Env):List Ya:=l.filterMap (·.frame)
abbrev Cx.fs(X:Cx):List Ya:=Cp X.outer
def QX(sc:tH)(x:Str):Prop:=sc.names.lookup x=some .local\/sc.names.lookup x=some .cell\/sc.names.lookup x=some .free
def Loc(sc:tH)(x:Str):Prop:=sc.names.lookup x=some .local\/sc.names.lookup x=some .cell
def Look(env:Env)(h:qp)(m:Str->Option AB)(x:Str)(u:AB):Prop:=
 (env.kindOf x=some .local/\m x=some u)\/((env.kindOf x=some .cell\/env.kindOf x=some .free)/\∃c,env.cells.lookup x=some c/\h.IsCell c (some u))
structure Cx.Ok(X:Cx):Prop where
 mod:Mod X.K X.mg X.base
 kind:X.env.scope.kind=.function
 glob:X.env.globals=g0
 blt:X.env.builtins=uA
 above:X.s₀.heap.objs.size<=X.env.locals
 inj:∀x y c,X.env.cells.lookup x=some c->X.env.cells.lookup y=some c->x=y
 has:∀x,(X.env.kindOf x=some .cell\/X.env.kindOf x=some .free)->∃c,X.env.cells.lookup x=some c
 Kv:∀x c,X.fn x=true->X.env.cells.lookup x=some c->X.s₀.heap.objs.size<=c
 hd:X.calm=true->X.A.handled=none
 frames:X.A.frames=some X.stack
 MM:X.stack=X.outer\/(X.stack=X.env::X.outer/\X.env.frame=some X.env.locals)
 QT:∀b∈X.ex,b≠X.env.locals/\∀x c,X.env.cells.lookup x=some c->c≠b
 bs:∀b o,X.base.get? b=some o->X.s₀.heap.get? b=some o/\X.H₀ b=none
 Gn:X.base.objs.size<=X.s₀.heap.objs.size
 Kr:∀b o,X.base.get? b=some o->b∉X.ex
 Ko:∀b∈X.ex,b∉X.fs
 E5:X.s₀.heap.FunFrames X.base X.outer
 IJ:∀b∈X.fs,X.H₀ b=none
structure Inv(X:Cx)(pins:List (Ya×Obj))(σ:List (Option V))(H:Hp)(s:Yf):Prop where
 ok:X.Ok
 os:s.os=X.s₀.os
 bare:sP s.gens
 base:Un X.fs X.ex X.H₀ H X.s₀.heap s.heap
 loc:∃m,s.heap.Ns X.env.locals m/\∀(i:Nat)(x:Str)(v:V),X.N[i]? =some x->σ[i]? =some (some v)->QX X.env.scope x->∃u,RelV v u/\Look X.env s.heap m x u
 cell:∀x c,X.env.cells.lookup x=some c->∃v,s.heap.IsCell c v
 free:H X.env.locals=none
 DM:∀x c,X.env.cells.lookup x=some c->H c=none
 pin:∀p∈X.pn++pins,s.heap.get? p.1=some p.2/\H p.1=none/\p.1≠X.env.locals/\p.1∉X.fs/\∀v,p.2.data≠.cell v
 hok:Bw X.prog X.w H s.heap
 len:σ.length=X.N.length
variable{X:Cx}
section
variable{σ:List (Option V)}
def Cx.Ok.qG(ok:X.Ok)(e:X.base.get? b=some o):b∉X.fs:=fun hb=>by have:=(ok.E5.mem hb).1;rw[e] at this;cases this
end
variable{pins:List (Ya×Obj)}
section
variable{σ:List (Option V)}
def Inv.bs(I:Inv X pins σ H s):∀b o,X.base.get? b=some o->s.heap.get? b=some o/\H b=none:=fun b o e=>⟨I.base.keep b o (I.ok.bs b o e).1 (I.ok.bs b o e).2 (I.ok.qG e) (I.ok.Kr b o e),I.base.free b o (I.ok.bs b o e).1 (I.ok.bs b o e).2 (I.ok.Kr b o e)⟩
def Inv.bk(I:Inv X pins σ H s):∀b o,X.base.get? b=some o->s.heap.get? b=some o:=fun b o e=>(I.bs b o e).1
def Inv.mod(I:Inv X pins σ H s):Mod X.K X.mg X.base:=I.ok.mod
def Inv.BV(I:Inv X pins σ H s):X.K.In s.heap:=I.ok.mod.N7.keeps I.bk
def Inv.fr(I:Inv X pins σ H s):∃m,Fr X.base X.env.locals s.heap m:=
 let⟨m,hn,_⟩:=I.loc
 ⟨m,hn,I.bk,BF I.ok.Gn I.ok.above⟩
def Inv.lt(I:Inv X pins σ H s):X.env.locals<s.heap.objs.size:=let⟨_,hn,_⟩:=I.loc;hn.lt
def Inv.sz(I:Inv X pins σ H s):X.s₀.heap.objs.size<=s.heap.objs.size:=BF I.ok.above (Fm I.lt)
def Inv.pU(I:Inv X pins σ H s)(h:s.heap.objs.size<=a):a∉X.fs:=fun hb=>by obtain⟨_,o,ho,_⟩:=I.ok.E5.mem hb;exact absurd (C8 (A1 ho) (BF I.sz h)) (Mr _)
def Inv.Js(I:Inv X pins σ H s):∀x c,X.env.cells.lookup x=some c->c≠X.env.locals:=fun x c e z=>by obtain⟨v,o,ho,hd⟩:=I.cell x c e;obtain⟨m,⟨o',es,ep,ho',hd',_⟩,_⟩:=I.loc;rw[z,ho'] at ho;cases ho;rw[hd'] at hd;cases hd
def Inv.E5(I:Inv X pins σ H s):s.heap.FunFrames X.base X.outer:=by
 have all:∀(l:List Env),(∀b∈Cp l,b∈X.fs)->X.s₀.heap.FunFrames X.base l->s.heap.FunFrames X.base l:=by
  intro l
  induction l with
  |nil=>intro _ _;trivial
  |cons env r ih=>intro hs hl;obtain⟨hk,⟨L,o,hf,hn,ho,hd⟩,hr⟩:=hl;have hL:L∈X.fs:=hs L (by unfold Cp;rw[Qw,hf];exact DR);obtain⟨sl,e⟩:=I.base.slot L o ho (I.ok.IJ L hL) hL fun z=>I.ok.Ko L z hL;exact⟨hk,⟨L,_,hf,hn,e,hd⟩,ih (fun b hb=>hs b (by unfold Cp;rw[Qw,hf];exact DJ _ hb)) hr⟩
 exact all X.outer (fun _ hb=>hb) I.ok.E5
def Inv.stack(I:Inv X pins σ H s):s.heap.FunFrames X.base X.stack:=by
 rcases I.ok.MM with e|⟨e,hf⟩
 ·rw[e];exact I.E5
 ·rw[e];obtain⟨m,hn,_⟩:=I.loc;refine .cons (by rw[I.ok.kind];decide) hf hn ?_ I.E5;exact Heap.get?_none_of_le (BF I.ok.Gn I.ok.above)
def Inv.NW(I:Inv X pins σ H s):∀b∈Cp X.stack,b∈X.env.locals::X.fs:=fun b hb=>by
 rcases I.ok.MM with e|⟨e,hf⟩
 ·rw[e] at hb;exact DJ _ hb
 ·rw[e] at hb;unfold Cp at hb;rw[Qw,hf] at hb;exact hb
def Inv.Pe(I:Inv X pins σ H s):∀b∈Cp X.stack,H b=none:=fun b hb=>by
 rcases Be.mp (I.NW b hb) with e|hb
 ·rw[e];exact I.free
 ·obtain⟨_,o,ho,_⟩:=I.ok.E5.mem hb;exact I.base.free b o ho (I.ok.IJ b hb) fun z=>I.ok.Ko b z hb
end
variable{g':Array sW}{t':Nat}{ch:List Ya}
section
variable{σ:List (Option V)}
def Inv.step{d':Drawn}(I:Inv X pins σ H s)
 (hch:∀b∈ch,(b∈X.ex\/X.s₀.heap.objs.size<=b)/\b≠X.env.locals/\(∀x c,X.env.cells.lookup x=some c->c≠b)/\∀p∈X.pn++pins,p.1≠b)
 (keep:∀b o,b≠X.env.locals->b∉X.fs->b∉ch->s.heap.get? b=some o->H b=none->h'.get? b=some o)
 (slot:∀b o,b≠X.env.locals->b∈X.fs->b∉ch->s.heap.get? b=some o->H b=none->∃sl,h'.get? b=some {o with slots:=sl})(free:∀b o,b∉ch->s.heap.get? b=some o->H b=none->H' b=none)
 (there:∀b o,b∉ch->s.heap.get? b=some o->∃o',h'.get? b=some o')
 (E7:∀b xs,H b=some (.tup xs)->H' b=some (.tup xs))(ES:∀b o u,H b=some (.BU o u)->H' b=some (.BU o u))(E8:∀b ps,H b=some (.Jr ps)->∃more,H' b=some (.Jr (ps++more)))
 (ns:∀m,s.heap.Ns X.env.locals m->h'.Ns X.env.locals m)(hok:Bw X.prog X.w H' h')(hg:sP g'):
 Inv X pins σ H' {s with heap:=h',gens:=g',drawn:=d',toks:=t'}:=by
 have neL:∀b o,X.s₀.heap.get? b=some o->b≠X.env.locals:=fun b o e=>BN (C8 (A1 e) I.ok.above);have neC:∀b o,X.s₀.heap.get? b=some o->b∉X.ex->b∉ch:=fun b o e hx hb=>by
  rcases(hch b hb).1 with z|z
  ·exact hx z
  ·exact absurd (C8 (A1 e) z) (Mr _)
 have cellK:∀x c,X.env.cells.lookup x=some c->∀v,s.heap.IsCell c v->h'.IsCell c v:=fun x c e v ⟨o,ho,hd⟩=>by
  have nch:c∉ch:=fun z=>(hch c z).2.2.1 x c e rfl;by_cases hc:c∈X.fs
  ·obtain⟨sl,q⟩:=slot c o (I.Js x c e) hc nch ho (I.DM x c e);exact⟨_,q,hd⟩
  ·exact⟨o,keep c o (I.Js x c e) hc nch ho (I.DM x c e),hd⟩
 refine⟨I.ok,I.os,hg,⟨fun b o e n hb hx=>?_,fun b o e n hb hx=>?_,fun b o e n hx=>?_,fun b o e hx=>?_,fun b xs e=>E7 b xs (I.base.E7 b xs e),fun b o xs e=>ES b o xs (I.base.ES b o xs e),fun b ps e=>?_⟩,?_,fun x c e=>?_,?_,fun x c e=>?_,fun p hp=>?_,hok,I.len⟩
 ·exact keep b o (neL b o e) hb (neC b o e hx) (I.base.keep b o e n hb hx) (I.base.free b o e n hx)
 ·obtain⟨sl,e1⟩:=I.base.slot b o e n hb hx;obtain⟨sl',e2⟩:=slot b _ (neL b o e) hb (neC b o e hx) e1 (I.base.free b o e n hx);exact⟨sl',e2⟩
 ·obtain⟨o',e1⟩:=I.base.there b o e hx;exact free b o' (neC b o e hx) e1 (I.base.free b o e n hx)
 ·obtain⟨o',e1⟩:=I.base.there b o e hx;exact there b o' (neC b o e hx) e1
 ·obtain⟨m1,e1⟩:=I.base.E8 b ps e;obtain⟨m2,e2⟩:=E8 b _ e1;exact⟨m1++m2,by rw[e2,Array.append_assoc]⟩
 ·obtain⟨m,hn,hl⟩:=I.loc;refine⟨m,ns m hn,fun i x v e1 e2 e3=>?_⟩;obtain⟨u,r,l⟩:=hl i x v e1 e2 e3;refine⟨u,r,?_⟩;rcases l with l|⟨k,c,e,z⟩
  ·exact .inl l
  ·exact .inr ⟨k,c,e,cellK x c e _ z⟩
 ·obtain⟨v,z⟩:=I.cell x c e;exact⟨v,cellK x c e v z⟩
 ·obtain⟨m,⟨o,_,_,ho,_⟩,_⟩:=I.loc;exact free _ o (fun z=>(hch _ z).2.1 rfl) ho I.free
 ·obtain⟨v,o,ho,hd⟩:=I.cell x c e;exact free c o (fun z=>(hch c z).2.2.1 x c e rfl) ho (I.DM x c e)
 ·obtain⟨e,n,ne,nf,d⟩:=I.pin p hp;have nch:p.1∉ch:=fun z=>(hch p.1 z).2.2.2 p hp rfl;exact⟨keep p.1 p.2 ne nf nch e n,free p.1 p.2 nch e n,ne,nf,d⟩
def Inv.un(I:Inv X pins σ H s)(u:Un X.fs [] H H' s.heap h')(hok:Bw X.prog X.w H' h'):Inv X pins σ H' {s with heap:=h',toks:=t'}:=by
 obtain⟨m,⟨o,es,ep,ho,r⟩,_⟩:=id I.loc;obtain⟨sl,hL⟩:=u.any ho I.free (by simp);exact I.step (g':=s.gens) (d':=s.drawn) (ch:=[]) (fun _ z=>nomatch z) (fun b o _ hb _ e n=>u.keep b o e n hb (by simp)) (fun b o _ hb _ e n=>u.slot b o e n hb (by simp)) (fun b o _ e n=>u.free b o e n (by simp)) (fun b o _ e=>u.there b o e (by simp)) u.E7 u.ES u.E8 (fun m' hm=>by obtain⟨o',es',ep',ho',r'⟩:=hm;rw[ho] at ho';cases ho';exact⟨_,es',ep',hL,r'⟩) hok I.bare
def Inv.call{d':Drawn}(I:Inv X pins σ H s)(u:Un (Cp X.stack) ch H H' s.heap h')(hok:Bw X.prog X.w H' h')(hg:sP g')
 (hch:∀b∈ch,(b∈X.ex\/X.s₀.heap.objs.size<=b)/\b≠X.env.locals/\(∀x c,X.env.cells.lookup x=some c->c≠b)/\∀p∈X.pn++pins,p.1≠b):
 Inv X pins σ H' {s with heap:=h',gens:=g',drawn:=d',toks:=t'}:=by
 obtain⟨m,⟨o,es,ep,ho,r⟩,_⟩:=id I.loc;obtain⟨sl,hL⟩:=u.any ho I.free fun z=>(hch _ z).2.1 rfl;exact I.step (ch:=ch) hch (fun b o hL hb hc e n=>u.keep b o e n (fun z=>(Be.mp (I.NW b z)).elim hL hb) hc) (fun b o _ _ hc e n=>u.any e n hc) (fun b o hc e n=>u.free b o e n hc) (fun b o hc e=>u.there b o e hc) u.E7 u.ES u.E8 (fun m' hm=>by obtain⟨o',es',ep',ho',r'⟩:=hm;rw[ho] at ho';cases ho';exact⟨_,es',ep',hL,r'⟩) hok hg
def Inv.turned{it:Ya}(I:Inv X pins σ H s)(k:∀b o,b≠it->s.heap.get? b=some o->h'.get? b=some o)(hn:H it=none)(hL:it≠X.env.locals)
 (h1:it∈X.ex\/X.s₀.heap.objs.size<=it)(h2:∀x c,X.env.cells.lookup x=some c->c≠it)(h3:∀p∈X.pn++pins,p.1≠it):Inv X pins σ H {s with heap:=h',toks:=t'}:=by
 have nit:∀b u,H b=some u->b≠it:=fun b u e z=>by rw[z,hn] at e;cases e
 refine I.step (g':=s.gens) (d':=s.drawn) (ch:=[it]) (fun b hb=>?_) (fun b o _ _ hc e _=>k b o (fun z=>hc (by simp[z])) e) (fun b o _ _ hc e _=>⟨o.slots,k b o (fun z=>hc (by simp[z])) e⟩) (fun _ _ _ _ n=>n)
  (fun b o hc e=>⟨o,k b o (fun z=>hc (by simp[z])) e⟩) (fun _ _ e=>e) (fun _ _ _ e=>e) (fun b ps e=>⟨#[],by rw[e];simp⟩) (fun m hm=>?_) (fun b u e=>?_) I.bare
 ·have e:b=it:=by simpa using hb
  subst e;exact⟨h1,hL,h2,h3⟩
 ·obtain⟨o,es,ep,ho,r⟩:=hm;exact⟨o,es,ep,k _ o (DL hL) ho,r⟩
 ·refine(I.hok b u e).Ec (fun c v hc q=>k c v ?_ q) (fun _ q=>q) fun _ _ q=>q;rcases hc with z|z
  ·rw[z];exact nit b u e
  ·exact nit c _ z
def Inv.tok(I:Inv X pins σ H s)(t:Nat):Inv X pins σ H {s with toks:=t}:=I.un (h':=s.heap) (t':=t) Un.refl I.hok
def Inv.kept{t':Nat}(I:Inv X pins σ H s)(k:∀b u,s.heap.get? b=some u->h'.get? b=some u):Inv X pins σ H {s with heap:=h',toks:=t'}:=I.un (Un.kept k) (I.hok.kept k)
def Inv.laid{a:Ya}{o:HO}{t':Nat}(I:Inv X pins σ H s)(k:∀b u,s.heap.get? b=some u->h'.get? b=some u)(hp:s.heap.objs.size<=a)(new:BR X.prog X.w (upd H a o) h' a o):
 Inv X pins σ (upd H a o) {s with heap:=h',toks:=t'}:=I.un (Un.laid k hp (I.hok.fresh hp)) (I.hok.laid k hp new)
def Inv.write{x e:Ya}{o:HO}{t':Nat}(I:Inv X pins σ H s)(mu:N8 (H x))(he:e=x\/H e=some (.own x))(k:∀b u,b≠e->s.heap.get? b=some u->h'.get? b=some u)(heo:∃u,h'.get? e=some u)
 (new:BR X.prog X.w (upd H x o) h' x o):Inv X pins σ (upd H x o) {s with heap:=h',toks:=t'}:=I.un (Un.write mu he k heo) (I.hok.write mu he k heo new)
def Inv.weak{σ':List (Option V)}(I:Inv X pins σ H s)(hl:σ'.length=σ.length)(w:∀(i:Nat) v,σ'[i]? =some (some v)->σ[i]? =some (some v)):Inv X pins σ' H s:=
 ⟨I.ok,I.os,I.bare,I.base,let⟨m,hn,hl'⟩:=I.loc;⟨m,hn,fun i x v e1 e2 e3=>hl' i x v e1 (w i v e2) e3⟩,I.cell,I.free,I.DM,I.pin,I.hok,hl.trans I.len⟩
def Inv.YD{pins':List (Ya×Obj)}(I:Inv X pins σ H s)(h:∀p∈pins',s.heap.get? p.1=some p.2/\H p.1=none/\p.1≠X.env.locals/\p.1∉X.fs/\∀v,p.2.data≠.cell v):Inv X pins' σ H s:=
 ⟨I.ok,I.os,I.bare,I.base,I.loc,I.cell,I.free,I.DM,fun p hp=>(Bk.mp hp).elim (fun z=>I.pin p (GC _ z)) (h p),I.hok,I.len⟩
end
variable{N:List Str}{i j:Nat}{x:Str}
section
variable{σ:List (Option V)}
def XI(hN:N.Nodup)(a:N[i]? =some x)(b:N[j]? =some x):i=j:=by obtain⟨h1,e1⟩:=BZ.mp a;obtain⟨h2,e2⟩:=BZ.mp b;exact(List.getElem_inj hN).mp (e1.trans e2.symm)
end
variable{M:Model}{A:rV}{E:AB->Yf->Prop}{v:V}{u:AB}
section
variable{σ:List (Option V)}
def V8{Q:Unit->Yf->Prop}(I:Inv X pins σ H s)(hN:X.N.Nodup)(hi:X.N[i]? =some x)(hx:Loc X.env.scope x)(r:RelV v u)
 (h:∀s',Inv X pins (σ.set i (some v)) H s'->(∃a,Heap.SameBut a s.heap s'.heap/\(a=X.env.locals\/X.env.cells.lookup x=some a))->Q () s')(hf:X.fn x=true\/X.env.scope.names.lookup x=some .local:=by first|exact .inl rfl|exact .inr rfl|assumption):bt M A (storeName X.env x u) Q E s:=by
 obtain⟨m,hn,hl⟩:=id I.loc;have hcls:(X.env.scope.kind==.class||(X.env.scope.kind==.module&&X.env.locals !=X.env.globals))=false:=by rw[I.ok.kind];rfl
 have hiσ:i<σ.length:=by rw[I.len];exact(BZ.mp hi).1
 have Js:=I.Js;have tracked:∀{a:Ya}{h':qp},(∃o,s.heap.get? a=some o/\H a=none)->Heap.SameBut a s.heap h'->Bw X.prog X.w H h':=fun{a h'} ha hs b ob e=>by
  obtain⟨_,_,hfree⟩:=ha;refine(I.hok b ob e).Ec (fun c w' hc q=>(hs.2 c ?_).trans q) (fun _ q=>q) fun _ _ q=>q;rintro rfl;rcases hc with rfl|hc
  ·rw[hfree] at e;cases e
  ·rw[hfree] at hc;cases hc
 rcases hx with hk|hk
 ·refine wpAny_storeName_local hk hn (fun h' hn' hs=>?_) hcls;obtain⟨oL,_,_,hoL,_⟩:=id hn;refine h _ ⟨I.ok,I.os,I.bare,⟨fun b o e n hb hx=>?_,fun b o e n hb hx=>?_,I.base.free,fun b o e hx=>?_,I.base.E7,I.base.ES,I.base.E8⟩,⟨_,hn',fun j y v' e1 e2 e3=>?_⟩,fun y c e=>?_,I.free,I.DM,fun p hp=>?_,tracked ⟨oL,hoL,I.free⟩ hs,by simpa using I.len⟩ ⟨_,hs,.inl rfl⟩
  ·exact(hs.2 b (BN (C8 (A1 e) I.ok.above))).trans (I.base.keep b o e n hb hx)
  ·obtain⟨sl,e1⟩:=I.base.slot b o e n hb hx;exact⟨sl,(hs.2 b (BN (C8 (A1 e) I.ok.above))).trans e1⟩
  ·obtain⟨o',e1⟩:=I.base.there b o e hx;exact⟨o',(hs.2 b (BN (C8 (A1 e) I.ok.above))).trans e1⟩
  ·by_cases hj:j=i
   ·subst hj;rw[hi] at e1;cases e1;rw[OL hiσ] at e2;cases e2;exact⟨u,r,.inl ⟨hk,by simp⟩⟩
   ·rw[OQ (DL hj)] at e2;obtain⟨u',r',q⟩:=hl j y v' e1 e2 e3;refine⟨u',r',?_⟩;rcases q with⟨k,e⟩|⟨k,c,e,z⟩
    ·refine .inl ⟨k,?_⟩;have:y≠x:=fun e=>hj (XI hN e1 (e▸hi));simp[this,e]
    ·exact .inr ⟨k,c,e,z.sameBut hs (Js y c e)⟩
  ·obtain⟨w',z⟩:=I.cell y c e;exact⟨w',z.sameBut hs (Js y c e)⟩
  ·obtain⟨e,n,ne,nf,d⟩:=I.pin p hp;exact⟨(hs.2 p.1 ne).trans e,n,ne,nf,d⟩
 ·have hfn:X.fn x=true:=by
   rcases hf with z|z
   ·exact z
   ·rw[z] at hk;cases hk
  obtain⟨c,hc⟩:=I.ok.has x (.inl hk);obtain⟨w',z⟩:=I.cell x c hc;refine wpAny_storeName_cell I.ok.kind hk hc z (fun h' hc' hs=>?_);obtain⟨oc,hoc,hocd⟩:=id z;refine h {s with heap:=h'} ⟨I.ok,I.os,I.bare,⟨fun b o e n hb hx=>?_,fun b o e n hb hx=>?_,I.base.free,fun b o e hx=>?_,I.base.E7,I.base.ES,I.base.E8⟩,⟨m,hn.sameBut hs (DL (Js x c hc)),fun j y v' e1 e2 e3=>?_⟩,fun y c' e=>?_,I.free,I.DM,fun p hp=>?_,tracked ⟨oc,hoc,I.DM x c hc⟩ hs,by simpa using I.len⟩ ⟨c,hs,.inr hc⟩
  ·exact(hs.2 b (BN (C8 (A1 e) (I.ok.Kv x c hfn hc)))).trans (I.base.keep b o e n hb hx)
  ·obtain⟨sl,e1⟩:=I.base.slot b o e n hb hx;exact⟨sl,(hs.2 b (BN (C8 (A1 e) (I.ok.Kv x c hfn hc)))).trans e1⟩
  ·obtain⟨o',e1⟩:=I.base.there b o e hx;exact⟨o',(hs.2 b (BN (C8 (A1 e) (I.ok.Kv x c hfn hc)))).trans e1⟩
  ·by_cases hj:j=i
   ·subst hj;rw[hi] at e1;cases e1;rw[OL hiσ] at e2;cases e2;exact⟨u,r,.inr ⟨.inl hk,c,hc,hc'⟩⟩
   ·rw[OQ (DL hj)] at e2;obtain⟨u',r',q⟩:=hl j y v' e1 e2 e3;refine⟨u',r',?_⟩;rcases q with q|⟨k,c',e,z'⟩
    ·exact .inl q
    ·refine .inr ⟨k,c',e,z'.sameBut hs ?_⟩;rintro rfl;exact hj (XI hN e1 (I.ok.inj _ _ _ e hc▸hi))
  ·by_cases hcc:c'=c
   ·subst hcc;exact⟨_,hc'⟩
   ·obtain⟨w2,z2⟩:=I.cell y c' e;exact⟨w2,z2.sameBut hs hcc⟩
  ·obtain⟨e,n,ne,nf,d⟩:=I.pin p hp;refine⟨(hs.2 p.1 ?_).trans e,n,ne,nf,d⟩;intro q;rw[q,hoc] at e;have q':oc=p.2:=Ai e;exact d w' (by rw[<-q'];exact hocd)
def SV{Q:Unit->Yf->Prop}(I:Inv X pins σ H s)(hN:X.N.Nodup)(hi:X.N[i]? =some x)(hx:Loc X.env.scope x)(r:RelV v u)
 (h:∀s',Inv X pins (σ.set i (some v)) H s'->Q () s')(hf:X.fn x=true\/X.env.scope.names.lookup x=some .local:=by first|exact .inl rfl|exact .inr rfl|assumption):bt M A (storeName X.env x u) Q E s:=
 V8 I hN hi hx r (fun s' I' _=>h s' I') hf
def Inv.Pz{s':Yf}(I:Inv X pins σ H s)(ho:s'.os=s.os)(u:Un (Cp X.stack) ch H H' s.heap s'.heap)(hok:Bw X.prog X.w H' s'.heap)(hg:sP s'.gens)
 (hch:∀b∈ch,(b∈X.ex\/X.s₀.heap.objs.size<=b)/\b≠X.env.locals/\(∀x c,X.env.cells.lookup x=some c->c≠b)/\∀p∈X.pn++pins,p.1≠b):Inv X pins σ H' s':=by
 obtain⟨h',g',d',t',o'⟩:=s';have e:o'=s.os:=ho;subst e;exact I.call (g':=g') (t':=t') (d':=d') u hok hg hch
end
abbrev XK:=AB->Option Ya->Hp->Prop
abbrev St:=List (Option V)
abbrev VK:=V->Hp->Prop
abbrev TE:=St->Hp->VK->Prop
abbrev TT:=St->Hp->(Bool->Hp->Prop)->Prop
abbrev TA:=St->Hp->(List V->Hp->Prop)->Prop
structure Ends where
 nx:St->Hp->Prop
 rt:VK
 bk:St->Hp->Prop:=fun _ _=>False
 ct:St->Hp->Prop:=fun _ _=>False
abbrev TS:=Ends->St->Hp->Prop
def EP(X:Cx)(pins:List (Ya×Obj))(σ:St)(Q:VK)(u:AB)(s':Yf):Prop:=∃v H',Inv X pins σ H' s'/\RelV v u/\Q v H'
def TP(X:Cx)(pins:List (Ya×Obj))(σ:St)(Q:Bool->Hp->Prop)(b:Bool)(s':Yf):Prop:=∃H',Inv X pins σ H' s'/\Q b H'
def AP(X:Cx)(pins:List (Ya×Obj))(σ:St)(Q:List V->Hp->Prop)(us:List AB)(s':Yf):Prop:=∃vs H',Inv X pins σ H' s'/\Vals vs us/\Q vs H'
def SP(X:Cx)(pins:List (Ya×Obj))(D:Ends)(f:Flow)(s':Yf):Prop:=
 match f with
 |.next=>∃σ' H',Inv X pins σ' H' s'/\D.nx σ' H'
 |.brk=>∃σ' H',Inv X pins σ' H' s'/\D.bk σ' H'
 |.cont=>∃σ' H',Inv X pins σ' H' s'/\D.ct σ' H'
 |.ret u=>∃v σ' H',Inv X pins σ' H' s'/\RelV v u/\D.rt v H'
def PE(X:Cx)(e:hY)(t:TE):Prop:=
 ∀(pins:List (Ya×Obj))(s:Yf)(σ:St)(H:Hp)(Q:VK),Inv X pins σ H s->t σ H Q->bt (ax X.prog X.w) X.A (qr e X.env) (EP X pins σ Q) X.xe s
def PT(X:Cx)(e:hY)(t:TT):Prop:=
 ∀(pins:List (Ya×Obj))(s:Yf)(σ:St)(H:Hp)(Q:Bool->Hp->Prop),Inv X pins σ H s->t σ H Q->bt (ax X.prog X.w) X.A (isTrue e X.env (qr e X.env)) (TP X pins σ Q) X.xe s
def PW(X:Cx)(e:hY)(t:TT):Prop:=
 ∀(whole:Sem AB)(pins:List (Ya×Obj))(s:Yf)(σ:St)(H:Hp)(Q:Bool->Hp->Prop),Inv X pins σ H s->t σ H Q->bt (ax X.prog X.w) X.A (isTrue e X.env whole) (TP X pins σ Q) X.xe s
variable{e:hY}
def PW.pt{t:TT}(h:PW X e t):PT X e t:=h _
def PA(X:Cx)(es:List hY)(t:TA):Prop:=
 ∀(pos:Pos)(pins:List (Ya×Obj))(s:Yf)(σ:St)(H:Hp)(Q:List V->Hp->Prop),Inv X pins σ H s->t σ H Q->bt (ax X.prog X.w) X.A (spliced (q5 pos (dy es X.env))) (AP X pins σ Q) X.xe s
def PS(X:Cx)(st:hX)(t:TS):Prop:=
 ∀(pins:List (Ya×Obj))(s:Yf)(σ:St)(H:Hp)(D:Ends),Inv X pins σ H s->t D σ H->bt (ax X.prog X.w) X.A (exec st X.env) (SP X pins D) X.xe s
def Eh(X:Cx)(st:List hX)(t:TS):Prop:=
 ∀(pins:List (Ya×Obj))(s:Yf)(σ:St)(H:Hp)(D:Ends),Inv X pins σ H s->t D σ H->bt (ax X.prog X.w) X.A (execs st X.env) (SP X pins D) X.xe s
def Ae{t:Sem α}{Q Q':α->Yf->Prop}(h:bt M A t Q E s)(hQ:∀a s,Q a s->Q' a s):bt M A t Q' E s:=DC h hQ fun _ _ x=>x
section
variable{a b:hY}{tb:TE}{tA tB':TT}{rest:List hY}
def Ed(i:Nat):TE:=fun σ H Q=>∃v,σ[i]? =some (some v)/\Q v H
def tC(v:V):TE:=fun _ H Q=>Q v H
end
variable{pos:Pos}
section
variable{a b:hY}{tb:TE}{tA tB':TT}{rest:List hY}
def Y6(hN:X.N[i]? =some x)(hv:QX X.env.scope x)(hd:(x==("__debug__" :Str))=false:=by decide)(hcd:(x==("__classdict__" :Str))=false:=by decide):PE X (.Name x pos) (Ed i):=by
 intro pins s σ H Q I h;obtain⟨v,e,h⟩:=h;obtain⟨m,hn,hl⟩:=I.loc;obtain⟨u,r,l⟩:=hl i x v hN e hv;have fin:EP X pins σ Q u s:=⟨v,H,I,r,h⟩;rcases l with⟨hk,hm⟩|⟨hk,c,hc,hcell⟩
 ·exact wpAny_Name (wpAny_loadName_local I.ok.kind hk hn hm fin) hd
 ·rcases hk with hk|hk
  ·exact wpAny_Name (wpAny_loadName_cell I.ok.kind hk hc hcell fin) hd
  ·exact wpAny_Name (wpAny_loadName_free I.ok.kind hk hc hcell fin hcd) hd
def Ac{X:Cx}{i j pos}:PE X (.Constant (.int i) j pos) (tC (.int i)):=fun _ _ _ H _ I h=>wpAny_Constant_int ⟨.int i,H,I.tok _,⟨_,rfl⟩,h⟩
def IE{b j pos}:PE X (.Constant (.bool b) j pos) (tC (.bl b)):=fun _ _ _ H _ I h=>Constant_bool ⟨.bl b,H,I,rfl,h⟩
def lI{j pos}:PE X (.Constant .none j pos) (tC .BB):=fun _ _ _ H _ I h=>uI ⟨.BB,H,I,rfl,h⟩
def AZ{X:Cx}{x j pos}:PE X (.Constant (.str x) j pos) (tC (.str x)):=fun _ _ _ H _ I h=>Vc ⟨.str x,H,I.tok _,⟨_,rfl⟩,h⟩
def Gl(X:Cx)(x:Str):Prop:=X.env.kindOf x=some .globalImplicit
end
variable{σ:St}{Q:AB->Yf->Prop}
section
variable{a b:hY}{tb:TE}{tA tB':TT}{rest:List hY}
def La(I:Inv X pins σ H s)(hg:Gl X x)(hm:X.mg x=some u)(h:Q u s)
 (hd:(x==("__debug__" :Str))=false:=by decide):bt (ax X.prog X.w) X.A (qr (.Name x pos) X.env) Q E s:=
 Calls.Name_function_global I.ok.kind hg (Calls.loadGlobal_global (by rw[I.ok.glob];exact I.mod.glob.keeps I.bk) hm h) hd
def Nh(I:Inv X pins σ H s)(hg:Gl X x)(hm:X.mg x=none)(hv:qw x=some u)(h:Q u s)
 (hn:x≠ "__name__" :=by decide)(hd:(x==("__debug__" :Str))=false:=by decide):bt (ax X.prog X.w) X.A (qr (.Name x pos) X.env) Q E s:=by
 obtain⟨mb,h1,h2⟩:=I.mod.blt;exact Calls.Name_function_global I.ok.kind hg (Calls.loadGlobal_builtin (by rw[I.ok.glob];exact I.mod.glob.keeps I.bk) hm (by rw[I.ok.blt];exact h1.keeps I.bk) ((h2 x hn).trans hv) h) hd
def Fq(hg:Gl X x)(hm:X.mg x=none)(hv:qw x=some u)(r:RelV v u)(hn:x≠ "__name__" :=by decide)(hd:(x==("__debug__" :Str))=false:=by decide):PE X (.Name x pos) (tC v):=
 fun _ _ _ H _ I h=>Nh I hg hm hv ⟨v,H,I,r,h⟩ hn hd
def PC(X:Cx)(op:CmpOp)(a b:hY)(t:TE):Prop:=
 ∀(pins:List (Ya×Obj))(s:Yf)(σ:St)(H:Hp)(Q:VK),Inv X pins σ H s->t σ H Q->
  bt (ax X.prog X.w) X.A (qr a X.env) (fun v s₁=>bt (ax X.prog X.w) X.A (qr b X.env) (fun u s₂=>bt (ax X.prog X.w) X.A (qm op v u) (EP X pins σ Q) X.xe s₂) X.xe s₁) X.xe s
end
variable{op:CmpOp}
section
variable{a b:hY}{tb:TE}{tA tB':TT}{rest:List hY}
def il(b:hY)(h:op≠.In)(h2:op≠.NotIn):behindInMarks op b=false:=by
 have e1:(op==CmpOp.In)=false:=by cases op<;>first|rfl|exact absurd rfl h
 have e2:(op==CmpOp.NotIn)=false:=by cases op<;>first|rfl|exact absurd rfl h2
 cases b<;>simp[behindInMarks,e1,e2]
end
variable{ta:TE}
section
variable{a b:hY}{tb:TE}{tA tB':TT}{rest:List hY}
def pK(ta:TE):TE:=fun σ H Q=>ta σ H fun x H1=>Q (.bl (decide (x=.BB))) H1
def oe(ta:TE):TE:=fun σ H Q=>ta σ H fun x H1=>Q (.bl (!decide (x=.BB))) H1
def RelV.Xe{x:V}{v:AB}(r:RelV x v):(v==Value.none)=decide (x=.BB):=by
 cases x with
 |BB=>cases r;rfl
 |bl _=>cases r;rfl
 |int _=>obtain⟨t,rfl⟩:=r;rfl
 |str _=>obtain⟨t,rfl⟩:=r;rfl
 |F6 _=>obtain⟨t,rfl⟩:=r;rfl
 |Iu _=>obtain⟨t,rfl⟩:=r;rfl
 |ref _=>cases r;rfl
 |ty _=>cases r;rfl
def lP{j pos'}(ha:PE X a ta):PC X .Is a (.Constant .none j pos') (pK ta):=by intro pins s σ H Q I h;refine Ae (ha pins s σ H _ I h) fun v s1 ⟨x,H1,I1,r1,q1⟩=>?_;exact uI (is_none_gen ⟨.bl _,H1,I1,by rw[r1.Xe];rfl,q1⟩)
def jZ{j pos'}(ha:PE X a ta):PC X .IsNot a (.Constant .none j pos') (oe ta):=by intro pins s σ H Q I h;refine Ae (ha pins s σ H _ I h) fun v s1 ⟨x,H1,I1,r1,q1⟩=>?_;exact uI (isnot_none_gen ⟨.bl _,H1,I1,by rw[r1.Xe];rfl,q1⟩)
def tB(t:TE):TT:=fun σ H Q=>t σ H fun x H1=>∃c,x=.bl c/\Q c H1
def JT{t:TE}(h:PC X op a b t)(h1:behindInMarks op b=false:=by first|exact il _ (by decide) (by decide)|rfl):PT X (.Compare a [op] [b] pos) (tB t):=by intro pins s σ H Q I hw;refine wpAny_isTrue_Compare1 (Ae (h pins s σ H _ I hw) fun v s1 h1=>Ae h1 fun u s2 h2=>Ae h2 fun c s3 ⟨x,H1,I1,r1,q1⟩=>?_) h1;obtain⟨d,rfl,q⟩:=q1;cases r1;exact Ma ⟨H1,I1,q⟩
def EN{t:TE}(h:PE X e t)(he:∀whole,isTrue e X.env whole=(do let v<-whole;tX e.pos;sX [v] (truthy v)):=by intro _;rfl):PT X e (tB t):=by intro pins s σ H Q I hw;refine isTrue_plain (Ae (h pins s σ H _ I hw) fun v s1 ⟨x,H1,I1,r1,q1⟩=>?_) (he _);obtain⟨d,rfl,q⟩:=q1;cases r1;exact Ma ⟨H1,I1,q⟩
def UE(t u:TT):TT:=fun σ H Q=>t σ H fun c H1=>if c=true then u σ H1 Q else Q false H1
def qZ(t u:TT):TT:=fun σ H Q=>t σ H fun c H1=>if c=true then Q true H1 else u σ H1 Q
def qD(t:TT):TT:=fun σ H Q=>t σ H fun c H1=>Q (!c) H1
def HH(ha:PT X a tA):PW X (.BoolOp .And [a] pos) tA:=by
 intro wh pins s σ H Q I h;refine isTrue_and (Ae (ha pins s σ H Q I h) fun c s1 e=>?_)
 cases c with
 |true=>exact isTrue_and_nil e
 |false=>exact e
def JU(ha:PT X a tA):PW X (.BoolOp .Or [a] pos) tA:=by
 intro wh pins s σ H Q I h;refine isTrue_or (Ae (ha pins s σ H Q I h) fun c s1 e=>?_)
 cases c with
 |false=>exact isTrue_or_nil e
 |true=>exact e
def FN(ha:PT X a tA)(hb:PW X (.BoolOp .And (b::rest) pos) tB'):PW X (.BoolOp .And (a::b::rest) pos) (UE tA tB'):=by
 intro wh pins s σ H Q I h;refine isTrue_and (Ae (ha pins s σ H _ I h) fun c s1 ⟨H1,I1,q1⟩=>?_)
 cases c with
 |true=>exact hb wh pins s1 σ H1 Q I1 q1
 |false=>exact⟨H1,I1,q1⟩
def Je(ha:PT X a tA)(hb:PW X (.BoolOp .Or (b::rest) pos) tB'):PW X (.BoolOp .Or (a::b::rest) pos) (qZ tA tB'):=by
 intro wh pins s σ H Q I h;refine isTrue_or (Ae (ha pins s σ H _ I h) fun c s1 ⟨H1,I1,q1⟩=>?_)
 cases c with
 |true=>exact⟨H1,I1,q1⟩
 |false=>exact hb wh pins s1 σ H1 Q I1 q1
def IA(ha:PT X a tA):PT X (.UnaryOp .Not a pos) (qD tA):=by intro pins s σ H Q I h;exact isTrue_not (ha pins s σ H (fun c H1=>Q (!c) H1) I h)
def nJ(ta tb:TE):TE:=fun σ H Q=>ta σ H fun x H1=>∃c,x=.bl c/\if c=true then tb σ H1 Q else Q (.bl false) H1
def ou(ta:TE):TE:=fun σ H Q=>ta σ H fun x H1=>∃c,x=.bl c/\Q (.bl (!c)) H1
def Pu{op}{t:TE}(h:PE X a t):PE X (.BoolOp op [a] pos) t:=fun pins s σ H Q I hw=>BoolOp_one (h pins s σ H Q I hw)
def Po(ha:PE X a ta)(hb:PE X (.BoolOp .And (b::rest) pos) tb):PE X (.BoolOp .And (a::b::rest) pos) (nJ ta tb):=by
 intro pins s σ H Q I h;refine BoolOp_and (Ae (ha pins s σ H _ I h) fun v s1 ⟨x,H1,I1,r1,q1⟩=>?_);obtain⟨c,rfl,q1⟩:=q1;cases r1;refine Ma ?_
 cases c with
 |true=>exact hb pins s1 σ H1 Q I1 q1
 |false=>exact⟨.bl false,H1,I1,rfl,q1⟩
def ka(ha:PE X a ta):PE X (.UnaryOp .Not a pos) (ou ta):=by intro pins s σ H Q I h;refine UnaryOp_ (Ae (ha pins s σ H _ I h) fun v s1 ⟨x,H1,I1,r1,q1⟩=>?_);obtain⟨c,rfl,q1⟩:=q1;cases r1;exact not_of (Ma ⟨.bl (!c),H1,I1,rfl,q1⟩)
def qe(t:TT)(ta tb:TE):TE:=fun σ H Q=>t σ H fun c H1=>if c=true then ta σ H1 Q else tb σ H1 Q
end
variable{c:hY}
section
variable{a b:hY}{tb:TE}{tA tB':TT}{rest:List hY}
def gh(hc:PT X c tA)(ha:PE X a ta)(hb:PE X b tb):PE X (.IfExp c a b pos) (qe tA ta tb):=by
 intro pins s σ H Q I h;refine wpAny_IfExp (Ae (hc pins s σ H _ I h) fun d s1 ⟨H1,I1,q1⟩=>?_)
 cases d with
 |true=>exact ha pins s1 σ H1 Q I1 q1
 |false=>exact hb pins s1 σ H1 Q I1 q1
end
def AJ(K:uJ)(H:Hp)(a:Ya)(xs:List V):Prop:=
 Rd H a (.lst xs)\/
  ∃(o:Obj)(AO:Array AB)(n:Nat),K.lookup a=some o/\o.cls=.type "list" /\o.dict=none/\o.data=.seq AO n/\AO.size<=sizeLine/\Vals xs AO.toList
def AX(K:uJ)(H:Hp)(a:Ya)(xs:List V):Prop:=
 Rd H a (.tup xs)\/
  ∃(o:Obj)(AO:Array AB)(n:Nat),K.lookup a=some o/\o.cls=.type "tuple" /\o.data=.seq AO n/\AO.size<=sizeLine/\Vals xs AO.toList
noncomputable def pL:AB->Option V
 |.none=>some .BB
 |.bool b=>some (.bl b)
 |.int i _=>some (.int i)
 |.str x _=>some (.str x)
 |.bytes b _=>some (.F6 b)
 |.float b _=>some (.Iu b)
 |.ref a=>some (.ref a)
 |.type n=>some (.ty n)
 |_=>none
def RelV.abs{x:V}(r:RelV x u):pL u=some x:=by
 cases x with
 |BB=>cases r;rfl
 |bl _=>cases r;rfl
 |int _=>obtain⟨t,rfl⟩:=r;rfl
 |str _=>obtain⟨t,rfl⟩:=r;rfl
 |F6 _=>obtain⟨t,rfl⟩:=r;rfl
 |Iu _=>obtain⟨t,rfl⟩:=r;rfl
 |ref _=>cases r;rfl
 |ty _=>cases r;rfl
def RelV.inj{x y:V}{u:AB}(r:RelV x u)(q:RelV y u):x=y:=Ai (r.abs.symm.trans q.abs)
def Vals.inj:∀{xs ys:List V}{us:List AB},Vals xs us->Vals ys us->xs=ys
 |_,_,_,.nil,.nil=>rfl
 |_,_,_,.cons r t,.cons r' t'=>by rw[r.inj r',Vals.inj t t']
variable{K:uJ}
section
variable{xs:List V}
def AJ.of(h:H a=some (.lst xs)):AJ K H a xs:=.inl (.inl h)
def AX.of(h:H a=some (.tup xs)):AX K H a xs:=.inl (.inl h)
def Inv.list(I:Inv X pins σ H s)(h:AJ X.K H a xs):∃AO:List AB,Vals xs AO/\PlainL s.heap a AO.toArray/\xs.length<=sizeLine:=by
 rcases h with h|⟨o,AO,n,hk,hc,hd,hs,hz,r⟩
 ·obtain⟨z,AO,n,r,e⟩:=h.ok I.hok;exact⟨AO,r,⟨_,n,e,rfl,rfl,rfl⟩,z⟩
 ·refine⟨AO.toList,r,⟨o,n,I.BV a o hk,hc,hd,by simpa using hs⟩,?_⟩;have e:=r.length;simp only[En] at e
  lia
def Inv.tuple(I:Inv X pins σ H s)(h:AX X.K H a xs):∃AO:List AB,Vals xs AO/\IsTup s.heap a AO.toArray/\xs.length<=sizeLine:=by
 rcases h with h|⟨o,AO,n,hk,hc,hs,hz,r⟩
 ·obtain⟨z,AO,r,p⟩:=h.ok I.hok;exact⟨AO,r,p,z⟩
 ·refine⟨AO.toList,r,⟨o,I.BV a o hk,hc,n,by simpa using hs⟩,?_⟩;have e:=r.length;simp only[En] at e
  lia
end
variable{ys:List V}
section
variable{xs:List V}
def Inv.Wu(I:Inv X pins σ H s)(h:AJ X.K H a xs)(h':AJ X.K H a ys):xs=ys:=by
 obtain⟨AO,r,⟨o,n,e,_,_,d⟩,_⟩:=I.list h;obtain⟨its',r',⟨o',n',e',_,_,d'⟩,_⟩:=I.list h';rw[e] at e';cases e';rw[d] at d';injection d' with d1 _;have:AO=its':=by simpa using BJ Array.toList d1
 subst this;exact r.inj r'
end
abbrev Cx.IH(X:Cx)(E:AB->Yf->Prop):Cx:={X with xe:=E}
abbrev Cx.Qa(X:Cx):Cx:=X.IH fun _ _=>False
def Cx.Ok.IH(ok:X.Ok)(E:AB->Yf->Prop):(X.IH E).Ok:=
 ⟨ok.mod,ok.kind,ok.glob,ok.blt,ok.above,ok.inj,ok.has,ok.Kv,ok.hd,ok.frames,ok.MM,ok.QT,ok.bs,ok.Gn,ok.Kr,ok.Ko,ok.E5,ok.IJ⟩
def Cx.Ok.JR(ok:(X.IH E).Ok):X.Ok:=
 ⟨ok.mod,ok.kind,ok.glob,ok.blt,ok.above,ok.inj,ok.has,ok.Kv,ok.hd,ok.frames,ok.MM,ok.QT,ok.bs,ok.Gn,ok.Kr,ok.Ko,ok.E5,ok.IJ⟩
def Inv.IH(I:Inv X pins σ H s)(E:AB->Yf->Prop):Inv (X.IH E) pins σ H s:=⟨I.ok.IH E,I.os,I.bare,I.base,I.loc,I.cell,I.free,I.DM,I.pin,I.hok,I.len⟩
def Inv.JR(I:Inv (X.IH E) pins σ H s):Inv X pins σ H s:=⟨I.ok.JR,I.os,I.bare,I.base,I.loc,I.cell,I.free,I.DM,I.pin,I.hok,I.len⟩
def SP.JR{D:Ends}{f:Flow}{s':Yf}(h:SP (X.IH E) pins D f s'):SP X pins D f s':=by
 cases f with
 |next=>obtain⟨σ',H',I,q⟩:=h;exact⟨σ',H',I.JR,q⟩
 |brk=>obtain⟨σ',H',I,q⟩:=h;exact⟨σ',H',I.JR,q⟩
 |cont=>obtain⟨σ',H',I,q⟩:=h;exact⟨σ',H',I.JR,q⟩
 |ret u=>obtain⟨v,σ',H',I,r,q⟩:=h;exact⟨v,σ',H',I.JR,r,q⟩
def Eh.Qa{st:List hX}{t:TS}(h:Eh X.Qa st t):Eh X st t:=fun pins s σ H D I hw=>DC (h pins s σ H D (I.IH _) hw) (fun _ _ q=>q.JR) fun _ _ z=>False.elim z
section
variable{st:hX}{rest:List hX}{t u:TS}
def Kc:TS:=fun D σ H=>D.nx σ H
def Jg(t u:TS):TS:=fun D σ H=>t {D with nx:=u D} σ H
def BG:Eh X [] Kc:=fun _ _ σ H _ I h=>Oc ⟨σ,H,I,h⟩
def AS{X:Cx}{st:hX}{rest:List hX}{t:TS}{u:TS}(h1:PS X st t)(h2:Eh X rest u):Eh X (st::rest) (Jg t u):=by
 intro pins s σ H D I h;refine wpAny_execs_cons (Ae (h1 pins s σ H {D with nx:=u D} I h) fun f s1 q=>?_)
 cases f with
 |next=>obtain⟨σ',H',I',q⟩:=q;exact h2 pins s1 σ' H' D I' q
 |ret v=>exact q
 |brk=>exact q
 |cont=>exact q
def AU{X:Cx}{st:hX}{t:TS}(h1:PS X st t):Eh X [st] t:=by
 intro pins s σ H D I h;refine wpAny_execs_cons (Ae (h1 pins s σ H D I h) fun f s1 q=>?_)
 cases f with
 |next=>exact Oc q
 |ret v=>exact q
 |brk=>exact q
 |cont=>exact q
def Inv.quiet(I:Inv X pins σ H s):interactive X.env=false:=by simp[interactive,I.ok.kind]
end
variable{te:TE}
section
variable{st:hX}{rest:List hX}{t u:TS}
def oF(te:TE):TS:=fun D σ H=>te σ H fun _ H1=>D.nx σ H1
def Bp(he:PE X e te)(hs:sg e none pos.line X.env=pure false:=by rfl):PS X (.Expr e pos) (oF te):=by intro pins s σ H D I h;exact wpAny_Expr_any (Ae (he pins s σ H _ I h) fun v s1 ⟨x,H1,I1,r1,q1⟩=>⟨σ,H1,I1,q1⟩) I.quiet hs
def ar(te:TE):TS:=fun D σ H=>te σ H D.rt
def An{X:Cx}{e:hY}{te:TE}{pos:Pos}(he:PE X e te):PS X (.Return (some e) pos) (ar te):=by intro pins s σ H D I h;exact wpAny_Return_some (Ae (he pins s σ H _ I h) fun v s1 ⟨x,H1,I1,r1,q1⟩=>⟨x,σ,H1,I1,r1,q1⟩)
def Hb(c:TT)(t u:TS):TS:=fun D σ H=>c σ H fun b H1=>if b=true then t D σ H1 else u D σ H1
def A7{a b:List hX}{tc:TT}(hc:PT X c tc)(ha:Eh X a t)(hb:Eh X b u):PS X (.If c a b pos) (Hb tc t u):=by
 intro pins s σ H D I h;refine wpAny_If (Ae (hc pins s σ H _ I h) fun d s1 ⟨H1,I1,q1⟩=>?_)
 cases d with
 |true=>exact ha pins s1 σ H1 D I1 q1
 |false=>exact hb pins s1 σ H1 D I1 q1
end
abbrev TG:=V->St->Hp->(St->Hp->Prop)->Prop
abbrev K1:=List V->St->Hp->(St->Hp->Prop)->Prop
def PG(X:Cx)(target:hY)(t:TG):Prop:=
 ∀(pins:List (Ya×Obj))(s:Yf)(σ:St)(H:Hp)(v:V)(u:AB)(Q:St->Hp->Prop),Inv X pins σ H s->RelV v u->t v σ H Q->
  bt (ax X.prog X.w) X.A (uD target X.env u) (fun _ s'=>∃σ' H',Inv X pins σ' H' s'/\Q σ' H') X.xe s
def Qg(X:Cx)(ts:List hY)(t:K1):Prop:=
 ∀(pins:List (Ya×Obj))(s:Yf)(σ:St)(H:Hp)(vs:List V)(us:List AB)(Q:St->Hp->Prop),Inv X pins σ H s->Vals vs us->t vs σ H Q->
  bt (ax X.prog X.w) X.A (assignInOrder ((sY ts X.env).map (·.2)) us) (fun _ s'=>∃σ' H',Inv X pins σ' H' s'/\Q σ' H') X.xe s
abbrev UQ:=V->V->V->Hp->(Hp->Prop)->Prop
def au(X:Cx)(t:UQ):Prop:=
 ∀(pins:List (Ya×Obj))(s:Yf)(σ:St)(H:Hp)(o i v:V)(ov iv u:AB)(Q:Hp->Prop),Inv X pins σ H s->RelV o ov->RelV i iv->RelV v u->t o i v H Q->
  bt (ax X.prog X.w) X.A (setItem ov iv u) (fun _ s'=>∃H',Inv X pins σ H' s'/\Q H') X.xe s
def Dy(i:Nat):TG:=fun v σ H Q=>Q (σ.set i (some v)) H
def Bh(hN:X.N.Nodup)(hi:X.N[i]? =some x)(hx:Loc X.env.scope x)(hf:X.fn x=true\/X.env.scope.names.lookup x=some .local:=by first|exact .inl rfl|exact .inr rfl|assumption):PG X (.Name x pos) (Dy i):=by intro pins s σ H v u Q I r h;exact wpAny_assign_Name (SV I hN hi hx r (fun s' I'=>⟨_,H,I',h⟩) hf)
noncomputable def UP:K1:=fun vs σ H Q=>vs=[]/\Q σ H
noncomputable def Lr(t:TG)(u:K1):K1:=fun vs σ H Q=>∃v r,vs=v::r/\t v σ H fun σ' H'=>u r σ' H' Q
def LY:Qg X [] UP:=by intro pins s σ H vs us Q I r h;obtain⟨e,h⟩:=h;subst e;cases r;exact assignInOrder_nil ⟨σ,H,I,h⟩
def Fn{es:List hY}{t:TG}{u:K1}(h1:PG X e t)(h2:Qg X es u)
 (hs:(sY (e::es) X.env).map (·.2)=uD e X.env::(sY es X.env).map (·.2):=by rfl):Qg X (e::es) (Lr t u):=by
 intro pins s σ H vs us Q I r h;obtain⟨v,vr,e1,h⟩:=h;subst e1
 cases r with
 |cons r rr=>rw[hs];refine assignInOrder_cons (Ae (h1 pins s σ H _ _ _ I r h) fun _ s1 ⟨σ1,H1,I1,q1⟩=>?_);exact h2 pins s1 σ1 H1 _ _ Q I1 rr q1
def UW(K:uJ)(n:Nat)(t:K1):TG:=fun v σ H Q=>∃a xs,v=.ref a/\AX K H a xs/\xs.length=n/\t xs σ H Q
variable{k:Nat}
def Lj{es:List hY}{t:K1}{n:Nat}(hc:X.calm=true)(h:Qg X es t)
 (hn:(sY es X.env).length=n:=by rfl)(hst:(sY es X.env).findIdx? (·.1)=none:=by rfl):PG X (.Tuple es k pos) (UW X.K n t):=by
 intro pins s σ H v u Q I r hw;obtain⟨a,xs,e1,hq,hl,hw⟩:=hw;subst e1;cases r;obtain⟨AO,rv,ht,hz⟩:=I.tuple hq;refine assign_Tuple_tuple (I.ok.hd hc) ht (by simp[hn,<-hl,rv.length]) hst fun h' hx=>?_;have I1:Inv X pins σ H {s with heap:=h'}:=I.kept (t':=s.toks) fun b o e=>hx b o (BN (A1 e)) e;exact h pins _ σ H xs _ Q I1 (by simpa using rv) hw
def pX(to ti:TE)(t:UQ):TG:=fun v σ H Q=>to σ H fun o H1=>ti σ H1 fun i H2=>t o i v H2 fun H3=>Q σ H3
def TV{o i:hY}{to ti:TE}{t:UQ}(ho:PE X o to)(hi:PE X i ti)(hs:au X t)
 (ha:∀v,uD (.Subscript o i pos) X.env v=(do
  let ov<-sX [v] (qr o X.env);let iv<-sX [v,ov] (qr i X.env)
  tX pos
  sX [v,ov,iv] (setItem ov iv v)
  release [v,ov,iv] []):=by intro _;rfl):PG X (.Subscript o i pos) (pX to ti t):=by
 intro pins s σ H v u Q I r h;rw[ha];refine AL (GG (Ae (ho pins s σ H _ I h) fun ov s1 ⟨x,H1,I1,r1,q1⟩=>?_));refine AL (GG (Ae (hi pins s1 σ H1 _ I1 q1) fun iv s2 ⟨y,H2,I2,r2,q2⟩=>?_));refine AL (Oi (AL (GG (Ae (hs pins s2 σ H2 x y v ov iv u _ I2 r1 r2 r q2) fun _ s3 ⟨H3,I3,q3⟩=>?_))));exact wpAny_release ⟨σ,H3,I3,q3⟩
def QC(te:TE)(g:TG):TS:=fun D σ H=>te σ H fun x H1=>g x σ H1 D.nx
variable{tg:hY}{g:TG}
def Pm(he:PE X e te)(hg:PG X tg g)(hs:swapsWithSole [tg] e pos.line X.env=pure false:=by rfl)(hw:swappedStores [tg] e X.env=pure none:=by rfl)
 (h1:(sY [tg] X.env).map (·.2)=[uD tg X.env]:=by rfl):PS X (.Assign [tg] e pos) (QC te g):=by
 intro pins s σ H D I h;refine wpAny_Assign_stores (Ae (he pins s σ H _ I h) fun v s1 ⟨x,H1,I1,r1,q1⟩=>?_) hs hw;rw[h1];exact Ae (hg pins s1 σ H1 x v _ I1 r1 q1) fun _ s2 q=>q
def Av{pos':Pos}(hN:X.N.Nodup)(hi:X.N[i]? =some x)(hx:Loc X.env.scope x)(he:PE X e te)(hs:sg e (some (.Name x pos')) pos.line X.env=pure false:=by rfl)(hf:X.fn x=true\/X.env.scope.names.lookup x=some .local:=by first|exact .inl rfl|exact .inr rfl|assumption):
 PS X (.Assign [.Name x pos'] e pos) (QC te (Dy i)):=by
 intro pins s σ H D I h;refine wpAny_Assign_Name (Ae (he pins s σ H _ I h) fun v s1 ⟨y,H1,I1,r1,q1⟩=>?_) hs;exact SV I1 hN hi hx r1 (fun s2 I2=>⟨_,H1,I2,q1⟩) hf
def kz(c:TT)(tb:TS):TS:=fun D σ H=>∃W:Nat->St->Hp->Prop,(∃m,W m σ H)/\∀m σ H,W m σ H->
 c σ H fun b H1=>if b=true then∃N:St->Hp->Prop,(∀σ' H',N σ' H'->∃m',m'<m/\W m' σ' H')/\tb {D with nx:=N,ct:=N,bk:=D.nx} σ H1 else D.nx σ H1
variable{body:List hX}{tb:TS}
def gc{tc:TT}(hp:PassesOwn (ax X.prog X.w) X.A X.env X.xe)(hc:PT X c tc)(hb:Eh X body tb):PS X (.While c body [] pos) (kz tc tb):=by
 intro pins s σ H D I h;obtain⟨W,⟨m0,w0⟩,turn⟩:=h;refine wpAny_While (codeAny_whileLoop (fun n s'=>∃σ' H',Inv X pins σ' H' s'/\W n σ' H') ?_ m0 ⟨σ,H,I,w0⟩);rintro n s1 ⟨σ1,H1,I1,w1⟩;refine K6 hp (Ae (hc pins s1 σ1 H1 _ I1 (turn n σ1 H1 w1)) fun b s2 ⟨H2,I2,q2⟩=>?_)
 cases b with
 |true=>
  obtain⟨N,hN,q2⟩:=q2;rw[AH rfl];refine K6 hp (Ae (hb pins s2 σ1 H2 _ I2 q2) fun f s3 q3=>?_)
  cases f with
  |next=>obtain⟨σ3,H3,I3,n3⟩:=q3;obtain⟨m',hm,w3⟩:=hN σ3 H3 n3;exact⟨m',hm,σ3,H3,I3,w3⟩
  |cont=>obtain⟨σ3,H3,I3,n3⟩:=q3;obtain⟨m',hm,w3⟩:=hN σ3 H3 n3;exact⟨m',hm,σ3,H3,I3,w3⟩
  |brk=>exact q3
  |ret v=>exact q3
 |false=>rw[AG CZ];exact Oc ⟨σ1,H2,I2,q2⟩
structure It where
 go:Nat->Hp->Prop
 Jq:Nat->Hp->V->Hp->Prop
 stop:Nat->Hp->Prop
def F0(X:Cx)(pins:List (Ya×Obj))(H:Hp)(b:Ya):Prop:=
 H b=none/\b≠X.env.locals/\b∉X.fs/\(b∈X.ex\/X.s₀.heap.objs.size<=b)/\(∀x c,X.env.cells.lookup x=some c->c≠b)/\∀p∈X.pn++pins,p.1≠b
def Inv.Kk(I:Inv X pins σ H s)(hb:s.heap.objs.size<=b)(hn:H' b=none):F0 X pins H' b:=by
 refine⟨hn,Eo (C8 I.lt hb),I.pU hb,.inr (BF I.sz hb),fun x c e z=>?_,fun p hp z=>?_⟩
 ·obtain⟨v,q⟩:=I.cell x c e;exact absurd (C8 q.lt (by rw[z];exact hb)) (Mr _)
 ·exact absurd (C8 (A1 (I.pin p hp).1) (by rw[z];exact hb)) (Mr _)
structure Turn(P:ql)(w:qu)(K:uJ)(tg:hY)(J:It)(fp:List Ya)(it:Ya)(tn:Nat->qp->Prop):Prop where
 mem:it∈fp
 obj:∀i h,tn i h->∀b∈fp,∃o,h.get? b=some o/\∀v,o.data≠.cell v
 keep:∀i h h',tn i h->(∀b∈fp,∀o,h.get? b=some o->h'.get? b=some o)->tn i h'
 item:∀(X:Cx),X.prog=P->X.w=w->X.K=K->X.calm=true->∀(i:Nat)(pins:List (Ya×Obj))(s:Yf)(σ:St)(H:Hp)(E:AB->Yf->Prop),Inv X pins σ H s->(∀b∈fp,F0 X pins H b)->tn i s.heap->J.go i H->
  bt (ax P w) X.A (rS (.ref it)) (fun r s1=>∃u,r=some u/\
   bt (ax P w) X.A (rg tg (.ref it) u) (fun _ s2=>∃x H',Inv X pins σ H' s2/\RelV x u/\J.Jq i H x H'/\tn (i+1) s2.heap/\∀b∈fp,H' b=none) E s1) E s
 done:∀(X:Cx),X.prog=P->X.w=w->X.K=K->X.calm=true->∀(i:Nat)(pins:List (Ya×Obj))(s:Yf)(σ:St)(H:Hp)(E:AB->Yf->Prop),Inv X pins σ H s->(∀b∈fp,F0 X pins H b)->tn i s.heap->J.stop i H->
  bt (ax P w) X.A (rS (.ref it)) (fun r s1=>r=none/\Inv X pins σ H s1) E s
 self:∀(A:rV)(i:Nat)(s:Yf)(Q:AB->Yf->Prop)(E:AB->Yf->Prop),tn i s.heap->Q (.ref it) s->bt (ax P w) A (pyIter (.ref it)) Q E s
abbrev TI:=St->Hp->(It->Hp->Prop)->Prop
def bQ(X:Cx)(pins:List (Ya×Obj))(σ:St)(tg:hY)(R:It->Hp->Prop)(itv:AB)(s2:Yf):Prop:=
 ∃(it:Ya)(fp:List Ya)(tn:Nat->qp->Prop)(J:It)(H':Hp),itv=.ref it/\Inv X pins σ H' s2/\Turn X.prog X.w X.K tg J fp it tn/\tn 0 s2.heap/\(∀b∈fp,F0 X pins H' b)/\R J H'
def PI(X:Cx)(tg iter:hY)(wi:TI):Prop:=
 ∀(pins:List (Ya×Obj))(s:Yf)(σ:St)(H:Hp)(R:It->Hp->Prop),Inv X pins σ H s->wi σ H R->
  bt (ax X.prog X.w) X.A (qr iter X.env) (fun v s1=>bt (ax X.prog X.w) X.A (pyIter v) (bQ X pins σ tg R) X.xe s1) X.xe s
variable{vs:Array AB}
def P5{it:Ya}{n:String}{Q:Unit->Yf->Prop}(ho:s.heap.get? it=some o)(hc:o.cls=.type n)(hd:o.data=.fields vs)
 (hn:["enumerate","zip","dict_itemiterator","dict_reverseitemiterator","odict_iterator","itertools.zip_longest","itertools.pairwise"].contains n=false)(hQ:Q () s):bt M A (rg tg (.ref it) u) Q E s:=by
 unfold rg;cases tg<;>first
  |exact Af hQ
  |(cases u<;>first
   |exact Af hQ
   |(refine AL (wpAny_load ho ?_)
     rw[hc,hd];show bt M A (if(["enumerate","zip","dict_itemiterator","dict_reverseitemiterator","odict_iterator","itertools.zip_longest","itertools.pairwise"].contains n&&vs[0]? ==some (rR _))=true then _ else _) Q E s;rw[AG (by intro h;rw[hn,Mq] at h;cases h)];exact Af hQ))
def Hf(K:uJ)(a:Ya):It:=
 ⟨fun i H=>∃xs x,AJ K H a xs/\xs[i]? =some x,fun i H x H'=>H'=H/\∀xs,AJ K H a xs->xs[i]? =some x,fun i H=>∃xs,AJ K H a xs/\xs.length<=i⟩
def MO(lo:Int)(n:Nat):It:=⟨fun i _=>i<n,fun i H x H'=>H'=H/\x=.int (lo+i),fun i _=>n<=i⟩
def fU(a it:Ya):Turn P w K tg (Hf K a) [it] it (fun i h=>h.IsListIter it a i) where
 mem:=by simp
 obj:=fun i h st b hb=>by
  have e:b=it:=by simpa using hb
  subst e;obtain⟨o,e,c,d⟩:=st;exact⟨o,e,fun v z=>by rw[d] at z;cases z⟩
 keep:=fun i h h' st k=>st.at fun o e=>k it (by simp) o e
 item:=by intro X hP hw hK hc i pins s σ H E I hf st hg;subst hP hw hK;obtain⟨xs,x,hq,hx⟩:=hg;obtain⟨AO,rv,p,hz⟩:=I.list hq;obtain⟨u,hu,ru⟩:=rv.get hx;obtain⟨f0,f1,f2,f3,f4,f5⟩:=hf it (by simp);refine wpAny_pyNext_list_item st p.isList (x:=u) (by simpa using hu) fun h' st' sb=>?_;have I1:Inv X pins σ H {s with heap:=h'}:=I.turned (t':=s.toks) (fun b o hb e=>(sb.2 b hb).trans e) f0 f1 f3 f4 f5;obtain⟨o,e,c,d⟩:=id st';exact⟨u,rfl,P5 (s:={s with heap:=h'}) e c d (by decide) ⟨x,H,I1,ru,⟨rfl,fun ys hy=>by rw[I.Wu hy hq];exact hx⟩,st',fun b hb=>(hf b hb).1⟩⟩
 done:=by intro X hP hw hK hc i pins s σ H E I hf st hg;subst hP hw hK;obtain⟨xs,hq,hx⟩:=hg;obtain⟨AO,rv,p,hz⟩:=I.list hq;obtain⟨f0,f1,f2,f3,f4,f5⟩:=hf it (by simp);have hl:=rv.length;exact wpAny_pyNext_list_end (I.ok.hd hc) st p.isList (by simp;lia) fun h' eb=>⟨rfl,I.turned (t':=s.toks) (fun b o hb e=>eb b o hb e) f0 f1 f3 f4 f5⟩
 self:=fun _ _ _ _ _ st h=>wpAny_pyIter_listiter st h
def dI(it:Ya)(lo:Int)(n:Nat):Turn P w K tg (MO lo n) [it] it (fun i h=>IsRangeIter h it (lo+(i:Nat)*1) ((n:Int)-(i:Nat)) 1) where
 mem:=by simp
 obj:=fun i h st b hb=>by
  have e:b=it:=by simpa using hb
  subst e;exact⟨_,st,fun v z=>by have z':Data.fields _=Data.cell v:=z;cases z'⟩
 keep:=fun i h h' st k=>k it (by simp) _ st
 item:=by intro X hP hw hK hc i pins s σ H E I hf st hg;subst hP hw hK;obtain⟨f0,f1,f2,f3,f4,f5⟩:=hf it (by simp);have W:=Walks.range (prog:=X.prog) (w:=X.w) (I.ok.hd hc) it lo 1 n;refine W.item i s _ _ hg st fun v h' tk hv st' kk=>?_;obtain⟨t,rfl⟩:=hv;have I1:Inv X pins σ H {s with heap:=h',toks:=tk}:=I.turned (fun b o hb e=>kk b o (by simpa using hb) e) f0 f1 f3 f4 f5;refine⟨_,rfl,P5 (s:={s with heap:=h',toks:=tk}) (n:="range_iterator") st' rfl rfl (by decide) ⟨.int (lo+i),H,I1,⟨t,?_⟩,⟨rfl,rfl⟩,st',fun b hb=>(hf b hb).1⟩⟩;rw[Int.mul_one]
 done:=by intro X hP hw hK hc i pins s σ H E I hf st hg;subst hP hw hK;obtain⟨f0,f1,f2,f3,f4,f5⟩:=hf it (by simp);exact wpAny_pyNext_range_end (I.ok.hd hc) st (by have:n<=i:=hg;lia) fun h' eb=>⟨rfl,I.turned (t':=s.toks) (fun b o hb e=>eb b o hb e) f0 f1 f3 f4 f5⟩
 self:=fun _ _ _ _ _ st h=>wpAny_pyIter_rangeiter st h
def Kd(K:uJ)(tl:TE):TI:=fun σ H R=>tl σ H fun x H1=>∃a,x=.ref a/\(∃xs,AJ K H1 a xs)/\R (Hf K a) H1
def GX{l:hY}{tl:TE}(hl:PE X l tl):PI X tg l (Kd X.K tl):=by
 intro pins s σ H R I h;refine Ae (hl pins s σ H _ I h) fun v s1 ⟨x,H1,I1,r1,q1⟩=>?_;obtain⟨a,e,⟨xs,hq⟩,q⟩:=q1;subst e;cases r1;obtain⟨AO,rv,p,hz⟩:=I1.list hq;refine wpAny_pyIter_list p.isList ?_;refine⟨s1.heap.objs.size,[s1.heap.objs.size],_,_,H1,rfl,I1.kept (t':=s1.toks) fun b o e=>BC _ e,fU a _,⟨_,By _ rfl,rfl,rfl⟩,fun b hb=>?_,q⟩;have e:b=s1.heap.objs.size:=by simpa using hb
 subst e;exact I1.Kk (Ad _) (I1.hok.fresh (Ad _))
def iW{R:It->Hp->Prop}{lo hi:Int}{t u v:Tok}{tk:Nat}(I:Inv X pins σ H s)(h1: -(2^62)<=lo)(h2:lo<2^62)(h3: -(2^62)<=hi)(h4:hi<2^62)
 (q:R (MO lo (hi-lo).toNat) H):bt (ax X.prog X.w) X.A (pyIter (.ref s.heap.objs.size)) (bQ X pins σ tg R) E {s with heap:=s.heap.push {cls:=.type "range",data:=.fields #[.int lo t,.int hi u,.int 1 v]},toks:=tk}:=by
 refine wpAny_pyIter_range (IsRange.new ..) (small_one h1 h2 h3 h4) ?_;have I1:Inv X pins σ H {s with heap:=s.heap.push {cls:=.type "range",data:=.fields #[.int lo t,.int hi u,.int 1 v]},toks:=tk}:=I.kept fun b o e=>BC _ e;refine⟨(s.heap.push {cls:=.type "range",data:=.fields #[.int lo t,.int hi u,.int 1 v]}).objs.size,[(s.heap.push {cls:=.type "range",data:=.fields #[.int lo t,.int hi u,.int 1 v]}).objs.size],_,_,H,rfl,
  I1.kept (t':=tk) fun b o e=>BC _ e,dI _ lo (hi-lo).toNat,?_,fun b hb=>?_,q⟩
 ·have e1:lo+((0:Nat):Int)*1=lo:=by simp
  have e2:(((hi-lo).toNat:Nat):Int)-((0:Nat):Int)=Builtin.Range.rangeSize lo hi 1:=by rw[rangeSize_one];split<;>lia
  show IsRangeIter _ _ (lo+((0:Nat):Int)*1) ((((hi-lo).toNat:Nat):Int)-((0:Nat):Int)) 1;rw[e1,e2];exact By _ rfl
 ·have e:b=(s.heap.push {cls:=.type "range",data:=.fields #[.int lo t,.int hi u,.int 1 v]}).objs.size:=by simpa using hb
  subst e;exact I1.Kk (Ad _) (I1.hok.fresh (Ad _))
def ng(ta:TA):TI:=fun σ H R=>ta σ H fun vs H1=>∃j:Int,vs=[.int j]/\ -(2^62)<=j/\j<2^62/\R (MO 0 j.toNat) H1
variable{p:Pos}
def Rt{a:hY}{ta:TA}(hg:Gl X "range")(hm:X.mg "range" =none)(ha:PA X [a] ta)(hs:dy [a] X.env=[(false,qr a X.env)]:=by rfl):PI X tg (.Call (.Name "range" p) [a] [] pos) (ng ta):=by
 intro pins s σ H R I h;refine Call_ (Nh I hg hm boot_range (U7 (Ae (ha pos pins s σ H _ I h) fun us s1 ⟨vs,H1,I1,r1,q1⟩=>?_) hs rfl));obtain⟨j,e,q1,q2,q⟩:=q1;subst e
 cases r1 with
 |cons r rr=>cases rr;obtain⟨t,rfl⟩:=r;exact call_range_1 (iW I1 (by lia) (by lia) q1 q2 (by simpa using q))
def N2(wi:TI)(g:TG)(tb:TS):TS:=fun D σ H=>wi σ H fun J H1=>∃W:Nat->Nat->St->Hp->Prop,(∃m,W 0 m σ H1)/\∀i m σ H,W i m σ H->
 (J.stop i H/\D.nx σ H)\/(J.go i H/\∃N:St->Hp->Prop,(∀σ' H',N σ' H'->∃m',m'<m/\W (i+1) m' σ' H')/\∀x H',J.Jq i H x H'->g x σ H' fun σ2 H2=>tb {D with nx:=N,ct:=N,bk:=D.nx} σ2 H2)
noncomputable def Na(fp:List Ya)(h:qp):List (Ya×Obj):=fp.filterMap fun b=>(h.get? b).map fun o=>(b,o)
variable{fp:List Ya}
def Ox(hb:b∈fp)(e:h.get? b=some o):(b,o)∈Na fp h:=Qz.mpr ⟨b,hb,by rw[e];rfl⟩
def eA{p:Ya×Obj}(hp:p∈Na fp h):p.1∈fp/\h.get? p.1=some p.2:=by
 obtain⟨b,hb,e⟩:=Qz.mp hp
 cases q:h.get? b with
 |none=>rw[q] at e;cases e
 |some o=>rw[q] at e;have e':(b,o)=p:=Ai e;subst e';exact⟨hb,q⟩
def Inv.pinned(I:Inv X pins σ H s)(hf:∀b∈fp,F0 X pins H b)(ho:∀b∈fp,∃o,s.heap.get? b=some o/\∀v,o.data≠.cell v):Inv X (pins++Na fp s.heap) σ H s:=
 I.YD fun p hp=>(Bk.mp hp).elim (fun z=>I.pin p (Dq _ z)) fun z=>by obtain⟨hb,e⟩:=eA z;obtain⟨f0,f1,f2,_⟩:=hf p.1 hb;obtain⟨o,e',d⟩:=ho p.1 hb;rw[e] at e';cases e';exact⟨e,f0,f1,f2,d⟩
def Inv.O8{pl:List (Ya×Obj)}(I:Inv X (pins++pl) σ H s):Inv X pins σ H s:=I.YD fun p hp=>I.pin p (Dq _ (GC _ hp))
def EJ{iter:hY}{wi:TI}(hp:PassesOwn (ax X.prog X.w) X.A X.env X.xe)(hc:X.calm=true)(hi:PI X tg iter wi)(hg:PG X tg g)(hb:Eh X body tb)
 (hs:∀x,foldedSetIterable iter X.env x=pure x:=by intro _;rfl):PS X (.For tg iter body [] pos) (N2 wi g tb):=by
 intro pins s σ H D I h;refine wpAny_For (Ae (hi pins s σ H _ I h) fun v s1 h1=>Ae h1 fun itv s2 h2=>?_) hs;obtain⟨it,fp,tn,J,H2,e,I2,T,st2,f2,W,⟨m0,w0⟩,turn⟩:=h2;subst e;have stat:∀{H':Hp},(∀b∈fp,H' b=none)->∀b∈fp,F0 X pins H' b:=fun hn b hb=>⟨hn b hb,(f2 b hb).2⟩;refine codeAny_forLoop_any (fun n s'=>∃i σ' H',Inv X pins σ' H' s'/\tn i s'.heap/\(∀b∈fp,H' b=none)/\W i n σ' H') ?_ m0 ⟨0,σ,H2,I2,st2,fun b hb=>(f2 b hb).1,w0⟩;rintro n s3 ⟨i,σ3,H3,I3,st3,fr3,w3⟩;rcases turn i n σ3 H3 w3 with⟨stop,qn⟩|⟨go,N,hN,step⟩
 ·refine K6 hp (Ae (T.done X rfl rfl rfl hc i pins s3 σ3 H3 X.xe I3 (stat fr3) st3 stop) fun r s4 ⟨hr,I4⟩=>?_);subst hr;exact Oc ⟨σ3,H3,I4,qn⟩
 ·refine K6 hp (Ae (T.item X rfl rfl rfl hc i pins s3 σ3 H3 X.xe I3 (stat fr3) st3 go) fun r s4 ⟨u,hr,h4⟩=>?_);subst hr;refine K6 hp (Ae h4 fun _ s5 ⟨x,H5,I5,r5,y5,st5,fr5⟩=>?_);have I5':=I5.pinned (stat fr5) (T.obj _ _ st5);refine K6 hp (Ae (hg _ s5 σ3 H5 x u _ I5' r5 (step x H5 y5)) fun _ s6 ⟨σ6,H6,I6,q6⟩=>?_);refine K6 hp (Ae (hb _ s6 σ6 H6 _ I6 q6) fun f s7 q7=>?_);have again:∀{σ7:St}{H7:Hp},Inv X (pins++Na fp s5.heap) σ7 H7 s7->N σ7 H7->∃m,m<n/\∃i σ' H',Inv X pins σ' H' s7/\tn i s7.heap/\(∀b∈fp,H' b=none)/\W i m σ' H':=fun{σ7 H7} I7 n7=>by obtain⟨m',hm,w7⟩:=hN σ7 H7 n7;refine⟨m',hm,i+1,σ7,H7,I7.O8,T.keep _ _ _ st5 fun b hb o e=>(I7.pin (b,o) (Dq _ (Dq _ (Ox hb e)))).1,fun b hb=>?_,w7⟩;obtain⟨o,e,d⟩:=T.obj _ _ st5 b hb;exact(I7.pin (b,o) (Dq _ (Dq _ (Ox hb e)))).2.1
  cases f with
  |next=>obtain⟨σ7,H7,I7,n7⟩:=q7;exact again I7 n7
  |cont=>obtain⟨σ7,H7,I7,n7⟩:=q7;exact again I7 n7
  |brk=>obtain⟨σ7,H7,I7,q7⟩:=q7;exact⟨σ7,H7,I7.O8,q7⟩
  |ret v=>obtain⟨x7,σ7,H7,I7,r7,q7⟩:=q7;exact⟨x7,σ7,H7,I7.O8,r7,q7⟩
def JH{xs:List V}{D:Ends}(Pv:Nat->St->Hp->Prop)(h0:Pv 0 σ H)(hl:∀i σ H,i<=xs.length->Pv i σ H->AJ K H a xs)
 (hs:∀i x σ H,xs[i]? =some x->Pv i σ H->g x σ H fun σ2 H2=>tb {D with nx:=Pv (i+1),ct:=Pv (i+1),bk:=D.nx} σ2 H2)(hd:∀σ H,Pv xs.length σ H->D.nx σ H):
 ∃W:Nat->Nat->St->Hp->Prop,(∃m,W 0 m σ H)/\∀i m σ H,W i m σ H->
  ((Hf K a).stop i H/\D.nx σ H)\/((Hf K a).go i H/\∃N:St->Hp->Prop,(∀σ' H',N σ' H'->∃m',m'<m/\W (i+1) m' σ' H')/\∀x H',(Hf K a).Jq i H x H'->g x σ H' fun σ2 H2=>tb {D with nx:=N,ct:=N,bk:=D.nx} σ2 H2):=by
 refine⟨fun i m σ H=>m=xs.length-i/\i<=xs.length/\Pv i σ H,⟨xs.length,by simp,CG _,h0⟩,?_⟩;rintro i m σ H ⟨rfl,hi,p⟩;have q:=hl i σ H hi p;by_cases hlt:i<xs.length
 ·refine .inr ⟨⟨xs,xs[i],q,by simp[hlt]⟩,Pv (i+1),fun σ' H' p'=>⟨xs.length-(i+1),by lia,rfl,hlt,p'⟩,fun x H' y=>?_⟩;obtain⟨e,y⟩:=y;subst e;exact hs i x σ _ (y xs q) p
 ·have e:i=xs.length:=by lia
  subst e;exact .inl ⟨⟨xs,q,Ad _⟩,hd σ H p⟩
def O0{lo:Int}{n:Nat}{D:Ends}(Pv:Nat->St->Hp->Prop)(h0:Pv 0 σ H)
 (hs:∀i σ H,i<n->Pv i σ H->g (.int (lo+i)) σ H fun σ2 H2=>tb {D with nx:=Pv (i+1),ct:=Pv (i+1),bk:=D.nx} σ2 H2)(hd:∀σ H,Pv n σ H->D.nx σ H):
 ∃W:Nat->Nat->St->Hp->Prop,(∃m,W 0 m σ H)/\∀i m σ H,W i m σ H->
  ((MO lo n).stop i H/\D.nx σ H)\/((MO lo n).go i H/\∃N:St->Hp->Prop,(∀σ' H',N σ' H'->∃m',m'<m/\W (i+1) m' σ' H')/\∀x H',(MO lo n).Jq i H x H'->g x σ H' fun σ2 H2=>tb {D with nx:=N,ct:=N,bk:=D.nx} σ2 H2):=by
 refine⟨fun i m σ H=>m=n-i/\i<=n/\Pv i σ H,⟨n,by simp,CG _,h0⟩,?_⟩;rintro i m σ H ⟨rfl,hi,p⟩;by_cases hlt:i<n
 ·refine .inr ⟨hlt,Pv (i+1),fun σ' H' p'=>⟨n-(i+1),by lia,rfl,hlt,p'⟩,fun x H' y=>?_⟩;obtain⟨e,y⟩:=y;subst e y;exact hs i σ _ hlt p
 ·have e:i=n:=by lia
  subst e;exact .inl ⟨Ad _,hd σ H p⟩
abbrev R2:=V->V->Hp->VK->Prop
def Bv(X:Cx)(f:AB->AB->Sem AB)(r:R2):Prop:=
 ∀(pins:List (Ya×Obj))(s:Yf)(σ:St)(H:Hp)(x y:V)(v u:AB)(Q:VK),Inv X pins σ H s->RelV x v->RelV y u->r x y H Q->
  bt (ax X.prog X.w) X.A (f v u) (EP X pins σ Q) X.xe s
def Uo(X:Cx)(f:AB->Sem AB)(r:V->Hp->VK->Prop):Prop:=
 ∀(pins:List (Ya×Obj))(s:Yf)(σ:St)(H:Hp)(x:V)(v:AB)(Q:VK),Inv X pins σ H s->RelV x v->r x H Q->
  bt (ax X.prog X.w) X.A (f v) (EP X pins σ Q) X.xe s
def DO(X:Cx)(f:AB)(r:List V->Hp->VK->Prop):Prop:=
 ∀(pins:List (Ya×Obj))(s:Yf)(σ:St)(H:Hp)(xs:List V)(us:List AB)(Q:VK),Inv X pins σ H s->Vals xs us->r xs H Q->
  bt (ax X.prog X.w) X.A (call f us) (EP X pins σ Q) X.xe s
def Fb(r:R2)(ta tb:TE):TE:=fun σ H Q=>ta σ H fun x H1=>tb σ H1 fun y H2=>r x y H2 Q
def qS(r:V->Hp->VK->Prop)(ta:TE):TE:=fun σ H Q=>ta σ H fun x H1=>r x H1 Q
def rI(C:Int->Int->Prop)(g:Int->Int->V):R2:=fun x y H Q=>∃i j,x=.int i/\y=.int j/\C i j/\Q (g i j) H
def K2(g:Int->Int->V):R2:=fun x y H Q=>∃i j,x=.int i/\y=.int j/\Q (g i j) H
def rU(g:Int->V):V->Hp->VK->Prop:=fun x H Q=>∃i,x=.int i/\Q (g i) H
section
variable{a b:hY}{tb tc:TE}
def UO(ha:PE X a ta)(hb:PE X b tb){R:V->V->Hp->Prop}(I:Inv X pins σ H s)
 (h:ta σ H fun x H1=>tb σ H1 fun y H2=>R x y H2){f:AB->AB->Sem AB}
 (hf:∀v u s2 x y H2,Inv X pins σ H2 s2->RelV x v->RelV y u->R x y H2->bt (ax X.prog X.w) X.A (f v u) Q X.xe s2):
 bt (ax X.prog X.w) X.A (qr a X.env) (fun v s₁=>bt (ax X.prog X.w) X.A (qr b X.env) (fun u s₂=>bt (ax X.prog X.w) X.A (f v u) Q X.xe s₂) X.xe s₁) X.xe s:=by
 refine Ae (ha pins s σ H _ I h) fun v s1 ⟨x,H1,I1,r1,q1⟩=>?_;refine Ae (hb pins s1 σ H1 _ I1 q1) fun u s2 ⟨y,H2,I2,r2,q2⟩=>?_;exact hf v u s2 x y H2 I2 r1 r2 q2
def Ag{op:Operator}{r:R2}(ho:Bv X (rZ op) r)(ha:PE X a ta)(hb:PE X b tb):PE X (.BinOp a op b pos) (Fb r ta tb):=by intro pins s σ H Q I h;exact wpAny_BinOp (UO ha hb I h fun v u s2 x y H2 I2 rx ry q=>ho pins s2 σ H2 x y v u Q I2 rx ry q)
def Eb{op:UnaryOp}{r:V->Hp->VK->Prop}(ho:Uo X (unaryOp op) r)(ha:PE X a ta):PE X (.UnaryOp op a pos) (qS r ta):=by intro pins s σ H Q I h;exact UnaryOp_ (Ae (ha pins s σ H _ I h) fun v s1 ⟨x,H1,I1,r1,q1⟩=>ho pins s1 σ H1 x v Q I1 r1 q1)
def Qb{f:AB->AB->Sem AB}{C:Int->Int->Prop}{g:Int->Int->Int}
 (rule:∀(i j:Int)(t u:Tok)(s:Yf)(Q:AB->Yf->Prop)(E:AB->Yf->Prop),C i j->Q (.int (g i j) s.toks) {s with toks:=s.toks+1}->bt (ax X.prog X.w) X.A (f (.int i t) (.int j u)) Q E s):
 Bv X f (rI C fun i j=>.int (g i j)):=by
 intro pins s σ H x y v u Q I rx ry h;obtain⟨i,j,rfl,rfl,hc,q⟩:=h;obtain⟨t,rfl⟩:=rx;obtain⟨t',rfl⟩:=ry;exact rule i j t t' s _ _ hc ⟨.int (g i j),H,I.tok _,⟨_,rfl⟩,q⟩
def bC{f:AB->AB->Sem AB}{g:Int->Int->Int}
 (rule:∀(i j:Int)(t u:Tok)(s:Yf)(Q:AB->Yf->Prop)(E:AB->Yf->Prop),Q (.int (g i j) s.toks) {s with toks:=s.toks+1}->bt (ax X.prog X.w) X.A (f (.int i t) (.int j u)) Q E s):
 Bv X f (K2 fun i j=>.int (g i j)):=by
 intro pins s σ H x y v u Q I rx ry h;obtain⟨i,j,rfl,rfl,q⟩:=h;obtain⟨t,rfl⟩:=rx;obtain⟨t',rfl⟩:=ry;exact rule i j t t' s _ _ ⟨.int (g i j),H,I.tok _,⟨_,rfl⟩,q⟩
def UL{f:AB->AB->Sem AB}{g:Int->Int->Bool}
 (rule:∀(i j:Int)(t u:Tok)(s:Yf)(Q:AB->Yf->Prop)(E:AB->Yf->Prop),Q (.bool (g i j)) s->bt (ax X.prog X.w) X.A (f (.int i t) (.int j u)) Q E s):
 Bv X f (K2 fun i j=>.bl (g i j)):=by
 intro pins s σ H x y v u Q I rx ry h;obtain⟨i,j,rfl,rfl,q⟩:=h;obtain⟨t,rfl⟩:=rx;obtain⟨t',rfl⟩:=ry;exact rule i j t t' s _ _ ⟨.bl (g i j),H,I,rfl,q⟩
def pD(i j:Int):Prop:=0<j/\j<1073741824
def qH(i j:Int):Prop:=0<=j/\j<=1000000/\i.natAbs<2^64
def UZ(i j:Int):Prop:=(-(2^64)<i/\i<2^64)\/(-(2^64)<j/\j<2^64)
def UZ.ok{i j:Int}(h:UZ i j):IntMulOk i j:=by
 rcases h with⟨h1,h2⟩|⟨h1,h2⟩
 ·exact .of_left (intBits_le_64 h1 h2)
 ·exact .of_right (intBits_le_64 h1 h2)
def DD:Bv X (rZ .Add) (K2 fun i j=>.int (i+j)):=bC fun _ _ _ _ _ _ _ q=>add_int q
def Pq:Bv X (rZ .Sub) (K2 fun i j=>.int (i-j)):=bC fun _ _ _ _ _ _ _ q=>sub_int q
def Pt:Bv X (rZ .Mult) (rI UZ fun i j=>.int (i*j)):=Qb fun _ _ _ _ _ _ _ hc q=>mul_int q hc.ok
def JL:Bv X (rZ .FloorDiv) (rI pD fun i j=>.int (i/j)):=Qb fun i j _ _ _ _ _ hc q=>by have h1:(0:Int)<j:=hc.1;have h2:j<1073741824:=hc.2;exact floordiv_int (by lia) (by rw[Int.fdiv_eq_ediv_of_nonneg i (by lia)];exact q) (.inl (PyProof.noPylong_small (by lia)))
def Bx:Bv X (rZ .Mod) (rI (fun _ j=>0<j) fun i j=>.int (i%j)):=Qb fun i j _ _ _ _ _ hc q=>by have h1:(0:Int)<j:=hc;exact mod_int' (by lia) (by rw[Int.fmod_eq_emod_of_nonneg i (by lia)];exact q)
def TM:Bv X (rZ .Pow) (rI qH fun i j=>.int (i^j.toNat)):=Qb fun _ _ _ _ _ _ _ hc q=>pow_int_small hc.1 hc.2.1 hc.2.2 q
def qd{f:AB->Sem AB}{g:Int->Int}
 (rule:∀(i:Int)(t:Tok)(s:Yf)(Q:AB->Yf->Prop)(E:AB->Yf->Prop),Q (.int (g i) s.toks) {s with toks:=s.toks+1}->bt (ax X.prog X.w) X.A (f (.int i t)) Q E s):
 Uo X f (rU fun i=>.int (g i)):=by
 intro pins s σ H x v Q I rx h;obtain⟨i,rfl,q⟩:=h;obtain⟨t,rfl⟩:=rx;exact rule i t s _ _ ⟨.int (g i),H,I.tok _,⟨_,rfl⟩,q⟩
def Ea:Uo X (unaryOp .USub) (rU fun i=>.int (-i)):=qd fun _ _ _ _ _ q=>neg_int q
end
noncomputable def bF:V->V->Bool
 |.BB,.BB=>true|.BB,.int _=>true|.int _,.BB=>true|.BB,.bl _=>true|.bl _,.BB=>true|.BB,.str _=>true|.str _,.BB=>true
 |.int _,.int _=>true|.bl _,.bl _=>true|.str _,.str _=>true|.F6 _,.F6 _=>true
 |.int _,.str _=>true|.str _,.int _=>true|.bl _,.str _=>true|.str _,.bl _=>true
 |_,_=>false
def MG:R2:=fun x y H Q=>bF x y=true/\Q (.bl (decide (x=y))) H
def cG:R2:=fun x y H Q=>bF x y=true/\Q (.bl (!decide (x=y))) H
def YT{i j:Int}:decide (V.int i=V.int j)=(i==j):=by rw[Of];simp
def Yz{i j:Bool}:decide (V.bl i=V.bl j)=(i==j):=by rw[Of];simp
def Yn{i j:Str}:decide (V.str i=V.str j)=(i==j):=by rw[Of];simp
def Xy{i j:Array UInt8}:decide (V.F6 i=V.F6 j)=(i.toList==j.toList):=by rw[Of];cases i;cases j;simp
section
variable{a b:hY}{tb tc:TE}
def CA{Q:VK}{k k':Bool}(I:Inv X pins σ H s)(q:Q (.bl k) H)(e:k=k'):EP X pins σ Q (.bool k') s:=by subst e;exact⟨.bl k,H,I,rfl,q⟩
def Ba:Bv X (qm .Eq) MG:=by
 intro pins s σ H x y v u Q I rx ry h;obtain⟨hs,q⟩:=h
 cases x with
 |BB=>
  cases rx
  cases y with
  |BB=>cases ry;exact PySem.EqNone.eq_none_none (CA I q (by simp))
  |bl j=>cases ry;exact PySem.EqNone.eq_none_bool (CA I q (by simp))
  |int j=>obtain⟨t',rfl⟩:=ry;exact PySem.EqNone.eq_none_int (CA I q (by simp))
  |str j=>obtain⟨t',rfl⟩:=ry;exact PySem.EqNone.eq_none_str (CA I q (by simp))
  |_=>exact absurd (show false=true from hs) CZ
 |bl i=>
  cases rx
  cases y with
  |BB=>cases ry;exact PySem.EqNone.eq_bool_none (CA I q (by simp))
  |bl j=>cases ry;exact eq_bool (CA I q Yz)
  |str j=>obtain⟨t',rfl⟩:=ry;exact PySem.EqMixed.eq_bool_str (CA I q (by simp))
  |_=>exact absurd (show false=true from hs) CZ
 |int i=>
  obtain⟨t,rfl⟩:=rx
  cases y with
  |BB=>cases ry;exact PySem.EqNone.eq_int_none (CA I q (by simp))
  |int j=>obtain⟨t',rfl⟩:=ry;exact eq_int (CA I q YT)
  |str j=>obtain⟨t',rfl⟩:=ry;exact PySem.EqMixed.eq_int_str (CA I q (by simp))
  |_=>exact absurd (show false=true from hs) CZ
 |str i=>
  obtain⟨t,rfl⟩:=rx
  cases y with
  |BB=>cases ry;exact PySem.EqNone.eq_str_none (CA I q (by simp))
  |bl j=>cases ry;exact PySem.EqMixed.eq_str_bool (CA I q (by simp))
  |int j=>obtain⟨t',rfl⟩:=ry;exact PySem.EqMixed.eq_str_int (CA I q (by simp))
  |str j=>obtain⟨t',rfl⟩:=ry;exact eq_str (CA I q Yn)
  |_=>exact absurd (show false=true from hs) CZ
 |F6 i=>
  obtain⟨t,rfl⟩:=rx
  cases y with
  |F6 j=>obtain⟨t',rfl⟩:=ry;exact eq_bytes (CA I q Xy)
  |_=>exact absurd (show false=true from hs) CZ
 |_=>cases y<;>exact absurd (show false=true from hs) CZ
def Fw:Bv X (qm .NotEq) cG:=by
 intro pins s σ H x y v u Q I rx ry h;obtain⟨hs,q⟩:=h
 cases x with
 |BB=>
  cases rx
  cases y with
  |BB=>cases ry;exact PySem.EqNone.ne_none_none (CA I q (by simp))
  |bl j=>cases ry;exact PySem.EqNone.ne_none_bool (CA I q (by simp))
  |int j=>obtain⟨t',rfl⟩:=ry;exact PySem.EqNone.ne_none_int (CA I q (by simp))
  |str j=>obtain⟨t',rfl⟩:=ry;exact PySem.EqNone.ne_none_str (CA I q (by simp))
  |_=>exact absurd (show false=true from hs) CZ
 |bl i=>
  cases rx
  cases y with
  |BB=>cases ry;exact PySem.EqNone.ne_bool_none (CA I q (by simp))
  |bl j=>cases ry;exact ne_bool (CA I q (BJ not Yz))
  |str j=>obtain⟨t',rfl⟩:=ry;exact PySem.EqMixed.ne_bool_str (CA I q (by simp))
  |_=>exact absurd (show false=true from hs) CZ
 |int i=>
  obtain⟨t,rfl⟩:=rx
  cases y with
  |BB=>cases ry;exact PySem.EqNone.ne_int_none (CA I q (by simp))
  |int j=>obtain⟨t',rfl⟩:=ry;exact ne_int (CA I q (BJ not YT))
  |str j=>obtain⟨t',rfl⟩:=ry;exact PySem.EqMixed.ne_int_str (CA I q (by simp))
  |_=>exact absurd (show false=true from hs) CZ
 |str i=>
  obtain⟨t,rfl⟩:=rx
  cases y with
  |BB=>cases ry;exact PySem.EqNone.ne_str_none (CA I q (by simp))
  |bl j=>cases ry;exact PySem.EqMixed.ne_str_bool (CA I q (by simp))
  |int j=>obtain⟨t',rfl⟩:=ry;exact PySem.EqMixed.ne_str_int (CA I q (by simp))
  |str j=>obtain⟨t',rfl⟩:=ry;exact ne_str (CA I q (BJ not Yn))
  |_=>exact absurd (show false=true from hs) CZ
 |F6 i=>
  obtain⟨t,rfl⟩:=rx
  cases y with
  |F6 j=>obtain⟨t',rfl⟩:=ry;exact ne_bytes (CA I q (BJ not Xy))
  |_=>exact absurd (show false=true from hs) CZ
 |_=>cases y<;>exact absurd (show false=true from hs) CZ
def JY:Bv X (qm .Lt) (K2 fun i j=>.bl (decide (i<j))):=UL fun _ _ _ _ _ _ _ q=>lt_int q
def oJ:Bv X (qm .LtE) (K2 fun i j=>.bl (decide (i<=j))):=UL fun _ _ _ _ _ _ _ q=>le_int q
def Ts:Bv X (qm .Gt) (K2 fun i j=>.bl (decide (j<i))):=UL fun _ _ _ _ _ _ _ q=>gt_int q
def fe:Bv X (qm .Lt) (fun x y H Q=>∃i j,x=.str i/\y=.str j/\Q (.bl (decide (i.cps.toList<j.cps.toList))) H):=by intro pins s σ H x y v u Q I rx ry h;obtain⟨i,j,rfl,rfl,q⟩:=h;obtain⟨t,rfl⟩:=rx;obtain⟨t',rfl⟩:=ry;exact lt_str (CA I q rfl)
def Ar(b:hY)(h:op≠.In:=by decide)(h2:op≠.NotIn:=by decide):behindInMarks op b=false:=by
 have e1:(op==CmpOp.In)=false:=by cases op<;>first|rfl|exact absurd rfl h
 have e2:(op==CmpOp.NotIn)=false:=by cases op<;>first|rfl|exact absurd rfl h2
 cases b<;>simp[behindInMarks,e1,e2]
def Ic{r:R2}(ho:Bv X (qm op) r)(ha:PE X a ta)(hb:PE X b tb)(hm:behindInMarks op b=false):PE X (.Compare a [op] [b] pos) (Fb r ta tb):=by intro pins s σ H Q I h;exact wpAny_Compare1 (UO ha hb I h fun v u s2 x y H2 I2 rx ry q=>ho pins s2 σ H2 x y v u Q I2 rx ry q) hm
def Kb(t:TE):TT:=fun σ H Q=>t σ H fun x H'=>∃k,x=.bl k/\Q k H'
def Ax{r:R2}(ho:Bv X (qm op) r)(ha:PE X a ta)(hb:PE X b tb)(hm:behindInMarks op b=false):PT X (.Compare a [op] [b] pos) (Kb (Fb r ta tb)):=by
 intro pins s σ H Q I h;refine wpAny_isTrue_Compare1 (Ae (ha pins s σ H _ I h) fun v s1 ⟨x,H1,I1,r1,q1⟩=>Ae (hb pins s1 σ H1 _ I1 q1) fun u s2 ⟨y,H2,I2,r2,q2⟩=>Ae (ho pins s2 σ H2 x y v u _ I2 r1 r2 q2) fun c s3 ⟨z,H3,I3,r3,k,e,q3⟩=>?_) hm;subst e;cases r3;exact Ma ⟨H3,I3,q3⟩
def lM(r r':R2)(ta tb tc:TE):TE:=fun σ H Q=>ta σ H fun x H1=>tb σ H1 fun y H2=>r x y H2 fun z H3=>∃k,z=.bl k/\
 (if k=true then tc σ H3 fun w' H4=>r' y w' H4 Q else Q (.bl false) H3)
def i3{op':CmpOp}{r r':R2}(ho:Bv X (qm op) r)(ho':Bv X (qm op') r')(ha:PE X a ta)(hb:PE X b tb)(hc:PE X c tc)
 (hm:lastMarks [op,op'] [b,c]=false:=by with_unfolding_all rfl):PE X (.Compare a [op,op'] [b,c] pos) (lM r r' ta tb tc):=by
 intro pins s σ H Q I h;refine Compare_chain (Ae (ha pins s σ H _ I h) fun v s1 ⟨x,H1,I1,r1,q1⟩=>chain_link (Ae (hb pins s1 σ H1 _ I1 q1) fun u s2 ⟨y,H2,I2,r2,q2⟩=>Ae (ho pins s2 σ H2 x y v u _ I2 r1 r2 q2) fun d s3 ⟨z,H3,I3,r3,k,e,q3⟩=>?_)) hm;subst e;cases r3;refine Ma ?_
 cases k with
 |false=>exact ite_ff ⟨.bl false,H3,I3,rfl,q3⟩
 |true=>exact ite_tt (chain_last (Ae (hc pins s3 σ H3 _ I3 q3) fun w' s4 ⟨z',H4,I4,r4,q4⟩=>ho' pins s4 σ H4 y z' u w' Q I4 r2 r4 q4))
def NT:(sizeLine:Nat)<2^63:=by rw[Aw];decide
def FC:Bv X (rZ .Add) (fun x y H Q=>∃i j,x=.str i/\y=.str j/\i.length+j.length<=sizeLine/\Q (.str (i++j)) H):=by intro pins s σ H x y v u Q I rx ry h;obtain⟨i,j,rfl,rfl,hz,q⟩:=h;obtain⟨t,rfl⟩:=rx;obtain⟨t',rfl⟩:=ry;exact add_str (fun t' tk=>⟨.str (i++j),H,I.tok _,⟨_,rfl⟩,q⟩) hz
end
variable{us:List AB}
section
variable{a b:hY}{tb tc:TE}
def vals1{x:V}(r:Vals [x] us):∃u,us=[u]/\RelV x u:=by
 cases r with
 |cons r1 r2=>cases r2;exact⟨_,rfl,r1⟩
end
variable{y:V}
section
variable{a b:hY}{tb tc:TE}
def vals2{x:V}(r:Vals [x,y] us):∃u w',us=[u,w']/\RelV x u/\RelV y w':=by
 cases r with
 |cons r1 r2=>
  cases r2 with
  |cons r3 r4=>cases r4;exact⟨_,_,rfl,r1,r3⟩
def M5:DO X (.type "int") (fun xs H Q=>(∃i,xs=[.int i]/\Q (.int i) H)\/∃k,xs=[.bl k]/\Q (.int (if k then 1 else 0)) H):=by
 intro pins s σ H xs us Q I r h;rcases h with⟨i,rfl,q⟩|⟨k,rfl,q⟩
 ·obtain⟨u,rfl,t,rfl⟩:=vals1 r;exact call_int_int ⟨.int i,H,I,⟨_,rfl⟩,q⟩
 ·obtain⟨u,rfl,r1⟩:=vals1 r;cases r1;exact call_int_bool ⟨.int (if k then 1 else 0),H,I.tok _,⟨_,rfl⟩,q⟩
end
structure Ks(h:qp)(x dx C:Ya)(mA:Str->Option AB):Prop where
 obj:h.get? x=some (si C dx)
 ns:h.Ns1 dx mA
 ne:dx≠x
variable{dx:Ya}{mA:Str->Option AB}
def WR(n:h.Ns1 dx mA):∃od,h.get? dx=some od/\∀name,lookIn name od=some (mA name):=by
 obtain⟨o,es,ep,ho,hd,hk,_,hm⟩:=n;refine⟨o,ho,fun name=>?_⟩;have e:=hm name;unfold nsFind findBy at e;rw[<-Array.find?_toList] at e;unfold lookIn;rw[hd];dsimp only;split
 ·rename_i y q;rw[q] at e;exact BJ some e
 ·rename_i q;rw[q] at e;have a:es.toList.any (·.refKey)=false:=by rw[List.any_eq_false];intro y hy;obtain⟨z,t,hkey⟩:=hk y (Array.mem_toList_iff.mp hy);simp[DictEntry.refKey,hkey]
  have a':¬es.toList.any (·.refKey)=true:=by rw[a];exact CZ
  rw[AG a'];exact BJ some e
variable{C:Ya}
def Ks.look{x:Ya}(I:Ks h x dx C mA):∃od,InstAt h x (si C dx) C (some od)/\∀name,lookIn name od=some (mA name):=
 let⟨od,ho,hl⟩:=WR I.ns
 ⟨od,⟨I.obj,rfl,rfl,ho⟩,hl⟩
variable{prog:ql}{name:Str}
section
variable{x:Ya}{v:AB}
def get_map{expr:Bool}(X:K.In s.heap)(I:Ks s.heap x dx C mA)(hg:tF K C name=true)(hh:rj K C=true)
 (ha:qv K (.ref C) name=some none)(hv:mA name=some v)(hv':handedIn v=true)(h:Q v {s with toks:=s.toks+1}):
 bt (ax prog w) A (tY (.ref x) name expr) Q E s:=by
 obtain⟨od,J,hl⟩:=I.look;exact get_value X J (VS hg).1 (findObj_own hh ha rfl (by rw[hl,hv])) hv' h
end
variable{pl:Sem Bool}{f:Ya}
section
variable{x:Ya}{v:AB}
def gY{Q:AB×List AB->Yf->Prop}(X:K.In s.heap)(I:Ks s.heap x dx C mA)(hg:tF K C name=true)
 (hf:qv K (.ref C) name=some (some (.ref f)))(ht:isFn K (.ref f)=true)(hv:mA name=none)(h:Q (.ref f,[.ref x]) s):
 bt (ax prog w) A (sj (.ref x) name pl) Q E s:=by
 obtain⟨od,J,hl⟩:=I.look;exact method_fn X J (VS hg).1 (VS hg).2 hf (FE.mp ht) (by show(lookIn name od).map (·.isSome)=some false;rw[hl,hv];rfl) h
def jk{ns:List Str}{Q:Unit->Yf->Prop}(X:K.In s.heap)(I:Ks s.heap x dx C mA)
 (hs:qv K (.ref C) "__setattr__" =some (some (.builtin "object.__setattr__")))(hp:plainOver K C=true)(ht:takerIn K C name=some none)(hh:rj K C=true)
 (hw:uM mA ns)(hsz:ns.length<=sizeLine)
 (h:∀h',Ks h' x dx C (fun y=>if y=name then some v else mA y)->Heap.SameBut dx s.heap h'->Q () {s with heap:=h',toks:=s.toks+2}):
 bt (ax prog w) A (setAttr (.ref x) name v) Q E s:=by
 obtain⟨od,J,hl⟩:=I.look;refine set_plain X J hs (osa_open (s:={s with toks:=s.toks+1}) (r:=none) X J hp ht fun b=>?_);obtain⟨cd,hc,hd'⟩:=any_some hh;have hx:s.heap.get? x=some ⟨.ref C,some dx,.plain,#[]⟩:=I.obj;refine AL (Af (AL (AL (wpAny_loadPart hx (AL (PySem.W.Looks.here (s:={s with toks:=s.toks+1}) (VT X hc) ?_))))));rw[hd'];refine Af (a:=some dx) (AL (Af (AL ?_)));refine wpAny_nsSet1 (s:={s with toks:=s.toks+1}) I.ns fun h' hn2 hs2=>?_;obtain⟨oD,esD,epD,hoD,hdD,hcD⟩:=hn2.count (PySem.Within.cons name v hw);refine AL (wpAny_lookBehind hoD (by rw[hdD];exact pastItsLine_dict (BF hcD (by rw[CS];lia))) ?_);exact Af (h _ ⟨(hs2.2 _ (DL I.ne)).trans I.obj,hn2,I.ne⟩ hs2)
end
variable{R:Result->Yf->Prop}{kw:List (Str×AB)}
section
variable{x:Ya}{v:AB}
def gy{vs:List AB}(X:K.In s.heap)(hm:makesIn K C=true)
 (hi:qv K (.ref C) "__init__" =some (some (.ref f)))(hf:typeIn K (.ref f)=some (.type "function"))
 (h:rT (ax prog w) (A.under (.builtin "type.__call__" ⟨.ref C::vs,kw⟩)) (.call (.ref f) ⟨.ref (s.heap.objs.size+1)::vs,kw⟩) (InitBack (s.heap.objs.size+1) R)
  {s with heap:=(s.heap.push rX).push (si C s.heap.objs.size)}):
 rT (ax prog w) A (.call (.ref C) ⟨vs,kw⟩) R s:=by
 obtain⟨hh,g,d,t,os⟩:=s;exact make_core (makes_of X hm) (OO X hi) (fun self=>bind_fn X self hf) (.inl rfl) h
end
noncomputable def Ef(f:Str)(v:V):List (Str×V)->List (Str×V)
 |[]=>[(f,v)]
 |(g,x)::r=>if g=f then(g,v)::r else(g,x)::Ef f v r
def Vo(f g:Str)(v:V):∀fs:List (Str×V),(Ef f v fs).lookup g=if g=f then some v else fs.lookup g
 |[]=>by
  show List.lookup g [(f,v)]=_;by_cases h:g=f
  ·have hb:(g==f)=true:=FE.mpr h;simp only[List.lookup,hb,AH h]
  ·have hb:(g==f)=false:=OR.mpr h;simp only[List.lookup,hb,AG h]
 |(k,x)::r=>by
  have ih:=Vo f g v r;rw[show Ef f v ((k,x)::r)=(if k=f then(k,v)::r else(k,x)::Ef f v r) from rfl];by_cases hk:k=f
  ·rw[AH hk];by_cases h:g=k
   ·have hb:(g==k)=true:=FE.mpr h;simp only[List.lookup,hb,AH (h.trans hk)]
   ·have hb:(g==k)=false:=OR.mpr h;simp only[List.lookup,hb,AG (fun e:g=f=>h (e.trans hk.symm))]
  ·rw[AG hk];by_cases h:g=k
   ·have hb:(g==k)=true:=FE.mpr h;simp only[List.lookup,hb,AG (fun e:g=f=>hk (h.symm.trans e))]
   ·have hb:(g==k)=false:=OR.mpr h;simp only[List.lookup,hb];exact ih
def Rq(f:Str)(v:V):∀fs:List (Str×V),f∈(Ef f v fs).map (·.1)/\∀g,g∈fs.map (·.1)->g∈(Ef f v fs).map (·.1)
 |[]=>⟨by simp[Ef],fun g h=>by simp at h⟩
 |(k,x)::r=>by
  obtain⟨i1,i2⟩:=Rq f v r;rw[show Ef f v ((k,x)::r)=(if k=f then(k,v)::r else(k,x)::Ef f v r) from rfl];by_cases hk:k=f
  ·rw[AH hk];subst hk;exact⟨by simp,fun g h=>by simpa using h⟩
  ·rw[AG hk];refine⟨?_,fun g h=>?_⟩
   ·rw[Ay];exact DJ _ i1
   ·rw[Ay] at h⊢;rcases Be.mp h with e|e
    ·exact Be.mpr (.inl e)
    ·exact DJ _ (i2 g e)
def Vq(f:Str)(v:V):∀fs:List (Str×V),(Ef f v fs).length<=fs.length+1
 |[]=>by simp[Ef]
 |(k,x)::r=>by
  have ih:=Vq f v r;rw[show Ef f v ((k,x)::r)=(if k=f then(k,v)::r else(k,x)::Ef f v r) from rfl];by_cases hk:k=f
  ·rw[AH hk,CS,CS];lia
  ·rw[AG hk,CS,CS];lia
def Dj.some_of{o:Option AB}(r:Dj (some v) o):∃u,o=some u/\RelV v u:=by
 cases o with
 |none=>exact(show False from r).elim
 |some u=>exact⟨u,rfl,r⟩
def Dj.none_of{o:Option AB}(r:Dj none o):o=none:=by
 cases o with
 |none=>rfl
 |some u=>exact(show False from r).elim
def Wr(r:RelV v u):handedIn u=true:=by
 cases v with
 |BB=>cases(show u=Value.none from r);rfl
 |bl b=>cases(show u=Value.bool b from r);rfl
 |int i=>obtain⟨t,e⟩:=(show∃t,u=Value.int i t from r);cases e;rfl
 |str x=>obtain⟨t,e⟩:=(show∃t,u=Value.str x t from r);cases e;rfl
 |F6 b=>obtain⟨t,e⟩:=(show∃t,u=Value.bytes b t from r);cases e;rfl
 |Iu b=>obtain⟨t,e⟩:=(show∃t,u=Value.float b t from r);cases e;rfl
 |ref a=>cases(show u=Value.ref a from r);rfl
 |ty n=>cases(show u=Value.type n from r);rfl
section
variable{fs fs':List (Str×V)}
def NO(hok:Bw P w H h)(e:H a=some (.ins C dx fs)):∃mA,Ks h a dx C mA/\(∀f,Dj (fs.lookup f) (mA f))/\uM mA (fs.map (·.1))/\fs.length<=1000/\H dx=some (.own a):=by obtain⟨d,z,ne,ob,mA,n,r,q⟩:=(show BR P w H h a (.ins C dx fs) from hok a _ e);exact⟨mA,⟨ob,n,ne⟩,r,q,z,d⟩
end
structure Hj(K:uJ)(C:Ya):Prop where
 pg:tF K C Str.empty=true
 hd:rj K C=true
 po:plainOver K C=true
 sa:qv K (.ref C) "__setattr__" =some (some (.builtin "object.__setattr__"))
def Hj.get(c:Hj K C)(f:Str):tF K C f=true:=c.pg
def KW(K:uJ)(C:Ya)(f:Str):Prop:=qv K (.ref C) f=some none
def KW.my{f:Str}(n:KW K C f):takerIn K C f=some none:=by unfold takerIn;rw[show qv K (.ref C) f=some none from n];rfl
structure Meth(K:uJ)(C:Ya)(m:Str)(f:Ya):Prop where
 at_:qv K (.ref C) m=some (some (.ref f))
 fn:isFn K (.ref f)=true
 kp:rM K (.ref f)=true
section
variable{fs:List (Str×V)}{f:Str}
def dM{b:Bool}(I:Inv X pins σ H s)(e:H a=some (.ins C dx fs))(c:Hj X.K C)(n:KW X.K C f)(l:fs.lookup f=some v)
 (h:∀u s',Inv X pins σ H s'->RelV v u->Q u s'):bt (ax X.prog X.w) A (tY (.ref a) f b) Q E s:=by
 obtain⟨mA,O,r,_,_,_⟩:=NO I.hok e;obtain⟨u,hu,ru⟩:=Dj.some_of (v:=v) (o:=mA f) (by rw[<-l];exact r f);exact get_map I.BV O (c.get f) c.hd n hu (Wr ru) (h u _ (I.tok _) ru)
end
variable{m:Str}
section
variable{fs:List (Str×V)}{f:Str}
def Vu{g:Ya}{Q:AB×List AB->Yf->Prop}(I:Inv X pins σ H s)(e:H a=some (.ins C dx fs))(c:Hj X.K C)(k:Meth X.K C m g)(l:fs.lookup m=none)
 (h:Q (.ref g,[.ref a]) s):bt (ax X.prog X.w) A (sj (.ref a) m pl) Q E s:=by
 obtain⟨mA,O,r,_,_,_⟩:=NO I.hok e;have hn:mA m=none:=Dj.none_of (by rw[<-l];exact r m);exact gY I.BV O (c.get m) k.at_ k.fn hn h
def d8{Q:Unit->Yf->Prop}(I:Inv X pins σ H s)(e:H a=some (.ins C dx fs))(c:Hj X.K C)(n:KW X.K C f)(hl:fs.length<1000)(ry:RelV y u)
 (h:∀s',Inv X pins σ (upd H a (.ins C dx (Ef f y fs))) s'->Q () s'):bt (ax X.prog X.w) A (setAttr (.ref a) f u) Q E s:=by
 obtain⟨mA,O,r,wi,_,ho⟩:=NO I.hok e;have hz:(fs.map (·.1)).length<=sizeLine:=by rw[AK,Aw];lia
 refine jk I.BV O c.sa c.po n.my c.hd wi hz fun h' O' sb=>h _ ?_;have hd:∃o,h'.get? dx=some o:=let⟨o,_,_,e',_⟩:=O'.ns;⟨o,e'⟩;refine I.write (x:=a) (e:=dx) (by rw[e];exact Cz) (.inr ho) (fun b q hb z=>(sb.2 b hb).trans z) hd ?_;refine⟨by rw[AR O.ne];exact ho,?_,O.ne,O'.obj,_,O'.ns,fun g=>?_,fun g hg=>?_⟩
 ·have:=Vq f y fs;lia
 ·show Dj ((Ef f y fs).lookup g) (if g=f then some u else mA g);rw[Vo];by_cases q:g=f
  ·rw[AH q,AH q];exact ry
  ·rw[AG q,AG q];exact r g
 ·by_cases q:g=f
  ·rw[q];exact(Rq f y fs).1
  ·refine(Rq f y fs).2 g (wi g fun z=>hg ?_);show(if g=f then some u else mA g)=none;rw[AG q];exact z
def Inv.made(I:Inv X pins σ H s):Inv X pins σ (upd (upd H s.heap.objs.size (.own (s.heap.objs.size+1))) (s.heap.objs.size+1) (.ins C s.heap.objs.size []))
 {s with heap:=(s.heap.push rX).push (si C s.heap.objs.size)}:=by
 have e1:(s.heap.push rX).get? s.heap.objs.size=some rX:=By s.heap rfl;have e2:((s.heap.push rX).push (si C s.heap.objs.size)).get? (s.heap.objs.size+1)=some (si C s.heap.objs.size):=by
  have:=By (s.heap.push rX) (o:=si C s.heap.objs.size) rfl
  rwa [Gx] at this
 have e3:(s.heap.push rX).Ns s.heap.objs.size (fun _=>none):=⟨rX,#[],_,e1,rfl,(fun e he=>absurd he (by simp)),fun _=>rfl⟩;have I1:=I.laid (a:=s.heap.objs.size) (o:=.own (s.heap.objs.size+1)) (h':=s.heap.push rX) (t':=s.toks) (fun b u q=>BC _ q) (Ad _) ⟨_,e1⟩;refine I1.laid (a:=s.heap.objs.size+1) (o:=.ins C s.heap.objs.size []) (t':=s.toks) (fun b u q=>BC _ q) (Nat.le_of_eq (Gx _ _)) ?_;have ne:s.heap.objs.size≠s.heap.objs.size+1:=BN (Ml _);refine⟨by rw[AR ne,AM],CG _,ne,e2,fun _=>none,(Heap.Ns1.of_empty e3).at fun o q=>BC _ q,fun _=>Cz,fun y hy=>absurd rfl hy⟩
end
variable{env:Env}
section
variable{fs:List (Str×V)}{f:Str}
def YA{f:Str}(hb:qy e f env (qr e env)=qr e env)
 (h:bt (ax prog w) A (qr e env) (fun o s₁=>bt (ax prog w) A (tY o f true) Q E s₁) E s):bt (ax prog w) A (qr (.Attribute e f pos) env) Q E s:=
 Attribute_any_ h (by rw[arm_eval_Attribute,hb])
end
def qF(K:uJ)(ta:TE)(f:Str):TE:=fun σ H Q=>ta σ H fun x H1=>∃a C dx fs v,x=.ref a/\H1 a=some (.ins C dx fs)/\Hj K C/\KW K C f/\fs.lookup f=some v/\Q v H1
def o8(K:uJ)(ta tv:TE)(f:Str):TS:=fun D σ H=>tv σ H fun y H1=>ta σ H1 fun x H2=>∃a C dx fs,x=.ref a/\H2 a=some (.ins C dx fs)/\Hj K C/\KW K C f/\fs.length<1000/\
 D.nx σ (upd H2 a (.ins C dx (Ef f y fs)))
section
variable{o value:hY}{f:Str}{pos':Pos}{tv:TE}
def C5(he:PE X e ta)(hb:qy e f X.env (qr e X.env)=qr e X.env):PE X (.Attribute e f pos) (qF X.K ta f):=by intro pins s σ H Q I h;refine YA hb (Ae (he pins s σ H _ I h) fun u s1 ⟨x,H1,I1,rx,a,C,dx,fs,v,ex,ea,c,n,l,q⟩=>?_);subst ex;obtain rfl:u=Value.ref a:=rx;exact dM I1 ea c n l fun u' s2 I2 ru=>⟨v,H1,I2,ru,q⟩
def md(ha:PE X o ta)(hv:PE X value tv)(hs:sg value (some (.Attribute o f pos')) pos.line X.env=pure false):PS X (.Assign [.Attribute o f pos'] value pos) (o8 X.K ta tv f):=by intro pins s σ H D I h;refine tK (Ae (hv pins s σ H _ I h) fun u s1 ⟨y,H1,I1,ry,q⟩=>Ae (ha pins s1 σ H1 _ I1 q) fun ov s2 ⟨x,H2,I2,rx,a,C,dx,fs,ex,ea,c,n,l,q2⟩=>?_) hs;subst ex;obtain rfl:ov=Value.ref a:=rx;exact d8 I2 ea c n l ry fun s3 I3=>⟨σ,_,I3,q2⟩
end
section
variable{c:AB}{b:Bool}
inductive Bm(K:uJ)(H:Hp):V->AB->Prop where
 |BB:Bm K H .BB (.type "NoneType")
 |bl (x:Bool):Bm K H (.bl x) (.type "bool")
 |int (i:Int):Bm K H (.int i) (.type "int")
 |str (x:Str):Bm K H (.str x) (.type "str")
 |Iu (x:UInt64):Bm K H (.Iu x) (.type "float")
 |lst {a:Ya} {xs:List V} (e:H a=some (.lst xs)):Bm K H (.ref a) (.type "list")
 |BU {a:Ya} {o:Obj} {xs:List V} (e:H a=some (.BU o (.lst xs))):Bm K H (.ref a) (.type "list")
 |tup {a:Ya} {xs:List V} (e:H a=some (.tup xs)):Bm K H (.ref a) (.type "tuple")
 |dK {a:Ya} {AA:List (Key×V)} (e:H a=some (.dK AA)):Bm K H (.ref a) (.type "dict")
 |dT {a:Ya} {AA:List (List Key×V)} (e:H a=some (.dT AA)):Bm K H (.ref a) (.type "dict")
 |ins {a C dx:Ya} {fs:List (Str×V)} (e:H a=some (.ins C dx fs)) (cl:Hj K C) (ha:qv K (.ref C) "__class__" =some (some (.builtin "object.__class__")))
  (hn:tN K (.builtin "object.__class__") "__get__" =some (some (.builtin "getset_descriptor.__get__"))) (htk:takesIn K (.builtin "object.__class__")=some true)
  (hm:mroIn K C (.type "object")=some true):Bm K H (.ref a) (.ref C)
def eZ{x:V}{t:AB}(I:Inv X pins σ H s)(rx:RelV x u)(ty:Bm X.K H x t)(e:sZ X.K t c=some b)(h:∀tk,Q (.bool b) {s with toks:=tk}):
 bt (ax X.prog X.w) A (call (.builtin "isinstance") [u,c]) Q E s:=by
 cases ty with
 |BB=>cases(show u=Value.none from rx);exact Hr kitx_none I.BV Cz e (fun z=>nomatch z) h
 |bl y=>cases(show u=Value.bool y from rx);exact Hr kitx_bool I.BV Cz e (fun z=>nomatch z) h
 |int i=>obtain⟨t,q⟩:=(show∃t,u=Value.int i t from rx);cases q;exact Hr kitx_int I.BV Cz e (fun z=>nomatch z) h
 |str y=>obtain⟨t,q⟩:=(show∃t,u=Value.str y t from rx);cases q;exact Hr kitx_str I.BV Cz e (fun z=>nomatch z) h
 |Iu y=>obtain⟨t,q⟩:=(show∃t,u=Value.float y t from rx);cases q;exact Hr kitx_float I.BV Cz e (fun z=>nomatch z) h
 |@lst a xs ea=>cases(show u=Value.ref a from rx);obtain⟨_,_,n,_,h1⟩:=(show BR X.prog X.w H s.heap a (.lst xs) from I.hok a _ ea);exact Hr Q7 I.BV ⟨_,h1,rfl⟩ e (fun z=>nomatch z) h
 |@BU a ob xs ea=>cases(show u=Value.ref a from rx);obtain⟨_,_,_,n,_,h1⟩:=(show BR X.prog X.w H s.heap a (.BU ob (.lst xs)) from I.hok a _ ea);exact Hr Q7 I.BV ⟨_,h1,rfl⟩ e (fun z=>nomatch z) h
 |@tup a xs ea=>cases(show u=Value.ref a from rx);obtain⟨_,_,_,p⟩:=(show BR X.prog X.w H s.heap a (.tup xs) from I.hok a _ ea);obtain⟨o,h1,h2,_⟩:=p;exact Hr kitx_tuple I.BV ⟨o,h1,h2⟩ e (fun z=>nomatch z) h
 |@dK a AA ea=>cases(show u=Value.ref a from rx);obtain⟨_,_,vs,_,p⟩:=(show BR X.prog X.w H s.heap a (.dK AA) from I.hok a _ ea);obtain⟨o,es,ep,h1,h2,_⟩:=p;exact Hr Q8 I.BV ⟨o,h1,h2.1⟩ e (fun z=>nomatch z) h
 |@dT a AA ea=>cases(show u=Value.ref a from rx);obtain⟨_,_,xs,_,o,es,ep,h1,h2,_⟩:=(show BR X.prog X.w H s.heap a (.dT AA) from I.hok a _ ea);exact Hr Q8 I.BV ⟨o,h1,h2.1⟩ e (fun z=>nomatch z) h
 |@ins a C dx fs ea cl ha hn htk hm=>cases(show u=Value.ref a from rx);obtain⟨mA,O,_⟩:=NO I.hok ea;obtain⟨od,J,_⟩:=O.look;exact Hr (kitx_own (cl.get _) cl.hd ha hn htk hm) I.BV J e (fun z=>nomatch z) h
end
structure Bl(k:Nat)(A:rV):Prop where
 hd:A.handled=none
 dp:A.depth+3*k+5<recursionLimit
 un:A.units+16*k+200<rC
def Bl.mono(r:Bl k A)(h:j<=k):Bl j A:=⟨r.hd,by have:=r.dp;lia,by have:=r.un;lia⟩
def Bl.deeper(r:Bl (k+1) A)(env:Env):Bl k (A.deeper env):=
 ⟨r.hd,by have:=r.dp;show A.depth+1+3*k+5<_;lia,by have:=r.un;show A.units+3+16*k+200<_;lia⟩
def dj:(A.under (.builtin "type.__call__" ⟨.ref C::us,kw⟩)).depth=A.depth+1:=by first|rfl|simp[Around.under,Code.weight,Code.isCreation,Code.isGuard,Code.isCaller,Code.frames,Code.isFrame,guardIds]
def dw:(A.under (.builtin "type.__call__" ⟨.ref C::us,kw⟩)).units=A.units+1:=by first|rfl|simp[Around.under,Code.cUnits,Code.frames,Code.isFrame]
def Bl.make(r:Bl (k+1) A)(C:Ya)(us:List AB)(kw:List (Str×AB)):Bl k (A.under (.builtin "type.__call__" ⟨.ref C::us,kw⟩)):=
 ⟨r.hd,by have:=r.dp;rw[dj];lia,by have:=r.un;rw[dw];lia⟩
def Bl.depth(r:Bl k A):A.depth<recursionLimit:=by have:=r.dp;lia
def Bl.units(r:Bl k A):A.units+64<rC:=by have:=r.un;lia
def Bl.TL(r:Bl k A):A.units<rC:=by have:=r.un;lia
def Kg:TA:=fun _ H Q=>Q [] H
def Nj(ta:TE)(tr:TA):TA:=fun σ H Q=>ta σ H fun x H1=>tr σ H1 fun xs H2=>Q (x::xs) H2
section
variable{es:List hY}{t:TA}
def AI:PA X [] Kg:=fun _ _ _ _ H Q I h=>Calls.spliced_nil ⟨[],H,I,.nil,h⟩
def AE(ha:PE X e te)(hr:PA X es t)(hs:dy (e::es) X.env=(false,qr e X.env)::dy es X.env:=by rfl):PA X (e::es) (Nj te t):=by intro pos pins s σ H Q I h;rw[hs];show bt _ _ (spliced ((false,qr e X.env)::q5 pos (dy es X.env))) _ _ s;refine Q3 (Ae (ha pins s σ H _ I h) fun u s1 ⟨x,H1,I1,r1,q1⟩=>?_);exact Ae (hr pos pins s1 σ H1 _ I1 q1) fun us s2 ⟨xs,H2,I2,r2,q2⟩=>⟨x::xs,H2,I2,.cons r1 r2,q2⟩
def pd(t:TA):TE:=fun σ H Q=>t σ H fun xs H1=>xs.length<=sizeLine/\∀p,H1 p=none->Q (.ref p) (upd H1 p (.tup xs))
def bA(t:TA):TE:=fun σ H Q=>t σ H fun xs H1=>xs.length<=sizeLine/\∀p,H1 p=none->Q (.ref p) (upd H1 p (.lst xs))
def CJ{X:Cx}{es:List hY}{t:TA}{pos:Pos}{x1}(h:PA X es t):PE X (.Tuple es x1 pos) (pd t):=by intro pins s σ H Q I hq;refine wpAny_Tuple_spliced (Ae (h pos pins s σ H _ I hq) fun us s1 ⟨xs,H1,I1,r,z,q⟩=>⟨by rw[<-r.length];exact z,?_⟩);have hf:H1 s1.heap.objs.size=none:=I1.hok.fresh (Ad _);refine⟨.ref s1.heap.objs.size,upd H1 s1.heap.objs.size (.tup xs),I1.laid (t':=s1.toks) (fun b u e=>BC _ e) (Ad _) ?_,rfl,q _ hf⟩;exact⟨z,us,r,⟨_,By _ rfl,rfl,_,rfl⟩⟩
def Bu(h:PA X es t):PE X (.List es pos) (bA t):=by intro pins s σ H Q I hq;refine wpAny_List_spliced (Ae (h pos pins s σ H _ I hq) fun us s1 ⟨xs,H1,I1,r,z,q⟩=>⟨by rw[<-r.length];exact z,?_⟩);have hf:H1 s1.heap.objs.size=none:=I1.hok.fresh (Ad _);refine⟨.ref s1.heap.objs.size,upd H1 s1.heap.objs.size (.lst xs),I1.laid (t':=s1.toks) (fun b u e=>BC _ e) (Ad _) ?_,rfl,q _ hf⟩;exact⟨z,us,0,r,By _ rfl⟩
end
abbrev Sp:=List V->Hp->VK->XK->Prop
abbrev Jn:=List Env->Hp->Yf->XK->AB->Yf->Prop
structure Ki(P:ql)(w:qu)(K:uJ)(mg:Str->Option AB)(base:qp)(A:rV)(outer:List Env)(s:Yf)(H:Hp):Prop where
 frames:A.frames=some outer
 mod:Mod K mg base
 bs:∀b o,base.get? b=some o->s.heap.get? b=some o/\H b=none
 Gn:base.objs.size<=s.heap.objs.size
 E5:s.heap.FunFrames base outer
 IJ:∀b∈Cp outer,H b=none
 hok:Bw P w H s.heap
 bare:sP s.gens
def CE(outer:List Env)(P:ql)(w:qu)(H:Hp)(s:Yf)(Q:VK)(u:AB)(s':Yf):Prop:=
 ∃v H',s'.os=s.os/\sP s'.gens/\Un (Cp outer) [] H H' s.heap s'.heap/\Bw P w H' s'.heap/\RelV v u/\Q v H'
def CR(CX:Jn)(outer:List Env)(P:ql)(w:qu)(H:Hp)(s:Yf)(Q:VK)(E:XK)(r:Result)(s':Yf):Prop:=
 match r with
 |.ok (.ret u)=>CE outer P w H s Q u s'
 |.ok _=>False
 |.error e=>CX outer H s E e s'
structure AW(P:ql)(w:qu)(K:uJ)(mg:Str->Option AB)(base:qp)(CX:Jn)(k:Nat)(f:Ya)(fd:qo)(ps:List Str)(sp:Sp):Prop where
 len:∀vs H Q E,sp vs H Q E->vs.length=ps.length
 run:∀(A:rV)(outer:List Env)(s:Yf)(H:Hp)(args:Args)(us:List AB)(vs:List V)(Q:VK)(E:XK),Bl k A->Ki P w K mg base A outer s H->tj s fd args (ps.zip us)->Vals vs us->sp vs H Q E->
  rT (ax P w) A (.call (.ref f) args) (CR CX outer P w H s Q E) s
def AW.mono{P:ql}{w:qu}{K:uJ}{mg:Str->Option AB}{base:qp}{CX:Jn}{j k:Nat}{f:Ya}{fd:qo}{ps:List Str}{sp:Sp}(F:AW P w K mg base CX j f fd ps sp)(h:j<=k):
 AW P w K mg base CX k f fd ps sp:=⟨F.len,fun A outer s H args us vs Q E hr=>F.run A outer s H args us vs Q E (hr.mono h)⟩
variable{mg:Str->Option AB}{base:qp}{outer:List Env}
def Ki.make(e:Ki P w K mg base A outer s H)(C:Ya)(us:List AB)(kw:List (Str×AB)):
 Ki P w K mg base (A.under (.builtin "type.__call__" ⟨.ref C::us,kw⟩)) outer s H:=⟨by first|exact e.frames|(simpa[Around.under,Code.envs,Code.isFrame,pushEnvs] using e.frames),e.mod,e.bs,e.Gn,e.E5,e.IJ,e.hok,e.bare⟩
section
variable{s':Yf}
def Inv.Uc(I:Inv X pins σ H s):Ki X.prog X.w X.K X.mg X.base X.A X.stack s H:=
 ⟨I.ok.frames,I.ok.mod,I.bs,BF I.ok.Gn I.sz,I.stack,I.Pe,I.hok,I.bare⟩
def Inv.after{Q:VK}(I:Inv X pins σ H s)(h:CE X.stack X.prog X.w H s Q u s'):EP X pins σ Q u s':=by obtain⟨v,H',os,bare,un,hok,r,q⟩:=h;obtain⟨hh,g,d,t,os'⟩:=s';obtain rfl:os'=s.os:=os;exact⟨v,H',I.call (h':=hh) (g':=g) (d':=d) (t':=t) (ch:=[]) un hok bare (fun b z=>absurd z (by simp)),r,q⟩
end
def Ni(sp:Sp)(dvs:List V)(E:XK)(t:TA):TE:=fun σ H Q=>t σ H fun vs H1=>sp (vs++dvs) H1 Q E
def aD(C:Ya)(m:Str)(sp:Sp)(dvs:List V)(E:XK)(ta:TE)(t:TA):TE:=fun σ H Q=>ta σ H fun x H1=>∃a dx fs,x=.ref a/\H1 a=some (.ins C dx fs)/\fs.lookup m=none/\
 t σ H1 fun vs H2=>sp (x::(vs++dvs)) H2 Q E
def mf(C:Ya)(sp:Sp)(dvs:List V)(E:XK)(t:TA):TE:=fun σ H Q=>t σ H fun vs H1=>∀x dx,H1 x=none->H1 dx=none->dx≠x->
 sp (.ref x::(vs++dvs)) (upd (upd H1 dx (.own x)) x (.ins C dx [])) (fun v H2=>v=.BB/\Q (.ref x) H2) E
def Binds(K:uJ)(fd:qo)(ps:List Str)(ds:List AB):Prop:=
 ∀(s:Yf)(us:List AB),K.In s.heap->(us++ds).length=ps.length->tj s fd ⟨us,[]⟩ (ps.zip (us++ds))
variable{fd:qo}{ps:List Str}
def Binds.all(h:∀us:List AB,us.length=ps.length->bindArgs fd ⟨us,[]⟩=pure (ps.zip us)):Binds K fd ps []:=fun s us _ hl=>by rw[Ct] at hl⊢;exact .of_eq (h us hl)
def Passes(CX:Jn)(X:Cx)(E:XK):Prop:=∀(pins:List (Ya×Obj))(σ:St)(H:Hp)(s:Yf)(e:AB)(s':Yf),Inv X pins σ H s->CX X.stack H s E e s'->X.xe e s'
variable{CX:Jn}{sp:Sp}
section
variable{dvs:List V}{ds:List AB}{E:XK}{o:hY}{es:List hY}{t:TA}
def NX{Q:VK}{vs:List V}(F:AW X.prog X.w X.K X.mg X.base CX k f fd ps sp)(hr:Bl k X.A)(hb:Binds X.K fd ps ds)(hd:Vals dvs ds)(hx:Passes CX X E)
 (I:Inv X pins σ H s)(r:Vals vs us)(h:sp (vs++dvs) H Q E):bt (ax X.prog X.w) X.A (call (.ref f) us) (EP X pins σ Q) X.xe s:=by
 have r2:Vals (vs++dvs) (us++ds):=r.append hd;have hl:(us++ds).length=ps.length:=by rw[<-r2.length];exact F.len _ _ _ _ h
 refine Mv (LG (F.run X.A X.stack s H ⟨us,[]⟩ (us++ds) (vs++dvs) Q E hr I.Uc (hb s us I.BV hl) r2 h) fun r s' hq=>?_)
 cases r with
 |error e=>exact hx pins σ H s e s' I hq
 |ok fl=>
  cases fl with
  |ret u=>exact I.after hq
  |next=>exact False.elim hq
  |brk=>exact False.elim hq
  |cont=>exact False.elim hq
def CL(F:AW X.prog X.w X.K X.mg X.base CX k f fd ps sp)(hr:Bl k X.A)(hg:Gl X x)(hm:X.mg x=some (.ref f))(hk:rM X.K (.ref f)=true)(hb:Binds X.K fd ps ds)(hd:Vals dvs ds)(hx:Passes CX X E)
 (ha:PA X (e::es) t)(hdb:(x==("__debug__" :Str))=false:=by decide)(he:dy (e::es) X.env=(false,qr e X.env)::dy es X.env:=by rfl)(hpl:(q5 pos (dy es X.env)).any (·.1)=false:=by rfl):
 PE X (.Call (.Name x p) (e::es) [] pos) (Ni sp dvs E t):=by
 intro pins s σ H Q I h;refine MX (La I hg hm ?_ hdb);refine VY (h₀:=X.base) I.ok.mod.N7 hk (Ae (ha pos pins s σ H _ I h) fun us s1 ⟨vs,H1,I1,r,q⟩=>⟨I1.BV,?_⟩) he hpl;exact NX F hr hb hd hx I1 r q
def W3(F:AW X.prog X.w X.K X.mg X.base CX k f fd ps sp)(hr:Bl k X.A)(hg:Gl X x)(hm:X.mg x=some (.ref f))(hk:rM X.K (.ref f)=true)(hb:Binds X.K fd ps ds)(hd:Vals dvs ds)(hx:Passes CX X E)
 (hdb:(x==("__debug__" :Str))=false:=by decide):PE X (.Call (.Name x p) [] [] pos) (Ni sp dvs E Kg):=by
 intro pins s σ H Q I h;refine MX (La I hg hm ?_ hdb);exact Qu I.BV hk (NX (us:=[]) F hr hb hd hx I .nil h)
end
variable{apos:Pos}
section
variable{dvs:List V}{ds:List AB}{E:XK}{o:hY}{es:List hY}{t:TA}
def Dv(he:PE X o ta)(c:Hj X.K C)(hm:Meth X.K C m f)(F:AW X.prog X.w X.K X.mg X.base CX k f fd ps sp)(hr:Bl k X.A)(hb:Binds X.K fd ps ds)(hd:Vals dvs ds)(hx:Passes CX X E)(ha:PA X (e::es) t)
 (hst:dy (e::es) X.env=(false,qr e X.env)::dy es X.env:=by rfl)(hpl:(q5 pos (dy es X.env)).any (·.1)=false:=by rfl)
 (ht:qr (.Call (.Attribute o m apos) (e::es) [] pos) X.env=(do
  let ov<-qr o X.env
  tX apos.atName
  let(f,first)<-sX [ov] (sj ov m pl)
  callWith pos f first (q5 pos (dy (e::es) X.env)) (rq pos (rJ [] X.env))):=by rfl):
 PE X (.Call (.Attribute o m apos) (e::es) [] pos) (aD C m sp dvs E ta t):=by
 intro pins s σ H Q I h;refine VH (pl:=pl) (Ae (he pins s σ H _ I h) fun u s1 ⟨x,H1,I1,rx,a,dx,fs,ex,ea,l,q⟩=>?_) ht;subst ex;obtain rfl:u=Value.ref a:=rx;refine Vu I1 ea c hm l ?_;refine VY (first:=[.ref a]) (h₀:=X.base) I.ok.mod.N7 hm.kp (Ae (ha pos pins s1 σ H1 _ I1 q) fun us s2 ⟨vs,H2,I2,r,q2⟩=>⟨I2.BV,?_⟩) hst hpl;exact NX (us:=.ref a::us) (vs:=.ref a::vs) F hr hb hd hx I2 (.cons rfl r) q2
def iJ(he:PE X o ta)(c:Hj X.K C)(hm:Meth X.K C m f)(F:AW X.prog X.w X.K X.mg X.base CX k f fd ps sp)(hr:Bl k X.A)(hb:Binds X.K fd ps ds)(hd:Vals dvs ds)(hx:Passes CX X E)
 (ht:qr (.Call (.Attribute o m apos) [] [] pos) X.env=(do
  let ov<-qr o X.env
  tX apos.atName
  let(f,first)<-sX [ov] (sj ov m pl)
  callWith pos f first (q5 pos (dy [] X.env)) (rq pos (rJ [] X.env))):=by rfl):
 PE X (.Call (.Attribute o m apos) [] [] pos) (aD C m sp dvs E ta Kg):=by
 intro pins s σ H Q I h;refine VH (pl:=pl) (Ae (he pins s σ H _ I h) fun u s1 ⟨x,H1,I1,rx,a,dx,fs,ex,ea,l,q⟩=>?_) ht;subst ex;obtain rfl:u=Value.ref a:=rx;refine Vu I1 ea c hm l ?_;exact Qu (first:=[.ref a]) I1.BV hm.kp (NX (us:=[.ref a]) (vs:=[.ref a]) F hr hb hd hx I1 (.cons rfl .nil) q)
structure Mk(K:uJ)(C f:Ya):Prop where
 makes:makesIn K C=true
 init:qv K (.ref C) "__init__" =some (some (.ref f))
 fn:isFn K (.ref f)=true
 kp:rM K (.ref C)=true
def gw{Q:VK}{vs:List V}(M:Mk X.K C f)(F:AW X.prog X.w X.K X.mg X.base CX k f fd ps sp)(hr:Bl (k+1) X.A)(hb:Binds X.K fd ps ds)(hd:Vals dvs ds)
 (hx:Passes CX X E)(I:Inv X pins σ H s)(r:Vals vs us)
 (h:∀x dx,H x=none->H dx=none->dx≠x->sp (.ref x::(vs++dvs)) (upd (upd H dx (.own x)) x (.ins C dx [])) (fun v H2=>v=.BB/\Q (.ref x) H2) E):
 bt (ax X.prog X.w) X.A (call (.ref C) us) (EP X pins σ Q) X.xe s:=by
 have hq:=h (s.heap.objs.size+1) s.heap.objs.size (I.hok.fresh (Ep _)) (I.hok.fresh (Ad _)) (BN (Ml _));have I2:=Inv.made (C:=C) I;have r2:Vals (V.ref (s.heap.objs.size+1)::(vs++dvs)) (Value.ref (s.heap.objs.size+1)::(us++ds)):=.cons rfl (r.append hd);have hl:(Value.ref (s.heap.objs.size+1)::us++ds).length=ps.length:=by have e:=r2.length;rw[F.len _ _ _ _ hq] at e;exact e.symm
 refine Mv (gy (f:=f) I.BV M.makes M.init (FE.mp M.fn) (LG (F.run _ X.stack _ _ ⟨Value.ref (s.heap.objs.size+1)::us,[]⟩ (Value.ref (s.heap.objs.size+1)::(us++ds)) _ _ E (hr.make C us [])
  (I2.Uc.make C us []) (hb _ (Value.ref (s.heap.objs.size+1)::us) I2.BV hl) r2 hq) fun r s' hq'=>?_))
 cases r with
 |error e=>exact hx pins σ _ _ e s' I2 hq'
 |ok fl=>
  cases fl with
  |ret u=>obtain⟨v,H',I3,rv,ev,q3⟩:=I2.after hq';subst ev;exact⟨rv,⟨V.ref (s.heap.objs.size+1),H',I3,rfl,q3⟩⟩
  |next=>exact False.elim hq'
  |brk=>exact False.elim hq'
  |cont=>exact False.elim hq'
def XF(M:Mk X.K C f)(F:AW X.prog X.w X.K X.mg X.base CX k f fd ps sp)(hr:Bl (k+1) X.A)(hg:Gl X x)(hm:X.mg x=some (.ref C))(hb:Binds X.K fd ps ds)(hd:Vals dvs ds)(hx:Passes CX X E)
 (hdb:(x==("__debug__" :Str))=false:=by decide):PE X (.Call (.Name x p) [] [] pos) (mf C sp dvs E Kg):=by
 intro pins s σ H Q I h;refine MX (La I hg hm ?_ hdb);exact Qu I.BV M.kp (gw (us:=[]) M F hr hb hd hx I .nil h)
end
structure Az(N P:List Str)(sc:tH):Prop where
 kind:sc.kind=.function
 co:sc.isCoroutine=false
 gen:sc.isGenerator=false
 nd:N.Nodup
 pre:N.take P.length=P
 par:∀x∈P,sc.names.lookup x=some .local\/sc.names.lookup x=some .cell
 kU:∀y∈sc.names,y.2≠.free
def Wi{kindOf:Str->Option uE}{x:Str}:∀{binds:List (Str×AB)}{m:Str->Option AB},(∀v,(x,v)∉binds)->bindL kindOf binds m x=m x
 |[],_,_=>rfl
 |(n,v)::r,m,h=>by
  unfold bindL;rw[Wi fun w hw=>h w (DJ _ hw)];split
  ·have:x≠n:=by rintro rfl;exact h v DR
   simp[this]
  ·rfl
def Wg{kindOf:Str->Option uE}{x:Str}:∀{binds:List (Str×AB)}{m:Str->Option AB},(∀v,(x,v)∉binds)->bindC kindOf binds m x=m x
 |[],_,_=>rfl
 |(n,v)::r,m,h=>by
  unfold bindC;rw[Wg fun w hw=>h w (DJ _ hw)];split
  ·rfl
  ·have:x≠n:=by rintro rfl;exact h v DR
   simp[this]
theorem Wo{kindOf:Str->Option uE}{x:Str}{v:AB}:∀{P:List Str}{vs:List AB}{i:Nat}{m:Str->Option AB},P.Nodup->P[i]? =some x->vs[i]? =some v->kindOf x=some .local->
 bindL kindOf (P.zip vs) m x=some v
 |[],_,_,_,_,h,_,_=>by simp at h
 |_::_,[],_,_,_,_,h,_=>by simp at h
 |p::P,w::vs,0,m,nd,h1,h2,hk=>by simp at h1 h2;subst h1;subst h2;show bindL kindOf ((p,w)::P.zip vs) m p=_;unfold bindL;rw[Wi fun v hv=>(IV.mp nd).1 (List.of_mem_zip hv).1,AH hk];simp
 |p::P,w::vs,i+1,m,nd,h1,h2,hk=>by show bindL kindOf ((p,w)::P.zip vs) m x=_;unfold bindL;exact Wo (i:=i) (IV.mp nd).2 (by simpa using h1) (by simpa using h2) hk
theorem WO{kindOf:Str->Option uE}{x:Str}{v:AB}:∀{P:List Str}{vs:List AB}{i:Nat}{m:Str->Option AB},P.Nodup->P[i]? =some x->vs[i]? =some v->kindOf x≠some .local->
 bindC kindOf (P.zip vs) m x=some v
 |[],_,_,_,_,h,_,_=>by simp at h
 |_::_,[],_,_,_,_,h,_=>by simp at h
 |p::P,w::vs,0,m,nd,h1,h2,hk=>by simp at h1 h2;subst h1;subst h2;show bindC kindOf ((p,w)::P.zip vs) m p=_;unfold bindC;rw[Wg fun v hv=>(IV.mp nd).1 (List.of_mem_zip hv).1,AG hk];simp
 |p::P,w::vs,i+1,m,nd,h1,h2,hk=>by show bindC kindOf ((p,w)::P.zip vs) m x=_;unfold bindC;exact WO (i:=i) (IV.mp nd).2 (by simpa using h1) (by simpa using h2) hk
noncomputable def start(N:List Str)(vs:List V):St:=vs.map some++List.replicate (N.length-vs.length) none
noncomputable def Jh(CX:Jn)(P:ql)(w:qu)(K:uJ)(mg:Str->Option AB)(base:qp)(N:List Str)(qual:Str)(scope:tH)(f:Ya)(cd:AB)(A:rV)(outer:List Env)(s:Yf)(H:Hp)(E:XK):Cx where
 prog:=P
 w:=w
 K:=K
 mg:=mg
 base:=base
 A:=A.deeper (rm qual scope s.heap.objs.size f cd)
 N:=N
 s₀:=s
 H₀:=H
 env:=rm qual scope s.heap.objs.size f cd
 outer:=outer
 stack:=rm qual scope s.heap.objs.size f cd::outer
 ex:=[]
 calm:=true
 fn:=fun _=>true
 pn:=[]
 xe:=fun e s'=>bt (ax P w) (A.deeper (rm qual scope s.heap.objs.size f cd)) (leaving (rm qual scope s.heap.objs.size f cd) e) (fun _ s''=>CX outer H s E e s'') (fun e' s''=>CX outer H s E e' s'') s'
def XE{sc:tH}{n:Nat}(h:sc.names.lookup x=some .cell):∃c,(cellsFrom n sc.names []).lookup x=some c:=by have q:=cellsFrom_some sc.names n [] (.inl h);exact Option.isSome_iff_exists.mp q
variable{qual:Str}{scope:tH}{cd:AB}
def fc{s1:Yf}{E:XK}{vs:List V}
 (S:Az N ps scope)(hd:A.handled=none)(e0:Ki P w K mg base A outer s H)(hl:vs.length=ps.length)(r:Vals vs us)
 (x:InCallC s s.heap.objs.size (bindL (rm qual scope s.heap.objs.size f cd).kindOf (ps.zip us) fun _=>none) (cellsFrom (s.heap.objs.size+1) scope.names []) (bindC (rm qual scope s.heap.objs.size f cd).kindOf (ps.zip us) fun _=>none) s1):
 Inv (Jh CX P w K mg base N qual scope f cd A outer s H E) [] (start N vs) H s1:=by
 have hpl:ps.length<=N.length:=by have:=BJ List.length S.pre;rw[Bc] at this;lia
 obtain⟨h1,tk,rfl,hk⟩:=x.done;have Jo:∀b:Ya,b∉(Jh CX P w K mg base N qual scope f cd A outer s H E).ex:=fun b z=>absurd (show b∈([]:List Ya) from z) (by simp);refine⟨⟨e0.mod,S.kind,rfl,rfl,Ad _,fun y z c h1 h2=>?_,fun y hy=>?_,fun y c _ h=>?_,fun _=>hd,Around.frames_deeper e0.frames,.inr ⟨rfl,rfl⟩,fun b z=>absurd z (Jo b),e0.bs,e0.Gn,fun b _ _=>Jo b,fun b z=>absurd z (Jo b),e0.E5,e0.IJ⟩,
  rfl,e0.bare,Un.kept hk,⟨_,x.toInCall.ns,fun i y v h1 h2 h3=>?_⟩,fun y c h=>⟨_,x.cell y c h⟩,e0.hok.fresh (Ad _),fun y c h=>?_,fun p hp=>absurd (show p∈([]:List (Ya×Obj)) from hp) (by simp),e0.hok.kept hk,?_⟩
 ·exact name_of_addr x.apart (I8 h1) (I8 h2)
 ·have hy:scope.names.lookup y=some .cell\/scope.names.lookup y=some .free:=hy;rcases hy with hy|hy
  ·exact XE hy
  ·exact absurd rfl (S.kU _ (I8 hy))
 ·exact Fm (x.above y c (I8 h))
 ·have hi:i<vs.length:=by
   unfold start at h2;by_cases hi:i<vs.length
   ·exact hi
   ·rw[Cj (by simpa using hi)] at h2;rw[List.getElem?_replicate] at h2;split at h2<;>cases h2
  have ha:vs[i]? =some v:=by
   unfold start at h2;rw[C4 (by simpa using hi),A0] at h2
   cases e:vs[i]?with
   |none=>rw[e] at h2;cases h2
   |some a=>rw[e] at h2;cases h2;rfl
  obtain⟨u,hu,rv⟩:=r.get ha;have hp:ps[i]? =some y:=by rw[<-S.pre,List.getElem?_take_of_lt (by lia)];exact h1
  have ndP:ps.Nodup:=by rw[<-S.pre];exact S.nd.sublist (List.take_sublist _ _)
  refine⟨u,rv,?_⟩;rcases S.par y (CF hp) with k|k
  ·exact .inl ⟨k,Wo ndP hp hu k⟩
  ·obtain⟨c,e⟩:=XE (n:=s.heap.objs.size+1) k;refine .inr ⟨.inl k,c,e,?_⟩;have q:=x.cell y c e;rw[WO ndP hp hu (by show scope.names.lookup y≠_;rw[k];decide)] at q;exact q
 ·exact e0.hok.fresh (Fm (x.above y c (I8 h)))
 ·unfold start;show _=N.length;rw[Au,AK,List.length_replicate]
  lia
variable{od:Option Ya}{osl:Array (Option AB)}
def Z9{params:Arguments}{dV kV doc pm cdv ct oc:AB}{an:Option Ya}
 (lk:K.lookup f=some ⟨oc,od,.func (fnOf name qual params body scope dV kV doc pm an cdv ct),osl⟩)(hcd:codeIn K cdv qual=true)(S:Az N ps scope)
 (len:∀vs H Q E,sp vs H Q E->vs.length=ps.length)
 (hbody:∀(A:rV)(outer:List Env)(s:Yf)(H:Hp)(vs:List V)(Q:VK)(E:XK),Bl k (A.deeper (rm qual scope s.heap.objs.size f cdv))->sp vs H Q E->
  ∃t,Eh (Jh CX P w K mg base N qual scope f cdv A outer s H E) body t/\t {nx:=fun _ H'=>Q .BB H',rt:=Q} (start N vs) H):
 AW P w K mg base CX (k+1) f (fnOf name qual params body scope dV kV doc pm an cdv ct) ps sp:=by
 refine⟨len,fun A outer s H args us vs Q E hr e0 hb r hsp=>?_⟩;have hl:=len _ _ _ _ hsp;have KX:K.In s.heap:=e0.mod.N7.keeps fun b o e=>(e0.bs b o e).1;have lim:s.heap.NoLimit:=e0.mod.nolimit.keeps fun b o e=>(e0.bs b o e).1;have hkind:∀y∈ps.zip us,scope.names.lookup y.1=some .local\/(scope.names.lookup y.1=some .cell/\((cellsFrom (s.heap.objs.size+1) scope.names []).lookup y.1).isSome=true):=fun⟨n,v⟩ hy=>by
  rcases S.par n (List.of_mem_zip hy).1 with q|q
  ·exact .inl q
  ·exact .inr ⟨q,cellsFrom_some _ _ _ (.inl q)⟩
 refine codeAny_call_function hr.depth (KX _ _ lk) rfl S.co S.gen rfl (codeRec_of KX hcd) (hb _ _ _ _ ?_);refine wpAny_newFunctionEnv_cells S.kind hkind fun env he s1 x=>?_;subst he;refine⟨lim.keeps x.toInCall.keep,codeAny_func ?_⟩;obtain⟨t,ht,hq⟩:=hbody A outer s H vs Q E (hr.deeper _) hsp;have I:Inv (Jh CX P w K mg base N qual scope f cdv A outer s H E) [] (start N vs) H s1:=fc S hr.hd e0 hl r x;refine DC (ht [] s1 (start N vs) H _ I hq) (fun fl s' hs=>?_) fun e s' hs=>hs;have fin:∀{σ':St}{H':Hp}{v:V}{u:AB},Inv (Jh CX P w K mg base N qual scope f cdv A outer s H E) [] σ' H' s'->RelV v u->Q v H'->CE outer P w H s Q u s':=
  fun{σ' H' v u} J rv q=>⟨v,H',J.os,J.bare,J.base,J.hok,rv,q⟩
 cases fl with
 |ret u=>obtain⟨v,σ',H',J,rv,q⟩:=hs;exact fin J rv q
 |next=>obtain⟨σ',H',J,q⟩:=hs;exact fin (v:=V.BB) (u:=Value.none) J rfl q
 |brk=>obtain⟨_,_,_,q⟩:=hs;exact False.elim q
 |cont=>obtain⟨_,_,_,q⟩:=hs;exact False.elim q
section
variable{es:List hY}{t:TA}{id:String}{r:List V->Hp->VK->Prop}
def QU(r:List V->Hp->VK->Prop)(t:TA):TE:=fun σ H Q=>t σ H fun vs H1=>r vs H1 Q
def BY(hc:DO X (.builtin id) r)(hg:Gl X x)(hm:X.mg x=none)(hv:qw x=some (.builtin id))(ha:PA X (e::es) t)(hn:x≠ "__name__" :=by decide)(hdb:(x==("__debug__" :Str))=false:=by decide)
 (he:dy (e::es) X.env=(false,qr e X.env)::dy es X.env:=by rfl)(hpl:(q5 pos (dy es X.env)).any (·.1)=false:=by rfl):PE X (.Call (.Name x p) (e::es) [] pos) (QU r t):=by
 intro pins s σ H Q I h;refine MX (Nh I hg hm hv ?_ hn hdb);exact PyProof.Rows.callWith_builtin1 (Ae (ha pos pins s σ H _ I h) fun us s1 ⟨vs,H1,I1,r1,q1⟩=>hc pins s1 σ H1 vs us Q I1 r1 q1) he hpl
end
variable{T:String}
section
variable{es:List hY}{t:TA}{id:String}{r:List V->Hp->VK->Prop}
def Er(hc:DO X (.type T) r)(hg:Gl X x)(hm:X.mg x=none)(hv:qw x=some (.type T))(ha:PA X (e::es) t)(hn:x≠ "__name__" :=by decide)(hdb:(x==("__debug__" :Str))=false:=by decide)
 (he:dy (e::es) X.env=(false,qr e X.env)::dy es X.env:=by rfl)(hpl:(q5 pos (dy es X.env)).any (·.1)=false:=by rfl):PE X (.Call (.Name x p) (e::es) [] pos) (QU r t):=by
 intro pins s σ H Q I h;refine MX (Nh I hg hm hv ?_ hn hdb);exact U7 (Ae (ha pos pins s σ H _ I h) fun us s1 ⟨vs,H1,I1,r1,q1⟩=>hc pins s1 σ H1 vs us Q I1 r1 q1) he hpl
end
noncomputable def BD(n d:Nat):Option Int->Nat
 |none=>d
 |some v=>if v<0 then(v+(n:Int)).toNat else min v.toNat n
def Xu(n d:Nat):BD n d none=d:=rfl
def Pa(n d k:Nat):BD n d (some (k:Int))=min k n:=by show(if(k:Int)<0 then((k:Int)+(n:Int)).toNat else min (k:Int).toNat n)=min k n;rw[AG (by lia),Ho]
def mX(n d:Nat)(hd:d<=n)(o:Option Int):BD n d o<=n:=by
 cases o with
 |none=>exact hd
 |some v=>
  show(if v<0 then(v+(n:Int)).toNat else min v.toNat n)<=n;by_cases hv:v<0
  ·rw[AH hv];lia
  ·rw[AG hv];exact Nat.min_le_right _ _
def Ym(v:Int)(n d:Nat):(if v<0 then max (v+(n:Int)) 0 else min v (n:Int))=((BD n d (some v):Nat):Int):=by
 show(if v<0 then max (v+(n:Int)) 0 else min v (n:Int))=(((if v<0 then(v+(n:Int)).toNat else min v.toNat n):Nat):Int);by_cases hv:v<0
 ·simp only[AH hv];lia
 ·simp only[AG hv];lia
def dR(lo hi:Option Int)(n:Nat):Builtin.Slice.sliceAdjust lo hi 1 (n:Int)=(((BD n 0 lo:Nat):Int),((BD n n hi:Nat):Int)):=by
 have h1:¬((1:Int)<0):=by lia
 unfold Builtin.Slice.sliceAdjust;simp only[h1,Bs];refine Prod.ext ?_ ?_
 ·cases lo with
  |none=>rfl
  |some v=>exact Ym v n 0
 ·cases hi with
  |none=>rfl
  |some v=>exact Ym v n n
def dQ(i j:Nat):Builtin.Slice.slicePlaces (i:Int) (j:Int) 1=j-i:=by
 unfold Builtin.Slice.slicePlaces;have h1:(1:Int)>0:=by lia
 simp only[h1,CH,Int.ediv_one];split<;>lia
def Vs{v:AB}{o:Option Int}{Q:Option Int->Yf->Prop}(p:tQ v o)(h:Q o s):bt (ax prog w) A (Builtin.Slice.slicePartIndex v) Q E s:=by
 cases p with
 |none=>exact slicePart_none h
 |int i t=>exact slicePart_int h
def cO{sl:Ya}{vl vu:AB}{lo hi:Option Int}{n:Nat}{Q:Int×Int×Nat->Yf->Prop}(hs:s.heap.IsSliceOf sl vl vu .none)(pl:tQ vl lo)(pu:tQ vu hi)
 (h:Q (((BD n 0 lo:Nat):Int),1,BD n n hi-BD n 0 lo) s):bt (ax prog w) A (Builtin.Slice.sliceApplied (.ref sl) (pure (n:Int))) Q E s:=by
 obtain⟨os,hos,hcs,hds⟩:=id hs;unfold Builtin.Slice.sliceApplied Builtin.Slice.sliceFields;refine AL (AL (J9 hos hds (x:=vl) rfl (AL (J9 hos hds (x:=vu) rfl (AL (J9 hos hds (x:=.none) rfl (Af ?_)))))));refine AL (slicePart_none ?_);show bt _ _ (if((1:Int)==0)=true then _ else _) _ _ s;rw[AG (by decide)];refine AL (Vs pl (AL (Vs pu (AL (Af ?_)))));show bt _ _ (match Builtin.Slice.sliceAdjust lo hi 1 (n:Int) with|(lo,hi)=>pure (lo,(1:Int),Builtin.Slice.slicePlaces lo hi 1)) _ _ s;rw[dR lo hi n];show bt _ _ (pure (((BD n 0 lo:Nat):Int),(1:Int),Builtin.Slice.slicePlaces ((BD n 0 lo:Nat):Int) ((BD n n hi:Nat):Int) 1)) _ _ s;rw[dQ];exact Af h
def iA(xs:Array AB)(i k:Nat):((List.range k).filterMap fun(m:Nat)=>xs[((i:Int)+(m:Int)*1).toNat]?).toArray=((xs.toList.drop i).take k).toArray:=by
 have e:(fun(m:Nat)=>xs[((i:Int)+(m:Int)*1).toNat]?)=fun m=>xs[i+m]? :=by
  funext m;have:((i:Int)+(m:Int)*1).toNat=i+m:=by lia
  rw[this]
 rw[e];have:=pick_run xs i k;rw[List.filterMap_map] at this;have e2:((fun x=>xs[x]?)∘fun x=>i+x)=fun m=>xs[i+m]? :=rfl;rw[e2] at this;rw[this]
def cM{t sl:Ya}{items:Array AB}{vl vu:AB}{lo hi:Option Int}(ht:IsTup s.heap t items)(hs:s.heap.IsSliceOf sl vl vu .none)(pl:tQ vl lo)(pu:tQ vu hi)
 (hw:¬(BD items.size 0 lo=0/\BD items.size items.size hi=items.size))
 (h:Q (.ref s.heap.objs.size) {s with heap:=s.heap.push {cls:=.type "tuple",data:=.seq ((items.toList.drop (BD items.size 0 lo)).take (BD items.size items.size hi-BD items.size 0 lo)).toArray}})
 (hsz:items.size<=sizeLine):bt (ax prog w) A (sk (.ref t) (.ref sl)) Q E s:=by
 have htake:sizeOk (.seq ((items.toList.drop (BD items.size 0 lo)).take (BD items.size items.size hi-BD items.size 0 lo)).toArray):=by
  show((items.toList.drop (BD items.size 0 lo)).take (BD items.size items.size hi-BD items.size 0 lo)).toArray.size<=sizeLine;rw[Cc,Bc,C9,En]
  lia
 have hj:BD items.size items.size hi<=items.size:=mX _ _ (Ad _) hi;obtain⟨os,hos,hcs,hds⟩:=id hs;have hTs:s.TypeIs (.ref sl) "slice" :=⟨os,hos,hcs⟩;unfold sk;try with_reducible refine GG ?_
 first|refine AL (Af ?_)|skip
 refine AL (wpAny_sequenceKey ht.typeIs (by decide) ?_);refine AL (wpAny_callSpecial?_slot (name:=Str.ofString "__getitem__") ht.typeIs U6
  (Oa U6 ht.typeIs entry_tuple_getitem ?_ (args_tuple_getitem _ _)));show bt _ _ (Builtin.Tuple.tupleItemsOf (.ref t)>>=_) _ _ s;refine AL (tupleItemsOf_ ht ?_);refine AL (tD hTs ?_);rw[AH (by decide)];refine AL (cO hs pl pu ?_);have hno:¬((((BD items.size 0 lo:Nat):Int)==0&&(1:Int)==1&&(BD items.size items.size hi-BD items.size 0 lo)==items.size)=true):=by
  intro q;rw[D6,D6] at q;have q1:((BD items.size 0 lo:Nat):Int)=0:=eq_of_beq q.1.1;have q2:BD items.size items.size hi-BD items.size 0 lo=items.size:=eq_of_beq q.2;exact hw ⟨by lia,by lia⟩
 show bt _ _ (if(((BD items.size 0 lo:Nat):Int)==0&&(1:Int)==1&&(BD items.size items.size hi-BD items.size 0 lo)==items.size)=true then _ else _) _ _ s;rw[AG hno,iA];first
  |exact AL (m:=Builtin.Tuple.tupleExact _) (IS (Af ⟨_,rfl,Af h⟩) htake)
  |exact AL (m:=Builtin.Tuple.tupleExact _) (IS (AL (Af (Af ⟨_,rfl,Af h⟩))) htake)
  |exact AL (AL (m:=Builtin.Tuple.tupleExact _) (IS (Af (Af ⟨_,rfl,Af h⟩)) htake))
  |exact AL (AL (m:=Builtin.Tuple.tupleExact _) (IS (Af ⟨_,rfl,Af h⟩) htake))
abbrev TO:=St->Hp->(Option Int->Hp->Prop)->Prop
def PO(X:Cx)(e:Option hY)(t:TO):Prop:=
 ∀(pins:List (Ya×Obj))(s:Yf)(σ:St)(H:Hp)(Q:Option Int->Hp->Prop),Inv X pins σ H s->t σ H Q->
  bt (ax X.prog X.w) X.A (evalPart e X.env) (fun u s'=>∃o H',Inv X pins σ H' s'/\tQ u o/\Q o H') X.xe s
def jT:TO:=fun _ H Q=>Q none H
def nW(t:TE):TO:=fun σ H Q=>t σ H fun x H1=>∃i,x=.int i/\Q (some i) H1
section
variable{lo hi:Option hY}{tl th:TO}{p2:Pos}
def Fo:PO X none jT:=by intro pins s σ H Q I h;rw[evalPart_none];exact Af ⟨none,H,I,.none,h⟩
def C0(h:PE X e te):PO X (some e) (nW te):=by intro pins s σ H Q I hw;rw[evalPart_some];refine Ae (h pins s σ H _ I hw) fun u s1 ⟨x,H1,I1,r1,q1⟩=>?_;obtain⟨i,rfl,q⟩:=q1;obtain⟨t,rfl⟩:=r1;exact⟨some i,H1,I1,.int i t,q⟩
def MH(X:Cx)(r:V->Option Int->Option Int->Hp->VK->Prop):Prop:=
 ∀(pins:List (Ya×Obj))(s:Yf)(σ:St)(H:Hp)(x:V)(v vl vu:AB)(lo hi:Option Int)(sl:Ya)(Q:VK),Inv X pins σ H s->RelV x v->s.heap.IsSliceOf sl vl vu .none->tQ vl lo->tQ vu hi->r x lo hi H Q->
  ∃T id,typeLookup (.type T) "__getitem__" =pure (some (.builtin id))/\s.TypeIs v T/\bt (ax X.prog X.w) X.A (sk v (.ref sl)) (EP X pins σ Q) X.xe s
def qT(r:V->Option Int->Option Int->Hp->VK->Prop)(te:TE)(tl th:TO):TE:=fun σ H Q=>te σ H fun x H1=>tl σ H1 fun l H2=>th σ H2 fun u H3=>r x l u H3 Q
def Dr{r:V->Option Int->Option Int->Hp->VK->Prop}(hr:MH X r)(he:PE X e te)(hl:PO X lo tl)(hu:PO X hi th):PE X (.Subscript e (.Slice lo hi none p2) pos) (qT r te tl th):=by intro pins s σ H Q I h;refine Subscript_ (Ae (he pins s σ H _ I h) fun v s1 ⟨x,H1,I1,r1,q1⟩=>?_);refine wpAny_Slice (Ae (hl pins s1 σ H1 _ I1 q1) fun vl s2 ⟨l,H2,I2,pl,q2⟩=>Ae (hu pins s2 σ H2 _ I2 q2) fun vu s3 ⟨u,H3,I3,pu,q3⟩=>?_);rw[evalPart_none];refine Af ?_;have I4:Inv X pins σ H3 {s3 with heap:=s3.heap.push {cls:=.type "slice",data:=.fields #[vl,vu,.none]}}:=I3.kept (t':=s3.toks) fun b ob q=>BC _ q;obtain⟨T,id,hT,ht,hg⟩:=hr pins {s3 with heap:=s3.heap.push {cls:=.type "slice",data:=.fields #[vl,vu,.none]}} σ H3 x v vl vu l u s3.heap.objs.size Q I4 r1 (Heap.IsSliceOf.new ..) pl pu q3;show bt (ax X.prog X.w) X.A (uG e (.Slice lo hi none p2) v (.ref s3.heap.objs.size)) (EP X pins σ Q) X.xe {s3 with heap:=s3.heap.push {cls:=.type "slice",data:=.fields #[vl,vu,.none]}};exact tail_any (ops:=[.ref s3.heap.objs.size,v]) ht hT hg (by with_unfolding_all rfl)
def Cn(xs:List V)(lo hi:Option Int):List V:=(xs.drop (BD xs.length 0 lo)).take (BD xs.length xs.length hi-BD xs.length 0 lo)
def Vp(xs:List V)(lo hi:Option Int):(Cn xs lo hi).length<=xs.length:=by
 unfold Cn;rw[Bc,C9]
 lia
def bB(K:uJ):V->Option Int->Option Int->Hp->VK->Prop:=fun x lo hi H Q=>∃a xs,x=.ref a/\AX K H a xs/\
 ¬(BD xs.length 0 lo=0/\BD xs.length xs.length hi=xs.length)/\∀p,H p=none->Q (.ref p) (upd H p (.tup (Cn xs lo hi)))
def lh:MH X (bB X.K):=by
 intro pins s σ H x v vl vu lo hi sl Q I rx hs pl pu h;obtain⟨a,xs,rfl,hx,hw,q⟩:=h;cases rx;obtain⟨AO,r,ht,hz⟩:=I.tuple hx;have hlen:AO.toArray.size=xs.length:=by rw[Cc];exact r.length.symm
 refine⟨"tuple",_,U6.lookup,ht.typeIs,?_⟩;refine cM ht hs pl pu (by rw[hlen];exact hw) ?_ (by rw[hlen];exact hz);rw[hlen];refine⟨.ref s.heap.objs.size,_,I.laid (t':=s.toks) (o:=.tup (Cn xs lo hi)) (fun b ob q=>BC _ q) (Ad _) ?_,rfl,q _ (I.hok.fresh (Ad _))⟩;exact⟨BF (Vp xs lo hi) hz,_,(r.drop (BD xs.length 0 lo)).take (BD xs.length xs.length hi-BD xs.length 0 lo),IsTup.new _ _⟩
end
noncomputable def Ky(n:Nat)(i:Int):Option Nat:=if 0<=i then(if i<n then some i.toNat else none) else if-(n:Int)<=i then some (i+n).toNat else none
def Gm{α:Type}(xs:List α)(i:Int):Option α:=(Ky xs.length i).bind fun j=>xs[j]?
def Yq{n:Nat}{i:Int}(h:Ky n i=some j):seqIndex? i n=some j/\j<n/\ -(n:Int)<=i/\i<n:=by
 unfold Ky at h;by_cases h0:0<=i
 ·rw[AH h0] at h;by_cases h1:i<n
  ·rw[AH h1] at h;have e:i.toNat=j:=Ai h;exact⟨by rw[seqIndex_of h0 h1,e],by lia,by lia,h1⟩
  ·rw[AG h1] at h;cases h
 ·rw[AG h0] at h;by_cases h1: -(n:Int)<=i
  ·rw[AH h1] at h;have e:(i+n).toNat=j:=Ai h;exact⟨by rw[seqIndex_neg (by lia) h1,e],by lia,h1,by lia⟩
  ·rw[AG h1] at h;cases h
def Sf{xs:List α}{i:Int}{v:α}(h:Gm xs i=some v):∃j,seqIndex? i xs.length=some j/\xs[j]? =some v/\j<xs.length/\ -(xs.length:Int)<=i/\i<xs.length:=by
 unfold Gm at h
 cases e:Ky xs.length i with
 |none=>rw[e] at h;cases h
 |some j=>rw[e] at h;obtain⟨h1,h2,h3,h4⟩:=Yq e;exact⟨j,h1,h,h2,h3,h4⟩
def Bt{xs:List α}{v:α}(h:xs[j]? =some v):Gm xs (j:Int)=some v:=by
 have hj:j<xs.length:=(BZ.mp h).1;have e:Ky xs.length (j:Int)=some j:=by unfold Ky;rw[AH (by lia),AH (by lia)];simp
 unfold Gm;rw[e];exact h
def jq(b:hY):Prop:=∀o i,tR b false o i=operate [o,i] (sk o i)
def Hi(X:Cx)(r:R2):Prop:=
 ∀(value slice:hY)(pins:List (Ya×Obj))(s:Yf)(σ:St)(H:Hp)(x y:V)(v u:AB)(Q:VK),Inv X pins σ H s->RelV x v->RelV y u->r x y H Q->
  tR slice false v u=operate [v,u] (sk v u)->bt (ax X.prog X.w) X.A (uG value slice v u) (EP X pins σ Q) X.xe s
def N5(X:Cx)(id:String)(r:V->List V->Hp->VK->Prop):Prop:=
 ∀(pins:List (Ya×Obj))(s:Yf)(σ:St)(H:Hp)(x:V)(xs:List V)(v:AB)(us:List AB)(Q:VK),Inv X pins σ H s->RelV x v->Vals xs us->r x xs H Q->
  bt (ax X.prog X.w) X.A (call (.builtin id) (v::us)) (EP X pins σ Q) X.xe s
variable{r:V->List V->Hp->VK->Prop}
section
variable{a b:hY}{tb:TE}{o:hY}{es:List hY}{to:TE}{t:TA}{id:String}
def Hi.or{r r':R2}(h:Hi X r)(h':Hi X r'):Hi X (fun x y H Q=>r x y H Q\/r' x y H Q):=by
 intro value slice pins s σ H x y v u Q I rx ry q hs;rcases q with q|q
 ·exact h value slice pins s σ H x y v u Q I rx ry q hs
 ·exact h' value slice pins s σ H x y v u Q I rx ry q hs
def CB{r:R2}(hr:Hi X r)(ha:PE X a ta)(hb:PE X b tb)(hs:jq b):PE X (.Subscript a b pos) (Fb r ta tb):=by intro pins s σ H Q I h;exact Subscript_ (UO ha hb I h fun v u s2 x y H2 I2 rx ry q=>hr a b pins s2 σ H2 x y v u Q I2 rx ry q (hs _ _))
def QN(K:uJ):R2:=fun x y H Q=>∃p xs i v,x=.ref p/\y=.int i/\AJ K H p xs/\Gm xs i=some v/\Q v H
def L4(K:uJ):R2:=fun x y H Q=>∃p xs i v,x=.ref p/\y=.int i/\AX K H p xs/\Gm xs i=some v/\Q v H
def aQ:R2:=fun x y H Q=>∃z i c,x=.str z/\y=.int i/\z.length<=sizeLine/\Gm z.cps.toList i=some c/\Q (.str ⟨#[c]⟩) H
def YQ:Hi X (QN X.K):=by
 intro value slice pins s σ H x y v u Q I rx ry h hs;obtain⟨p,xs,i,z,rfl,rfl,hq,he,q⟩:=h;cases rx;obtain⟨t,rfl⟩:=ry;obtain⟨AO,r,pl,hz⟩:=I.list hq;obtain⟨j,h1,h2,h3,h4,h5⟩:=Sf he;obtain⟨w,ew,rw'⟩:=r.get h2;have hl:=r.length;have hn:=NT;have fin:EP X pins σ Q w s:=⟨z,H,I,rw',q⟩;by_cases h0:0<=i
 ·have hj:i.toNat=j:=by rw[seqIndex_of h0 h5] at h1;exact Ai h1
  exact item_listR pl.isList h0 (by lia) (by rw[hj];simpa using ew) fin hs
 ·have hj:(i+(AO.toArray.size:Int)).toNat=j:=by rw[seqIndex_neg (by lia) h4] at h1;rw[Cc,<-hl];exact Ai h1
  exact subscriptTail_builtinR (x:=w) pl.isList.typeIs slot_list_getitem.lookup
   (wpAny_getItem_list_neg (Q:=fun r s'=>r=w/\EP X pins σ Q r s') pl.isList (by lia) (by rw[Cc]<;>lia) (by lia) (by rw[hj];simpa using ew) ⟨rfl,fin⟩) hs
def kb:Hi X (L4 X.K):=by
 intro value slice pins s σ H x y v u Q I rx ry h hs;obtain⟨p,xs,i,z,rfl,rfl,hq,he,q⟩:=h;cases rx;obtain⟨t,rfl⟩:=ry;obtain⟨AO,r,pl,hz⟩:=I.tuple hq;obtain⟨j,h1,h2,h3,h4,h5⟩:=Sf he;obtain⟨w,ew,rw'⟩:=r.get h2;have hl:=r.length;have hn:=NT;have fin:EP X pins σ Q w s:=⟨z,H,I,rw',q⟩;exact subscriptTail_builtinR (x:=w) pl.typeIs slot_tuple_getitem.lookup
  (getItem_tuple (j:=j) (Q:=fun r s'=>r=w/\EP X pins σ Q r s') pl (by lia) (by lia) (by rw[Cc,<-hl];exact h1) (by simpa using ew) ⟨rfl,fin⟩) hs
def Pl:Hi X aQ:=by
 intro value slice pins s σ H x y v u Q I rx ry h hs;obtain⟨z,i,c,rfl,rfl,hz,he,q⟩:=h;obtain⟨t,rfl⟩:=rx;obtain⟨t',rfl⟩:=ry;obtain⟨j,h1,h2,h3,h4,h5⟩:=Sf he;have hl:z.cps.toList.length=z.length:=by simp[Str.length]
 rw[hl] at h1 h4 h5;have hn:=NT;exact tail_any (LM s z t) slot_str_getitem.lookup (getItem_str (c:=c) (by have e1:decide (i< -(2^63:Int))=false:=BO (by lia);have e2:decide (i>=2^63)=false:=BO (by lia);rw[e1,e2,Bool.or_false]) (by rw[h1];simpa using h2) ⟨.str ⟨#[c]⟩,H,I.tok _,⟨_,rfl⟩,q⟩) hs
def qY(K:uJ):R2:=fun x y H Q=>QN K x y H Q\/L4 K x y H Q\/aQ x y H Q
def dc(AO:List AB)(n j:Nat)(u:AB):Obj.mapSeq (·.setIfInBounds j u) {cls:=.type "list",data:=.seq AO.toArray n}={cls:=.type "list",data:=.seq (AO.set j u).toArray n}:=by simp[Obj.mapSeq]
def Inv.lst{X:Cx}{pins:List (Ya×Obj)}{σ:St}{H:Hp}{s:Yf}{p:Ya}{xs:List V}(I:Inv X pins σ H s)(h:H p=some (.lst xs)):
 ∃(AO:List AB)(n:Nat),Vals xs AO/\s.heap.get? p=some {cls:=.type "list",data:=.seq AO.toArray n}/\xs.length<=sizeLine:=by
 obtain⟨z,AO,n,r,e⟩:=I.hok p _ h;exact⟨AO,n,r,e,z⟩
end
variable{AO:List AB}
section
variable{a b:hY}{tb:TE}{o:hY}{es:List hY}{to:TE}{t:TA}{id:String}
def Inv.lQ{p:Ya}{xs:List V}{its':List AB}{n n':Nat}{f:Obj->Obj}(I:Inv X pins σ H s)(h:H p=some (.lst xs))
 (ho:s.heap.get? p=some {cls:=.type "list",data:=.seq AO.toArray n})(hf:f {cls:=.type "list",data:=.seq AO.toArray n}={cls:=.type "list",data:=.seq its'.toArray n'})(r:Vals ys its')(hz:ys.length<=sizeLine)(t:Nat):
 Inv X pins σ (upd H p (.lst ys)) {s with heap:=s.heap.update p f,toks:=t}:=by
 have e:(s.heap.update p f).get? p=some {cls:=.type "list",data:=.seq its'.toArray n'}:=by rw[Iz f ho (by rw[hf]<;>rfl),hf]
 refine I.write (x:=p) (e:=p) (by rw[h];trivial) (.inl rfl) (fun b u hb q=>(EE _ _ (DL hb)).trans q) ⟨_,e⟩ ?_;exact⟨hz,its',n',r,e⟩
def nr:V->V->V->Hp->(Hp->Prop)->Prop:=fun o i v H Q=>∃p xs k j,o=.ref p/\i=.int k/\H p=some (.lst xs)/\Ky xs.length k=some j/\Q (upd H p (.lst (xs.set j v)))
def set_list:au X nr:=by
 intro pins s σ H o i v ov iv u Q I ro ri rv h;obtain⟨p,xs,k,j,rfl,rfl,hp,hj,q⟩:=h;cases ro;obtain⟨t,rfl⟩:=ri;obtain⟨AO,n,r,ho,hz⟩:=I.lst hp;obtain⟨h1,h2,h3,h4⟩:=Yq hj;have hl:=r.length;have hn:=NT;have I':Inv X pins σ (upd H p (.lst (xs.set j v))) {s with heap:=s.heap.update p (Obj.mapSeq (·.setIfInBounds j u))}:=
  I.lQ hp ho (dc AO n j u) (r.set rv j) (by rw[List.length_set];exact hz) s.toks;by_cases h0:0<=k
 ·have hk:k.toNat=j:=by rw[seqIndex_of h0 h4] at h1;exact Ai h1
  exact ki_setAt ho h0 (by lia) (by rw[Cc,<-hl];exact h4) (by rw[hk];exact⟨_,I',q⟩)
 ·have hk:(k+(AO.toArray.size:Int)).toNat=j:=by rw[seqIndex_neg (by lia) h3] at h1;rw[Cc,<-hl];exact Ai h1
  exact ki_setBack ho (by lia) (by rw[Cc,<-hl];exact h3) (by lia) (by rw[hk];exact⟨_,I',q⟩)
def cf(lo hi:Option Int)(n:Nat):(rY lo hi none n).1=((BD n 0 lo:Nat):Int)/\(rY lo hi none n).2.1=((BD n n hi:Nat):Int)/\(rY lo hi none n).2.2=1:=by
 refine⟨?_,?_,rfl⟩
 ·cases lo with
  |none=>simp[rY,BD]
  |some i=>
   simp only[rY,BD,Option.getD_none,show(1:Int)>0 by decide,CH];by_cases h:i<0
   ·simp only[h,CH]<;>lia
   ·simp only[h,Bs]<;>lia
 ·cases hi with
  |none=>simp[rY,BD]
  |some i=>
   simp only[rY,BD,Option.getD_none,show(1:Int)>0 by decide,CH];by_cases h:i<0
   ·simp only[h,CH]<;>lia
   ·simp only[h,Bs]<;>lia
def cV(AO:List AB)(lo hi:Option Int):slicePick AO.toArray lo hi none=((AO.drop (BD AO.length 0 lo)).take (BD AO.length AO.length hi-BD AO.length 0 lo)).toArray:=by obtain⟨h1,h2,h3⟩:=cf lo hi AO.toArray.size;unfold slicePick;rw[h1,h2,h3];simp only[sliceRange_one,pick_run,Cc]<;>rfl
def af(K:uJ):V->Option Int->Option Int->Hp->VK->Prop:=fun x lo hi H Q=>∃a xs,x=.ref a/\AJ K H a xs/\∀p,H p=none->Q (.ref p) (upd H p (.lst (Cn xs lo hi)))
def Pb:MH X (af X.K):=by intro pins s σ H x v vl vu lo hi sl Q I rx hs pl pu h;obtain⟨a,xs,rfl,hx,q⟩:=h;cases rx;obtain⟨AO,r,ht,hz⟩:=I.list hx;have hlen:=r.length;refine⟨"list",_,slot_list_getitem.lookup,ht.isList.typeIs,?_⟩;refine wpAny_getItem_list_slice ht.isList hs pl pu .none (by simp) ?_ (by rw[Cc]<;>lia);rw[cV,<-hlen];refine⟨.ref s.heap.objs.size,_,I.laid (t':=s.toks) (o:=.lst (Cn xs lo hi)) (fun b ob q=>BC _ q) (Ad _) ?_,rfl,q _ (I.hok.fresh (Ad _))⟩;exact⟨BF (Vp xs lo hi) hz,_,0,(r.drop (BD xs.length 0 lo)).take (BD xs.length xs.length hi-BD xs.length 0 lo),By _ rfl⟩
noncomputable def Ig:V->Bool
 |.BB=>true
 |.bl _=>true
 |.int _=>true
 |.str _=>true
 |_=>false
noncomputable def Jm:V->V->Bool
 |.BB,.BB=>true
 |.bl a,.bl b=>a==b
 |.bl a,.int b=>(if a then 1 else 0)==b
 |.int a,.bl b=>a==(if b then 1 else 0)
 |.int a,.int b=>a==b
 |.str a,.str b=>a==b
 |_,_=>false
def mZ{x:V}{v:AB}(ry:RelV y u)(rx:RelV x v)(fy:Ig y=true)(fx:Ig x=true):SeqAt.EqAt A s u v (Jm y x):=by
 cases y with
 |BB=>
  cases ry
  cases x with
  |BB=>cases rx;exact SeqAt.EqAt.same _
  |bl b=>cases rx;exact SeqAt.EqAt.none_bool b
  |int b=>obtain⟨t,rfl⟩:=rx;exact SeqAt.EqAt.none_int b t
  |str b=>obtain⟨t,rfl⟩:=rx;exact SeqAt.EqAt.none_str b t
  |_=>exact absurd (show false=true from fx) CZ
 |bl a=>
  cases ry
  cases x with
  |BB=>cases rx;exact SeqAt.EqAt.bool_none a
  |bl b=>cases rx;exact SeqAt.EqAt.bool_bool a b
  |int b=>obtain⟨t,rfl⟩:=rx;exact SeqAt.EqAt.bool_int a b t
  |str b=>obtain⟨t,rfl⟩:=rx;exact SeqAt.EqAt.bool_str a b t
  |_=>exact absurd (show false=true from fx) CZ
 |int a=>
  obtain⟨t',rfl⟩:=ry
  cases x with
  |BB=>cases rx;exact SeqAt.EqAt.int_none a t'
  |bl b=>cases rx;exact SeqAt.EqAt.int_bool a t' b
  |int b=>obtain⟨t,rfl⟩:=rx;exact SeqAt.EqAt.int_int a t' b t
  |str b=>obtain⟨t,rfl⟩:=rx;exact SeqAt.EqAt.int_str a t' b t
  |_=>exact absurd (show false=true from fx) CZ
 |str a=>
  obtain⟨t',rfl⟩:=ry
  cases x with
  |BB=>cases rx;exact SeqAt.EqAt.str_none a t'
  |bl b=>cases rx;exact SeqAt.EqAt.str_bool a t' b
  |int b=>obtain⟨t,rfl⟩:=rx;exact SeqAt.EqAt.str_int a t' b t
  |str b=>obtain⟨t,rfl⟩:=rx;exact SeqAt.EqAt.str_str a t' b t
  |_=>exact absurd (show false=true from fx) CZ
 |_=>exact absurd (show false=true from fy) CZ
def EC(x:V)(u:AB):Bool:=match u with
 |.none=>Jm .BB x
 |.bool b=>Jm (.bl b) x
 |.int i _=>Jm (.int i) x
 |.str z _=>Jm (.str z) x
 |_=>false
def Tj{x:V}(r:RelV y u)(f:Ig y=true):EC x u=Jm y x:=by
 cases y with
 |BB=>cases r;rfl
 |bl b=>cases r;rfl
 |int i=>obtain⟨t,rfl⟩:=r;rfl
 |str z=>obtain⟨t,rfl⟩:=r;rfl
 |_=>exact absurd (show false=true from f) CZ
def NQ{x:V}:∀{xs:List V}{us:List AB},Vals xs us->xs.all Ig=true->us.any (EC x)=xs.any fun y=>Jm y x
 |_,_,.nil,_=>rfl
 |y::xs,u::us,.cons r t,f=>by rw[LD,D6] at f;rw[IY,IY,Tj r f.1,NQ t f.2]
def LS{A:rV}{s:Yf}{x:V}{v:AB}(rx:RelV x v)(fx:Ig x=true):∀{xs:List V}{us:List AB},Vals xs us->xs.all Ig=true->∀u∈us,SeqAt.EqAt A s u v (EC x u)
 |_,_,.nil,_=>fun u hu=>by cases hu
 |y::xs,u::us,.cons r t,f=>fun u' hu=>by
  rw[LD,D6] at f;rcases Be.mp hu with rfl|hu
  ·rw[Tj r f.1];exact mZ r rx f.1 fx
  ·exact LS rx fx t f.2 u' hu
def Gp(x:V)(xs:List V):Bool:=xs.any fun y=>Jm y x
def Ue(K:uJ)(neg:Bool):R2:=fun x y H Q=>∃p xs,y=.ref p/\(AJ K H p xs\/AX K H p xs)/\Ig x=true/\xs.all Ig=true/\Q (.bl (if neg then !Gp x xs else Gp x xs)) H
def fJ:Bv X (qm .In) (Ue X.K false):=by
 intro pins s σ H x y v u Q I rx ry h;obtain⟨p,xs,rfl,hq,fx,fs,q⟩:=h;cases ry;rcases hq with hq|hq
 ·obtain⟨AO,r,pl,hz⟩:=I.list hq;refine SeqAt.in_listAt (EC x) pl.isList (fun w hw=>LS rx fx r fs w (by simpa using hw)) ⟨.bl _,H,I,rfl,?_⟩;rw[show AO.toArray.any (EC x)=AO.any (EC x) by simp,NQ r fs];exact q
 ·obtain⟨AO,r,pl,hz⟩:=I.tuple hq;refine SeqAt.in_tupleAt (EC x) pl (fun w hw=>LS rx fx r fs w (by simpa using hw)) ⟨.bl _,H,I,rfl,?_⟩;rw[show AO.toArray.any (EC x)=AO.any (EC x) by simp,NQ r fs];exact q
def cY:Bv X (qm .NotIn) (Ue X.K true):=by
 intro pins s σ H x y v u Q I rx ry h;obtain⟨p,xs,rfl,hq,fx,fs,q⟩:=h;cases ry;rcases hq with hq|hq
 ·obtain⟨AO,r,pl,hz⟩:=I.list hq;refine SeqAt.notIn_listAt (EC x) pl.isList (fun w hw=>LS rx fx r fs w (by simpa using hw)) ⟨.bl _,H,I,rfl,?_⟩;rw[show AO.toArray.any (EC x)=AO.any (EC x) by simp,NQ r fs];exact q
 ·obtain⟨AO,r,pl,hz⟩:=I.tuple hq;refine SeqAt.notIn_tupleAt (EC x) pl (fun w hw=>LS rx fx r fs w (by simpa using hw)) ⟨.bl _,H,I,rfl,?_⟩;rw[show AO.toArray.any (EC x)=AO.any (EC x) by simp,NQ r fs];exact q
def IZ:DO X (.builtin "len") (fun xs H Q=>∃p ys,xs=[.ref p]/\(AJ X.K H p ys\/AX X.K H p ys)/\Q (.int ys.length) H):=by
 intro pins s σ H xs us Q I r h;obtain⟨p,ys,rfl,hq,q⟩:=h;obtain⟨u,rfl,rx⟩:=vals1 r;cases rx;have hn:=NT;rcases hq with hq|hq
 ·obtain⟨AO,r',pl,hz⟩:=I.list hq;have hlen:=r'.length;exact Calls.call_len_list pl.isList (by simp only[Cc]<;>lia) ⟨.int ys.length,H,I.tok _,⟨s.toks+1,by rw[Cc,hlen]⟩,q⟩
 ·obtain⟨AO,r',pl,hz⟩:=I.tuple hq;have hlen:=r'.length;exact len_tuple pl (by simp only[Cc]<;>lia) ⟨.int ys.length,H,I.tok _,⟨s.toks+1,by rw[Cc,hlen]⟩,q⟩
def cX:DO X (.type "list") (fun xs H Q=>∃p ys,xs=[.ref p]/\(AJ X.K H p ys\/AX X.K H p ys)/\∀l,H l=none->Q (.ref l) (upd H l (.lst ys))):=by
 intro pins s σ H xs us Q I r h;obtain⟨p,ys,rfl,hq,q⟩:=h;obtain⟨u,rfl,rx⟩:=vals1 r;cases rx;have fin:∀(AO:List AB),Vals ys AO->ys.length<=sizeLine->∀(h':qp)(c':Nat),(∀b o',s.heap.get? b=some o'->h'.get? b=some o')->
  h'.get? s.heap.objs.size=some {cls:=.type "list",dict:=none,data:=.seq AO.toArray c',slots:= #[]}->EP X pins σ Q (.ref s.heap.objs.size) {s with heap:=h'}:=fun AO r' hz h' c' kp e=>
  ⟨.ref s.heap.objs.size,_,I.laid (t':=s.toks) kp (Ad _) (show BR X.prog X.w _ h' _ (.lst ys) from⟨hz,AO,c',r',e⟩),rfl,q _ (I.hok.fresh (Ad _))⟩;rcases hq with hq|hq
 ·obtain⟨AO,r',pl,hz⟩:=I.list hq;have hlen:=r'.length;obtain⟨o,ho,hc,n,hd⟩:=pl.isList;exact call_list_seq p (.inl rfl) ho hc hd (fun h' c' kp e=>fin AO r' hz h' c' kp e) (by simp only[Cc]<;>lia)
 ·obtain⟨AO,r',pl,hz⟩:=I.tuple hq;have hlen:=r'.length;obtain⟨o,ho,hc,n,hd⟩:=pl;exact call_list_seq p (.inr rfl) ho hc hd (fun h' c' kp e=>fin AO r' hz h' c' kp e) (by simp only[Cc]<;>lia)
def OC(K:uJ)(T:String)(x:V)(H:Hp):Prop:=match x with
 |.str _=>T="str"
 |.int _=>T="int"
 |.ref p=>(T="list" /\∃xs,AJ K H p xs)\/(T="tuple" /\∃o,K.lookup p=some o/\o.cls=.type "tuple" /\o.dict=none)\/
  (T="dict" /\((∃AA,H p=some (.dK AA))\/∃AA,H p=some (.dT AA)))\/(T="set" /\∃S n,H p=some (.set S n))
 |_=>False
def Yt{x:V}{v:AB}(I:Inv X pins σ H s)(r:RelV x v)(ty:OC X.K T x H):
 s.TypeIs v T/\∀a,v=.ref a->∃ob,s.heap.get? a=some ob/\ob.dict=none:=by
 cases x with
 |str z=>obtain⟨t,rfl⟩:=r;cases(show T="str" from ty);exact⟨LM s z t,fun _ e=>nomatch e⟩
 |int i=>obtain⟨t,rfl⟩:=r;cases(show T="int" from ty);exact⟨typeIs_int s i t,fun _ e=>nomatch e⟩
 |ref p=>
  cases r;rcases ty with⟨rfl,xs,hq⟩|⟨rfl,o,hk,hc,hd⟩|⟨rfl,hk⟩|⟨rfl,S,n,hk⟩
  ·obtain⟨AO,_,pl,_⟩:=I.list hq;refine⟨pl.isList.typeIs,fun a e=>?_⟩;cases e;obtain⟨o,n,e,c,hd,_⟩:=pl;exact⟨o,e,hd⟩
  ·refine⟨⟨o,I.BV p o hk,hc⟩,fun a e=>?_⟩;cases e;exact⟨o,I.BV _ o hk,hd⟩
  ·have z:∃o,s.heap.get? p=some o/\o.ExactDict:=by
    rcases hk with⟨AA,hk⟩|⟨AA,hk⟩
    ·obtain⟨_,_,_,_,o,_,_,e,ex,_⟩:=I.hok p _ hk;exact⟨o,e,ex⟩
    ·obtain⟨_,_,_,_,o,_,_,e,ex,_⟩:=I.hok p _ hk;exact⟨o,e,ex⟩
   obtain⟨o,e,ex⟩:=z;refine⟨⟨o,e,ex.1⟩,fun a e2=>?_⟩;cases e2;exact⟨o,e,ex.2.1⟩
  ·obtain⟨o,_,_,_,e,ex,_⟩:=I.hok p _ hk;refine⟨⟨o,e,ex.1⟩,fun a e2=>?_⟩;cases e2;exact⟨o,e,ex.2.1⟩
 |_=>exact False.elim ty
def aV(K:uJ)(T:String)(r:V->List V->Hp->VK->Prop)(to:TE):TE:=fun σ H Q=>to σ H fun x H1=>OC K T x H1/\r x [] H1 Q
def Uj(K:uJ)(T:String)(r:V->List V->Hp->VK->Prop)(to:TE)(t:TA):TE:=fun σ H Q=>to σ H fun x H1=>OC K T x H1/\t σ H1 fun xs H2=>r x xs H2 Q
end
variable{cpos:Pos}
section
variable{a b:hY}{tb:TE}{o:hY}{es:List hY}{to:TE}{t:TA}{id:String}
def Nd(pa:sq T)(slot:Slot T name id)(hty:typeOf (.builtin id)=pure (.type "method_descriptor"))(hm:N5 X id r)(ho:PE X o to)
 (hbase:qy o name X.env (qr o X.env)=qr o X.env:=by rfl)(hline:(apos.endLine==cpos.line)=true:=by rfl):PE X (.Call (.Attribute o name apos) [] [] cpos) (aV X.K T r to):=by
 intro pins s σ H Q I h;refine wpAny_Call_method0_late hbase hline (Ae (ho pins s σ H _ I h) fun v s1 ⟨x,H1,I1,r1,ty,q1⟩=>?_);obtain⟨h1,h2⟩:=Yt I1 r1 ty;exact⟨T,id,pa,slot,hty,h1,h2,Qr rfl (PySem.evalArgs_none (hm pins s1 σ H1 x [] v [] Q I1 r1 .nil q1))⟩
def JV(pa:sq T)(slot:Slot T name id)(hty:typeOf (.builtin id)=pure (.type "method_descriptor"))(hm:N5 X id r)(ho:PE X o to)(ha:PA X (e::es) t)
 (hbase:qy o name X.env (qr o X.env)=qr o X.env:=by rfl)
 (hfew:((q5 cpos (dy (e::es) X.env)).all (fun x=> !x.1)&&(rq cpos (rJ [] X.env)).all (fun x=>x.1.isSome)
  &&decide ((e::es).length+([]:List sO).length+(if([]:List sO).isEmpty then 0 else 1)<30))=true:=by rfl)
 (hline:(apos.endLine==cpos.line)=true:=by rfl)(hs:dy (e::es) X.env=(false,qr e X.env)::dy es X.env:=by rfl)(hplain:(q5 cpos (dy es X.env)).any (·.1)=false:=by rfl):
 PE X (.Call (.Attribute o name apos) (e::es) [] cpos) (Uj X.K T r to t):=by
 intro pins s σ H Q I h;refine wpAny_Call_method_late hbase hfew hline rfl (Ae (ho pins s σ H _ I h) fun v s1 ⟨x,H1,I1,r1,ty,q1⟩=>?_);obtain⟨h1,h2⟩:=Yt I1 r1 ty;refine⟨T,id,pa,slot,hty,h1,h2,?_⟩;have hA:=ha cpos pins s1 σ H1 _ I1 q1;rw[hs] at hA⊢;refine Qr (by show(false||(q5 cpos (dy es X.env)).any (·.1))=false;rw[hplain]<;>rfl) (VP ?_);exact Ae hA fun us s2 ⟨vs,H2,I2,r2,q2⟩=>hm pins s2 σ H2 x vs v us Q I2 r1 r2 q2
end
def Hh(X:Cx)(id:String)(r:V->List V->Hp->VK->Prop):Prop:=
 ∀(pins:List (Ya×Obj))(s:Yf)(σ:St)(H:Hp)(x:V)(xs:List V)(v:AB)(us:List AB)(Q:VK),Inv X pins σ H s->RelV x v->Vals xs us->r x xs H Q->
  bt (ax X.prog X.w) X.A (call (.builtin id) (v::us)) (EP X pins σ Q) X.xe s
def Vals.one{x:V}(h:Vals [x] us):∃u,us=[u]/\RelV x u:=by
 cases h with
 |cons r t=>cases t;exact⟨_,rfl,r⟩
def Vals.two{x:V}(h:Vals [x,y] us):∃u v,us=[u,v]/\RelV x u/\RelV y v:=by
 cases h with
 |cons r t=>obtain⟨_,rfl,q⟩:=Vals.one t;exact⟨_,_,rfl,r,q⟩
def Vals.zero:∀{us:List AB},Vals [] us->us=[]
 |_,.nil=>rfl
def Vals.dropLast{xs:List V}(h:Vals xs us):Vals xs.dropLast us.dropLast:=by
 induction h with
 |nil=>exact .nil
 |cons r t ih=>
  cases t with
  |nil=>exact .nil
  |cons q t'=>exact .cons r ih
def dF(l:List α):l.eraseIdx (l.length-1)=l.dropLast:=by
 induction l with
 |nil=>rfl
 |cons a r ih=>
  cases r with
  |nil=>rfl
  |cons b r=>
   have e:(a::b::r).length-1=((b::r).length-1)+1:=by
    have h1:(a::b::r).length=r.length+2:=rfl;have h2:(b::r).length=r.length+1:=rfl
    lia
   rw[e,List.eraseIdx_cons_succ,ih];all_goals rfl
section
variable{l:Ya}{xs zs:List V}
def Inv.UX{its':List AB}{n:Nat}{f:Array AB->Array AB}(I:Inv X pins σ H s)(hH:H l=some (.lst xs))
 (e:s.heap.get? l=some {cls:=.type "list",data:=.seq AO.toArray n})(hf:f AO.toArray=its'.toArray)(hv:Vals ys its')(hz:ys.length<=sizeLine):
 Inv X pins σ (upd H l (.lst ys)) {s with heap:=s.heap.update l (Obj.mapSeq f),toks:=t'}:=by
 have q:=PySem.IsL.update e f;rw[hf] at q;refine I.write (x:=l) (e:=l) (by rw[hH];exact trivial) (.inl rfl) (fun b' u hb hu=>(EE s.heap (Obj.mapSeq f) (DL hb)).trans hu) ⟨_,q⟩ ?_;exact⟨hz,its',_,hv,q⟩
def Inv.UU(I:Inv X pins σ H s)(hv:Vals ys AO)(hz:ys.length<=sizeLine):
 Inv X pins σ (upd H s.heap.objs.size (.lst ys)) {s with heap:=s.heap.push {cls:=.type "list",data:=.seq AO.toArray},toks:=t'}:=
 I.laid (fun _ _ q=>BC _ q) (Ad _) ⟨hz,AO,0,hv,By _ rfl⟩
def Inv.fresh(I:Inv X pins σ H s):H s.heap.objs.size=none:=I.hok.fresh (Ad _)
def Inv.Ji(I:Inv X pins σ H s)(hH:H l=some (.lst xs)):xs.length<=sizeLine/\∃(AO:List AB)(n:Nat),Vals xs AO/\xs.length=AO.length/\s.heap.get? l=some {cls:=.type "list",data:=.seq AO.toArray n}:=by obtain⟨z,AO,n,r,e⟩:=I.hok l _ hH;exact⟨z,AO,n,r,r.length,e⟩
def iD{n:Nat}(h:n<=sizeLine):Builtin.List.listTooLong n=false:=by unfold Builtin.List.listTooLong;exact BO (by lia)
end
def jP:V->List V->Hp->VK->Prop:=fun x vs H Q=>∃l xs y,x=.ref l/\vs=[y]/\H l=some (.lst xs)/\xs.length<sizeLine/\Q .BB (upd H l (.lst (xs++[y])))
def Es:Hh X "list.append" jP:=by
 intro pins s σ H x vs v us Q I rx rv h;obtain⟨l,xs,y,rfl,rfl,hH,hz,q⟩:=h;cases rx;obtain⟨u,rfl,ru⟩:=rv.one;obtain⟨z,AO,n,r,hl,e⟩:=I.Ji hH;refine JG F.slot_list_append ⟨_,e,rfl⟩ F.entry_list_append (F.args_list_append_2 _ _) (PySem.list_append l AO.toArray n u (by rw[Cc];lia)) ⟨e,?_⟩;refine⟨.BB,_,I.UX (its':=AO++[u]) hH e (by simp) (r.append (.cons ru .nil)) ?_,rfl,q⟩;rw[Au,CK]
 lia
def jv:V->List V->Hp->VK->Prop:=fun x vs H Q=>∃l b xs zs,x=.ref l/\vs=[.ref b]/\H l=some (.lst xs)/\H b=some (.lst zs)/\xs.length+zs.length<=sizeLine/\Q .BB (upd H l (.lst (xs++zs)))
def fK:Hh X "list.extend" jv:=by
 intro pins s σ H x vs v us Q I rx rv h;obtain⟨l,b,xs,zs,rfl,rfl,hH,hB,hz,q⟩:=h;cases rx;obtain⟨u,rfl,ru⟩:=rv.one;cases ru;obtain⟨z,AO,n,r,hl,e⟩:=I.Ji hH;obtain⟨z2,its2,n2,r2,hl2,e2⟩:=I.Ji hB;have hsz:AO.toArray.size+its2.toArray.size<=sizeLine:=by rw[Cc,Cc];lia
 have hlong:¬(!AO.toArray.isEmpty&&Builtin.List.listTooLong (AO.toArray.size+its2.toArray.size))=true:=by rw[iD hsz,LB];exact CZ
 refine JG F.slot_list_extend ⟨_,e,rfl⟩ F.entry_list_extend (F.args_list_extend_2 _ _)
  (AutoSeq1.list_extend_list_list_0 l AO.toArray n b its2.toArray n2 hlong (by rw[Cc];lia) (by lia)) ⟨e,e2,?_⟩;refine⟨.BB,_,I.UX (its':=AO++its2) hH e (by simp) (r.append r2) ?_,rfl,q⟩;rw[Au]
 lia
def pG:V->List V->Hp->VK->Prop:=fun x vs H Q=>∃l xs y,x=.ref l/\vs=[]/\H l=some (.lst xs)/\xs[xs.length-1]? =some y/\Q y (upd H l (.lst xs.dropLast))
def lg:Hh X "list.pop" pG:=by
 intro pins s σ H x vs v us Q I rx rv h;obtain⟨l,xs,y,rfl,rfl,hH,hy,q⟩:=h;cases rx;have hus:=rv.zero;subst hus;obtain⟨z,AO,n,r,hl,e⟩:=I.Ji hH;obtain⟨u,hu,ru⟩:=r.get hy;have hy':AO.toArray[AO.toArray.size-1]? =some u:=by show AO.toArray[AO.length-1]? =some u;rw[<-GB,<-hl];exact hu
 refine JG F.slot_list_pop ⟨_,e,rfl⟩ F.entry_list_pop (F.args_list_pop_1 _) (MeetsSeq.list_pop_last l AO.toArray n u hy' (by rw[Cc];lia)) ⟨e,?_⟩;refine⟨y,_,I.UX (its':=AO.dropLast) hH e ?_ r.dropLast ?_,ru,q⟩
 ·show AO.toArray.eraseIdxIfInBounds (AO.toArray.size-1)=AO.dropLast.toArray;rw[Cc,List.eraseIdxIfInBounds_toArray,dF]
 ·rw[List.length_dropLast]
  lia
def pH:R2:=fun x y H Q=>∃l b xs zs,x=.ref l/\y=.ref b/\H l=some (.lst xs)/\H b=some (.lst zs)/\xs.length+zs.length<=sizeLine/\∀p,H p=none->Q (.ref p) (upd H p (.lst (xs++zs)))
theorem FK:Bv X (rZ .Add) pH:=by
 intro pins s σ H x y v u Q I rx ry h;obtain⟨l,b,xs,zs,rfl,rfl,hH,hB,hz,q⟩:=h;cases rx;cases ry;obtain⟨z,AO,n,r,hl,e⟩:=I.Ji hH;obtain⟨z2,its2,n2,r2,hl2,e2⟩:=I.Ji hB;refine PySem.P.add_list e e2 ?_ (by rw[Cc,Cc];lia);have ea:AO.toArray++its2.toArray=(AO++its2).toArray:=by simp
 rw[ea];exact⟨.ref _,_,I.UU (t':=s.toks) (r.append r2) (by rw[Au];lia),rfl,q _ I.fresh⟩
section
open PySem.W PySem.Calls
def cQ{P:Params}:∀(ns:List Int)(vs:List AB),WellAll P h vs (ns.map WData.int)->IntsAre vs ns:=by
 intro ns
 induction ns with
 |nil=>intro vs w;rw[LH] at w;cases w;exact .nil
 |cons n ns ih=>
  intro vs w;rw[Ay] at w
  cases w with
  |cons a b=>cases a;exact .cons _ _ (ih _ b)
def fb{l:OpenLaw}{n:Nat}(hn:l.most=some n){P:Params}{args:List WData}{vals:List AB}
 (hpre:l.row.toRowW.claim.pre args=true)(hwl:WellAll P h vals args):
 ∃a vs ns,vals=[Value.ref a]/\args=[WData.list (ns.map WData.int)]/\h.get? a=some {cls:=.type "list",data:=.seq vs.toArray}/\IntsAre vs ns/\ns.length<=n:=by
 have hsh:WShape.hasAll [] args [.list .int]=true:=(pre_splitW hpre).1;have hc:l.pre.holds [] {args:=args}=true:=(pre_splitW hpre).2;obtain⟨d,r,rfl,h1,h2⟩:=hasAllW_cons hsh;obtain rfl:=hasAllW_nil h2;obtain⟨xs,rfl,h3⟩:=hasW_list h1;obtain⟨ns,rfl⟩:=items_int h3;have hlen:ns.length<=n:=by
  unfold OpenLaw.pre at hc;have h4:(WTm.not (.lt (.lit (.int (n:Int))) (.len (.arg 0)))).holds [] {args:=[.list (ns.map .int)]}=true:=by have h4:=(holds_andW hc).1;rw[hn] at h4;exact h4
  have h5:=condW_of h4 (w_not (w_lt w_lit (w_len_list (w_arg rfl))));rw[AK] at h5;refine Ob fun q=>?_;have q':(n:Int)<((ns.length:Nat):Int):=by lia
  first
   |(rw[BW q'] at h5;exact absurd h5 (by decide))
   |(simp at h5;lia)
 cases hwl with
 |cons w1 w2=>
  cases w2
  cases w1 with
  |list ho hall=>exact⟨_,_,ns,rfl,rfl,ho,cQ ns _ hall,hlen⟩
def fj(l:OpenLaw)(args:List WData):l.row.toRowW.claim.post args (.bool true) args=true:=
 postW_of (r:=l.row.toRowW) (X:=(true==true))
  (show WShape.has [] (.bool true) .bool=true by first|rfl|decide|simp[WShape.has,WShape.arms,WShape.armsAll])
  (show(WTm.eq .res (.lit (.bool true))).value [] {args:=args,res:=some (.bool true),after:=args}=some (.bool (true==true)) from w_eq_bool (w_res rfl) w_lit) rfl
end
variable{XP:(Str->Option AB)->qp->Prop}
section
open PySem.W PySem.Calls
def dB{l:OpenLaw}{n:Nat}{q:ql}{loose:List Str}{YP:qu->qp->Prop}{d:DefRec}
 (hn:l.most=some n)(hdf:d.params.defaults=[])
 (call:∀(w:qu)(s₀ s₁:Yf)(mg mb:Str->Option AB)(fa:Ya)(o:Obj)(pm cd doc:AB)(a:Ya)(vs:List AB)(ns:List Int),
  Ground q loose [] XP w s₀ mg mb s₁.heap->YP w s₁.heap->
  s₁.heap.get? fa=some o->o.data=.func (docDef d.name d.params d.body d.scope pm cd doc)->s₁.heap.CodeRec cd d.name->mg d.name=some (.ref fa)->
  s₁.heap.get? a=some {cls:=.type "list",data:=.seq vs.toArray}->IntsAre vs ns->ns.length<=n->s₁.gens= #[]->
  rT (ax l.prog w) tG (.call (.ref fa) ⟨[.ref a],[]⟩) (fun r s'=>r=.ok (.ret (.bool true))/\OldK s₁.heap s'.heap/\s'.os=s₁.os/\sP s'.gens) s₁):
 WalkO q loose XP YP l.row.toRowW d [] (fun f vs=>PySem.call f vs):=by
 intro w s₀ s₁ mg mb G Y fa o pm cd doc dV kV ho hd hcd hD hmg hg args vals as hpre hlay hrd hwl hlo;obtain rfl:dV=.none:=Dflts.none hD hdf;obtain rfl:kV=.none:=Dflts.noKw hD;obtain⟨a,vs,ns,rfl,rfl,hobj,hints,hlen⟩:=fb hn hpre hwl;refine enter_call (LG (call w s₀ s₁ mg mb fa o pm cd doc a vs ns G Y ho (fd_plain hd) hcd hmg hobj hints hlen hg) fun r s' hq=>?_);obtain⟨rfl,h2,h3,h4⟩:=hq;exact⟨.inl ⟨.bool true,.bool true,[],rfl,fun _=>rfl,.bool true,fj l _,fun _=>⟨List.Pairwise.nil,fun _ hm=>(nomatch hm)⟩⟩,h2,h3,h4⟩
end
def WE:∀{vs:List AB}{ns:List Int},IntsAre vs ns->Vals (ns.map V.int) vs
 |_,_,.nil=>.nil
 |_,_,.cons n t h=>.cons ⟨t,rfl⟩ (WE h)
def Ua(H:Hp):Prop:=∀b,H b=none\/∃o xs,H b=some (.BU o (.lst xs))
variable{ns:List Int}
def ir{mb:Str->Option AB}{fa:Ya}{s₁:Yf}{vs:List AB}
 (KX:K.In s₁.heap)(hns:s₁.heap.Ns g0 mg)(hb:s₁.heap.Ns uA mb)(hbb:∀x:Str,x≠ "__name__" ->mb x=qw x)(hlim:s₁.heap.NoLimit)(hg:s₁.gens= #[])
 (ha:s₁.heap.get? a=some {cls:=.type "list",data:=.seq vs.toArray})(hi:IntsAre vs ns)(hl:ns.length<=sizeLine)(hr:Bl k tG)
 (F:∀base:qp,K.In base->base.Ns g0 mg->AW P w K mg base CX k fa fd [x] sp)(hbind:∀(s:Yf)(u:AB),tj s fd ⟨[u],[]⟩ [(x,u)])
 (hsp:∀H:Hp,Ua H->AJ K H a (ns.map V.int)->sp [.ref a] H (fun v _=>v=.bl true) fun _ _ _=>False)
 (hCX:∀H e s',CX [] H s₁ (fun _ _ _=>False) e s'->False):
 rT (ax P w) tG (.call (.ref fa) ⟨[.ref a],[]⟩) (fun r s'=>r=.ok (.ret (.bool true))/\OldK s₁.heap s'.heap/\s'.os=s₁.os/\sP s'.gens) s₁:=by
 have rv:=WE hi;have lenV:=hi.length;have core:∀H:Hp,Ua H->AJ K H a (ns.map V.int)->Bw P w H s₁.heap->(∀b,H b≠none->b=a)->(H a≠none->K.lookup a=none)->
  rT (ax P w) tG (.call (.ref fa) ⟨[.ref a],[]⟩) (fun r s'=>r=.ok (.ret (.bool true))/\OldK s₁.heap s'.heap/\s'.os=s₁.os/\sP s'.gens) s₁:=by
  intro H hO hS hok hA hK;have base_of:∀{b:Ya}{o:Obj},s₁.heap.get? b=some o->H b=none->(Im s₁.heap H).get? b=some o:=fun e n=>iC e n;have Jo:∀{b:Ya}{o:Obj}{es:Array DictEntry}{ep:Nat},s₁.heap.get? b=some o->o.data=.dict es ep->H b=none:=fun{b o es ep} e d=>by
   cases q:H b with
   |none=>rfl
   |some u=>have e':b=a:=hA b (by rw[q];simp);subst e';rw[ha] at e;cases e;have d':Data.seq vs.toArray _=Data.dict es ep:=d;cases d'
  have nsK:∀{b:Ya}{m:Str->Option AB},s₁.heap.Ns b m->(Im s₁.heap H).Ns b m:=fun{b m} ⟨o,es,ep,e,d,r⟩=>⟨o,es,ep,base_of e (Jo e d),d,r⟩;have hKb:K.In (Im s₁.heap H):=fun b o e=>base_of (KX b o e) (by
   cases q:H b with
   |none=>rfl
   |some u=>have e':b=a:=hA b (by rw[q];simp);subst e';rw[hK (by rw[q];simp)] at e;cases e);have hM:Mod K mg (Im s₁.heap H):=⟨hKb,nsK hns,⟨mb,nsK hb,hbb⟩,let⟨mc,h1,h2⟩:=hlim;⟨mc,nsK h1,h2⟩⟩;have e0:Ki P w K mg (Im s₁.heap H) tG [] s₁ H:=⟨rfl,hM,fun b o e=>jz e,Nat.le_of_eq (gB _ _),trivial,fun b hb=>absurd (show b∈([]:List Ya) from hb) (by simp),hok,.of_eq hg⟩;refine LG ((F _ hKb (nsK hns)).run tG [] s₁ H ⟨[.ref a],[]⟩ [.ref a] [.ref a] _ _ hr e0 (hbind s₁ (.ref a)) (.cons rfl .nil) (hsp H hO hS)) fun r s' h=>?_
  cases r with
  |error e=>exact(hCX H e s' h).elim
  |ok fl=>
   cases fl with
   |next=>exact False.elim h
   |brk=>exact False.elim h
   |cont=>exact False.elim h
   |ret u=>
    obtain⟨v,H',os,bare,un,hok',r',q⟩:=h;have q':v=.bl true:=q;subst q';obtain rfl:u=Value.bool true:=r';refine⟨rfl,OldK.of_keep fun b o e=>?_,os,bare⟩
    cases q:H b with
    |none=>exact un.keep b o e q (by intro z;exact absurd (show b∈([]:List Ya) from z) (by simp)) (by simp)
    |some u=>
     rcases hO b with z|⟨ob,xs,z⟩
     ·rw[q] at z;cases z
     ·have z2:=un.ES b ob _ z;obtain⟨e1,_⟩:=hok b _ z;obtain⟨e2,_⟩:=hok' b _ z2;rw[e] at e1;cases e1;exact e2
 cases hk:K.lookup a with
 |some o=>have e:=KX a o hk;rw[ha] at e;cases e;refine core (fun _=>none) (fun _=>.inl rfl) (.inr ⟨_,vs.toArray,_,hk,rfl,rfl,rfl,by rw[Cc,lenV];exact hl,by simpa using rv⟩) (fun b u z=>by have z':(none:Option HO)=some u:=z;cases z') (fun b z=>absurd rfl z) fun z=>absurd rfl z
 |none=>
  refine core (fun b=>if b=a then some (.BU {cls:=.type "list",data:=.seq vs.toArray} (.lst (ns.map V.int))) else none) (fun b=>?_) (.inl (.inr ⟨{cls:=.type "list",data:=.seq vs.toArray},AH rfl⟩)) (fun b u z=>?_) (fun b z=>?_) fun _=>hk
  ·by_cases hb:b=a
   ·exact .inr ⟨_,_,AH hb⟩
   ·exact .inl (AG hb)
  ·by_cases hb:b=a
   ·have z':=(AH hb).symm.trans z;cases z';subst hb;exact⟨ha,by rw[AK];exact hl,vs,_,rv,ha⟩
   ·have z':=(AG hb).symm.trans z;cases z'
  ·by_cases hb:b=a
   ·exact hb
   ·exact absurd (AG hb) z
abbrev Ah:Jn:=fun _ _ _ _ _ _=>False
abbrev E0:XK:=fun _ _ _=>False
def A3:Passes Ah X E0:=fun _ _ _ _ _ _ _ h=>h.elim
structure Aj(K:uJ)(x qual:Str)(st:hX)(f:Ya)(fd:qo):Prop where
 ex:∃(oc:AB)(od:Option Ya)(kV doc pm:AB)(an:Option Ya)(cdv ct:AB)(osl:Array (Option AB)),
  fd=fnOf x qual (JP st) (Ft st) (Ao st) .none kV doc pm an cdv ct/\K.lookup f=some ⟨oc,od,.func fd,osl⟩/\codeIn K cdv qual=true
 kp:rM K (.ref f)=true
def Aj.ok{st:hX}(F:Aj K x qual st f fd)(S:Az N ps (Ao st))(len:∀vs H Q E,sp vs H Q E->vs.length=ps.length)
 (hbody:∀(cdv:AB)(A:rV)(outer:List Env)(s:Yf)(H:Hp)(vs:List V)(Q:VK)(E:XK),Bl k (A.deeper (rm qual (Ao st) s.heap.objs.size f cdv))->sp vs H Q E->
  ∃t,Eh (Jh Ah P w K mg base N qual (Ao st) f cdv A outer s H E).Qa (Ft st) t/\t {nx:=fun _ H'=>Q .BB H',rt:=Q} (start N vs) H):AW P w K mg base Ah (k+1) f fd ps sp:=by
 obtain⟨oc,od,kV,doc,pm,an,cdv,ct,osl,rfl,lk,hcd⟩:=F.ex;refine Z9 lk hcd S len fun A outer s H vs Q E hr hsp=>?_;obtain⟨t,h,q⟩:=hbody cdv A outer s H vs Q E hr hsp;exact⟨t,h.Qa,q⟩
def Aj.binds{st:hX}(F:Aj K x qual st f fd)
 (h:∀(kV doc pm:AB)(an:Option Ya)(cdv ct:AB)(us:List AB),us.length=ps.length->bindArgs (fnOf x qual (JP st) (Ft st) (Ao st) .none kV doc pm an cdv ct) ⟨us,[]⟩=pure (ps.zip us)):Binds K fd ps []:=by
 obtain⟨oc,od,kV,doc,pm,an,cdv,ct,osl,rfl,lk,hcd⟩:=F.ex;exact .all (h kV doc pm an cdv ct)
def lY{st:hX}{oc:AB}{an:Option Ya}{kV doc pm cdv ct:AB}(l:K.lookup f=some ⟨oc,od,.func (fnOf x qual (JP st) (Ft st) (Ao st) .none kV doc pm an cdv ct),osl⟩)
 (c:codeIn K cdv qual=true)(k:rM K (.ref f)=true):Aj K x qual st f (fnOf x qual (JP st) (Ft st) (Ao st) .none kV doc pm an cdv ct):=⟨⟨oc,od,kV,doc,pm,an,cdv,ct,osl,rfl,l,c⟩,k⟩
def Ck(hr:Bl k A):A.units+1<rC:=Nat.lt_of_le_of_lt (Nat.add_le_add_left (by decide:1<=64) _) hr.units
def pv(i:Nat)(hN:X.N[i]? =some x:=by rfl)(hv:QX X.env.scope x:=by first|exact Aa rfl|exact Cv (Aa rfl)|exact Cv (Cv rfl))(hd:(x==("__debug__" :Str))=false:=by decide)
 (hcd:(x==("__classdict__" :Str))=false:=by decide):PE X (.Name x pos) (Ed i):=Y6 hN hv hd hcd
variable{B:Prop}
def BK{A:Prop}(h:B):if false=true then A else B:=by rw[AG CZ];exact h
def Bo{A:Prop}(h:A):if true=true then A else B:=by rw[AH rfl];exact h
def F1{c A:Prop}[Decidable c](h1:c->A)(h2:¬c->B):if c then A else B:=by
 by_cases h:c
 ·rw[AH h];exact h1 h
 ·rw[AG h];exact h2 h
def ER{c A:Prop}[Decidable c](hc:c)(h:B):if(!decide c)=true then A else B:=by rw[BW hc];exact BK h
def AQ(H H':Hp):Prop:=∀b o,H b=some o->H' b=some o
def AQ.refl(H:Hp):AQ H H:=fun _ _ h=>h
variable{H2:Hp}
def AQ.trans(a:AQ H H1)(b:AQ H1 H2):AQ H H2:=fun c o h=>b c o (a c o h)
def AQ.free(e:AQ H H'){l:Ya}(h:H' l=Option.none):H l=Option.none:=by
 cases q:H l with
 |none=>rfl
 |some o=>rw[e l o q] at h;cases h
def AQ.seq{xs:List V}(e:AQ H H')(h:AJ K H a xs):AJ K H' a xs:=by
 rcases h with(h|⟨o,h⟩)|h
 ·exact .inl (.inl (e _ _ h))
 ·exact .inl (.inr ⟨o,e _ _ h⟩)
 ·exact .inr h
section
variable{κ:Type}[DecidableEq κ]
noncomputable def Bn(AA:List (κ×V))(k:κ):Option V:=(AA.find? fun kv=>decide (kv.1=k)).map (·.2)
noncomputable def putK(AA:List (κ×V))(k:κ)(v:V):List (κ×V):=
 if(AA.any fun kv=>decide (kv.1=k))=true then AA.map (fun kv=>if kv.1=k then(kv.1,v) else kv) else AA++[(k,v)]
noncomputable def Ja(AA:List (κ×V))(k:κ):List (κ×V):=AA.filter fun kv=>decide (kv.1≠k)
def GL{p:κ×V}{r:List (κ×V)}{k:κ}(e:p.1=k):Bn (p::r) k=some p.2:=by simp[Bn,DA,e]
def GN{p:κ×V}{r:List (κ×V)}{k:κ}(e:¬p.1=k):Bn (p::r) k=Bn r k:=by simp[Bn,DA,e]
def PK(k:κ):∀AA:List (κ×V),(AA.any fun kv=>decide (kv.1=k))=(Bn AA k).isSome
 |[]=>rfl
 |p::r=>by
  rw[IY];by_cases e:p.1=k
  ·simp only[GL e,BW e,Bool.true_or,Option.isSome_some]
  ·rw[GN e,BO e,RZ];exact PK k r
def XO(k j:κ)(y:V):∀AA:List (κ×V),Bn (AA.map fun kv=>if kv.1=k then(kv.1,y) else kv) j=(Bn AA j).map fun x=>if j=k then y else x
 |[]=>rfl
 |p::r=>by
  have ih:=XO k j y r;rw[Ay];by_cases h:p.1=k
  ·rw[AH h];by_cases e:p.1=j
   ·rw[GL (p:=(p.1,y)) e,GL e,Od,AH (e.symm.trans h)]
   ·rw[GN (p:=(p.1,y)) e,GN e,ih]
  ·rw[AG h];by_cases e:p.1=j
   ·rw[GL (p:=p) e,GL e,Od,AG (fun z=>h (e.trans z))]
   ·rw[GN (p:=p) e,GN e,ih]
def WT(k j:κ)(y:V):∀AA:List (κ×V),Bn AA k=none->Bn (AA++[(k,y)]) j=if j=k then some y else Bn AA j
 |[],_=>by
  by_cases e:k=j
  ·rw[AH e.symm];exact GL (p:=(k,y)) e
  ·rw[AG (fun z=>e z.symm)];exact GN (p:=(k,y)) e
 |p::r,hn=>by
  rw[Mm];have hk:¬p.1=k:=fun z=>by rw[GL z] at hn;cases hn
  rw[GN hk] at hn;have ih:=WT k j y r hn;by_cases e:p.1=j
  ·rw[GL e,GL e,AG (fun z=>hk (e.trans z))]
  ·rw[GN e,GN e,ih]
def i8(AA:List (κ×V))(k j:κ)(y:V):Bn (putK AA k y) j=if j=k then some y else Bn AA j:=by
 unfold putK;by_cases a:(AA.any fun kv=>decide (kv.1=k))=true
 ·rw[AH a,XO];rw[PK] at a;by_cases e:j=k
  ·obtain⟨x,hx⟩:=Option.isSome_iff_exists.mp a;rw[AH e,e,hx,Od,AH rfl]
  ·rw[AG e]
   cases Bn AA j with
   |none=>rfl
   |some x=>rw[Od,AG e]
 ·rw[AG a];refine WT k j y AA ?_;rw[PK] at a
  cases q:Bn AA k with
  |none=>rfl
  |some x=>rw[q] at a;exact(a rfl).elim
def Ot(AA:List (κ×V))(k:κ)(v:V):(putK AA k v).length<=AA.length+1:=by
 unfold putK;split
 ·rw[AK];lia
 ·rw[Au,CS,K8];lia
def Dj.M0{o:Option V}{u:Option AB}(r:Dj o u):o.isSome=u.isSome:=by
 cases o with
 |none=>cases u with
  |none=>rfl
  |some _=>exact(show False from r).elim
 |some _=>cases u with
  |none=>exact(show False from r).elim
  |some _=>rfl
def Dj.getD{o:Option V}{u:Option AB}{d:V}{d':AB}(r:Dj o u)(rd:RelV d d'):RelV (o.getD d) (u.getD d'):=by
 cases o with
 |none=>cases u with
  |none=>exact rd
  |some _=>exact(show False from r).elim
 |some _=>cases u with
  |none=>exact(show False from r).elim
  |some _=>exact r
def KV.val{AA:List (κ×V)}{vs:List (κ×AB)}(r:KV AA vs)(k:κ):Dj (Bn AA k) (sd vs k):=by
 unfold KV at r
 induction r with
 |nil=>exact Cz
 |@cons p q ps qs h t ih=>
  obtain⟨h1,h2⟩:=h;by_cases e:p.1=k
  ·have e':q.1=k:=h1.symm.trans e;have b:sd (q::qs) k=some q.2:=by simp[sd,DA,e']
   rw[GL e,b];exact h2
  ·have e':¬q.1=k:=fun z=>e (h1.trans z);have b:sd (q::qs) k=sd qs k:=by simp[sd,DA,e']
   rw[GN e,b];exact ih
def KV.any{AA:List (κ×V)}{vs:List (κ×AB)}(r:KV AA vs)(k:κ):(AA.any fun kv=>decide (kv.1=k))=vs.any fun kv=>decide (kv.1=k):=by
 unfold KV at r
 induction r with
 |nil=>rfl
 |cons h t ih=>rw[IY,IY,ih,h.1]
def KV.Ub{AA:List (κ×V)}{vs:List (κ×AB)}(r:KV AA vs)(k:κ)(ry:RelV y u):
 KV (AA.map fun kv=>if kv.1=k then(kv.1,y) else kv) (vs.map fun kv=>if kv.1=k then(kv.1,u) else kv):=by
 unfold KV at r⊢
 induction r with
 |nil=>exact .nil
 |@cons p q ps qs h t ih=>
  rw[Ay,Ay];refine .cons ?_ ih;obtain⟨h1,h2⟩:=h;by_cases e:p.1=k
  ·rw[AH e,AH (h1.symm.trans e)];exact⟨h1,ry⟩
  ·rw[AG e,AG (fun z=>e (h1.trans z))];exact⟨h1,h2⟩
def KV.put{AA:List (κ×V)}{vs:List (κ×AB)}(r:KV AA vs)(k:κ)(ry:RelV y u):KV (putK AA k y) (stored vs k u):=by
 unfold putK stored;rw[r.any k];by_cases e:(vs.any fun kv=>decide (kv.1=k))=true
 ·rw[AH e,AH e];exact r.Ub k ry
 ·rw[AG e,AG e];exact Paired.snoc r ⟨rfl,ry⟩
def KV.drop{AA:List (κ×V)}{vs:List (κ×AB)}(r:KV AA vs)(k:κ):KV (Ja AA k) (without vs k):=by
 unfold KV at r⊢;unfold Ja without
 induction r with
 |nil=>exact .nil
 |@cons p q ps qs h t ih=>
  obtain⟨h1,h2⟩:=h;rw[List.filter_cons,List.filter_cons];by_cases e:p.1=k
  ·have a:¬decide (p.1≠k)=true:=by simp[e]
   have b:¬decide (q.1≠k)=true:=by simp[h1.symm.trans e]
   rw[AG a,AG b];exact ih
  ·have e':¬q.1=k:=fun z=>e (h1.trans z);have a:decide (p.1≠k)=true:=by simp[e]
   have b:decide (q.1≠k)=true:=by simp[e']
   rw[AH a,AH b];exact .cons ⟨h1,h2⟩ ih
def KV.keys{AA:List (κ×V)}{vs:List (κ×AB)}(r:KV AA vs):AA.map (·.1)=vs.map (·.1):=by
 unfold KV at r
 induction r with
 |nil=>rfl
 |cons h t ih=>rw[Ay,Ay,ih,h.1]
def KV.length{AA:List (κ×V)}{vs:List (κ×AB)}(r:KV AA vs):AA.length=vs.length:=JF r
def gj(AA:List (κ×V))(k:κ):(Ja AA k).length<=AA.length:=F9 _ _
end
def JW{k:Key}(r:RelV (kV k) u):(Cd P w).is k u=true:=by
 cases k with
 |inl i=>obtain⟨t,e⟩:=(show∃t,u=Value.int i t from r);subst e;exact ck P w i t
 |inr x=>obtain⟨t,e⟩:=(show∃t,u=Value.str x t from r);subst e;exact cv P w x t
def kg{a b:Key}(e:kV a=kV b):a=b:=by
 cases a with
 |inl i=>cases b with
  |inl j=>have e':V.int i=V.int j:=e;injection e' with e';rw[e']
  |inr y=>exact nomatch (show V.int i=V.str y from e)
 |inr x=>cases b with
  |inl j=>exact nomatch (show V.str x=V.int j from e)
  |inr y=>have e':V.str x=V.str y:=e;injection e' with e';rw[e']
def YN:∀{a b:List Key},a.map kV=b.map kV->a=b
 |[],[],_=>rfl
 |[],_::_,e=>by simp at e
 |_::_,[],e=>by simp at e
 |x::xs,y::ys,e=>by rw[Ay,Ay] at e;injection e with e1 e2;rw[kg e1,YN e2]
def Ws{P:ql}{w:qu}:∀{ks:List Key}{us:List AB},Vals (ks.map kV) us->ItemsAre (Cd P w) ks us
 |[],_,r=>by rw[LH] at r;cases r;exact .nil
 |k::ks,_,r=>by
  rw[Ay] at r
  cases r with
  |cons h t=>exact .cons (JW h) (Ws t)
abbrev KT(H:Hp):List (List Key×V)->List (List Key×Ya×AB)->Prop:=Paired fun p q=>p.1=q.1/\H q.2.1=some (.tup (p.1.map kV))/\RelV p.2 q.2.2
def KT.val{AA:List (List Key×V)}{xs:List (List Key×Ya×AB)}(r:KT H AA xs)(k:List Key):Dj (Bn AA k) ((uC xs k).map (·.2)):=by
 induction r with
 |nil=>exact Cz
 |@cons p q ps qs h t ih=>
  obtain⟨h1,_,h2⟩:=h;by_cases e:p.1=k
  ·have e':q.1=k:=h1.symm.trans e;have b:uC (q::qs) k=some q.2:=by simp[uC,DA,e']
   rw[GL e,b];exact h2
  ·have e':¬q.1=k:=fun z=>e (h1.trans z);have b:uC (q::qs) k=uC qs k:=by simp[uC,DA,e']
   rw[GN e,b];exact ih
def KT.Ub{AA:List (List Key×V)}{xs:List (List Key×Ya×AB)}(r:KT H AA xs)(k:List Key)(ry:RelV y u):
 KT H (AA.map fun kv=>if kv.1=k then(kv.1,y) else kv) (xs.map (putAt k u)):=by
 induction r with
 |nil=>exact .nil
 |@cons p q ps qs h t ih=>
  rw[Ay,Ay];refine .cons ?_ ih;obtain⟨h1,h2,h3⟩:=h;unfold putAt;by_cases e:p.1=k
  ·rw[AH e,AH (h1.symm.trans e)];exact⟨h1,h2,ry⟩
  ·rw[AG e,AG (fun z=>e (h1.trans z))];exact⟨h1,h2,h3⟩
def KT.put{AA:List (List Key×V)}{xs:List (List Key×Ya×AB)}(r:KT H AA xs)(k:List Key)(hb:H b=some (.tup (k.map kV)))(ry:RelV y u):
 KT H (putK AA k y) (storedH xs k b u):=by
 have e:(AA.any fun kv=>decide (kv.1=k))=(uC xs k).isSome:=by rw[PK,(r.val k).M0,Option.isSome_map]
 unfold putK storedH;rw[e];by_cases q:(uC xs k).isSome=true
 ·rw[AH q,AH q];exact r.Ub k ry
 ·rw[AG q,AG q];exact Paired.snoc r ⟨rfl,hb,ry⟩
def KT.keeps{AA:List (List Key×V)}{xs:List (List Key×Ya×AB)}(r:KT H AA xs)(ht:∀b ys,H b=some (.tup ys)->H' b=some (.tup ys)):KT H' AA xs:=
 Paired.UI r fun _ _ z=>⟨z.1,ht _ _ z.2.1,z.2.2⟩
def Zd{u:HO}(ok:Bw P w H h)(e:Rd H a u):BR P w H h a u:=e.ok ok
variable{AA:List (Key×V)}
def Jc(ok:Bw P w H h)(e:Rd H a (.dK AA)):AA.length<=sizeLine/\(a==rH)=false/\∃vs,KV AA vs/\h.DictOf (Cd P w) a vs:=
 show BR P w H h a (.dK AA) from Zd ok e
def Jd(ok:Bw P w H h)(e:H a=some (.dK AA)):AA.length<=sizeLine/\(a==rH)=false/\∃vs,KV AA vs/\h.DictOf (Cd P w) a vs:=Jc ok (.inl e)
def Lm{ks:List Key}(ok:Bw P w H h)(e:H a=some (.tup (ks.map kV))):(sf (Cd P w)).is h ks a:=by obtain⟨_,AO,r,o,h1,h2,n,h3⟩:=(show BR P w H h a (.tup (ks.map kV)) from ok a _ e);exact⟨o,AO.toArray,n,h1,h2,h3,by simpa using Ws r⟩
def KZ{AA:List (List Key×V)}(ok:Bw P w H h)(e:Rd H a (.dT AA)):AA.length<=sizeLine/\(a==rH)=false/\
 ∃xs,KT H AA xs/\h.DictOfH (sf (Cd P w)) a xs:=by
 obtain⟨z,y,xs,r,o,es,ep,h1,h2,h3,h4,h5⟩:=(show BR P w H h a (.dT AA) from Zd ok e);refine⟨z,y,xs,r,o,es,ep,h1,h2,h3,h4,fun x hx=>?_,h5⟩;have all:∀{l:List (List Key×V)}{m:List (List Key×Ya×AB)},KT H l m->∀x∈m,(sf (Cd P w)).is h x.1 x.2.1:=by
  intro l m q
  induction q with
  |nil=>intro x hx;exact nomatch hx
  |@cons p q ps qs hq t ih=>
   intro x hx;rcases Be.mp hx with e|hx
   ·subst e;exact Lm ok (by rw[<-hq.1];exact hq.2.1)
   ·exact ih x hx
 exact all r x hx
def nK{AA:List (List Key×V)}(ok:Bw P w H h)(e:H a=some (.dT AA)):AA.length<=sizeLine/\(a==rH)=false/\
 ∃xs,KT H AA xs/\h.DictOfH (sf (Cd P w)) a xs:=KZ ok (.inl e)
def BS(H:Hp)(a:Ya)(y:V)(r:Option V):Prop:=
 (∃AA k,Rd H a (.dK AA)/\y=kV k/\r=Bn AA k)\/∃AA k b,Rd H a (.dT AA)/\y=.ref b/\H b=some (.tup (k.map kV))/\r=Bn AA k
def Dh(H:Hp)(a:Ya)(y v:V)(H':Hp):Prop:=
 (∃AA k,H a=some (.dK AA)/\y=kV k/\AA.length<sizeLine/\H'=upd H a (.dK (putK AA k v)))\/
 ∃AA k b,H a=some (.dT AA)/\y=.ref b/\H b=some (.tup (k.map kV))/\AA.length<sizeLine/\H'=upd H a (.dT (putK AA k v))
def BS.kq{k:Key}(e:H a=some (.dK AA)):BS H a (kV k) (Bn AA k):=.inl ⟨AA,k,.inl e,rfl,rfl⟩
def BS.tq{AA:List (List Key×V)}{k:List Key}(e:H a=some (.dT AA))(eb:H b=some (.tup (k.map kV))):BS H a (.ref b) (Bn AA k):=.inr ⟨AA,k,b,.inl e,rfl,eb,rfl⟩
def Dh.kq{k:Key}(e:H a=some (.dK AA))(hl:AA.length<sizeLine):Dh H a (kV k) v (upd H a (.dK (putK AA k v))):=.inl ⟨AA,k,e,rfl,hl,rfl⟩
def Dh.tq{AA:List (List Key×V)}{k:List Key}(e:H a=some (.dT AA))(eb:H b=some (.tup (k.map kV)))(hl:AA.length<sizeLine):
 Dh H a (.ref b) v (upd H a (.dT (putK AA k v))):=.inr ⟨AA,k,b,e,rfl,eb,hl,rfl⟩
section
variable{r:AB}{o:Option V}
def Inv.big(I:Inv X pins σ H s):rH<s.heap.objs.size:=by have h:g0<s.heap.objs.size:=(I.mod.glob.keeps I.bk).lt;exact Nat.lt_trans (by decide) h
def f9(hu:A.units+1<rC)(I:Inv X pins σ H s)(g:BS H a y (some v))(ry:RelV y u)(h:∀w' s',Inv X pins σ H s'->RelV v w'->Q w' s'):
 bt (ax X.prog X.w) A (sk (.ref a) u) Q E s:=by
 rcases g with⟨AA,k,e,ey,l⟩|⟨AA,k,b,e,ey,eb,l⟩
 ·subst ey;obtain⟨z,hd,vs,rel,dd⟩:=Jc I.hok e;obtain⟨w',hw,rw'⟩:=Dj.some_of (v:=v) (o:=sd vs k) (by rw[l];exact rel.val k);exact wpAny_getItem_of (JW ry) dd.mapOf hw (h w' _ (I.tok _) rw')
 ·subst ey;cases(show u=Value.ref b from ry);obtain⟨z,hd,xs,rel,dd⟩:=KZ I.hok e;obtain⟨w',hw,rw'⟩:=Dj.some_of (v:=v) (o:=(uC xs k).map (·.2)) (by rw[l];exact rel.val k);obtain⟨p,hp,hp2⟩:=OJ.mp hw;refine wpAny_getItem_heap (OT hu) (Lm I.hok eb) dd hp ?_;rw[hp2];exact h w' _ (I.tok _) rw'
def pS(hu:A.units+1<rC)(I:Inv X pins σ H s)(g:BS H a y o)(ry:RelV y u)(h:∀s',Inv X pins σ H s'->Q (.bool o.isSome) s'):
 bt (ax X.prog X.w) A (qm .In u (.ref a)) Q E s:=by
 rcases g with⟨AA,k,e,ey,l⟩|⟨AA,k,b,e,ey,eb,l⟩
 ·subst ey;obtain⟨z,hd,vs,rel,dd⟩:=Jc I.hok e;refine wpAny_in_of (JW ry) hd dd.mapOf ?_;rw[<-(rel.val k).M0,<-l];exact h _ (I.tok _)
 ·subst ey;cases(show u=Value.ref b from ry);obtain⟨z,hd,xs,rel,dd⟩:=KZ I.hok e;refine wpAny_in_heap (OT hu) (Lm I.hok eb) hd dd ?_;have q:=(rel.val k).M0;rw[Option.isSome_map] at q;rw[<-q,<-l];exact h _ (I.tok _)
def jF(hu:A.units+1<rC)(I:Inv X pins σ H s)(g:BS H a y o)(ry:RelV y u)(h:∀s',Inv X pins σ H s'->Q (.bool (!o.isSome)) s'):
 bt (ax X.prog X.w) A (qm .NotIn u (.ref a)) Q E s:=by
 rcases g with⟨AA,k,e,ey,l⟩|⟨AA,k,b,e,ey,eb,l⟩
 ·subst ey;obtain⟨z,hd,vs,rel,dd⟩:=Jc I.hok e;refine wpAny_notIn_of (JW ry) hd dd.mapOf ?_;rw[<-(rel.val k).M0,<-l];exact h _ (I.tok _)
 ·subst ey;cases(show u=Value.ref b from ry);obtain⟨z,hd,xs,rel,dd⟩:=KZ I.hok e;refine wpAny_notIn_heap (OT hu) (Lm I.hok eb) hd dd ?_;have q:=(rel.val k).M0;rw[Option.isSome_map] at q;rw[<-q,<-l];exact h _ (I.tok _)
def PM{ob:HO}(I:Inv X pins σ H s)(mu:N8 (H a))(hs:Heap.SameBut a s.heap h')(he:∃q,h'.get? a=some q)(new:BR X.prog X.w (upd H a ob) h' a ob):
 Inv X pins σ (upd H a ob) {s with heap:=h',toks:=t'}:=
 I.write (x:=a) (e:=a) mu (.inl rfl) (fun b q hb z=>(hs.2 b hb).trans z) he new
def Tf{vs:List (Key×AB)}(z:AA.length<=sizeLine)(hd:(a==rH)=false)(rel:KV AA vs)(dd:h'.DictOf (Cd P w) a vs):
 BR P w H' h' a (.dK AA):=⟨z,hd,vs,rel,dd⟩
def eS{Q:Unit->Yf->Prop}(hu:A.units+1<rC)(I:Inv X pins σ H s)(g:Dh H a y v H')(ry:RelV y u)(rv:RelV v r)(h:∀s',Inv X pins σ H' s'->Q () s'):
 bt (ax X.prog X.w) A (setItem (.ref a) u r) Q E s:=by
 rcases g with⟨AA,k,e,ey,l,eH⟩|⟨AA,k,b,e,ey,eb,l,eH⟩
 ·subst ey eH;obtain⟨z,hd,vs,rel,dd⟩:=Jd I.hok e;have hz:vs.length<=sizeLine:=by rw[<-rel.length];exact z
  have hl:(putK AA k v).length<=sizeLine:=by have:=Ot AA k v;lia
  refine wpAny_setItem_pairs (hsz:=hz) (JW ry) dd fun h' dd' hs=>h _ ?_;have he:∃q,h'.get? a=some q:=let⟨q,_,_,hq,_⟩:=dd';⟨q,hq⟩;exact PM I (by rw[e];exact Cz) hs he (Tf hl hd (rel.put k rv) dd')
 ·subst ey eH;cases(show u=Value.ref b from ry);obtain⟨z,hd,xs,rel,dd⟩:=nK I.hok e;have hz:xs.length<=sizeLine:=by rw[<-JF rel];exact z
  have hl:(putK AA k v).length<=sizeLine:=by have:=Ot AA k v;lia
  refine wpAny_setItem_heap (hsz:=hz) (OT hu) (Lm I.hok eb) dd fun h' dd' hs=>h _ ?_;obtain⟨q,es,ep,hq,h2,h3,h4,_,h5⟩:=dd';refine PM I (by rw[e];exact Cz) hs ⟨q,hq⟩ ⟨hl,hd,_,(rel.put k eb rv).keeps fun c ys ec=>?_,q,es,ep,hq,h2,h3,h4,h5⟩;rw[AR (Ca ec e (fun z=>nomatch z))];exact ec
end
section
variable{k:Key}
def oO{more:List AB}(I:Inv X pins σ H s)(e:H a=some (.dK AA))(ry:RelV (kV k) u)(l:Bn AA k=some v)(hm:more=[]\/∃x,more=[x])
 (h:∀w' s',Inv X pins σ (upd H a (.dK (Ja AA k))) s'->RelV v w'->Q w' s'):bt (ax X.prog X.w) A (call (.builtin "dict.pop") (.ref a::u::more)) Q E s:=by
 obtain⟨z,hd,vs,rel,dd⟩:=Jd I.hok e;obtain⟨w',hw,rw'⟩:=Dj.some_of (v:=v) (o:=sd vs k) (by rw[<-l];exact rel.val k);have hp:(keyPart u).isSome=true:=by
  cases k with
  |inl i=>obtain⟨t,q⟩:=(show∃t,u=Value.int i t from ry);subst q;rfl
  |inr x=>obtain⟨t,q⟩:=(show∃t,u=Value.str x t from ry);subst q;rfl
 have ha:argsOk "dict.pop" ⟨.ref a::u::more,[]⟩:=by
  rcases hm with q|⟨x,q⟩
  ·subst q;exact PySem.F.args_dict_pop_2 _ _
  ·subst q;exact PySem.F.args_dict_pop_3 _ _ _
 refine Om uN dd.typeIs PySem.F.entry_dict_pop ha (meets_dict_pop_there (Cd X.prog X.w) a (JW ry) more hm hp)
  ⟨vs,w',dd,by rw[<-rel.length];exact z,hw,fun h' dd' hs=>h w' _ ?_ rw'⟩;have he:∃q,h'.get? a=some q:=let⟨q,_,_,hq,_⟩:=dd';⟨q,hq⟩;exact PM I (by rw[e];exact Cz) hs he (Tf (BF (gj AA k) z) hd (rel.drop k) dd')
def oq(I:Inv X pins σ H s)(e:Rd H a (.dK AA))(h:∀t s',Inv X pins σ H s'->Q (.int AA.length t) s'):bt (ax X.prog X.w) A (call (.builtin "len") [.ref a]) Q E s:=by obtain⟨z,hd,vs,rel,dd⟩:=Jc I.hok e;refine call_len_dict hd dd (by rw[<-rel.length];rw[Aw] at z;lia) ?_;rw[<-rel.length];exact h _ _ (I.tok _)
end
def aI(i:hY):Prop:=∀ov iv,tR i false ov iv=operate [ov,iv] (sk ov iv)
def kL{value slice:hY}{id:String}
 (hl:typeLookup (.type T) "__getitem__" =pure (some (.builtin id)))(hs:aI slice)
 (h:bt (ax prog w) A (qr value env) (fun o s₁=>bt (ax prog w) A (qr slice env) (fun i s₂=>s₂.TypeIs o T/\bt (ax prog w) A (sk o i) Q E s₂) E s₁) E s):
 bt (ax prog w) A (qr (.Subscript value slice pos) env) Q E s:=by
 refine Subscript_ (DC h (fun o s₁ h₁=>DC h₁ (fun i s₂ h₂=>?_) fun _ _ x=>x) fun _ _ x=>x);obtain⟨hT,h₂⟩:=h₂;unfold uG;refine AL ?_;rw[getitemInPython_of_ne hT.not_modules];refine AL (wpAny_specialOf hT hl ?_);have fin:bt (ax prog w) A (tR slice false o i) (fun r s₃=>bt (ax prog w) A (letTemporaryGo value o r>>=fun _=>pure r) Q E s₃) E s₂:=by rw[hs o i];exact wpAny_operating (DC h₂ (fun r s₃ h₃=>AL (wpAny_letTemporaryGo (Af h₃))) fun _ _ x=>x)
 first
  |exact Af (AL fin)
  |exact AL (Af (AL fin))
  |exact AL fin
def cp{o:Option V}(I:Inv X pins σ H s)(g:BS H a y o):s.TypeIs (.ref a) "dict" :=by
 rcases g with⟨AA,k,e,_,_⟩|⟨AA,k,b,e,_,_,_⟩
 ·obtain⟨_,_,vs,_,dd⟩:=Jc I.hok e;exact dd.typeIs
 ·obtain⟨_,_,xs,_,dd⟩:=KZ I.hok e;exact dd.typeIs
def JZ(td ty:TE):TE:=fun σ H Q=>td σ H fun x H1=>ty σ H1 fun y H2=>∃a v,x=.ref a/\BS H2 a y (some v)/\Q v H2
def pQ(ty td:TE):TE:=fun σ H Q=>ty σ H fun y H1=>td σ H1 fun x H2=>∃a o,x=.ref a/\BS H2 a y o/\Q (.bl o.isSome) H2
def jy(ty td:TE):TE:=fun σ H Q=>ty σ H fun y H1=>td σ H1 fun x H2=>∃a o,x=.ref a/\BS H2 a y o/\Q (.bl (!o.isSome)) H2
def nV(td ty tv:TE):TS:=fun D σ H=>tv σ H fun v H1=>td σ H1 fun x H2=>ty σ H2 fun y H3=>∃a H4,x=.ref a/\Dh H3 a y v H4/\D.nx σ H4
section
variable{o i value:hY}{pos':Pos}{td ty tv:TE}
def Dx(hu:X.A.units+1<rC)(ho:PE X o td)(hi:PE X i ty)(hs:aI i):PE X (.Subscript o i pos) (JZ td ty):=by intro pins s σ H Q I h;refine kL PySem.F.slot_dict_getitem.lookup hs (Ae (ho pins s σ H _ I h) fun u s1 ⟨x,H1,I1,rx,q1⟩=>Ae (hi pins s1 σ H1 _ I1 q1) fun iv s2 ⟨y,H2,I2,ry,a,v,ex,g,q2⟩=>?_);subst ex;obtain rfl:u=Value.ref a:=rx;exact⟨cp I2 g,f9 hu I2 g ry fun w' s3 I3 rw'=>⟨v,H2,I3,rw',q2⟩⟩
def Yv(hu:X.A.units+1<rC)(hi:PE X i ty)(ho:PE X o td):PC X .In i o (pQ ty td):=by intro pins s σ H Q I h;refine Ae (hi pins s σ H _ I h) fun iv s1 ⟨y,H1,I1,ry,q1⟩=>Ae (ho pins s1 σ H1 _ I1 q1) fun u s2 ⟨x,H2,I2,rx,a,ov,ex,g,q2⟩=>?_;subst ex;obtain rfl:u=Value.ref a:=rx;exact pS hu I2 g ry fun s3 I3=>⟨.bl ov.isSome,H2,I3,rfl,q2⟩
def O2(hu:X.A.units+1<rC)(hi:PE X i ty)(ho:PE X o td):PC X .NotIn i o (jy ty td):=by intro pins s σ H Q I h;refine Ae (hi pins s σ H _ I h) fun iv s1 ⟨y,H1,I1,ry,q1⟩=>Ae (ho pins s1 σ H1 _ I1 q1) fun u s2 ⟨x,H2,I2,rx,a,ov,ex,g,q2⟩=>?_;subst ex;obtain rfl:u=Value.ref a:=rx;exact jF hu I2 g ry fun s3 I3=>⟨.bl (!ov.isSome),H2,I3,rfl,q2⟩
def FH(hu:X.A.units+1<rC)(ho:PE X o td)(hi:PE X i ty)(hv:PE X value tv)(hs:sg value (some (.Subscript o i pos')) pos.line X.env=pure false):
 PS X (.Assign [.Subscript o i pos'] value pos) (nV td ty tv):=by
 intro pins s σ H D I h;refine wpAny_Assign_Subscript (Ae (hv pins s σ H _ I h) fun r s1 ⟨v,H1,I1,rv,q1⟩=>Ae (ho pins s1 σ H1 _ I1 q1) fun u s2 ⟨x,H2,I2,rx,q2⟩=>Ae (hi pins s2 σ H2 _ I2 q2) fun iv s3 ⟨y,H3,I3,ry,a,H4,ex,g,q3⟩=>?_) hs;subst ex;obtain rfl:u=Value.ref a:=rx;exact eS hu I3 g ry rv fun s4 I4=>⟨σ,H4,I4,q3⟩
end
def Xp(h:qp)(hb:rH<h.objs.size):BR P w H (h.push {cls:=.type "dict",data:=.dict #[]}) h.objs.size (.dK []):=
 ⟨CG _,OR.mpr (DL (BN hb)),[],.nil,Heap.DictOf.new h⟩
def mQ:TE:=fun _ H Q=>∀p,H p=none->Q (.ref p) (upd H p (.dK []))
def PD{X:Cx}{pos:Pos}:PE X (.Dict [] [] pos) mQ:=fun pins s σ H Q I h=>wpAny_Dict_empty ⟨.ref s.heap.objs.size,_,I.laid (a:=s.heap.objs.size) (o:=.dK []) (t':=s.toks) (fun _ _ q=>BC _ q) (Ad _) (Xp s.heap I.big),rfl,h _ (I.hok.fresh (Ad _))⟩
def TX:List (TE×TE)->St->Hp->(List (V×V)->Hp->Prop)->Prop
 |[],_,H,Q=>Q [] H
 |(tk,tv)::r,σ,H,Q=>tk σ H fun x H1=>tv σ H1 fun y H2=>TX r σ H2 fun ps H3=>Q ((x,y)::ps) H3
abbrev VV:List (V×V)->List (AB×AB)->Prop:=Paired fun p q=>RelV p.1 q.1/\RelV p.2 q.2
def OA(X:Cx)(pos:Pos)(keys:List (Option hY))(values:List hY)(trs:List (TE×TE)):Prop:=
 ∀(pins:List (Ya×Obj))(s:Yf)(σ:St)(H:Hp)(Q:List (V×V)->Hp->Prop),Inv X pins σ H s->TX trs σ H Q->
  bt (ax X.prog X.w) X.A (evalPairs (pairTrees keys values X.env pos)) (fun vs s'=>∃ps H',Inv X pins σ H' s'/\VV ps vs/\Q ps H') X.xe s
def ju{X:Cx}{pos:Pos}:OA X pos [] [] []:=fun pins s σ H Q I h=>pairTrees_nil_walk ⟨[],H,I,.nil,h⟩
def SA{X:Cx}{pos:Pos}{k v:hY}{ks:List (Option hY)}{vs:List hY}{tk tv:TE}{trs:List (TE×TE)}(hk:PE X k tk)(hv:PE X v tv)(hr:OA X pos ks vs trs):
 OA X pos (some k::ks) (v::vs) ((tk,tv)::trs):=fun pins s σ H Q I h=>
 pairTrees_cons_walk (Ae (hk pins s σ H _ I h) fun u s1 ⟨x,H1,I1,rx,q1⟩=>Ae (hv pins s1 σ H1 _ I1 q1) fun w2 s2 ⟨y,H2,I2,ry,q2⟩=>Ae (hr pins s2 σ H2 _ I2 q2) fun ws s3 ⟨ps,H3,I3,rel,q3⟩=>⟨(x,y)::ps,H3,I3,.cons ⟨rx,ry⟩ rel,q3⟩)
def NV(AA more:List (Key×V)):List (Key×V):=more.foldl (fun acc kv=>putK acc kv.1 kv.2) AA
def KV.merge:∀{more:List (Key×V)}{rs:List (Key×AB)}{AA:List (Key×V)}{vs:List (Key×AB)},KV more rs->KV AA vs->KV (NV AA more) (merged vs rs):=by
 intro more rs AA vs r;unfold KV at r
 induction r generalizing AA vs with
 |nil=>intro q;exact q
 |@cons p q ps qs h t ih=>
  intro r0;have e:KV (putK AA p.1 p.2) (stored vs q.1 q.2):=by have:=r0.put p.1 h.2;rw[<-h.1];exact this
  exact ih e
def Vg:∀(more AA:List (Key×V)),(NV AA more).length<=AA.length+more.length
 |[],AA=>by show AA.length<=AA.length+0;lia
 |p::r,AA=>by have h1:=Vg r (putK AA p.1 p.2);have h2:=Ot AA p.1 p.2;show(NV (putK AA p.1 p.2) r).length<=_;rw[CS];lia
def Vx{P:ql}{w:qu}:∀{AA:List (Key×V)}{ws:List (AB×AB)},VV (AA.map fun kv=>(kV kv.1,kv.2)) ws->∃rs,Carries (Cd P w) ws rs/\KV AA rs
 |[],_,r=>by rw[LH] at r;cases r;exact⟨[],Cz,.nil⟩
 |p::AA,_,r=>by
  rw[Ay] at r
  cases r with
  |@cons a b as bs h t=>obtain⟨rs,c,q⟩:=Vx (P:=P) (w:=w) t;obtain⟨b1,b2⟩:=b;exact⟨(p.1,b2)::rs,⟨JW h.1,rfl,c⟩,.cons ⟨rfl,h.2⟩ q⟩
def Zr(trs:List (TE×TE)):TE:=fun σ H Q=>∀p,H p=none->TX trs σ (upd H p (.dK [])) fun ps H2=>H2 p=some (.dK [])/\∃AA:List (Key×V),ps=AA.map (fun kv=>(kV kv.1,kv.2))/\AA.length<=15/\Q (.ref p) (upd H2 p (.dK (NV [] AA)))
def kB{X:Cx}{pos:Pos}{keys:List (Option hY)}{values:List hY}{trs:List (TE×TE)}(h:OA X pos keys values trs)(hall:keys.all (·.isSome)=true)(hl:keys.length=values.length)(h0:keys≠[])
 (h15:keys.length<=15):PE X (.Dict keys values pos) (Zr trs):=by
 intro pins s σ H Q I q;have hn:=I.hok.fresh (Ad s.heap.objs.size);have I1:=I.laid (a:=s.heap.objs.size) (o:=.dK []) (h':=s.heap.push {cls:=.type "dict",data:=.dict #[]}) (t':=s.toks) (fun _ _ q=>BC _ q) (Ad _) (Xp s.heap I.big);refine wpAny_Dict_walk (knd:=Cd X.prog X.w) hall hl h0 h15 (Ae (h pins _ σ _ _ I1 (q _ hn)) fun ws s2 ⟨ps,H2,I2,rel,e,AA,ep,lk,q2⟩=>?_);subst ep;obtain⟨rs,c,rk⟩:=Vx (P:=X.prog) (w:=X.w) rel;obtain⟨z,hd,vs0,r0,dd⟩:=Jd I2.hok e;cases r0;refine⟨rs,c,dd,fun h' dd' hs=>⟨.ref s.heap.objs.size,_,?_,rfl,q2⟩⟩;have hz:(NV [] AA).length<=sizeLine:=by have h1:=Vg AA [];rw[K8] at h1;rw[Aw];lia
 have he:∃q,h'.get? s.heap.objs.size=some q:=let⟨q,_,_,hq,_⟩:=dd';⟨q,hq⟩;exact PM I2 (by rw[e];exact Cz) hs he (Tf hz hd (rk.merge .nil) dd')
structure M1(X:Cx)(o:hY)(m:Str)(apos:Pos)(e:hY)(cpos:Pos):Prop where
 base:qy o m X.env (qr o X.env)=qr o X.env
 Cg:((q5 cpos (dy [e] X.env)).all (fun x=> !x.1)&&(rq cpos (rJ [] X.env)).all (fun x=>x.1.isSome)
  &&decide (([e]:List hY).length+([]:List sO).length+(if([]:List sO).isEmpty then 0 else 1)<30))=true
 line:(apos.endLine==cpos.line)=true
 trees:q5 cpos (dy [e] X.env)=[(false,qr e X.env)]
structure M2(X:Cx)(o:hY)(m:Str)(apos:Pos)(e f:hY)(cpos:Pos):Prop where
 base:qy o m X.env (qr o X.env)=qr o X.env
 Cg:((q5 cpos (dy [e,f] X.env)).all (fun x=> !x.1)&&(rq cpos (rJ [] X.env)).all (fun x=>x.1.isSome)
  &&decide (([e,f]:List hY).length+([]:List sO).length+(if([]:List sO).isEmpty then 0 else 1)<30))=true
 line:(apos.endLine==cpos.line)=true
 trees:q5 cpos (dy [e,f] X.env)=[(false,qr e X.env),(false,qr f X.env)]
def Uw(H:Hp)(a:Ya):Prop:=(∃AA,Rd H a (.dK AA))\/∃AA,Rd H a (.dT AA)
def ZL(I:Inv X pins σ H s)(d:Uw H a):
 s.TypeIs (.ref a) "dict" /\(∀b,Value.ref a=.ref b->∃ob,s.heap.get? b=some ob/\ob.dict=none)/\(a==rH)=false:=by
 rcases d with⟨AA,e⟩|⟨AA,e⟩
 ·obtain⟨_,hd,vs,_,dd⟩:=Jc I.hok e;refine⟨dd.typeIs,fun b q=>?_,hd⟩;cases q;obtain⟨ob,_,_,h1,h2,_⟩:=dd;exact⟨ob,h1,h2.2.1⟩
 ·obtain⟨_,hd,xs,_,dd⟩:=KZ I.hok e;refine⟨dd.typeIs,fun b q=>?_,hd⟩;cases q;obtain⟨ob,_,_,h1,h2,_⟩:=dd;exact⟨ob,h1,h2.2.1⟩
section
variable{d:V}{r:AB}{o:Option V}
def lB(hu:A.units+1<rC)(I:Inv X pins σ H s)(g:BS H a y o)(ry:RelV y u)(rd:RelV d r)(h:∀w' s',Inv X pins σ H s'->RelV (o.getD d) w'->Q w' s'):
 bt (ax X.prog X.w) A (call (.builtin "dict.get") [.ref a,u,r]) Q E s:=by
 rcases g with⟨AA,k,e,ey,l⟩|⟨AA,k,b,e,ey,eb,l⟩
 ·subst ey;obtain⟨z,hd,vs,rel,dd⟩:=Jc I.hok e;refine Om VL dd.typeIs uO (uP _ _ _) (meets_dict_get_default (Cd X.prog X.w) a (JW ry) hd r) ⟨_,dd.mapOf,h _ _ (I.tok _) ?_⟩;rw[l];exact(rel.val k).getD rd
 ·subst ey;cases(show u=Value.ref b from ry);obtain⟨z,hd,xs,rel,dd⟩:=KZ I.hok e;refine Om VL dd.typeIs uO (uP _ _ _) (meetsH_dict_get_default (sf (Cd X.prog X.w)) a b hd r) ⟨OT hu,k,xs,Lm I.hok eb,dd,h _ _ (I.tok _) ?_⟩;rw[l];exact(rel.val k).getD rd
end
def kR(td ty tx:TE):TE:=fun σ H Q=>td σ H fun x H1=>∃a,x=.ref a/\Uw H1 a/\ty σ H1 fun y H2=>tx σ H2 fun z H3=>∃o,BS H3 a y o/\Q (o.getD z) H3
def lj(td ty:TE):TE:=fun σ H Q=>td σ H fun x H1=>∃a,x=.ref a/\Uw H1 a/\ty σ H1 fun y H2=>∃AA k v,H2 a=some (.dK AA)/\y=kV k/\Bn AA k=some v/\Q v (upd H2 a (.dK (Ja AA k)))
section
variable{o f:hY}{td ty tx:TE}
def iM(hu:X.A.units+1<rC)(ho:PE X o td)(he:PE X e ty)(hf:PE X f tx)(m:M2 X o "get" apos e f cpos):PE X (.Call (.Attribute o "get" apos) [e,f] [] cpos) (kR td ty tx):=by
 intro pins s σ H Q I h;refine wpAny_Call_method m.base m.Cg m.line MQ VL PySem.F.type_dict_get (Ae (ho pins s σ H _ I h) fun u s1 ⟨x,H1,I1,rx,a,ex,d,q1⟩=>?_);subst ex;obtain rfl:u=Value.ref a:=rx;obtain⟨t1,t2,_⟩:=ZL I1 d;refine⟨t1,t2,?_⟩;rw[m.trees];refine Qr rfl (VP (Q3 (Ae (he pins s1 σ H1 _ I1 q1) fun iv s2 ⟨y,H2,I2,ry,q2⟩=>Q3 (Ae (hf pins s2 σ H2 _ I2 q2) fun fv s3 ⟨z,H3,I3,rz,ov,g,q3⟩=>Calls.spliced_nil ?_))));exact lB hu I3 g ry rz fun w' s4 I4 rw'=>⟨_,H3,I4,rw',q3⟩
def JJ(ho:PE X o td)(he:PE X e ty)(m:M1 X o "pop" apos e cpos):PE X (.Call (.Attribute o "pop" apos) [e] [] cpos) (lj td ty):=by intro pins s σ H Q I h;refine wpAny_Call_method m.base m.Cg m.line MQ uN PySem.F.type_dict_pop (Ae (ho pins s σ H _ I h) fun u s1 ⟨x,H1,I1,rx,a,ex,d,q1⟩=>?_);subst ex;obtain rfl:u=Value.ref a:=rx;obtain⟨t1,t2,_⟩:=ZL I1 d;refine⟨t1,t2,?_⟩;rw[m.trees];refine Qr rfl (VP (Q3 (Ae (he pins s1 σ H1 _ I1 q1) fun iv s2 ⟨y,H2,I2,ry,AA,k,v,ea,ey,l,q2⟩=>Calls.spliced_nil ?_)));subst ey;exact oO I2 ea ry l (.inl rfl) fun w' s3 I3 rw'=>⟨v,_,I3,rw',q2⟩
end
section
variable{C:List α->Prop}{l:List α}
def len0(h:C [])(e:l.length=0):C l:=by
 cases l with
 |nil=>exact h
 |cons=>cases e
def QL{n:Nat}(h:∀a (r:List α),r.length=n->C (a::r))(e:l.length=n+1):C l:=by
 cases l with
 |nil=>cases e
 |cons a r=>exact h a r (Nat.succ.inj e)
def E6(h:∀a,C [a])(e:l.length=1):C l:=QL (fun a _=>len0 (C:=fun r=>C (a::r)) (h a)) e
def Ly(h:∀a b,C [a,b])(e:l.length=2):C l:=QL (fun a _=>E6 (C:=fun r=>C (a::r)) (h a)) e
def UY(h:∀a b c,C [a,b,c])(e:l.length=3):C l:=QL (fun a _=>Ly (C:=fun r=>C (a::r)) (h a)) e
def aG(h:∀a b c d,C [a,b,c,d])(e:l.length=4):C l:=QL (fun a _=>UY (C:=fun r=>C (a::r)) (h a)) e
def mw(h:C [])(h1:∀a,C [a])(e:l.length<2):C l:=by
 cases l with
 |nil=>exact h
 |cons a r=>exact len0 (C:=fun r=>C (a::r)) (h1 a) (Nat.lt_one_iff.mp (Nat.lt_of_succ_lt_succ e))
def pR(h:C [])(l:List α)(e:l.length=0):C l:=len0 h e
def all1(h:∀a,C [a])(l:List α)(e:l.length=1):C l:=E6 h e
def all2(h:∀a b,C [a,b])(l:List α)(e:l.length=2):C l:=Ly h e
def p8(h:∀a b c,C [a,b,c])(l:List α)(e:l.length=3):C l:=UY h e
def pV(h:∀a b c d,C [a,b,c,d])(l:List α)(e:l.length=4):C l:=aG h e
end
variable{ifs:List hY}
def dC{elt target iter:hY}{it acc:AB}(J:Nat->Yf->Prop)
 (turn:∀n s,J n s->bt (ax prog w) A (rS it) (fun r s1=>match r with
  |none=>R (.ok .next) s1
  |some v=>bt (ax prog w) A (rg target it v) (fun _ s1'=>bt (ax prog w) A (uD target env v) (fun _ s2=>
   bt (ax prog w) A (forIn ifs true fun c r=>if r=true then do let ok<-isTrue c env (qr c env);pure (ForInStep.yield ok) else pure (ForInStep.yield r)) (fun ok s3=>
    if ok=true then bt (ax prog w) A (qr elt env) (fun x s4=>bt (ax prog w) A (call (.builtin "list.append") [acc,x]) (fun _ s5=>∃m,m<n/\J m s5) (fun _ _=>False) s4) (fun _ _=>False) s3
    else∃m,m<n/\J m s3) (fun _ _=>False) s2) (fun _ _=>False) s1') (fun _ _=>False) s1) (fun _ _=>False) s)
 (n:Nat)(h:J n s):rT (ax prog w) A (.compLoop (.ListComp elt [⟨target,iter,ifs,0⟩] scope pos) 0 it acc env) R s:=by
 refine codeAny_loop rfl J (fun n s hJ=>?_) n h;show bt (ax prog w) A ((compTurn (.ListComp elt [⟨target,iter,ifs,0⟩] scope pos) 0 it acc env).onRaise (fun x=>do noteFrame x env;theTreesLotGoes x)) _ _ s;refine wpAny_noted ?_;rw[compTurn_list];refine AL (Oi (AL (DC (turn n s hJ) (fun r s1 h1=>?_) fun _ _ q=>q.elim)))
 cases r with
 |none=>exact Af h1
 |some v=>
  refine AL (DC h1 (fun _ s1' h1'=>?_) fun _ _ q=>q.elim);refine AL (DC h1' (fun _ s2 h2=>?_) fun _ _ q=>q.elim);refine AL (DC h2 (fun ok s3 h3=>?_) fun _ _ q=>q.elim)
  cases ok with
  |false=>exact Af ⟨rfl,h3⟩
  |true=>refine AL (AL (DC h3 (fun x s4 h4=>?_) fun _ _ q=>q.elim));refine AL (DC h4 (fun _ s5 h5=>?_) fun _ _ q=>q.elim);exact Af (Af ⟨rfl,h5⟩)
noncomputable def D9(ix:List Nat)(σ:St):St:=ix.map fun j=>(σ[j]?).join
noncomputable def EM(X:Cx)(Nc:List Str)(scope:tH)(cl:List (Str×Ya))(C:Ya)(s₀:Yf)(H₀:Hp)(fp:List Ya)(pins:List (Ya×Obj)):Cx:=
 {X with N:=Nc,s₀:=s₀,H₀:=H₀,env:=compEnvC scope cl C X.env,outer:=X.stack,stack:=X.stack,ex:=fp,fn:=fun _=>false,pn:=X.pn++pins,xe:=fun _ _=>False}
structure KU(X:Cx)(ts cap:List Str)(ix:List Nat)(scope:tH)(cl:List (Str×Ya)):Prop where
 calm:X.calm=true
 qB:closureFor scope X.env=pure cl
 cell:∀y∈scope.names,y.2≠.cell
 kind:scope.kind=.function
 names:∀y∈scope.names,y.2=.local->scope.names.lookup y.1=some .local
 sub:∀y c,cl.lookup y=some c->X.env.cells.lookup y=some c
 has:∀y,((rh scope X.env).names.lookup y=some .cell\/(rh scope X.env).names.lookup y=some .free)->∃c,cl.lookup y=some c
 len:ix.length=cap.length
 qL:∀(i:Nat)(y:Str)(j:Nat),cap[i]? =some y->ix[i]? =some j->X.N[j]? =some y
 Ux:∀y∈cap,QX X.env.scope y/\X.env.kindOf y≠some .local/\((rh scope X.env).names.lookup y=some .cell\/(rh scope X.env).names.lookup y=some .free)
def Ir(ts:List Str)(ix:List Nat)(σ:St)(σ2:St):Prop:=∃a:St,a.length=ts.length/\σ2=a++D9 ix σ
def Lw(ts:List Str)(ix:List Nat)(σ:St)(J:It)(g:TG)(ti:TT)(te:TE)(D:Ya)(Q:VK)(H1:Hp):Prop:=∃W:Nat->Nat->Hp->Prop,(∃m,W 0 m (upd H1 D (.lst [])))/\∀i m H,W i m H->
 (J.stop i H/\Q (.ref D) H)\/(J.go i H/\∃N:Hp->Prop,(∀H',N H'->∃m',m'<m/\W (i+1) m' H')/\∀x H',J.Jq i H x H'->g x (ts.map (fun _=>none)++D9 ix σ) H' fun σ2 H2=>Ir ts ix σ σ2/\ti σ2 H2 fun b H3=>if b=true then te σ2 H3 fun y H4=>∃ys,H4 D=some (.lst ys)/\ys.length<sizeLine/\N (upd H4 D (.lst (ys++[y]))) else N H3)
def T5(ts:List Str)(ix:List Nat)(wi:TI)(g:TG)(ti:TT)(te:TE):TE:=fun σ H Q=>wi σ H fun J H1=>∀D,H1 D=none->Lw ts ix σ J g ti te D Q H1
variable{ts:List Str}{ix:List Nat}{ti:TT}{D:Ya}
def GK{xs:List V}{Q:VK}(Pv:Nat->Hp->Prop)(h0:Pv 0 (upd H1 D (.lst [])))(hl:∀i H,i<=xs.length->Pv i H->AJ K H a xs)
 (hs:∀i x H,xs[i]? =some x->Pv i H->g x (ts.map (fun _=>none)++D9 ix σ) H fun σ2 H2=>Ir ts ix σ σ2/\ti σ2 H2 fun b H3=>if b=true then te σ2 H3 fun y H4=>∃ys,H4 D=some (.lst ys)/\ys.length<sizeLine/\Pv (i+1) (upd H4 D (.lst (ys++[y]))) else Pv (i+1) H3)
 (hd:∀H,Pv xs.length H->Q (.ref D) H):Lw ts ix σ (Hf K a) g ti te D Q H1:=by
 refine⟨fun i m H=>m=xs.length-i/\i<=xs.length/\Pv i H,⟨xs.length,by simp,CG _,h0⟩,?_⟩;rintro i m H ⟨rfl,hi,p⟩;have q:=hl i H hi p;by_cases hlt:i<xs.length
 ·refine .inr ⟨⟨xs,xs[i],q,by simp[hlt]⟩,Pv (i+1),fun H' p'=>⟨xs.length-(i+1),by lia,rfl,hlt,p'⟩,fun x H' y=>?_⟩;obtain⟨e,y⟩:=y;subst e;exact hs i x _ (y xs q) p
 ·obtain rfl:i=xs.length:=by lia
  exact .inl ⟨⟨xs,q,Ad _⟩,hd H p⟩
def FV:Ir [x] ix σ ((([x]:List Str).map (fun _=>(none:Option V))++D9 ix σ).set 0 (some v)):=⟨[some v],rfl,rfl⟩
def N6(X:Cx)(ifs:List hY)(ti:TT):Prop:=
 ∀(pins:List (Ya×Obj))(s:Yf)(σ:St)(H:Hp)(Q:Bool->Hp->Prop),Inv X pins σ H s->ti σ H Q->
  bt (ax X.prog X.w) X.A (forIn ifs true fun c r=>if r=true then do let ok<-isTrue c X.env (qr c X.env);pure (ForInStep.yield ok) else pure (ForInStep.yield r)) (TP X pins σ Q) X.xe s
def pJ:TT:=fun _ H Q=>Q true H
def Ga:N6 X [] pJ:=fun _ _ _ H _ I h=>wpAny_tests_nil ⟨H,I,h⟩
def NM{t:TT}(h:PT X c t):N6 X [c] t:=fun pins s σ H Q I q=>wpAny_tests_one (h pins s σ H Q I q)
section
variable{cap:List Str}{cl:List (Str×Ya)}
def gq(h:(D9 ix σ)[i]? =some (some v)):∃j,ix[i]? =some j/\σ[j]? =some (some v):=by
 unfold D9 at h;rw[A0] at h
 cases e:ix[i]?with
 |none=>rw[e] at h;cases h
 |some j=>
  rw[e] at h;have h':(σ[j]?).join=some v:=Ai h;refine⟨j,rfl,?_⟩
  cases e2:σ[j]?with
  |none=>rw[e2] at h';cases h'
  |some o=>rw[e2] at h';have h2:o=some v:=h';rw[h2]
def Inv.block{tk:Nat}(ok:KU X ts cap ix scope cl)(I:Inv X pins σ H s)(hf:∀b∈fp,F0 X pins H b)(hfs:∀b∈fp,b<s.heap.objs.size)
 (hn:h'.Ns s.heap.objs.size (fun _=>none))(hk:∀b o,s.heap.get? b=some o->h'.get? b=some o):
 Inv (EM X (ts++cap) scope cl s.heap.objs.size s H fp pins) [] (ts.map (fun _=>none)++D9 ix σ) H {s with heap:=h',toks:=tk}:=by
 have nC:∀y c,cl.lookup y=some c->c<s.heap.objs.size:=fun y c e=>by obtain⟨v,z⟩:=I.cell y c (ok.sub y c e);exact z.lt
 refine⟨⟨I.ok.mod,?_,I.ok.glob,I.ok.blt,Ad _,?_,?_,?_,I.ok.hd,I.ok.frames,.inl rfl,?_,?_,?_,?_,?_,I.stack,I.Pe⟩,rfl,I.bare,Un.kept hk,⟨_,hn,?_⟩,?_,I.hok.fresh (Ad _),?_,?_,I.hok.kept hk,?_⟩
 ·exact ok.kind
 ·exact fun x y c h1 h2=>I.ok.inj x y c (ok.sub x c h1) (ok.sub y c h2)
 ·exact fun y hy=>ok.has y hy
 ·exact fun y c hy=>absurd hy (by simp[EM])
 ·intro b hb;exact⟨BN (hfs b hb),fun y c e=>(hf b hb).2.2.2.2.1 y c (ok.sub y c e)⟩
 ·exact fun b o e=>I.bs b o e
 ·exact BF I.ok.Gn I.sz
 ·intro b o e hb;rcases(hf b hb).2.2.2.1 with z|z
  ·exact I.ok.Kr b o e z
  ·exact absurd (C8 (A1 e) (BF I.ok.Gn z)) (Mr _)
 ·intro b hb hz;rcases Be.mp (I.NW b hz) with z|z
  ·exact(hf b hb).2.1 z
  ·exact(hf b hb).2.2.1 z
 ·intro i x v e1 e2 e3;have e1':(ts++cap)[i]? =some x:=e1;by_cases hi:i<ts.length
  ·rw[C4 (by simpa using hi),A0] at e2
   cases e:ts[i]?with
   |none=>rw[e] at e2;cases e2
   |some y=>rw[e] at e2;cases e2
  ·rw[Cj (by simpa using hi),AK] at e2;rw[Cj (by lia)] at e1';obtain⟨j,hj,hv⟩:=gq e2;have hm:x∈cap:=CF e1';obtain⟨m,hnm,hl⟩:=I.loc;obtain⟨Ux,nl,fr⟩:=ok.Ux x hm;obtain⟨u,r,l⟩:=hl j x v (ok.qL _ x j e1' hj) hv Ux;refine⟨u,r,?_⟩;rcases l with⟨k,_⟩|⟨_,c,hc,z⟩
   ·exact absurd k nl
   ·obtain⟨c',hc'⟩:=ok.has x fr;have e:=ok.sub x c' hc';rw[hc] at e;cases e;obtain⟨o,ho,hd⟩:=z;exact .inr ⟨fr,c,hc',o,hk c o ho,hd⟩
 ·intro x c e;obtain⟨v,o,ho,hd⟩:=I.cell x c (ok.sub x c e);exact⟨v,o,hk c o ho,hd⟩
 ·intro x c e;exact I.DM x c (ok.sub x c e)
 ·intro p hp;have hp':p∈X.pn++pins:=by simpa[EM] using hp
  obtain⟨e,n,ne,nf,d⟩:=I.pin p hp';refine⟨hk _ _ e,n,BN (A1 e),fun hz=>?_,d⟩;rcases Be.mp (I.NW p.1 hz) with z|z
  ·exact ne z
  ·exact nf z
 ·show(ts.map (fun _=>none)++D9 ix σ).length=(ts++cap).length;rw[Au,AK,Au];unfold D9;rw[AK,ok.len]
def Inv.YR{Nc:List Str}{σc:St}{s':Yf}{h'':qp}{pc:List (Ya×Obj)}(I:Inv X pins σ H s)(hf:∀b∈fp,F0 X pins H b)
 (B:Inv (EM X Nc scope cl s.heap.objs.size s H fp pins) pc σc H' s')(hs:Heap.SameBut s.heap.objs.size s'.heap h''):Inv X pins σ H' {s' with heap:=h''}:=by
 have e1:(EM X Nc scope cl s.heap.objs.size s H fp pins).fs=Cp X.stack:=rfl;have B0:Un (Cp X.stack) fp H H' s.heap s'.heap:=B.base;have nz:∀b o,s.heap.get? b=some o->b≠s.heap.objs.size:=fun b o e=>BN (A1 e);have fr:H' s.heap.objs.size=none:=B.free;refine I.Pz (ch:=fp) (s':={s' with heap:=h''}) (show s'.os=s.os from B.os) ⟨fun b o e n hb hx=>?_,fun b o e n hb hx=>?_,B0.free,fun b o e hx=>?_,B0.E7,B0.ES,B0.E8⟩ (fun b u e=>?_) B.bare (fun b hb=>?_)
 ·exact(hs.2 b (nz b o e)).trans (B0.keep b o e n hb hx)
 ·obtain⟨sl,q⟩:=B0.slot b o e n hb hx;exact⟨sl,(hs.2 b (nz b o e)).trans q⟩
 ·obtain⟨o',q⟩:=B0.there b o e hx;exact⟨o',(hs.2 b (nz b o e)).trans q⟩
 ·refine(B.hok b u e).Ec (fun c v hc q=>(hs.2 c ?_).trans q) (fun _ q=>q) fun _ _ q=>q;rcases hc with z|z
  ·subst z;exact fun z=>by rw[z,fr] at e;cases e
  ·exact fun z'=>by rw[z',fr] at z;cases z
 ·obtain⟨_,f1,_,f3,f4,f5⟩:=hf b hb;exact⟨f3,f1,f4,f5⟩
end
variable{use:Option (AB->Sem Unit)}
section
variable{cap:List Str}{cl:List (Str×Ya)}
def Wm{elt iter:hY}{pos2:Pos}{wi:TI}{R:AB->Yf->Prop}{Q:VK}(ok:KU X ts cap ix scope cl)(hi:PI X tg iter wi)
 (hg:∀C s₀ H₀ fp pins,PG (EM X (ts++cap) scope cl C s₀ H₀ fp pins) tg g)(ht:∀C s₀ H₀ fp pins,N6 (EM X (ts++cap) scope cl C s₀ H₀ fp pins) ifs ti)
 (he:∀C s₀ H₀ fp pins,PE (EM X (ts++cap) scope cl C s₀ H₀ fp pins) elt te)(hs:∀x,foldedSetIterable iter X.env x=pure x)(I:Inv X pins σ H s)(h:T5 ts ix wi g ti te σ H Q)
 (fin:∀(D:Ya)(H3 H4:Hp)(s3 s5:Yf)(fp:List Ya),Inv X pins σ H3 s3->(∀b∈fp,F0 X pins H3 b)->Inv (EM X (ts++cap) scope cl s3.heap.objs.size s3 H3 fp pins) [] (ts.map (fun _=>none)++D9 ix σ) H4 s5->Q (.ref D) H4->
  compPost (ax X.prog X.w) X.A X.xe use R (.ref D) s3.heap.objs.size (.ok .next) s5):
 bt (ax X.prog X.w) X.A (comprehension (.ListComp elt [⟨tg,iter,ifs,0⟩] scope pos) scope X.env pos2 (newList []) false (qr iter X.env) use) R X.xe s:=by
 refine wpAny_comprehension_free (use:=use) rfl hs ok.qB ok.kind ok.names (Ae (hi pins s σ H _ I h) fun v s1 h1=>Ae h1 fun itv s2 h2=>?_);obtain⟨it,fp,tn,J,H2,e,I2,T,st2,f2,hW⟩:=h2;subst e;refine IS (wpAny_newFunctionEnv ok.cell (by intro y hy;simp at hy) (fun h1 hns hsb=>?_) ok.kind);dsimp only at hns hsb⊢;have nD:H2 s2.heap.objs.size=none:=I2.hok.fresh (Ad _);obtain⟨W,⟨m0,w0⟩,turn⟩:=hW s2.heap.objs.size nD;have I3:=I2.UU (t':=s2.toks) (ys:=[]) (AO:=[]) .nil (CG _);have hfs2:∀b∈fp,b<s2.heap.objs.size:=fun b hb=>by obtain⟨o,e,_⟩:=T.obj _ _ st2 b hb;exact A1 e
 have hf3:∀b∈fp,F0 X pins (upd H2 s2.heap.objs.size (.lst [])) b:=fun b hb=>⟨by rw[AR (BN (hfs2 b hb))];exact(f2 b hb).1,(f2 b hb).2⟩;generalize hs3:({s2 with heap:=s2.heap.push {cls:=.type "list",data:=.seq ([]:List AB).toArray},toks:=s2.toks}:Yf)=s3 at I3;have es3:s3.heap=s2.heap.push {cls:=.type "list",data:=.seq ([]:List AB).toArray}:=by rw[<-hs3]
 have ets:s3.toks=s2.toks:=by rw[<-hs3]
 have sz3:s3.heap.objs.size=s2.heap.objs.size+1:=by rw[es3,Gx]
 have k3:∀b o,s2.heap.get? b=some o->s3.heap.get? b=some o:=fun b o e=>by rw[es3];exact BC _ e
 have hk1:∀b o,s3.heap.get? b=some o->h1.get? b=some o:=fun b o e=>by have q:=hsb.2 b (by rw[<-es3];exact BN (A1 e));rw[q];rw[<-es3];exact BC _ e
 have hC:(s2.heap.push {cls:=.type "list",data:=.seq ([]:List AB).toArray}).objs.size=s3.heap.objs.size:=by rw[es3]
 have B:Inv (EM X (ts++cap) scope cl s3.heap.objs.size s3 (upd H2 s2.heap.objs.size (.lst [])) fp pins) [] (ts.map (fun _=>none)++D9 ix σ) (upd H2 s2.heap.objs.size (.lst [])) {s3 with heap:=h1,toks:=s2.toks}:=
  I3.block ok hf3 (fun b hb=>C8 (hfs2 b hb) (by rw[sz3];exact Ep _)) (by rw[<-hC];exact hns) hk1;let Xc:=EM X (ts++cap) scope cl s3.heap.objs.size s3 (upd H2 s2.heap.objs.size (.lst [])) fp pins;have stat:∀{H':Hp},(∀b∈fp,H' b=none)->∀b∈fp,F0 Xc [] H' b:=fun{H'} hn b hb=>by
  obtain⟨_,f1,f2',f3,f4,f5⟩:=f2 b hb;refine⟨hn b hb,?_,fun hz=>?_,.inl hb,fun x c e=>f4 x c (ok.sub x c e),fun p hp=>?_⟩
  ·have hlt:b<s3.heap.objs.size:=C8 (hfs2 b hb) (by rw[sz3];exact Ep _);exact BN hlt
  ·rcases Be.mp (I2.NW b hz) with z|z
   ·exact f1 z
   ·exact f2' z
  ·have hp':p∈X.pn++pins:=by
    have hp2:p∈(X.pn++pins)++[]:=hp
    rwa [Ct] at hp2
   exact f5 p hp'
 have st1:tn 0 h1:=T.keep 0 s2.heap h1 st2 fun b hb o e=>hk1 b o (k3 b o e);have loop:∀st:Yf,st={s3 with heap:=h1,toks:=s2.toks}->
  rT (ax X.prog X.w) X.A (.compLoop (.ListComp elt [⟨tg,iter,ifs,0⟩] scope pos) 0 (.ref it) (.ref s2.heap.objs.size) (compEnvC scope cl s3.heap.objs.size X.env)) (compPost (ax X.prog X.w) X.A X.xe use R (.ref s2.heap.objs.size) s3.heap.objs.size) st:=by
  rintro st rfl;refine dC (fun n s'=>∃i H',Inv Xc [] (ts.map (fun _=>none)++D9 ix σ) H' s'/\tn i s'.heap/\(∀b∈fp,H' b=none)/\W i n H') ?_ m0 ⟨0,_,B,st1,fun b hb=>(hf3 b hb).1,w0⟩;rintro n s4 ⟨i,H4,B4,st4,fr4,w4⟩;rcases turn i n H4 w4 with⟨stop,q⟩|⟨go,N,hN,step⟩
  ·refine Ae (T.done Xc rfl rfl rfl ok.calm i [] s4 _ H4 _ B4 (stat fr4) st4 stop) fun r s5 ⟨hr,B5⟩=>?_;subst hr;exact fin _ _ H4 s3 s5 fp I3 hf3 B5 q
  ·refine Ae (T.item Xc rfl rfl rfl ok.calm i [] s4 _ H4 (fun _ _=>False) B4 (stat fr4) st4 go) fun r s5 ⟨u,hr,h5⟩=>?_;subst hr;refine Ae h5 fun _ s6 ⟨x,H6,B6,r6,y6,st6,fr6⟩=>?_;have B6':=B6.pinned (stat fr6) (T.obj _ _ st6);refine Ae (hg _ _ _ _ _ _ s6 _ H6 x u _ B6' r6 (step x H6 y6)) fun _ s7 ⟨σ7,H7,B7,tg7,q7⟩=>?_;refine Ae (ht _ _ _ _ _ _ s7 σ7 H7 _ B7 q7) fun b s8 ⟨H8,B8,q8⟩=>?_;have again:∀{H9:Hp}{s9:Yf},Inv Xc ([]++Na fp s6.heap) σ7 H9 s9->N H9->
    ∃m,m<n/\∃i H',Inv Xc [] (ts.map (fun _=>none)++D9 ix σ) H' s9/\tn i s9.heap/\(∀b∈fp,H' b=none)/\W i m H':=fun{H9 s9} B9 hm=>by
    obtain⟨m',lt,w9⟩:=hN _ hm;obtain⟨a,la,e7⟩:=tg7;subst e7;refine⟨m',lt,i+1,H9,(B9.O8).weak ?_ ?_,T.keep _ _ _ st6 fun b hb o e=>(B9.pin (b,o) (Dq _ (Dq _ (Ox hb e)))).1,fun b hb=>?_,w9⟩
    ·rw[Au,Au,AK,la]
    ·intro j v e;by_cases hj:j<ts.length
     ·rw[C4 (by simpa using hj),A0] at e
      cases e2:ts[j]?with
      |none=>rw[e2] at e;cases e
      |some y=>rw[e2] at e;cases e
     ·rw[Cj (by simpa using hj),AK] at e;rw[Cj (by lia),la];exact e
    ·obtain⟨o,e,d⟩:=T.obj _ _ st6 b hb;exact(B9.pin (b,o) (Dq _ (Dq _ (Ox hb e)))).2.1
   cases b with
   |false=>exact again B8 (by simpa using q8)
   |true=>
    have q8':te σ7 H8 fun y H4=>∃ys,H4 s2.heap.objs.size=some (.lst ys)/\ys.length<sizeLine/\N (upd H4 s2.heap.objs.size (.lst (ys++[y]))):=by simpa using q8
    refine Ae (he _ _ _ _ _ _ s8 σ7 H8 _ B8 q8') fun y s9 ⟨yv,H9,B9,ry,ys,hD,hl,q9⟩=>?_;exact Ae (Es _ s9 σ7 H9 (.ref s2.heap.objs.size) [yv] (.ref s2.heap.objs.size) [y] (fun _ H'=>N H') B9 rfl (.cons ry .nil) ⟨_,ys,yv,rfl,rfl,hD,hl,q9⟩) fun _ s10 ⟨_,H10,B10,_,q10⟩=>again B10 q10
 have est:({s2 with heap:=h1,toks:=s2.toks+([]:List (Str×AB)).length}:Yf)={s3 with heap:=h1,toks:=s2.toks}:=by rw[<-hs3];rfl
 have L:=loop _ est;rw[<-hC] at L;exact codeAny_compStart_list L (T.self X.A 0 _ _ _ st1 L)
def Eu{elt iter:hY}{wi:TI}(ok:KU X ts cap ix scope cl)(hi:PI X tg iter wi)
 (hg:∀C s₀ H₀ fp pins,PG (EM X (ts++cap) scope cl C s₀ H₀ fp pins) tg g)(ht:∀C s₀ H₀ fp pins,N6 (EM X (ts++cap) scope cl C s₀ H₀ fp pins) ifs ti)
 (he:∀C s₀ H₀ fp pins,PE (EM X (ts++cap) scope cl C s₀ H₀ fp pins) elt te)(hs:∀x,foldedSetIterable iter X.env x=pure x:=by intro _;rfl):
 PE X (.ListComp elt [⟨tg,iter,ifs,0⟩] scope pos) (T5 ts ix wi g ti te):=by
 intro pins s σ H Q I h;rw[eval_ListComp];refine Wm (use:=none) (Q:=Q) ok hi hg ht he hs I h fun D H3 H4 s3 s5 fp I3 hf3 B5 q=>?_;obtain⟨m,hnm,_⟩:=B5.loc;exact⟨m,hnm,fun h' hsb'=>⟨.ref D,H4,I3.YR hf3 B5 hsb',rfl,q⟩⟩
def YL{y:Str}{elt iter:hY}{spos py:Pos}{wi:TI}(ok:KU X ts cap ix scope cl)(hN:X.N.Nodup)(hy:X.N[i]? =some y)(hl:X.env.scope.names.lookup y=some .local)(hi:PI X tg iter wi)
 (hg:∀C s₀ H₀ fp pins,PG (EM X (ts++cap) scope cl C s₀ H₀ fp pins) tg g)(ht:∀C s₀ H₀ fp pins,N6 (EM X (ts++cap) scope cl C s₀ H₀ fp pins) ifs ti)
 (he:∀C s₀ H₀ fp pins,PE (EM X (ts++cap) scope cl C s₀ H₀ fp pins) elt te)(hs:∀x,foldedSetIterable iter X.env x=pure x:=by intro _;rfl)
 (hsw:sg (.ListComp elt [⟨tg,iter,ifs,0⟩] scope pos) (some (.Name y py)) spos.line X.env=pure true:=by rfl):
 PS X (.Assign [.Name y py] (.ListComp elt [⟨tg,iter,ifs,0⟩] scope pos) spos) (QC (T5 ts ix wi g ti te) (Dy i)):=by
 intro pins s σ H D I h;rw[exec_Assign_Name_used _ _ _ _ hsw];refine AL (Oi (AL ?_));show bt _ X.A (do let _<-comprehension (.ListComp elt [⟨tg,iter,ifs,0⟩] scope pos) scope X.env _ (newList []) false (qr iter X.env) (some (uD (.Name y py) X.env))) _ _ s;refine AL (DC (Wm (R:=fun _ s'=>SP X pins D .next s') (Q:=fun x H1=>Dy i x σ H1 D.nx) ok hi hg ht he hs I h fun D' H3 H4 s3 s5 fp I3 hf3 B5 q=>?_) (fun _ s' hq=>Af (Af hq)) fun _ _ e=>e);have I5:Inv X pins σ H4 s5:=I3.YR hf3 B5 (Heap.SameBut.refl ..);obtain⟨m,hnm,_⟩:=B5.loc;have hC:s3.heap.objs.size<s5.heap.objs.size:=hnm.lt;show bt _ X.A (uD (.Name y py) X.env (.ref D')) _ _ s5;refine wpAny_assign_Name (V8 I5 hN hy (.inl hl) (v:=.ref D') rfl (fun s' I' hb=>?_) (.inr hl));obtain⟨a,sb,ha⟩:=hb;have ea:a≠s3.heap.objs.size:=by
  rcases ha with e|e
  ·rw[e];exact BN I3.lt
  ·obtain⟨v,z⟩:=I3.cell y a e;exact BN z.lt
 refine⟨m,hnm.sameBut sb (DL ea),fun h' hs'=>?_⟩;refine⟨_,H4,I'.turned (t':=s'.toks) (it:=s3.heap.objs.size) (fun b o hb e=>(hs'.2 b hb).trans e) B5.free (Eo I3.lt) (.inr I3.sz) (fun x c e=>?_) (fun p hp=>?_),q⟩
 ·obtain⟨v,z⟩:=I3.cell x c e;exact BN z.lt
 ·exact BN (A1 (I3.pin p hp).1)
end
def Qj(z:Str):It:=⟨fun i _=>i<z.cps.size,fun i H v H'=>H'=H/\∃c,z.cps[i]? =some c/\v=.str ⟨#[c]⟩,fun i _=>z.cps.size<=i⟩
def XA(it:Ya)(ty:String)(z:Str)(t:Tok)(hty:ty="str_ascii_iterator" \/ty="str_iterator"):
 Turn P w K tg (Qj z) [it] it (fun i h=>h.IsStrIter it ty z t i) where
 mem:=by simp
 obj:=fun i h st b hb=>by
  obtain rfl:b=it:=by simpa using hb
  obtain⟨o,e,c,d⟩:=st;exact⟨o,e,fun v q=>by rw[d] at q;cases q⟩
 keep:=fun i h h' st k=>by obtain⟨o,e,r⟩:=st;exact⟨o,k it (by simp) o e,r⟩
 item:=by
  intro X hP hw hK hc i pins s σ H E I hf st hg;subst hP hw hK;obtain⟨f0,f1,f2,f3,f4,f5⟩:=hf it (by simp);have hi:i<z.cps.size:=hg;have fin:∀(c:Nat)(u:Tok)(h':qp)(tk:Nat),z.cps[i]? =some c->h'.IsStrIter it ty z t (i+1)->(∀b o,b≠it->s.heap.get? b=some o->h'.get? b=some o)->
   ∃v,some (Value.str ⟨#[c]⟩ u)=some v/\bt (ax X.prog X.w) X.A (rg tg (.ref it) v) (fun _ s2=>∃x H',Inv X pins σ H' s2/\RelV x v/\(Qj z).Jq i H x H'/\s2.heap.IsStrIter it ty z t (i+1)/\∀b∈[it],H' b=none) E {s with heap:=h',toks:=tk}:=by
   intro c u h' tk hc st' kk;have I1:Inv X pins σ H {s with heap:=h',toks:=tk}:=I.turned (fun b o hb e=>kk b o hb e) f0 f1 f3 f4 f5;obtain⟨o,e,ec,d⟩:=id st';refine⟨_,rfl,P5 (s:={s with heap:=h',toks:=tk}) (n:=ty) e ec d ?_ ⟨.str ⟨#[c]⟩,H,I1,⟨u,rfl⟩,⟨rfl,c,hc,rfl⟩,st',fun b hb=>(hf b hb).1⟩⟩;rcases hty with e|e<;>subst e<;>decide
  rcases hty with e|e
  ·subst e;have W:=Walks.strAscii (prog:=X.prog) (w:=X.w) (I.ok.hd hc) it z t;refine W.item i s _ _ hi st fun v h' tk hv st' kk=>?_;obtain⟨c,u,hc',rfl⟩:=hv;exact fin c u h' tk hc' st' fun b o hb e=>kk b o (by simpa using hb) e
  ·subst e;have W:=Walks.strWide (prog:=X.prog) (w:=X.w) (I.ok.hd hc) it z t;refine W.item i s _ _ hi st fun v h' tk hv st' kk=>?_;obtain⟨c,u,hc',rfl⟩:=hv;exact fin c u h' tk hc' st' fun b o hb e=>kk b o (by simpa using hb) e
 done:=by
  intro X hP hw hK hc i pins s σ H E I hf st hg;subst hP hw hK;obtain⟨f0,f1,f2,f3,f4,f5⟩:=hf it (by simp);have hi:z.cps[i]? =none:=by have:z.cps.size<=i:=hg;simp only[Array.getElem?_eq_none_iff];exact this
  rcases hty with e|e
  ·subst e;exact wpAny_pyNext_ascii_end (I.ok.hd hc) st hi fun h' eb=>⟨rfl,I.turned (t':=s.toks) (fun b o hb e=>eb b o hb e) f0 f1 f3 f4 f5⟩
  ·subst e;exact wpAny_pyNext_wide_end (I.ok.hd hc) st hi fun h' eb=>⟨rfl,I.turned (t':=s.toks) (fun b o hb e=>eb b o hb e) f0 f1 f3 f4 f5⟩
 self:=fun _ _ _ _ _ st h=>by
  rcases hty with e|e
  ·subst e;exact wpAny_pyIter_striter_ascii st h
  ·subst e;exact wpAny_pyIter_striter_wide st h
def px(tl:TE):TI:=fun σ H R=>tl σ H fun x H1=>∃z,x=.str z/\R (Qj z) H1
def Yu{l:hY}{tl:TE}(hl:PE X l tl):PI X tg l (px tl):=by
 intro pins s σ H R I h;refine Ae (hl pins s σ H _ I h) fun v s1 ⟨x,H1,I1,r1,q1⟩=>?_;obtain⟨z,e,q⟩:=q1;subst e;obtain⟨t,rfl⟩:=r1;have fp:∀b∈[s1.heap.objs.size],F0 X pins H1 b:=fun b hb=>by
  obtain rfl:b=s1.heap.objs.size:=by simpa using hb
  exact I1.Kk (Ad _) (I1.hok.fresh (Ad _))
 cases ha:z.cps.all (·<128)
 ·exact wpAny_pyIter_wide ha ⟨s1.heap.objs.size,[s1.heap.objs.size],_,_,H1,rfl,I1.kept (t':=s1.toks) fun b o e=>BC _ e,XA _ "str_iterator" z t (.inr rfl),⟨_,By _ rfl,rfl,rfl⟩,fp,q⟩
 ·exact wpAny_pyIter_ascii ha ⟨s1.heap.objs.size,[s1.heap.objs.size],_,_,H1,rfl,I1.kept (t':=s1.toks) fun b o e=>BC _ e,XA _ "str_ascii_iterator" z t (.inl rfl),⟨_,By _ rfl,rfl,rfl⟩,fp,q⟩
theorem Wk:Bv X (qm .LtE) (fun x y H Q=>∃i j,x=.str i/\y=.str j/\Q (.bl (!decide (j.cps.toList<i.cps.toList))) H):=by intro pins s σ H x y v u Q I rx ry h;obtain⟨i,j,rfl,rfl,q⟩:=h;obtain⟨t,rfl⟩:=rx;obtain⟨t',rfl⟩:=ry;exact P.le_str (CA I q rfl)
def V0:Bv X (rZ .Mult) (fun x y H Q=>∃z k,x=.str z/\y=.int k/\MulOk z k/\Q (.str (Txt.mul z k)) H):=by intro pins s σ H x y v u Q I rx ry h;obtain⟨z,k,rfl,rfl,hm,q⟩:=h;obtain⟨t,rfl⟩:=rx;obtain⟨t',rfl⟩:=ry;exact SB.mul hm fun t'' k'=>⟨.str _,H,I.tok _,⟨_,rfl⟩,q⟩
def Z8(f:Str->Str->Bool):V->List V->Hp->VK->Prop:=fun x vs H Q=>∃z y,x=.str z/\vs=[.str y]/\Q (.bl (f z y)) H
def eI:Hh X "str.startswith" (Z8 Txt.startswith):=by intro pins s σ H x vs v us Q I rx rv h;obtain⟨z,y,rfl,rfl,q⟩:=h;obtain⟨t,rfl⟩:=rx;obtain⟨u,rfl,ru⟩:=rv.one;obtain⟨t',rfl⟩:=ru;exact SC.startswith ⟨.bl _,H,I,rfl,q⟩
def kC:Hh X "str.endswith" (Z8 Txt.endswith):=by intro pins s σ H x vs v us Q I rx rv h;obtain⟨z,y,rfl,rfl,q⟩:=h;obtain⟨t,rfl⟩:=rx;obtain⟨u,rfl,ru⟩:=rv.one;obtain⟨t',rfl⟩:=ru;exact SC.endswith ⟨.bl _,H,I,rfl,q⟩
def Wh:∀l:List (Str×Tok),Vals (l.map fun p=>V.str p.1) (strValues l)
 |[]=>.nil
 |p::r=>.cons ⟨p.2,rfl⟩ (Wh r)
def lW:V->List V->Hp->VK->Prop:=fun x vs H Q=>∃z y,x=.str z/\vs=[.str y]/\(y.length==0)=false/\z.length+2<=sizeLine/\∀D,H D=none->Q (.ref D) (upd H D (.lst ((Txt.split z y).map V.str)))
def PH:Hh X "str.split" lW:=by
 intro pins s σ H x vs v us Q I rx rv h;obtain⟨z,y,rfl,rfl,hy,hz,q⟩:=h;obtain⟨t,rfl⟩:=rx;obtain⟨u,rfl,ru⟩:=rv.one;obtain⟨t',rfl⟩:=ru;have hcut:(Txt.split z y).length<=sizeLine:=by
  have hy1:1<=y.length:=by
   rcases Nat.eq_zero_or_pos y.length with e|e
   ·rw[e] at hy;cases hy
   ·exact e
  have:=Ms z y hy1
  lia
 have fin:∀(l:List (Str×Tok))(tk:Nat),l.map (·.1)=Txt.split z y->EP X pins σ Q (.ref s.heap.objs.size) {s with heap:=s.heap.push {cls:=.type "list",data:=.seq (strValues l).toArray},toks:=tk}:=fun l tk e=>by
  have el:(l.map fun p=>V.str p.1)=(Txt.split z y).map V.str:=by rw[<-e,Bf];rfl
  have hl:(l.map fun p=>V.str p.1).length<=sizeLine:=by rw[el,AK];exact hcut
  refine⟨.ref s.heap.objs.size,_,I.UU (t':=tk) (Wh l) hl,rfl,?_⟩;rw[el];exact q _ I.fresh
 have hn:(Builtin.Str.partsBetween z (Builtin.Str.occurrences z y 0 z.length (z.length+1)) y.length).length<=sizeLine:=by have e1:=StrLaws.occ_length_le z y 0 z.length (z.length+1);rw[length_partsBetween];lia
 by_cases h1:(decide (z.length<y.length)||decide (Builtin.Str.strKind z<Builtin.Str.strKind y))=true
 ·refine JG F.slot_str_split (LM _ _ _) F.entry_str_split (Vb _ _) (meets_str_split_cannot_occur z y t t' h1) ?_;exact fin [(z,t)] s.toks (by unfold Txt.split;rw[AH h1];rfl)
 ·by_cases h2:(Builtin.Str.occurrences z y 0 z.length (z.length+1)).isEmpty=true
  ·refine JG F.slot_str_split (LM _ _ _) F.entry_str_split (Vb _ _) (meets_str_split_not_found z y t t' (by simpa using h1) hy h2) ?_;exact fin [(z,t)] s.toks (by unfold Txt.split;rw[AG h1,AH h2];rfl)
  ·refine JG F.slot_str_split (LM _ _ _) F.entry_str_split (Vb _ _) (meets_str_split_sep z y t t' (by simpa using h1) hy (by simpa using h2) (by lia) hn) ?_;have:=fin (numbered s.toks (Builtin.Str.partsBetween z (Builtin.Str.occurrences z y 0 z.length (z.length+1)) y.length)) (s.toks+(Builtin.Str.partsBetween z (Builtin.Str.occurrences z y 0 z.length (z.length+1)) y.length).length)
    (by rw[numbered_texts];unfold Txt.split;rw[AG h1,AG h2]);rw[<-strsFrom_eq] at this;exact this
def pY:V->Option Int->Option Int->Hp->VK->Prop:=fun x lo hi H Q=>∃z,x=.str z/\z.length<=sizeLine/\Q (.str (Txt.slice z lo hi)) H
def Ln:MH X pY:=by
 intro pins s σ H x v vl vu lo hi sl Q I rx hs pl pu h;obtain⟨z,rfl,hz,q⟩:=h;obtain⟨t,rfl⟩:=rx;refine⟨"str",_,F.slot_str_getitem.lookup,LM _ _ _,?_⟩;have fin:∀t' k,EP X pins σ Q (.str (Txt.slice z lo hi) t') {s with toks:=k}:=fun t' k=>⟨.str _,H,I.tok _,⟨_,rfl⟩,q⟩;have le:=BF (Oo z lo hi) hz
 cases pl with
 |none=>
  cases pu with
  |none=>exact Qn (l:=none) (u:=none) (st:=none) hs rfl (RL ⟨le,fin⟩)
  |int j uj=>exact Qn (l:=none) (u:=some (j,uj)) (st:=none) hs rfl (RL ⟨le,fin⟩)
 |int i ui=>
  cases pu with
  |none=>exact Qn (l:=some (i,ui)) (u:=none) (st:=none) hs rfl (RL ⟨le,fin⟩)
  |int j uj=>exact Qn (l:=some (i,ui)) (u:=some (j,uj)) (st:=none) hs rfl (RL ⟨le,fin⟩)
def eN(hu:X.A.units<rC):Bv X (qm .NotEq) (fun x y H Q=>∃a b xs,x=.ref a/\y=.ref b/\AJ X.K H a xs/\AJ X.K H b []/\Q (.bl (!xs.isEmpty)) H):=by
 intro pins s σ H x y v u Q I rx ry h;obtain⟨a,b,xs,rfl,rfl,ha,hb,q⟩:=h;cases rx;cases ry;obtain⟨AO,r,pl,hz⟩:=I.list ha;obtain⟨its2,r2,pl2,hz2⟩:=I.list hb;cases r2;have hl:=r.length
 cases xs with
 |nil=>cases r;refine SeqAt.RcNeAt.lists (e:=fun _=>true) pl.isList pl2.isList rfl hu (fun j h1=>absurd h1 (by simp)) _ _ _ _ ?_;exact⟨.bl false,H,I,rfl,q⟩
 |cons x xs=>refine SeqAt.RcNeAt.lists_lengths pl.isList pl2.isList ?_ hu _ _ _ _ ⟨.bl true,H,I,rfl,q⟩;cases r;simp
def eM(hu:X.A.units<rC):Bv X (qm .Eq) (fun x y H Q=>∃a b xs,x=.ref a/\y=.ref b/\AJ X.K H a xs/\AJ X.K H b []/\Q (.bl xs.isEmpty) H):=by
 intro pins s σ H x y v u Q I rx ry h;obtain⟨a,b,xs,rfl,rfl,ha,hb,q⟩:=h;cases rx;cases ry;obtain⟨AO,r,pl,hz⟩:=I.list ha;obtain⟨its2,r2,pl2,hz2⟩:=I.list hb;cases r2;have hl:=r.length
 cases xs with
 |nil=>cases r;refine SeqAt.eq_listAt (e:=fun _=>true) pl.isList pl2.isList rfl hu (fun j h1=>absurd h1 (by simp)) ?_;exact⟨.bl true,H,I,rfl,q⟩
 |cons x xs=>refine SeqAt.eq_list_lengthsAt pl.isList pl2.isList ?_ hu ⟨.bl false,H,I,rfl,q⟩;cases r;simp
def iU:DO X (.builtin "isinstance") (fun xs H Q=>∃x c t b,xs=[x,.ty c]/\Bm X.K H x t/\sZ X.K t (.type c)=some b/\Q (.bl b) H):=by intro pins s σ H xs us Q I r h;obtain⟨x,c,t,b,rfl,ty,e,q⟩:=h;obtain⟨u,w',rfl,rx,rc⟩:=vals2 r;cases rc;exact eZ I rx ty e fun tk=>⟨.bl b,H,I.tok _,rfl,q⟩
def XN:∀{cs:List String}{us:List AB},Vals (cs.map V.ty) us->us=cs.map Value.type
 |[],_,.nil=>rfl
 |_::_,_,.cons r t=>by rw[Ay,<-XN t];cases r;rfl
def eJ:DO X (.builtin "isinstance") (fun xs H Q=>∃(x:V)(p:Ya)(cs:List String)(t:AB)(b:Bool),xs=[x,.ref p]/\H p=some (.tup (cs.map V.ty))/\Bm X.K H x t/\kitAny X.K t (cs.map Value.type)=some b/\Q (.bl b) H):=by
 intro pins s σ H xs us Q I r h;obtain⟨x,p,cs,t,b,rfl,hp,ty,e,q⟩:=h;obtain⟨u,w',rfl,rx,rc⟩:=vals2 r;cases rc;obtain⟨_,AO,rv,o,h1,h2,n,h3⟩:=(show BR X.prog X.w H s.heap p (.tup (cs.map V.ty)) from I.hok p _ hp);have ei:=XN rv;subst ei;obtain⟨oc,od,oda,osl⟩:=o;simp only at h2 h3;subst h2 h3;have fin:∀tk,EP X pins σ Q (.bool b) {s with toks:=tk}:=fun tk=>⟨.bl b,H,I.tok _,rfl,q⟩
 cases ty with
 |BB=>cases(show u=Value.none from rx);exact Hq kitx_none I.BV Cz h1 e (fun z=>nomatch z) fin
 |bl y=>cases(show u=Value.bool y from rx);exact Hq kitx_bool I.BV Cz h1 e (fun z=>nomatch z) fin
 |int i=>obtain⟨t,q⟩:=(show∃t,u=Value.int i t from rx);cases q;exact Hq kitx_int I.BV Cz h1 e (fun z=>nomatch z) fin
 |str y=>obtain⟨t,q⟩:=(show∃t,u=Value.str y t from rx);cases q;exact Hq kitx_str I.BV Cz h1 e (fun z=>nomatch z) fin
 |Iu y=>obtain⟨t,q⟩:=(show∃t,u=Value.float y t from rx);cases q;exact Hq kitx_float I.BV Cz h1 e (fun z=>nomatch z) fin
 |@lst a xs ea=>cases(show u=Value.ref a from rx);obtain⟨_,_,n,_,g1⟩:=(show BR X.prog X.w H s.heap a (.lst xs) from I.hok a _ ea);exact Hq Q7 I.BV ⟨_,g1,rfl⟩ h1 e (fun z=>nomatch z) fin
 |@BU a ob xs ea=>cases(show u=Value.ref a from rx);obtain⟨_,_,_,n,_,g1⟩:=(show BR X.prog X.w H s.heap a (.BU ob (.lst xs)) from I.hok a _ ea);exact Hq Q7 I.BV ⟨_,g1,rfl⟩ h1 e (fun z=>nomatch z) fin
 |@tup a xs ea=>cases(show u=Value.ref a from rx);obtain⟨_,_,_,p⟩:=(show BR X.prog X.w H s.heap a (.tup xs) from I.hok a _ ea);obtain⟨o,g1,g2,_⟩:=p;exact Hq kitx_tuple I.BV ⟨o,g1,g2⟩ h1 e (fun z=>nomatch z) fin
 |@dK a AA ea=>cases(show u=Value.ref a from rx);obtain⟨_,_,vs,_,p⟩:=(show BR X.prog X.w H s.heap a (.dK AA) from I.hok a _ ea);obtain⟨o,es,ep,g1,g2,_⟩:=p;exact Hq Q8 I.BV ⟨o,g1,g2.1⟩ h1 e (fun z=>nomatch z) fin
 |@dT a AA ea=>cases(show u=Value.ref a from rx);obtain⟨_,_,xs,_,o,es,ep,g1,g2,_⟩:=(show BR X.prog X.w H s.heap a (.dT AA) from I.hok a _ ea);exact Hq Q8 I.BV ⟨o,g1,g2.1⟩ h1 e (fun z=>nomatch z) fin
 |@ins a C dx fs ea cl ha hn htk hm=>cases(show u=Value.ref a from rx);obtain⟨mA,O,_⟩:=NO I.hok ea;obtain⟨od,J,_⟩:=O.look;exact Hq (kitx_own (cl.get _) cl.hd ha hn htk hm) I.BV J h1 e (fun z=>nomatch z) fin
def all_range(bs:List Bool):∀n:Nat,n=bs.length->(List.range n).all (fun i=>bs.getD i true)=bs.all id:=by
 rintro n rfl;rw[Of,K5,K5];constructor
 ·intro h b hb;obtain⟨i,hi,e⟩:=IQ.mp hb;have:=h i (LA.mpr hi);rw[Cs,Ap hi] at this;rw[<-e];exact this
 ·intro h i hi;have hi':=LA.mp hi;rw[Cs,Ap hi'];exact h _ (Fl hi')
def i7(hc:X.calm=true):DO X (.builtin "all") (fun xs H Q=>∃(p:Ya)(bs:List Bool),xs=[.ref p]/\AJ X.K H p (bs.map V.bl)/\Q (.bl (bs.all id)) H):=by
 intro pins s σ H xs us Q I r h;obtain⟨p,bs,rfl,hq,q⟩:=h;obtain⟨u,rfl,rx⟩:=vals1 r;cases rx;obtain⟨AO,rv,pl,hz⟩:=I.list hq;have hlen:=rv.length;obtain⟨o,ho,hoc,n,hod⟩:=id pl.isList;have ne:p≠s.heap.objs.size:=BN (A1 ho);have hh:X.A.in1.handled=none:=I.ok.hd hc;have tr:TruthOf X.prog X.w X.A.in1 (fun i v=>AO.toArray[i]? =some v) (fun i=>bs.getD i true):=by
  intro i v s' Q' E' hv hQ;have hv':AO[i]? =some v:=by simpa using hv
  have hi:i<AO.length:=(BZ.mp hv').1;rw[AK] at hlen;have hb:bs[i]? =some bs[i]:=Ap (by lia);obtain⟨u',hu',ru⟩:=rv.get (i:=i) (x:=.bl bs[i]) (by rw[A0,hb];rfl);rw[hv'] at hu';cases hu';cases ru;have hQ':Q' (bs.getD i true) s':=hQ;rw[Cs,hb] at hQ';exact Af hQ'
 refine call_all_walk (wpAny_pyIter_list pl.isList ?_);refine⟨s.heap.objs.size,[s.heap.objs.size,p],[s.heap.objs.size],AO.toArray.size,fun i v=>AO.toArray[i]? =some v,fun i h=>h.IsListIter s.heap.objs.size p i/\h.IsList p AO.toArray,fun i=>bs.getD i true,rfl,Walks.list hh _ p ne AO.toArray,
  ⟨⟨_,By _ rfl,rfl,rfl⟩,⟨o,BC _ ho,hoc,n,hod⟩⟩,tr,fun h' tk kk=>?_⟩;rw[all_range bs AO.toArray.size (by rw[AK] at hlen;simp[hlen])];exact⟨.bl _,H,I.kept (fun b ob e=>kk b ob (by simpa using BN (A1 e)) (BC _ e)),rfl,q⟩
section
variable{xs:List V}
def Fy(h:AJ [] H a xs):AJ K H a xs:=h.elim .inl fun⟨_,_,_,e,_⟩=>nomatch e
def L0(h:AX [] H a xs):AX K H a xs:=h.elim .inl fun⟨_,_,_,e,_⟩=>nomatch e
def C2:Hi X (QN []):=fun _ _ _ _ _ _ _ _ _ _ _ I r r' ⟨p,xs,i,v,a,b,q,c⟩=>YQ _ _ _ _ _ _ _ _ _ _ _ I r r' ⟨p,xs,i,v,a,b,Fy q,c⟩
def QH:Hi X (L4 []):=fun _ _ _ _ _ _ _ _ _ _ _ I r r' ⟨p,xs,i,v,a,b,q,c⟩=>kb _ _ _ _ _ _ _ _ _ _ _ I r r' ⟨p,xs,i,v,a,b,L0 q,c⟩
def BA{a:hY}{i:Int}{j}(ha:PE X a ta):PE X (.Subscript a (.Constant (.int i) j p) pos) (Fb (L4 []) ta (tC (.int i))):=CB QH ha Ac fun _ _=>rfl
def Gk{a:hY}{i:Int}{j}(ha:PE X a ta):PE X (.Subscript a (.Constant (.int i) j p) pos) (Fb (QN []) ta (tC (.int i))):=CB C2 ha Ac fun _ _=>rfl
def Bl.mn(r:Bl k A)(h:j<=k:=by lia):Bl j A:=r.mono h
def pF:MH X (bB []):=fun _ _ _ _ _ _ _ _ _ _ _ _ I r a b c ⟨p,xs,e,q,z⟩=>lh _ _ _ _ _ _ _ _ _ _ _ _ I r a b c ⟨p,xs,e,L0 q,z⟩
def Io:MH X (af []):=fun _ _ _ _ _ _ _ _ _ _ _ _ I r a b c ⟨p,xs,e,q,z⟩=>Pb _ _ _ _ _ _ _ _ _ _ _ _ I r a b c ⟨p,xs,e,Fy q,z⟩
def E3:DO X (.builtin "len") (fun xs H Q=>∃p ys,xs=[.ref p]/\(AJ [] H p ys\/AX [] H p ys)/\Q (.int ys.length) H):=
 fun _ _ _ _ _ _ _ I r ⟨p,ys,e,q,z⟩=>IZ _ _ _ _ _ _ _ I r ⟨p,ys,e,q.imp Fy L0,z⟩
def pI:Bv X (qm .In) (Ue [] false):=fun _ _ _ _ _ _ _ _ _ I r r' ⟨p,xs,e,q,z⟩=>fJ _ _ _ _ _ _ _ _ _ I r r' ⟨p,xs,e,q.imp Fy L0,z⟩
def pk(hu:X.A.units<rC):Bv X (qm .Eq) (fun x y H Q=>∃a b xs,x=.ref a/\y=.ref b/\AJ [] H a xs/\AJ [] H b []/\Q (.bl xs.isEmpty) H):=
 fun _ _ _ _ _ _ _ _ _ I r r' ⟨p,b,xs,e,e',q,q',z⟩=>eM hu _ _ _ _ _ _ _ _ _ I r r' ⟨p,b,xs,e,e',Fy q,Fy q',z⟩
def aW{x:V}(h:OC [] T x H):OC K T x H:=by
 cases x;case ref p=>exact h.imp (fun⟨e,xs,q⟩=>⟨e,xs,Fy q⟩) (·.imp (fun⟨_,_,e,_⟩=>nomatch e) id)
 all_goals exact h
def bY(t:TE):TE:=fun σ H Q=>∃Q0:VK,t σ H Q0/\∀v H1,Q0 v H1->Q v H1
def PE.mc{t:TE}(h:PE X e t):PE X e (bY t):=fun pins s σ H Q I ⟨Q0,z,m⟩=>Ae (h pins s σ H Q0 I z) fun _ _ ⟨v,H1,i,r,q⟩=>⟨v,H1,i,r,m _ _ q⟩
end
section
variable{o:hY}{es:List hY}{to:TE}{t:TA}{id:String}
def D4(pa:sq T)(slot:Slot T name id)(hty:typeOf (.builtin id)=pure (.type "method_descriptor"))(hm:N5 X id r)(ho:PE X o to)(ha:PA X (e::es) t)
 (hbase:qy o name X.env (qr o X.env)=qr o X.env:=by rfl)
 (hfew:((q5 cpos (dy (e::es) X.env)).all (fun x=> !x.1)&&(rq cpos (rJ [] X.env)).all (fun x=>x.1.isSome)
  &&decide ((e::es).length+([]:List sO).length+(if([]:List sO).isEmpty then 0 else 1)<30))=true:=by rfl)
 (hline:(apos.endLine==cpos.line)=true:=by rfl)(hs:dy (e::es) X.env=(false,qr e X.env)::dy es X.env:=by rfl)(hplain:(q5 cpos (dy es X.env)).any (·.1)=false:=by rfl):
 PE X (.Call (.Attribute o name apos) (e::es) [] cpos) (Uj [] T r to t):=
 fun pins s σ H Q I h=>JV pa slot hty hm ho.mc ha hbase hfew hline hs hplain pins s σ H Q I ⟨_,h,fun _ _ ⟨y,z⟩=>⟨aW y,z⟩⟩
end
def o5{it:Ya}{tn:Nat->qp->Prop}(T:Turn P w K tg (Hf K a) fp it tn):Turn P w K tg (Hf [] a) fp it tn where
 mem:=T.mem
 obj:=T.obj
 keep:=T.keep
 item:=fun X a1 a2 a3 a4 i pins s σ H E I f t ⟨xs,x,q,e⟩=>DC (T.item X a1 a2 a3 a4 i pins s σ H E I f t ⟨xs,x,Fy q,e⟩) (fun r s1 ⟨u,hu,z⟩=>⟨u,hu,DC z (fun _ s2 ⟨x,H',I',rx,⟨e,y⟩,z⟩=>⟨x,H',I',rx,⟨e,fun xs q=>y xs (Fy q)⟩,z⟩) fun _ _ z=>z⟩) fun _ _ z=>z
 done:=fun X a1 a2 a3 a4 i pins s σ H E I f t ⟨xs,q,e⟩=>T.done X a1 a2 a3 a4 i pins s σ H E I f t ⟨xs,Fy q,e⟩
 self:=T.self
def Fz{l:hY}{tl:TE}(hl:PE X l tl):PI X tg l (Kd [] tl):=fun pins s σ H R I h=>
 Ae (GX (tg:=tg) hl.mc pins s σ H (fun J H1=>∃a,J=Hf X.K a/\R (Hf [] a) H1) I (show Kd X.K (bY tl) σ H _ from⟨_,h,fun _ _ ⟨a,e,⟨xs,q⟩,z⟩=>⟨a,e,⟨xs,Fy q⟩,⟨a,rfl,z⟩⟩⟩)) fun _ _ z=>Ae z fun _ _ ⟨it,fp,tn,_,H',e,i,T,t0,f,a,ej,z⟩=>⟨it,fp,tn,Hf [] a,H',e,i,o5 (ej▸T),t0,f,z⟩
structure Hv(P:ql)(w:qu)(K:uJ)(mg:Str->Option AB)(base:qp)(x:Str)(k:Nat)(ps:List Str)(sp:Sp):Prop where
 ex:∃f fd,AW P w K mg base Ah k f fd ps sp/\Binds K fd ps []/\mg x=some (.ref f)/\rM K (.ref f)=true
section
variable{E:XK}{es:List hY}{t:TA}
def Cb(h:Hv X.prog X.w X.K X.mg X.base x k ps sp)(hr:Bl k X.A)(hg:Gl X x)(hx:Passes Ah X E)(ha:PA X (e::es) t)(hdb:(x==("__debug__" :Str))=false:=by decide)
 (he:dy (e::es) X.env=(false,qr e X.env)::dy es X.env:=by rfl)(hpl:(q5 pos (dy es X.env)).any (·.1)=false:=by rfl):PE X (.Call (.Name x p) (e::es) [] pos) (Ni sp [] E t):=by
 obtain⟨_,_,G,b,m,k⟩:=h.ex;exact CL G hr hg m k b .nil hx ha hdb he hpl
end
inductive Dt where
 |bl (b:Bool)|int (i:Int)|str (x:Str)|lst (xs:List Dt)|tup (xs:List Dt)
mutual
noncomputable def Dt.sz:Dt->Nat
 |.lst xs=>1+Dt.Cq xs
 |.tup xs=>1+Dt.Cq xs
 |_=>1
noncomputable def Dt.Cq:List Dt->Nat
 |[]=>0
 |d::r=>d.sz+Dt.Cq r
end
def Dt.ZD:∀d:Dt,1<=d.sz
 |.lst _=>by unfold Dt.sz;lia
 |.tup _=>by unfold Dt.sz;lia
 |.bl _=>by unfold Dt.sz;lia
 |.int _=>by unfold Dt.sz;lia
 |.str _=>by unfold Dt.sz;lia
def Dt.PQ:∀a b:List Dt,Dt.Cq (a++b)=Dt.Cq a+Dt.Cq b
 |[],b=>by rw[RM];simp[Dt.Cq]
 |d::r,b=>by rw[Mm];simp only[Dt.Cq];rw[Dt.PQ r b];lia
def Dt.KQ:∀a:List Dt,a.length<=Dt.Cq a
 |[]=>by simp
 |d::r=>by
  have h1:=d.ZD;have h2:=Dt.KQ r;simp only[Dt.Cq,CS]
  lia
inductive Rep(H:Hp):Dt->V->Prop where
 |bl (b:Bool):Rep H (.bl b) (.bl b)
 |int (i:Int):Rep H (.int i) (.int i)
 |str (x:Str):Rep H (.str x) (.str x)
 |lst {ds:List Dt} {a:Ya} {xs:List V} (h:H a=some (.lst xs)) (hl:ds.length=xs.length) (r:∀(i:Nat) d x,ds[i]? =some d->xs[i]? =some x->Rep H d x):Rep H (.lst ds) (.ref a)
 |tup {ds:List Dt} {a:Ya} {xs:List V} (h:H a=some (.tup xs)) (hl:ds.length=xs.length) (r:∀(i:Nat) d x,ds[i]? =some d->xs[i]? =some x->Rep H d x):Rep H (.tup ds) (.ref a)
def Rep.same(s:AQ H H'){d:Dt}{x:V}(r:Rep H d x):Rep H' d x:=by
 induction r with
 |bl b=>exact .bl b
 |int i=>exact .int i
 |str x=>exact .str x
 |lst h hl _ ih=>exact .lst (s _ _ h) hl ih
 |tup h hl _ ih=>exact .tup (s _ _ h) hl ih
def AY{o:HO}(h:H a=none):AQ H (upd H a o):=fun b u e=>by rw[AR (A9 e h)];exact e
def AQ.upd{o:HO}(s:AQ H H')(h:H a=none):AQ H (upd H' a o):=fun b u e=>by rw[AR (A9 e h)];exact s b u e
def Gh{c A:Prop}[Decidable c](hc:¬c)(h:A):if(!decide c)=true then A else B:=by rw[BO hc];exact Bo h
def CD{c A:Prop}[Decidable c](hc:c)(h:A):if decide c=true then A else B:=by rw[BW hc];exact Bo h
def CT{c A:Prop}[Decidable c](hc:¬c)(h:B):if decide c=true then A else B:=by rw[BO hc];exact BK h
def KJ(hc:X.calm=true)(hk:scope.kind=.function)(h:scope.names.all (fun p=>p.2 !=.cell&&p.2 !=.free)=true)
 (hn:∀y∈scope.names,y.2=.local->scope.names.lookup y.1=some .local):KU X ts [] [] scope []:=by
 have hall:∀y∈scope.names,y.2≠.cell/\y.2≠.free:=fun y hy=>by have:=K5.mp h y hy;simpa using this
 have er:rh scope X.env=scope:=by
  unfold rh;have:(scope.names.map fun(p:Str×uE)=>if(p.2==NameKind.free&&X.env.scope.kind==.function&&X.env.kindOf p.1==some .cell)=true then(p.1,NameKind.cell) else(p.1,p.2))=scope.names:=by
   refine map_eq_self fun y hy=>?_;have e:(y.2==NameKind.free)=false:=by simpa using(hall y hy).2
   rw[e];rfl
  exact BJ (fun n=>{scope with names:=n}) this
 refine⟨hc,closureFor_none fun y hy=>(hall y hy).2,fun y hy=>(hall y hy).1,hk,hn,fun y c e=>(nomatch e),fun y hy=>?_,rfl,fun i y j e=>absurd e (by simp),fun y hy=>absurd hy (by simp)⟩;rw[er] at hy;rcases hy with hy|hy
 ·exact absurd rfl (hall _ (I8 hy)).1
 ·exact absurd rfl (hall _ (I8 hy)).2
variable{z:Str}
def W6{Q:VK}(Pv:Nat->Hp->Prop)(h0:Pv 0 (upd H1 D (.lst [])))
 (hs:∀i c H,z.cps.toList[i]? =some c->Pv i H->g (.str ⟨#[c]⟩) (ts.map (fun _=>none)++D9 ix σ) H fun σ2 H2=>Ir ts ix σ σ2/\ti σ2 H2 fun b H3=>if b=true then te σ2 H3 fun y H4=>∃ys,H4 D=some (.lst ys)/\ys.length<sizeLine/\Pv (i+1) (upd H4 D (.lst (ys++[y]))) else Pv (i+1) H3)
 (hd:∀H,Pv z.cps.toList.length H->Q (.ref D) H):Lw ts ix σ (Qj z) g ti te D Q H1:=by
 have el:z.cps.toList.length=z.cps.size:=by simp
 rw[el] at hd;refine⟨fun i m H=>m=z.cps.size-i/\i<=z.cps.size/\Pv i H,⟨z.cps.size,by simp,CG _,h0⟩,?_⟩;rintro i m H ⟨rfl,hi,p⟩;by_cases hlt:i<z.cps.size
 ·refine .inr ⟨hlt,Pv (i+1),fun H' p'=>⟨z.cps.size-(i+1),by lia,rfl,hlt,p'⟩,fun x H' y=>?_⟩;obtain⟨e,c,hc,ex⟩:=y;subst e ex;exact hs i c _ (by simpa using hc) p
 ·obtain rfl:i=z.cps.size:=by lia
  exact .inl ⟨Ad _,hd H p⟩
def Ei:([x]++[]:List Str).Nodup:=by simp
noncomputable def Ex(H:Hp)(D:Ya):Hp:=fun b=>if b=D then none else H b
def Ex.upd{o:HO}:Ex (upd H D o) D=Ex H D:=by
 funext b;unfold Ex;by_cases e:b=D
 ·rw[AH e,AH e]
 ·rw[AG e,AG e,AR e]
def Ex.sub:AQ (Ex H D) H:=fun b o e=>by
 unfold Ex at e;by_cases z:b=D
 ·rw[AH z] at e;cases e
 ·rw[AG z] at e;exact e
def Ex.mono(s:AQ H H'):AQ (Ex H D) (Ex H' D):=fun b o e=>by
 unfold Ex at e⊢;by_cases z:b=D
 ·rw[AH z] at e;cases e
 ·rw[AG z] at e⊢;exact s b o e
def Ex.at{o:HO}(h:H b=some o)(n:b≠D):Ex H D b=some o:=by unfold Ex;rw[AG n];exact h
def Ex.of_none(s:AQ H H')(h:H D=none):AQ H (Ex H' D):=fun b o e=>by unfold Ex;rw[AG (A9 e h)];exact s b o e
def Ab(H:Hp)(ds:List Dt)(xs:List V):Prop:=ds.length=xs.length/\∀(i:Nat) d x,ds[i]? =some d->xs[i]? =some x->Rep H d x
def Ab.nil:Ab H [] []:=⟨rfl,fun i d x e=>by simp at e⟩
def Ab.same{H H':Hp}(s:AQ H H'){ds:List Dt}{xs:List V}(r:Ab H ds xs):Ab H' ds xs:=⟨r.1,fun i d x h1 h2=>(r.2 i d x h1 h2).same s⟩
variable{ds:List Dt}
def Ab.snoc{xs:List V}{d:Dt}{x:V}(r:Ab H ds xs)(q:Rep H d x):Ab H (ds++[d]) (xs++[x]):=by
 obtain⟨hl,r⟩:=r;refine⟨by rw[Au,Au,hl];rfl,fun i d' x' h1 h2=>?_⟩;by_cases hi:i<ds.length
 ·rw[C4 hi] at h1;rw[C4 (by lia)] at h2;exact r i d' x' h1 h2
 ·have DI:i<(ds++[d]).length:=(BZ.mp h1).1;rw[Au,CK] at DI;obtain rfl:i=ds.length:=by lia
  rw[Cj (Ad _),EX] at h1;rw[Cj (by lia),<-hl,EX] at h2;simp at h1 h2;subst h1 h2;exact q
def Rep.Fd{xs:List V}(h:H a=some (.lst xs))(r:Ab H ds xs):Rep H (.lst ds) (.ref a):=.lst h r.1 r.2
def Rep.K0{xs:List V}(h:H a=some (.tup xs))(r:Ab H ds xs):Rep H (.tup ds) (.ref a):=.tup h r.1 r.2
noncomputable def QP:hY->Option Str
 |.Constant (.str x) _ _=>some x
 |_=>none
def Kf:List hY->Option (List Str)
 |[]=>some []
 |c::r=>(QP c).bind fun x=>(Kf r).map (x::·)
def jE(h:QP c=some x):∃k p,c=.Constant (.str x) k p:=by
 cases c;case Constant c k p=>
  cases c;case str y=>cases h;exact⟨_,_,rfl⟩
  all_goals cases h
 all_goals cases h
def Zx(xs:List Str):TA:=fun _ H Q=>Q (xs.map V.str) H
def TF{X:Cx}:∀{es:List hY}{xs:List Str},Kf es=some xs->PA X es (Zx xs)
 |[],xs,h=>by have e:xs=[]:=(Ai h).symm;subst e;exact AI
 |c::r,xs,h=>by
  have h':(QP c).bind (fun x=>(Kf r).map (x::·))=some xs:=h
  cases ec:QP c with
  |none=>rw[ec] at h';cases h'
  |some x=>
   cases e:Kf r with
   |none=>rw[ec,e] at h';cases h'
   |some ys=>rw[ec,e] at h';have e2:xs=x::ys:=(Ai h').symm;subst e2;obtain⟨_,_,rfl⟩:=jE ec;exact AE AZ (TF e)
def kM{X:Cx}(i:Nat)(es:List hY)(xs:List Str)(h:Kf es=some xs)(x:Str)(p pos pos':Pos)(hN:X.N.Nodup)(hi:X.N[i]? =some x)(hx:Loc X.env.scope x)(hf:X.fn x=true):
 PS X (.Assign [.Name x pos'] (.List es p) pos) (QC (bA (Zx xs)) (Dy i)):=Av hN hi hx (Bu (@TF X es xs h)) rfl (.inl hf)
def Ia{y:Str}{c:Ya}(hc:X.calm=true)(hk:scope.kind=.function)(h:scope.names.all (fun p=>p.2 !=.cell&&(p.2 !=.free||p.1==y))=true)
 (hn:∀z∈scope.names,z.2=.local->scope.names.lookup z.1=some .local)(hcl:closureFor scope X.env=pure [(y,c)])(hce:X.env.cells.lookup y=some c)(hx:X.env.kindOf y=some .cell)(hj:X.N[j]? =some y)
 (hr:(rh scope X.env).names.lookup y=some .cell):KU X ts [y] [j] scope [(y,c)]:=by
 have hall:∀z∈scope.names,z.2≠.cell/\(z.2=.free->z.1=y):=fun z hz=>by have:=K5.mp h z hz;simp only[D6,Bool.or_eq_true,bne_iff_ne,FE] at this;exact⟨this.1,fun e=>this.2.elim (fun q=>absurd e q) id⟩
 have rel:∀z k,(rh scope X.env).names.lookup z=some k->(k=.cell\/k=.free)->z=y:=fun z k hz hk'=>by
  have hm:=I8 hz;obtain⟨q,hq,e⟩:=BP.mp (show(z,k)∈scope.names.map _ from hm);obtain⟨n,kq⟩:=q;have hq':=hall (n,kq) hq;by_cases hf:kq=.free
  ·have e1:n=y:=hq'.2 hf;have e2:n=z:=by have:=BJ Prod.fst e;revert this;dsimp only;split<;>exact id
   rw[<-e2,e1]
  ·have e3:(n,kq)=(z,k):=by
    rw[<-e];dsimp only;rw[AG (by
     intro zz;have:(kq==NameKind.free)=true:=by simp only[D6] at zz;exact zz.1.1
     exact hf (by simpa using this))]
   have e4:kq=k:=BJ Prod.snd e3;rcases hk' with z1|z1
   ·exact absurd (e4.trans z1) hq'.1
   ·exact absurd (e4.trans z1) hf
 refine⟨hc,hcl,fun z hz=>(hall z hz).1,hk,hn,fun z a e=>?_,fun z hz=>?_,rfl,fun i z k e1 e2=>?_,fun z hz=>?_⟩
 ·by_cases hzy:z=y
  ·rw[hzy] at e⊢;rw[Gw,JB] at e;rw[<-Ai e];exact hce
  ·rw[Gw,K7 hzy] at e;cases e
 ·have e:z=y:=hz.elim (fun q=>rel z _ q (.inl rfl)) fun q=>rel z _ q (.inr rfl);rw[e];exact⟨c,by rw[Gw,JB]⟩
 ·cases i with
  |zero=>
   have e3:z=y:=by simpa using e1.symm
   have e4:k=j:=by simpa using e2.symm
   rw[e3,e4];exact hj
  |succ i=>simp at e1
 ·have e:z=y:=Bj.mp hz;rw[e];exact⟨.inr (.inl hx),(by rw[hx];intro q;cases q),.inl hr⟩
def D5{y:Str}(h:x≠y):([x]++[y]:List Str).Nodup:=by simp[h]
def ZS(a:String)(h:a="list" \/a="tuple"):kitAny K (.type a) (["list","tuple"].map Value.type)=some true:=by rcases h with e|e<;>subst e<;>kernel_rfl
def Sg(a:String)(h:a="str" \/a="int" \/a="bool"):kitAny K (.type a) (["list","tuple"].map Value.type)=some false:=by rcases h with e|e|e<;>subst e<;>kernel_rfl
def Hu(a:String):sZ K (.type a) (.type a)=some true:=by unfold sZ;rw[AH (by simp)]
def Zg:sZ K (.type "list") (.type "tuple")=some false:=by kernel_rfl
def Z7:sZ K (.type "tuple") (.type "list")=some false:=by kernel_rfl
def o6:sZ K (.type "int") (.type "str")=some false:=by kernel_rfl
def nQ:sZ K (.type "bool") (.type "str")=some false:=by kernel_rfl
def Zn:sZ K (.type "int") (.type "bool")=some false:=by kernel_rfl
def Gd:qw "isinstance" =some (.builtin "isinstance"):=by left
def Fs:qw "list" =some (.type "list"):=by left
def SY:qw "tuple" =some (.type "tuple"):=by left
def ZT:qw "str" =some (.type "str"):=by left
def Lg:qw "int" =some (.type "int"):=by left
def Su:qw "bool" =some (.type "bool"):=by left
structure Own(mg:Str->Option AB):Prop where
 Gs:mg "isinstance" =none
 lst:mg "list" =none
 tup:mg "tuple" =none
 str:mg "str" =none
 int:mg "int" =none
 bl:mg "bool" =none
 len:mg "len" =none
 Ku:mg "range" =none
def EV(H H':Hp)(ds:List Dt)(ps:List Ya):Prop:=ds.length=ps.length/\∀(i:Nat) d p,ds[i]? =some d->ps[i]? =some p->∃x y,H' p=some (.tup [x,y])/\Rep H d x/\Rep H d y
def EV.same{ps:List Ya}(k:∀b xs,H1 b=some (.tup xs)->H2 b=some (.tup xs))(s:EV H H1 ds ps):EV H H2 ds ps:=
 ⟨s.1,fun i d p h1 h2=>let⟨x,y,a,b,c⟩:=s.2 i d p h1 h2;⟨x,y,k _ _ a,b,c⟩⟩
def EV.snoc{ps:List Ya}{d:Dt}{p:Ya}{x:V}(s:EV H H1 ds ps)(h:H1 p=some (.tup [x,y]))(rx:Rep H d x)(ry:Rep H d y):EV H H1 (ds++[d]) (ps++[p]):=by
 obtain⟨hl,r⟩:=s;refine⟨by rw[Au,Au,hl];rfl,fun i d' x' h1 h2=>?_⟩;by_cases hi:i<ds.length
 ·rw[C4 hi] at h1;rw[C4 (by lia)] at h2;exact r i d' x' h1 h2
 ·have DI:i<(ds++[d]).length:=(BZ.mp h1).1;rw[Au,CK] at DI;obtain rfl:i=ds.length:=by lia
  rw[Cj (Ad _),EX] at h1;rw[Cj (by lia),<-hl,EX] at h2;simp at h1 h2;subst h1 h2;exact⟨x,y,h,rx,ry⟩
def EV.lN{ps:List Ya}{p:Ya}(s:EV H H1 ds (ps++[p])):∃ds' d x y,ds=ds'++[d]/\EV H H1 ds' ps/\H1 p=some (.tup [x,y])/\Rep H d x/\Rep H d y:=by
 obtain⟨hl,r⟩:=s;rcases List.eq_nil_or_concat ds with e|⟨ds',d,e⟩
 ·subst e;simp at hl
 ·rw[List.concat_eq_append] at e;subst e;have hl':ds'.length=ps.length:=by simpa using hl
  obtain⟨x,y,a,b,c⟩:=r ds'.length d p (by simp) (by rw[hl'];simp);refine⟨ds',d,x,y,rfl,⟨hl',fun i d1 p1 h1 h2=>r i d1 p1 ?_ ?_⟩,a,b,c⟩
  ·rw[C4 (BZ.mp h1).1];exact h1
  ·rw[C4 (BZ.mp h2).1];exact h2
def Inv.WA{xs:List V}(I:Inv X pins σ H s)(hf:∀b∈fp,F0 X pins H b)
 (k:∀b o,b∉fp->s.heap.get? b=some o->h'.get? b=some o)(th:∀b∈fp,∃o,h'.get? b=some o)(rv:Vals xs us)(hz:xs.length<=sizeLine)(ht:IsTup h' s.heap.objs.size us.toArray):
 Inv X pins σ (upd H s.heap.objs.size (.tup xs)) {s with heap:=h',toks:=t'}:=by
 have hn:H s.heap.objs.size=none:=I.hok.fresh (Ad _);have nt:∀b o,s.heap.get? b=some o->b≠s.heap.objs.size:=fun b o e=>BN (A1 e);have tf:∀b u,H b=some u->b∉fp:=fun b u e z=>by rw[(hf b z).1] at e;cases e
 have tn:∀b u,H b=some u->b≠s.heap.objs.size:=fun b u e z=>by rw[z,hn] at e;cases e
 refine I.step (g':=s.gens) (d':=s.drawn) (ch:=fp) (fun b hb=>?_) (fun b o _ _ hc e _=>k b o hc e) (fun b o _ _ hc e _=>⟨o.slots,k b o hc e⟩) (fun b o _ e n=>by rw[AR (nt b o e)];exact n)
  (fun b o hc e=>⟨o,k b o hc e⟩) (fun b ys e=>by rw[AR (tn _ _ e)];exact e) (fun b o u e=>by rw[AR (tn _ _ e)];exact e) (fun b ps e=>⟨#[],by rw[AR (tn _ _ e),e];simp⟩) (fun m hm=>?_) (fun b u e=>?_) I.bare
 ·obtain⟨_,f1,_,f3,f4,f5⟩:=hf b hb;exact⟨f3,f1,f4,f5⟩
 ·obtain⟨o,es,ep,ho,r⟩:=hm;exact⟨o,es,ep,k _ o (fun z=>(hf _ z).2.1 rfl) ho,r⟩
 ·by_cases hb:b=s.heap.objs.size
  ·subst hb;rw[AM] at e;cases e;exact⟨hz,us,rv,ht⟩
  ·rw[AR hb] at e;refine(I.hok b u e).Ec (fun c v hc q=>k c v ?_ q) (fun c q=>?_) fun c ys q=>?_
   ·rcases hc with z|z
    ·rw[z];exact tf b u e
    ·exact tf c _ z
   ·rw[AR (tn _ _ q)];exact q
   ·rw[AR (tn _ _ q)];exact q
def MB(K:uJ)(a:Ya):It:=
 ⟨fun i H=>∃xs x,AJ K H a xs/\xs[i]? =some x,fun i H v H'=>∃p,v=.ref p/\H p=none/\∀xs,AJ K H a xs->∃x,xs[i]? =some x/\H'=upd H p (.tup [.int i,x]),fun i H=>∃xs,AJ K H a xs/\xs.length<=i⟩
variable{elts:List hY}{tpos:Pos}
def fC{x1:Nat}(a e it:Ya)(hne:e≠it):
 Turn P w K (.Tuple elts x1 tpos) (MB K a) [e,it] e (fun i h=>(∃old,IsEnum h e it i old)/\h.IsListIter it a i) where
 mem:=by simp
 obj:=fun i h st b hb=>by
  obtain⟨⟨old,he⟩,o,ho,hc,hd⟩:=st;have hb':b=e\/b=it:=by simpa using hb
  rcases hb' with z|z
  ·subst z;exact⟨_,he,fun v q=>by have q':Data.fields _=Data.cell v:=q;cases q'⟩
  ·subst z;exact⟨o,ho,fun v q=>by rw[hd] at q;cases q⟩
 keep:=fun i h h' st k=>by obtain⟨⟨old,he⟩,hi⟩:=st;exact⟨⟨old,k e (by simp) _ he⟩,hi.at fun o z=>k it (by simp) o z⟩
 item:=by
  intro X hP hw hK hc i pins s σ H E I hf st hg;subst hP hw hK;obtain⟨⟨old,he⟩,hi⟩:=st;obtain⟨xs,x,hq,hx⟩:=hg;obtain⟨AO,rv,p,hz⟩:=I.list hq;obtain⟨u,hu,ru⟩:=rv.get hx;have hn:H s.heap.objs.size=none:=I.hok.fresh (Ad _);have le:e<s.heap.objs.size:=A1 he;obtain⟨oi,hoi,_⟩:=id hi;refine wpAny_pyNext_enum_item he hi p.isList (x:=u) (by simpa using hu) hne fun h1 eo i1 t1 z1 k1=>⟨_,rfl,?_⟩;refine wpAny_letOwnedTupleGo_enum eo fun h2 e2 sb=>?_;have sb':Heap.SameBut e h1 h2:=sb;have k2:∀b o,b∉[e,it]->s.heap.get? b=some o->h2.get? b=some o:=fun b o hb z=>by
   have hb':b≠e/\b≠it:=by simpa using hb
   exact(sb'.2 b hb'.1).trans (k1 b o hb'.1 hb'.2 z)
  have i2:h2.IsListIter it a (i+1):=by obtain⟨o,z,r⟩:=i1;exact⟨o,(sb'.2 it (DL hne)).trans z,r⟩
  have t2:IsTup h2 s.heap.objs.size [Value.int i s.toks,u].toArray:=⟨_,(sb'.2 _ (Eo le)).trans t1,rfl,_,rfl⟩;have I2:=I.WA (h':=h2) (t':=s.toks+1) (xs:=[.int i,x]) hf k2 (fun b hb=>by
   have hb':b=e\/b=it:=by simpa using hb
   rcases hb' with z|z
   ·rw[z];exact⟨_,e2⟩
   ·rw[z];obtain⟨o,z,_⟩:=i2;exact⟨o,z⟩) (.cons ⟨_,rfl⟩ (.cons ru .nil)) (by show 2<=sizeLine;decide) t2;refine⟨.ref s.heap.objs.size,_,I2,rfl,⟨_,rfl,hn,fun ys hy=>⟨x,by rw[I.Wu hy hq];exact hx,rfl⟩⟩,⟨⟨u,?_⟩,i2⟩,fun b hb=>?_⟩
  ·have:IsEnum h2 e it ((i:Int)+1) u:=e2;exact this
  ·have hb':b≠s.heap.objs.size:=by
    have hb2:b=e\/b=it:=by simpa using hb
    rcases hb2 with z|z
    ·rw[z];exact BN le
    ·rw[z];exact BN (A1 hoi)
   rw[AR hb'];exact(hf b hb).1
 done:=by intro X hP hw hK hc i pins s σ H E I hf st hg;subst hP hw hK;obtain⟨⟨old,he⟩,hi⟩:=st;obtain⟨xs,hq,hx⟩:=hg;obtain⟨AO,rv,p,hz⟩:=I.list hq;obtain⟨f0,f1,f2,f3,f4,f5⟩:=hf it (by simp);have hl:=rv.length;exact wpAny_pyNext_enum_end (I.ok.hd hc) he hi p.isList (by simp;lia) fun h' eb=>⟨rfl,I.turned (t':=s.toks) (fun b o hb e=>eb b o hb e) f0 f1 f3 f4 f5⟩
 self:=fun _ _ _ _ _ st h=>by obtain⟨⟨old,he⟩,_⟩:=st;exact wpAny_pyIter_enum he h
def oz(K:uJ)(ta:TA):TI:=fun σ H R=>ta σ H fun vs H1=>∃a,vs=[.ref a]/\(∃xs,AJ K H1 a xs)/\R (MB K a) H1
def YB{x1:Nat}{a:hY}{ta:TA}(hg:Gl X "enumerate")(hm:X.mg "enumerate" =none)(ha:PA X [a] ta)(hs:dy [a] X.env=[(false,qr a X.env)]:=by rfl):
 PI X (.Tuple elts x1 tpos) (.Call (.Name "enumerate" p) [a] [] pos) (oz X.K ta):=by
 intro pins s σ H R I h;refine Call_ (Nh I hg hm boot_enumerate (U7 (Ae (ha pos pins s σ H _ I h) fun us s1 ⟨vs,H1,I1,r1,q1⟩=>?_) hs rfl));obtain⟨l,e,⟨xs,hq⟩,q⟩:=q1;subst e;obtain⟨u,rfl,ru⟩:=vals1 r1;cases ru;obtain⟨AO,rv,p,hz⟩:=I1.list hq;refine call_enumerate_list p.isList fun h' he hi hsz kk=>wpAny_pyIter_enum he ?_;refine⟨s1.heap.objs.size+1,[s1.heap.objs.size+1,s1.heap.objs.size],_,_,H1,rfl,I1.kept (t':=s1.toks) kk,fC l _ _ (Eo (Ml _)),⟨⟨_,he⟩,hi⟩,fun b hb=>?_,q⟩;have hb':b=s1.heap.objs.size+1\/b=s1.heap.objs.size:=by simpa using hb
 rcases hb' with z|z
 ·rw[z];exact I1.Kk (Ep _) (I1.hok.fresh (Ep _))
 ·rw[z];exact I1.Kk (Ad _) (I1.hok.fresh (Ad _))
def i4{xs:List V}{D:Ends}(Pv:Nat->St->Hp->Prop)(h0:Pv 0 σ H)(hl:∀i σ H,i<=xs.length->Pv i σ H->AJ K H a xs)
 (hs:∀i x p σ H,xs[i]? =some x->H p=none->Pv i σ H->g (.ref p) σ (upd H p (.tup [.int i,x])) fun σ2 H2=>tb {D with nx:=Pv (i+1),ct:=Pv (i+1),bk:=D.nx} σ2 H2)(hd:∀σ H,Pv xs.length σ H->D.nx σ H):
 ∃W:Nat->Nat->St->Hp->Prop,(∃m,W 0 m σ H)/\∀i m σ H,W i m σ H->
  ((MB K a).stop i H/\D.nx σ H)\/((MB K a).go i H/\∃N:St->Hp->Prop,(∀σ' H',N σ' H'->∃m',m'<m/\W (i+1) m' σ' H')/\∀x H',(MB K a).Jq i H x H'->g x σ H' fun σ2 H2=>tb {D with nx:=N,ct:=N,bk:=D.nx} σ2 H2):=by
 refine⟨fun i m σ H=>m=xs.length-i/\i<=xs.length/\Pv i σ H,⟨xs.length,by simp,CG _,h0⟩,?_⟩;rintro i m σ H ⟨rfl,hi,p⟩;have q:=hl i σ H hi p;by_cases hlt:i<xs.length
 ·refine .inr ⟨⟨xs,xs[i],q,by simp[hlt]⟩,Pv (i+1),fun σ' H' p'=>⟨xs.length-(i+1),by lia,rfl,hlt,p'⟩,fun v H' y=>?_⟩;obtain⟨pa,ev,hp,y⟩:=y;obtain⟨x,hx,eH⟩:=y xs q;subst ev eH;exact hs i x pa σ H hx hp p
 ·obtain rfl:i=xs.length:=by lia
  exact .inl ⟨⟨xs,q,Ad _⟩,hd σ H p⟩
def KV.vals{κ:Type}:∀{AA:List (κ×V)}{ws:List (κ×AB)},KV AA ws->Vals (AA.map (·.2)) (ws.map (·.2))
 |_,_,.nil=>.nil
 |_,_,.cons r t=>.cons r.2 (KV.vals t)
def cz(r:Vals (ns.map V.int) us){v:AB}(e:us[i]? =some v):∃t,v=.int (ns.getD i 0) t:=by have hl:=r.length;rw[AK] at hl;have hi:i<us.length:=(BZ.mp e).1;have hn:ns[i]? =some ns[i]:=Ap (by lia);obtain⟨u,hu,t,et⟩:=r.get (i:=i) (x:=.int ns[i]) (by rw[A0,hn];rfl);rw[e] at hu;cases hu;rw[Cs,hn];exact⟨t,et⟩
noncomputable def HY(p d:Ya):HO:=.ext fun h=>h.IsValuesView p d
def kO:V->List V->Hp->VK->Prop:=fun x vs H Q=>∃d AA,x=.ref d/\vs=[]/\H d=some (.dK AA)/\∀p,H p=none->Q (.ref p) (upd H p (HY p d))
def WY:Hh X "dict.values" kO:=by intro pins s σ H x vs v us Q I rx rv h;obtain⟨d,AA,rfl,rfl,hd,q⟩:=h;cases rx;cases rv;obtain⟨z,hm,ws,rel,dd⟩:=Jd I.hok hd;refine Om U9 dd.typeIs PySem.F.entry_dict_values (PySem.F.args_dict_values_1 _) (meets_dict_values (Cd X.prog X.w) d hm) ⟨⟨ws,dd⟩,?_⟩;refine⟨.ref s.heap.objs.size,_,I.laid (t':=s.toks) (o:=HY s.heap.objs.size d) (fun b o e=>BC _ e) (Ad _) ?_,rfl,q _ I.fresh⟩;have hv:(s.heap.push {cls:=.type "dict_values",data:=.fields #[.ref d]}).IsValuesView s.heap.objs.size d:=⟨_,By _ rfl,rfl,rfl⟩;exact⟨hv,⟨_,By _ rfl⟩,fun h1 h2 a k=>let⟨o,e,r⟩:=a;⟨o,k o e,r⟩⟩
def gD(hc:X.calm=true):DO X (.builtin "min") (fun xs H Q=>∃(p d:Ya)(AA:List (Key×V))(ns:List Int),xs=[.ref p]/\H p=some (HY p d)/\H d=some (.dK AA)/\AA.map (·.2)=ns.map V.int/\ns≠[]/\
 ∀m,m∈ns->(∀n∈ns,m<=n)->Q (.int m) H):=by
 intro pins s σ H xs us Q I r h;obtain⟨p,d,AA,ns,rfl,hp,hd,hv,hne,q⟩:=h;obtain⟨u,rfl,rx⟩:=vals1 r;cases rx;obtain⟨z,hm,ws,rel,dd⟩:=Jd I.hok hd;obtain⟨hvw,_⟩:=(show BR X.prog X.w H s.heap p (HY p d) from I.hok p _ hp);have hvw':s.heap.IsValuesView p d:=hvw;obtain⟨ep,da⟩:=dd.dictAt;have hh:X.A.in1.handled=none:=I.ok.hd hc;have rv:=KV.vals rel;rw[hv] at rv;have hlen:ws.length=ns.length:=by
  have h1:=rv.length;rw[AK,AK] at h1
  lia
 have vi:∀(i:Nat)(v:AB),(∃k:Key,ws[i]? =some (k,v))->∃t,v=.int (ns.getD i 0) t:=fun i v ⟨k,e⟩=>cz rv (by rw[A0,e];rfl);obtain⟨od,_,hod,_⟩:=id da;have nd:d≠s.heap.objs.size:=BN (A1 hod);have np:0<ns.length:=List.length_pos_iff.mpr hne;refine call_min_walk (wpAny_pyIter_values hvw' da ?_);refine⟨s.heap.objs.size,[s.heap.objs.size,d],[s.heap.objs.size],ws.length,fun i v=>∃k:Key,ws[i]? =some (k,v),_,fun i j=>decide (ns.getD i 0<ns.getD j 0),rfl,Walks.dictValues hh _ d nd ws ep,
  ⟨⟨_,By _ rfl,rfl,rfl⟩,da.at' fun o e=>BC _ e⟩,fun b hb=>?_,by lia,CmpOf.ints_lt (fun i=>ns.getD i 0) vi,fun v h' tk hP kk=>?_⟩
 ·have hb':b=s.heap.objs.size\/b=d:=by simpa using hb
  rw[Gx];rcases hb' with e|e
  ·rw[e];exact Ml _
  ·rw[e];exact OY (A1 hod)
 ·obtain⟨a1,a2⟩:=argBest_lt (fun i=>ns.getD i 0) (ws.length-1);obtain⟨t,et⟩:=vi _ v hP;generalize argBest (fun i j=>decide (ns.getD i 0<ns.getD j 0)) (ws.length-1)=ix at a1 a2 et;subst et;have hix:ix<ns.length:=by lia
  refine⟨.int (ns.getD ix 0),H,I.kept (fun b ob e=>kk b ob (by simpa using BN (A1 e)) (BC _ e)),⟨t,rfl⟩,q _ ?_ fun n hn=>?_⟩
  ·rw[Cs,Ap hix];exact Fl hix
  ·obtain⟨j,hj,e⟩:=IQ.mp hn;have:=a2 j (by lia);have ej:ns.getD j 0=n:=by rw[Cs,Ap hj];exact e
   rw[<-ej];exact this
section
open PySem.W
section
variable(r:Nat->Nat)
noncomputable def QZ(i j:Nat):Bool:=decide (r i<r j)
end
structure N0(α:Type) where
 lt:α->α->Bool
 bu:∀a,lt a a=false
 tr:∀a b c,lt a b=true->lt b c=true->lt a c=true
 BI:∀a b,lt a b=false->lt b a=false->a=b
noncomputable def JS{α:Type}(O:N0 α)(l:List α)(a:α):Nat:=l.countP fun b=>O.lt b a
def Rf{α:Type}{p q:α->Bool}:∀{l:List α},(∀x∈l,p x=true->q x=true)->l.countP p<=l.countP q
 |[],_=>Ad _
 |x::r,h=>by
  have ih:=Rf (l:=r) fun y hy=>h y (DJ _ hy);rw[Jy,Jy];have hx:=h x DR
  cases e1:p x with
  |false=>simp;lia
  |true=>rw[hx e1];simp;lia
def Vh{α:Type}{p q:α->Bool}:∀{l:List α}{a:α},a∈l->(∀x∈l,p x=true->q x=true)->p a=false->q a=true->l.countP p<l.countP q
 |x::r,a,ha,h,h1,h2=>by
  rw[Jy,Jy];rcases Be.mp ha with e|e
  ·subst e;have ih:=Rf (l:=r) fun y hy=>h y (DJ _ hy);rw[h1,h2];simp
   lia
  ·have ih:=Vh e (fun y hy=>h y (DJ _ hy)) h1 h2;have hx:=h x DR
   cases e1:p x with
   |false=>simp;lia
   |true=>rw[hx e1];simp;lia
def PV(O:N0 α)(l:List α){a b:α}(ha:a∈l):O.lt a b=decide (JS O l a<JS O l b):=by
 cases e:O.lt a b with
 |true=>have:JS O l a<JS O l b:=Vh ha (fun x _ hx=>O.tr x a b hx e) (O.bu a) e;rw[BW this]
 |false=>
  have:JS O l b<=JS O l a:=Rf fun x _ hx=>by
   cases e2:O.lt b a with
   |true=>exact O.tr x b a hx e2
   |false=>rw[O.BI a b e e2];exact hx
  rw[BO (by lia)]
noncomputable def LZ(h:qp)(a:Ya)(vs:List AB):qp:=((h.update a (Obj.mapSeq fun _=> #[])).push (rA "tuple" vs.toArray 0)).push (rA "list" #[] 0)
noncomputable def Fx(vs:List AB)(p:List Nat):List AB:=p.map fun i=>vs.getD i Value.none
def Nv(prog:ql)(w:qu)(A:rV)(vs:List AB)(r:Nat->Nat)(s3:Yf):Prop:=
 bt (ax prog w) A (keyKind' vs.toArray) (fun κ s'=>s'=s3/\∀i j C,i<vs.length->j<vs.length->C (QZ r i j) s3->kas_ask prog w A κ vs i j C s3) (fun _ _=>False) s3
noncomputable def EU:Key->Key->Bool
 |.inl i,.inl j=>decide (i<j)
 |.inr x,.inr y=>decide (x.cps.toList<y.cps.toList)
 |.inl _,.inr _=>true
 |.inr _,.inl _=>false
def Vi{a b:Str}(h:a.cps.toList=b.cps.toList):a=b:=by cases a;cases b;congr 1;exact J0.mp h
def YC:∀a,EU a a=false
 |.inl i=>BO (by lia)
 |.inr x=>BO (List.lt_irrefl _)
def ZU:∀a b c,EU a b=true->EU b c=true->EU a c=true
 |.inl i,.inl j,.inl k,h1,h2=>BW (Int.lt_trans (IT h1) (IT h2))
 |.inl _,.inl _,.inr _,_,_=>rfl
 |.inl _,.inr _,.inr _,_,_=>rfl
 |.inr x,.inr y,.inr z,h1,h2=>BW (List.lt_trans (IT h1) (IT h2))
 |.inl _,.inr _,.inl _,_,h2=>by cases h2
 |.inr _,.inl _,_,h1,_=>by cases h1
 |.inr _,.inr _,.inl _,_,h2=>by cases h2
def YU:∀a b,EU a b=false->EU b a=false->a=b
 |.inl i,.inl j,h1,h2=>by
  have e1:¬i<j:=Qy h1;have e2:¬j<i:=Qy h2;have e:i=j:=by lia
  rw[e]
 |.inr x,.inr y,h1,h2=>by have e1:¬x.cps.toList<y.cps.toList:=Qy h1;have e2:¬y.cps.toList<x.cps.toList:=Qy h2;rw[Vi (List.le_antisymm (List.not_lt.mp e2) (List.not_lt.mp e1))]
 |.inl _,.inr _,h1,_=>by cases h1
 |.inr _,.inl _,_,h2=>by cases h2
def DY:List Key->List Key->Bool
 |[],[]=>false
 |[],_::_=>true
 |_::_,[]=>false
 |a::r,b::t=>if a=b then DY r t else EU a b
def Xn:∀a,DY a a=false
 |[]=>rfl
 |a::r=>by show(if a=a then DY r r else EU a a)=false;rw[AH rfl];exact Xn r
def YX:∀a b c,DY a b=true->DY b c=true->DY a c=true
 |[],[],_,h,_=>by cases h
 |[],_::_,[],_,h=>by cases h
 |[],_::_,_::_,_,_=>rfl
 |_::_,[],_,h,_=>by cases h
 |_::_,_::_,[],_,h=>by cases h
 |a::r,b::t,c::u,h1,h2=>by
  have h1':(if a=b then DY r t else EU a b)=true:=h1;have h2':(if b=c then DY t u else EU b c)=true:=h2;show(if a=c then DY r u else EU a c)=true;by_cases e1:a=b
  ·rw[AH e1] at h1';by_cases e2:b=c
   ·rw[AH e2] at h2';rw[AH (e1.trans e2)];exact YX r t u h1' h2'
   ·rw[AG e2] at h2';rw[AG (by rw[e1];exact e2),e1];exact h2'
  ·rw[AG e1] at h1';by_cases e2:b=c
   ·rw[AH e2] at h2';rw[AG (by rw[<-e2];exact e1),<-e2];exact h1'
   ·rw[AG e2] at h2';have h3:=ZU a b c h1' h2';by_cases e3:a=c
    ·rw[e3,YC] at h3;cases h3
    ·rw[AG e3];exact h3
def XT:∀a b,DY a b=false->DY b a=false->a=b
 |[],[],_,_=>rfl
 |[],_::_,h,_=>by cases h
 |_::_,[],_,h=>by cases h
 |a::r,b::t,h1,h2=>by
  have h1':(if a=b then DY r t else EU a b)=false:=h1;have h2':(if b=a then DY t r else EU b a)=false:=h2;by_cases e:a=b
  ·rw[AH e] at h1';rw[AH e.symm] at h2';rw[e,XT r t h1' h2']
  ·rw[AG e] at h1';rw[AG (fun z=>e z.symm)] at h2';exact absurd (YU a b h1' h2') e
def lexOrd:N0 (List Key):=⟨DY,Xn,YX,XT⟩
noncomputable def kd:Key->Bool
 |.inl _=>true
 |.inr _=>false
def mK{a b:Key}{v:AB}(ha:RelV (kV a) u)(hb:RelV (kV b) v)(h:kd a=kd b){Q:Bool->Yf->Prop}(q:Q (decide (a=b)) s):bt (ax prog w) A (eqBool u v) Q E s:=by
 match a,b,h with
 |.inl i,.inl j,_=>obtain⟨t,rfl⟩:=ha;obtain⟨t',rfl⟩:=hb;refine SeqAt.EqAt.int_int i t j t' prog w E Q ?_;rw[<-ZV];exact q
 |.inr x,.inr y,_=>obtain⟨t,rfl⟩:=ha;obtain⟨t',rfl⟩:=hb;refine SeqAt.EqAt.str_str x t y t' prog w E Q ?_;rw[Y1] at q;rw[Bool.beq_eq_decide_eq];exact q
 |.inl _,.inr _,h=>cases h
 |.inr _,.inl _,h=>cases h
def km{a b:Key}{v:AB}(ha:RelV (kV a) u)(hb:RelV (kV b) v)(h:kd a=kd b)(c:Bool){Q:Bool->Yf->Prop}(q:Q (EU a b) s):bt (ax prog w) A (oneLt' c u v) Q E s:=by
 match a,b,h with
 |.inl i,.inl j,_=>
  obtain⟨t,rfl⟩:=ha;obtain⟨t',rfl⟩:=hb
  cases c with
  |true=>exact oneLt_int q
  |false=>exact kat_one _ _ (lt_int q)
 |.inr x,.inr y,_=>
  obtain⟨t,rfl⟩:=ha;obtain⟨t',rfl⟩:=hb
  cases c with
  |true=>exact oneLt_str q
  |false=>exact kat_one _ _ (lt_str q)
 |.inl _,.inr _,h=>cases h
 |.inr _,.inl _,h=>cases h
def ZP{c:Bool}{Q:Bool->Yf->Prop}:∀(ks ls:List Key)(us vs:List AB)(i:Nat),Vals (ks.map kV) us->Vals (ls.map kV) vs->ks.map kd=ls.map kd->Q (DY ks ls) s->KatLex prog w A c false Q (us.zip vs) i s
 |[],[],_,_,_,.nil,.nil,_,q=>q
 |[],_::_,_,_,_,_,_,h,_=>by cases h
 |_::_,[],_,_,_,_,_,h,_=>by cases h
 |a::ks,b::ls,_,_,i,.cons ra rs,.cons rb rt,h,q=>by
  have h1:kd a=kd b:=VD h;have h2:ks.map kd=ls.map kd:=List.tail_eq_of_cons_eq h;refine kat_cons (mK ra rb h1 ?_);have q':Q (if a=b then DY ks ls else EU a b) s:=q;by_cases e:a=b
  ·rw[BW e];rw[AH e] at q';exact kat_yes (ZP ks ls _ _ (i+1) rs rt h2 q')
  ·rw[BO e];rw[AG e] at q';exact kat_no (km ra rb h1 _ q')
def ZF(h:qp)(ps:List (Ya×List Key)):Prop:=∀p∈ps,∃us:List AB,Vals (p.2.map kV) us/\IsTup h p.1 us.toArray
def V5{h:qp}:∀{ps:List (Ya×List Key)},ZF h ps->(∀p∈ps,p.2≠[])->∃fs:List AB,KatTups h (ps.map fun p=>Value.ref p.1) fs/\fs.length=ps.length/\∀v∈fs,∃p∈ps,∃a r,p.2=a::r/\RelV (kV a) v
 |[],_,_=>⟨[],KatTups.nil,rfl,fun v hv=>by cases hv⟩
 |p::ps,ht,hne=>by
  obtain⟨fs,t,hl,hf⟩:=V5 (ps:=ps) (fun q hq=>ht q (DJ _ hq)) fun q hq=>hne q (DJ _ hq);obtain⟨us,rv,o,h1,h2,n,h3⟩:=ht p DR
  cases e:p.2 with
  |nil=>exact absurd e (hne p DR)
  |cons a r=>
   rw[e] at rv
   cases rv with
   |@cons _ u _ us' ra rr=>
    refine⟨u::fs,KatTups.cons h1 h2 h3 (by simp) t,by rw[CS,CS,hl],fun v hv=>?_⟩;rcases Be.mp hv with z|z
    ·rw[z];exact⟨p,DR,a,r,e,ra⟩
    ·obtain⟨q,hq,x⟩:=hf v z;exact⟨q,DJ _ hq,x⟩
noncomputable def FT(ps:List (Ya×List Key))(i:Nat):List Key:=(ps.getD i (0,[])).2
def Kt(ps:List (Ya×List Key))(i:Nat):Nat:=JS lexOrd (ps.map (·.2)) (FT ps i)
def Wa{ps:List (Ya×List Key)}(h:i<ps.length):FT ps i∈ps.map (·.2):=by unfold FT;rw[Cs,Ap h];exact BP.mpr ⟨ps[i],Fl h,rfl⟩
def iG{ps:List (Ya×List Key)}{sh:List Bool}(ht:ZF s.heap ps)(hsh:∀p∈ps,p.2.map kd=sh)(hne:sh≠[])(h2:2<=ps.length):
 Nv prog w A (ps.map fun p=>Value.ref p.1) (Kt ps) s:=by
 have hne':∀p∈ps,p.2≠[]:=fun p hp e=>hne (by rw[<-hsh p hp,e];rfl);obtain⟨fs,t,hl,hf⟩:=V5 ht hne';obtain⟨c,cr,ec⟩:∃c cr,sh=c::cr:=by
  cases sh with
  |nil=>exact absurd rfl hne
  |cons c cr=>exact⟨c,cr,rfl⟩
 have go:∀T:AB,(∀v∈fs,Looks (ax prog w) s.heap (typeOf v) T)->(T==T)=true->(T !=Value.type "tuple")=true->Nv prog w A (ps.map fun p=>Value.ref p.1) (Kt ps) s:=fun T hT e1 e2=>by
  refine kat_kind t (by lia) hT e1 ⟨rfl,fun i j C hi hj q=>?_⟩;rw[AK] at hi hj;rw[e2];unfold kas_ask;have gi:∀k,k<ps.length->(ps.map fun p=>Value.ref p.1).getD k Value.none=Value.ref (ps.getD k (0,[])).1:=fun k hk=>by rw[Cs,A0,Ap hk,Cs,Ap hk];rfl
  have mi:∀k,k<ps.length->ps.getD k (0,[])∈ps:=fun k hk=>by rw[Cs,Ap hk];exact Fl hk
  rw[gi i hi,gi j hj];obtain⟨us,ru,ox,x1,x2,nx,x3⟩:=ht _ (mi i hi);obtain⟨vs,rv,oy,y1,y2,ny,y3⟩:=ht _ (mi j hj);have hs:(ps.getD i (0,[])).2.map kd=(ps.getD j (0,[])).2.map kd:=by rw[hsh _ (mi i hi),hsh _ (mi j hj)]
  refine kat_lt x1 x3 y1 y3 ?_;have el:decide (us.toArray.size<vs.toArray.size)=false:=by
   have l1:=ru.length;have l2:=rv.length;have l3:=BJ List.length hs;rw[AK] at l1 l2;rw[AK,AK] at l3;refine BO ?_;rw[Cc,Cc]
   lia
  rw[el];refine ZP _ _ us vs 0 ru rv hs ?_;have e3:=PV lexOrd (ps.map (·.2)) (a:=FT ps i) (b:=FT ps j) (Wa hi);have e4:QZ (Kt ps) i j=DY (FT ps i) (FT ps j):=e3.symm;rw[e4] at q;exact q
 cases c with
 |true=>
  refine go (.type "int") (fun v hv=>?_) (by decide) (by decide);obtain⟨p,hp,a,r,e,ra⟩:=hf v hv;have:=hsh p hp;rw[e,ec] at this
  match a,VD this with
  |.inl i,_=>obtain⟨t,rfl⟩:=ra;exact Looks.of_pure rfl
 |false=>
  refine go (.type "str") (fun v hv=>?_) (by decide) (by decide);obtain⟨p,hp,a,r,e,ra⟩:=hf v hv;have:=hsh p hp;rw[e,ec] at this
  match a,VD this with
  |.inr i,_=>obtain⟨t,rfl⟩:=ra;exact Looks.of_pure rfl
def V7:∀{ps:List (Ya×List Key)}{us:List AB},Vals (ps.map fun p=>V.ref p.1) us->us=ps.map fun p=>Value.ref p.1
 |[],_,.nil=>rfl
 |_::_,_,.cons r t=>by rw[Ay,<-V7 t];cases r;rfl
def Vz:∀ps:List (Ya×List Key),Vals (ps.map fun p=>V.ref p.1) (ps.map fun p=>Value.ref p.1)
 |[]=>.nil
 |_::r=>.cons rfl (Vz r)
def NN:∀{xs:List V}{us:List AB},xs.length=us.length->(∀(i:Nat) x u,xs[i]? =some x->us[i]? =some u->RelV x u)->Vals xs us
 |[],[],_,_=>.nil
 |x::xs,u::us,hl,h=>.cons (h 0 x u rfl rfl) (NN (by simpa using hl) fun i x u h1 h2=>h (i+1) x u (by simpa using h1) (by simpa using h2))
 |[],_::_,hl,_=>by cases hl
 |_::_,[],hl,_=>by cases hl
def L8(a b:Str):Bool:=EU (Sum.inr a) (Sum.inr b)
def Gg:N0 Str:=⟨L8,fun a=>YC _,fun a b c=>ZU _ _ _,fun a b h1 h2=>Sum.inr.inj (YU _ _ h1 h2)⟩
def MC(zs:List Str)(i:Nat):Nat:=JS Gg zs (zs.getD i "")
end
variable{zs:List Str}
section
open PySem.W
def Li(r:Vals (zs.map V.str) us)(hk:k<zs.length):∃t,us.getD k Value.none=.str (zs.getD k "") t:=by
 have e:(zs.map V.str)[k]? =some (V.str (zs.getD k "")):=by rw[A0,Ap hk,Cs,Ap hk];rfl
 obtain⟨u,hu,t,ht⟩:=r.get e;exact⟨t,by rw[Cs,hu];exact ht⟩
def XZ(hk:k<zs.length):zs.getD k ""∈zs:=by rw[Cs,Ap hk];exact Fl hk
def iF(r:Vals (zs.map V.str) us)(h2:2<=us.length):Nv prog w A us (MC zs) s:=by
 have hl:zs.length=us.length:=by rw[<-r.length,AK]
 refine kas_kind (T:=.type "str") h2 (fun v hv=>?_) (by decide) (by decide) ⟨rfl,fun i j C hi hj q=>?_⟩
 ·obtain⟨k,hk,e⟩:=IQ.mp hv;obtain⟨t,et⟩:=Li r (k:=k) (by lia);rw[Cs,Ap hk] at et;have:v=.str (zs.getD k "") t:=by rw[<-e];exact et
  rw[this];exact Looks.of_pure rfl
 ·unfold kas_ask;obtain⟨t1,e1⟩:=Li r (k:=i) (by lia);obtain⟨t2,e2⟩:=Li r (k:=j) (by lia);rw[e1,e2];refine kas_lt_str ?_;have e3:=PV Gg zs (a:=zs.getD i "") (b:=zs.getD j "") (XZ (by lia));have e4:QZ (MC zs) i j=decide ((zs.getD i "").cps.toList<(zs.getD j "").cps.toList):=e3.symm;rw[e4] at q;exact q
def kW(K:uJ):List V->Hp->VK->Prop:=fun xs H Q=>∃(l:Ya)(zs:List Str),xs=[.ref l]/\AJ K H l (zs.map V.str)/\zs.length<64/\
 ∀(D:Ya)(ys:List Str),H D=none->ys.Perm zs->ys.Pairwise (fun a b=>L8 b a=false)->Q (.ref D) (upd H D (.lst (ys.map V.str)))
def TN:List V->Hp->VK->Prop:=fun xs H Q=>∃(d:Ya)(AA:List (Key×V)),xs=[.ref d]/\H d=some (.dK AA)/\∀l,H l=none->Q (.ref l) (upd H l (.lst (AA.map fun kv=>kV kv.1)))
def LL(hc:X.calm=true):DO X (.type "list") TN:=by
 intro pins s σ H xs us Q I r h;obtain⟨d,AA,rfl,hd,q⟩:=h;obtain⟨u,rfl,rx⟩:=vals1 r;cases rx;obtain⟨z,hm,ws,rel,dd⟩:=Jd I.hok hd;obtain⟨ep,da⟩:=dd.dictAt;have hh:X.A.handled=none:=I.ok.hd hc;have hlen:=rel.length;refine kdl_call (kdl_dict hm) hh da (by lia) fun h' tk acc' c' kp e hacc=>?_;have hv:Vals (AA.map fun kv=>kV kv.1) acc'.toList:=by
  refine NN (by have h1:acc'.toList.length=acc'.size:=En;have h2:=hacc.1;rw[AK];lia) fun i x u h1 h2=>?_;rw[GB] at h2;obtain⟨k,y,ek,is⟩:=hacc.2 i u h2;have hk:(AA.map (·.1))[i]? =some k:=by rw[rel.keys,A0,ek];rfl
  have hx:(AA.map fun kv=>kV kv.1)[i]? =some (kV k):=by rw[show(AA.map fun kv=>kV kv.1)=(AA.map (·.1)).map kV by rw[Bf];rfl,A0,hk];rfl
  rw[hx] at h1;cases Ai h1;have is':JX k u=true:=is;rcases GJ is' with⟨i,t,rfl,rfl⟩|⟨z,t,rfl,rfl⟩
  ·exact⟨t,rfl⟩
  ·exact⟨t,rfl⟩
 refine⟨.ref s.heap.objs.size,_,I.laid (t':=tk) (o:=.lst (AA.map fun kv=>kV kv.1)) kp (Ad _) ⟨by rw[AK];lia,acc'.toList,c',hv,by rw[Array.toArray_toList];exact e⟩,rfl,q _ I.fresh⟩
end
def kN{a b:Str}(h:a.cps.toList=b.cps.toList):a=b:=by
 cases a with
 |mk x=>
 cases b with
 |mk y=>
 have:x=y:=by apply Array.ext';exact h
 rw[this]
def O5(a b:Str):(a++b).cps.toList=a.cps.toList++b.cps.toList:=by show(a.cps++b.cps).toList=_;simp
def Hx(a b:Str):(a++b).length=a.length+b.length:=by show(a.cps++b.cps).size=_;simp[Str.length]
def O7{c:TT}{t u v:TS}{D:Ends}(G:St->Hp->Prop)(hG:∀σ H,G σ H->v D σ H)(h:(∀σ H,G σ H->v D σ H)->Hb c t u {D with nx:=v D} σ H):Jg (Hb c t u) v D σ H:=h hG
noncomputable def Cr:List Nat->List (List Nat)
 |[]=>[[]]
 |c::r=>if c=32 then[]::Cr r else(c::(Cr r).headD [])::(Cr r).tail
noncomputable def jn:List (List Nat)->List Nat
 |[]=>[]
 |[a]=>a
 |a::b::r=>a++32::jn (b::r)
def ZR:∀l,Cr l≠[]
 |[],h=>by cases h
 |c::r,h=>by
  unfold Cr at h;by_cases e:c=32
  ·rw[AH e] at h;cases h
  ·rw[AG e] at h;cases h
def NF:∀p r:List Nat,Cr (p++32::r)=Cr p++Cr r
 |[],r=>by show(if(32:Nat)=32 then _ else _)=_;rw[AH rfl];rfl
 |c::p,r=>by
  show(if c=32 then[]::Cr (p++32::r) else(c::(Cr (p++32::r)).headD [])::(Cr (p++32::r)).tail)=(if c=32 then[]::Cr p else(c::(Cr p).headD [])::(Cr p).tail)++_;rw[NF p r];by_cases e:c=32
  ·rw[AH e,AH e];rfl
  ·rw[AG e,AG e]
   cases h:Cr p with
   |nil=>exact absurd h (ZR p)
   |cons a b=>rfl
def SD:∀p:List Nat,32∉p->Cr p=[p]
 |[],_=>rfl
 |c::p,h=>by show(if c=32 then _ else _)=_;rw[AG fun e=>h (by rw[e];exact DR),SD p fun z=>h (DJ _ z)];rfl
def Tr:∀L:List (List Nat),L≠[]->(∀p∈L,32∉p)->Cr (jn L)=L
 |[],h,_=>absurd rfl h
 |[a],_,h=>SD a (h a DR)
 |a::b::r,_,h=>by show Cr (a++32::jn (b::r))=_;rw[NF,SD a (h a DR),Tr (b::r) (List.cons_ne_nil _ _) fun p hp=>h p (DJ _ hp)];rfl
def Yb:∀(l:List Nat),∀p∈Cr l,p.length<=l.length
 |[],p,h=>by rw[Bj.mp h];exact Ad _
 |c::r,p,h=>by
  have ih:=Yb r;have h:p∈(if c=32 then[]::Cr r else(c::(Cr r).headD [])::(Cr r).tail):=h;rw[CS]
  cases e:Cr r with
  |nil=>exact absurd e (ZR r)
  |cons a b=>
   rw[e] at ih h;have ia:=ih a DR;by_cases z:c=32
   ·rw[AH z] at h;rcases Be.mp h with y|y
    ·rw[y];exact CG _
    ·have:=ih p y;lia
   ·rw[AG z] at h;rcases Be.mp h with y|y
    ·rw[y];show a.length+1<=_
     lia
    ·have:=ih p (DJ _ y);lia
def LN(x:Str):x.cps.toList.length=x.length:=by simp[Str.length]
def blank_eq:(" " :Str)=⟨#[32]⟩:=by left
def Rj:∀parts:List Str,(Str.join ⟨#[32]⟩ parts).cps.toList=jn (parts.map (·.cps.toList))
 |[]=>rfl
 |[a]=>rfl
 |a::b::r=>by show(a++⟨#[32]⟩++Str.join ⟨#[32]⟩ (b::r)).cps.toList=_;rw[O5,O5,Rj (b::r),Bb];rfl
def Wq:∀A B:List Str,A.map (·.cps.toList)=B.map (·.cps.toList)->A=B
 |[],[],_=>rfl
 |[],_::_,h=>nomatch h
 |_::_,[],h=>nomatch h
 |a::A,b::B,h=>by obtain⟨h1,h2⟩:=Gy h;rw[kN h1,Wq A B h2]
def Vn(t:Str):(Txt.split t " ").map (·.cps.toList)=Cr t.cps.toList:=by
 have h1:=StrLaws.join_split t ⟨#[32]⟩;have h2:=StrLaws.split_free t 32;have h3:=split_pos t ⟨#[32]⟩;rw[blank_eq];conv=>rhs;rw[<-h1,Rj]
 refine(Tr _ (fun z=>?_) fun p hp=>?_).symm
 ·rw[OS.mp z] at h3;cases h3
 ·obtain⟨q,hq,rfl⟩:=BP.mp hp;exact h2 q hq
def T7(l:List Nat):Prop:=∀p∈Cr l,p.length≠7
instance (l:List Nat):Decidable (T7 l):=inferInstanceAs (Decidable (∀p∈Cr l,p.length≠7))
structure OB(l:List Nat):Prop where
 ok:T7 l
 lst:l=[]\/∃r,l=r++[32]
def Ys:∀k,T7 (List.replicate k 32)
 |0=>by decide
 |k+1=>fun p hp=>by
  have hp:p∈[]::Cr (List.replicate k 32):=hp;rcases Be.mp hp with e|e
  ·rw[e];decide
  ·exact Ys k p e
def OB.add{l w:List Nat}(h:OB l)(hw:T7 w)(k:Nat):OB (l++w++List.replicate (k+1) 32):=by
 have e1:l++w++List.replicate (k+1) 32=(l++w)++32::List.replicate k 32:=by rw[List.replicate_succ]
 refine⟨fun p hp=>?_,.inr ⟨l++w++List.replicate k 32,by rw[Bb _ _ [32],List.replicate_succ']⟩⟩;rw[e1,NF] at hp;rcases Bk.mp hp with z|z
 ·rcases h.lst with e|⟨r,e⟩
  ·rw[e] at z;exact hw p z
  ·rw[e,Bb,show[32]++w=32::w from rfl,NF] at z;rcases Bk.mp z with y|y
   ·refine h.ok p ?_;rw[e,NF];exact GC _ y
   ·exact hw p y
 ·exact Ys k p z
def WN(n:Int):(Txt.mul " " n).cps.toList=List.replicate n.toNat 32:=by rw[blank_eq];exact mul_one_list 32 n
def cg(n:Int)(h0:0<=n)(h:n<=10):MulOk " " n:=mulOk_of 1 10 (by left) (by lia) (by lia) (by decide) (by decide)
def Vf(n:Int):(Txt.mul " " n).length=n.toNat:=by have h:=BJ List.length (WN n);rw[List.length_replicate] at h;simpa[Str.length] using h
def GV(xs:List α)(n:Nat)(hn:xs.length=n)(h0:0<n)(i:Int):∃v∈xs,Gm xs (i%(n:Int))=some v:=by
 have h1:0<=i%(n:Int):=Mn _ (by lia);have h2:i%(n:Int)<n:=MY _ (by lia);have e:i%(n:Int)=((i%(n:Int)).toNat:Int):=by lia
 have hl:(i%(n:Int)).toNat<xs.length:=by lia
 refine⟨xs[(i%(n:Int)).toNat],Fl hl,?_⟩;have:=Bt (xs:=xs) (j:=(i%(n:Int)).toNat) (v:=xs[(i%(n:Int)).toNat]) (Ap hl);rw[<-e] at this;exact this
def ZI:Sp:=fun vs H Q _=>∃a p m:Int,vs=[.int a,.int p,.int m]/\0<p/\0<m/\∀z:Int,Q (.int z) H
def Zv:Sp:=fun vs H Q _=>∃s:Int,vs=[.int s]/\∀z:Str,z.length=3->Q (.str z) H
def sought:List Str:=["oak","oaks","elm","cat","[]","[a]","Oak","oa","elmelmelm"]
def XQ:Sp:=fun vs H Q _=>vs=[]/\∀(p:Ya)(H':Hp),AQ H H'->H' p=some (.tup (sought.map V.str))->Q (.ref p) H'
def XC:Sp:=fun vs H Q _=>∃c k:Int,vs=[.int c,.int k]/\∀(z:Str)(H':Hp),z.length<=1000/\T7 z.cps.toList->AQ H H'->Q (.str z) H'
def ke:Az ["_law_number","_law_prime","_law_many"] ["_law_number","_law_prime","_law_many"] (Ao P8):=by left
def j6(F:Aj K "_law_draw" "_law_draw" P8 f fd):AW P w K mg base Ah 1 f fd ["_law_number","_law_prime","_law_many"] ZI:=by
 refine F.ok ke ?_ ?_
 ·rintro _ _ _ _ ⟨_,_,_,rfl,_⟩;rfl
 ·rintro _ A _ s H _ Q E hr ⟨a,p,m,rfl,hp,hm,q⟩;refine⟨_,AU (An (Ag Bx (Ag Bx (Ag Pt (pv 0) Ac) (pv 1)) (pv 2))),?_⟩;exact⟨_,rfl,_,_,rfl,rfl,.inr ⟨by decide,by decide⟩,_,rfl,_,_,rfl,rfl,hp,_,rfl,_,_,rfl,rfl,hm,q _⟩
noncomputable def bf:Str:="abcdefghijklmnopqrstuvwxyzABCDEFGHIJKLMNOPQRSTUVWXYZ0123456789"
noncomputable def bM:Str:="!#$&()*+,-./:;<=>?\x40[]^_`{|}~'"
def N4:Str:=bf++bM
def T8:Az ["_law_spot","_law_signs"] ["_law_spot"] (Ao QF):=by left
def UA:("w" :Str).length=1:=by left
def Yi:N4.cps.toList.length=91:=by left
def k6(F:Aj K "_law_odd_word" "_law_odd_word" QF f fd):AW P w K mg base Ah 1 f fd ["_law_spot"] Zv:=by
 refine F.ok T8 ?_ ?_
 ·rintro _ _ _ _ ⟨_,rfl,_⟩;rfl
 ·rintro _ A _ s H _ Q E hr ⟨i,rfl,q⟩;refine⟨_,AS (Av (i:=1) T8.nd rfl (Aa rfl) AZ) (AS (Av (i:=1) T8.nd rfl (Aa rfl) (Ag FC (pv 1) AZ))
   (AU (An (Ag FC (Ag FC AZ (CB Pl (pv 1) (Ag Bx (pv 0) Ac) (fun _ _=>rfl))) (CB Pl (pv 1) (Ag Bx (Ag JL (pv 0) Ac) Ac) (fun _ _=>rfl)))))),?_⟩;refine⟨_,rfl,bf,bM,rfl,rfl,by left,?_⟩;obtain⟨v1,_,e1⟩:=GV N4.cps.toList 91 Yi (by decide) i;obtain⟨v2,_,e2⟩:=GV N4.cps.toList 91 Yi (by decide) (i/91);refine⟨_,rfl,_,rfl,_,_,rfl,rfl,(by show(0:Int)<91;decide),N4,_,v1,rfl,rfl,by left,e1,_,_,rfl,rfl,by rw[UA];show 1+1<=sizeLine;decide,?_⟩;refine⟨_,rfl,_,rfl,_,_,rfl,rfl,⟨by decide,by decide⟩,_,_,rfl,rfl,(by show(0:Int)<91;decide),N4,_,v2,rfl,rfl,by left,e2,_,_,rfl,rfl,by rw[Hx,UA];show 1+1+1<=sizeLine;decide,?_⟩;exact q _ (by rw[Hx,Hx,UA];rfl)
def TB:List hY:=match(Ft NG).getD 0 (.Pass ⟨0,0,0,0⟩) with|.Return (some (.Tuple v _ _)) _=>v|_=>[]
def d6:Kf TB=some sought:=by left
def gP:Az [] [] (Ao NG):=by left
def eY(F:Aj K "_law_sought" "_law_sought" NG f fd):AW P w K mg base Ah 1 f fd [] XQ:=by
 refine F.ok gP ?_ ?_
 ·rintro _ _ _ _ ⟨rfl,_⟩;rfl
 ·rintro _ A _ s H _ Q E hr ⟨rfl,q⟩;refine⟨_,@AU _ _ _ (@An _ _ _ _ (@CJ _ TB _ _ _ (@TF _ TB sought d6))),?_⟩;exact⟨by show 9<=sizeLine;decide,fun p hp=>q p _ (AY hp) AM⟩
noncomputable def T1:List Str:=["oak","[a]","elm","[b]","ash","[cat]","oak","[catalogue]","[]","a[b]","[zed]","Oak"]
def nP:List Str:=["oaks","oa","elmelmelm","oakum"]
def menu:List Str:=T1++nP
def ik:menu.length=16:=by left
def dU:∀z∈menu,z.length<=11/\T7 z.cps.toList:=by left
def aT:List hY:=match(Ft Pc).getD 0 (.Pass ⟨0,0,0,0⟩) with|.Assign _ (.List v _) _=>v|_=>[]
def jU:Kf aT=some T1:=by left
def HF:Az ["_law_cell","_law_k","_law_menu","_law_rest","_law_text","_law_left","_law_j","_law_word"] ["_law_cell","_law_k"] (Ao Pc):=by left
def fz{fD fO:Ya}{fdD fdO:qo}(F:Aj K "_law_penned" "_law_penned" Pc f fd)(O:Own mg)
 (FD:Aj K "_law_draw" "_law_draw" P8 fD fdD)(bD:Binds K fdD ["_law_number","_law_prime","_law_many"] [])(mD:mg "_law_draw" =some (.ref fD))
 (FO:Aj K "_law_odd_word" "_law_odd_word" QF fO fdO)(bO:Binds K fdO ["_law_spot"] [])(mO:mg "_law_odd_word" =some (.ref fO)):AW P w K mg base Ah 2 f fd ["_law_cell","_law_k"] XC:=by
 have GD:AW P w K mg base Ah 1 fD fdD ["_law_number","_law_prime","_law_many"] ZI:=j6 FD;have GO:AW P w K mg base Ah 1 fO fdO ["_law_spot"] Zv:=k6 FO;refine F.ok HF ?_ ?_
 ·rintro _ _ _ _ ⟨_,_,rfl,_⟩;rfl
 ·rintro _ A _ s H _ Q E hr ⟨c,k,rfl,q⟩;refine⟨_,@AS _ _ _ _ _ (@kM _ 2 aT T1 jU _ _ _ _ HF.nd rfl (Aa rfl) rfl)
   (AS (Av (i:=2) HF.nd rfl (Aa rfl) (Ag FK (pv 2) (Bu (AE AZ (AE AZ (AE AZ (AE AZ AI)))))))
   (AS (Av (i:=3) HF.nd rfl (Aa rfl) (Ag JL (pv 0) Ac))
   (AS (Av (i:=4) HF.nd rfl (Aa rfl) (CB C2 (Bu (AE AZ (AE AZ AI))) (Ag Bx (pv 3) Ac) (fun _ _=>rfl)))
   (AS (Av (i:=5) HF.nd rfl (Aa rfl) (CL GD hr rfl mD FD.kp bD .nil A3 (AE (Ag DD (pv 0) (Ag Pt Ac (pv 1))) (AE Ac (AE Ac AI)))))
   (AS (EJ EG rfl (Rt rfl O.Ku (AE (CB C2 (Bu (AE (Ag Bx (Ag DD (pv 3) (pv 1)) Ac) (AE Ac AI))) (Er M5 rfl O.int Lg (AE (Ic Ba (Ag Bx (pv 0) Ac) Ac (Ar _)) AI)) (fun _ _=>rfl)) AI)) (Bh (i:=6) HF.nd rfl (Aa rfl))
    (AS (Av (i:=7) HF.nd rfl (Aa rfl) (CB C2 (pv 2) (Ag Bx (Ag DD (Ag DD (pv 5) (Ag Pt Ac (pv 6))) (pv 1)) Ac) (fun _ _=>rfl)))
    (AS (A7 (Ax Ba (Ag Bx (Ag DD (pv 5) (pv 6)) Ac) Ac (Ar _)) (AU (Av (i:=7) HF.nd rfl (Aa rfl) (CL GO hr rfl mO FO.kp bO .nil A3 (AE (Ag DD (pv 5) (pv 3)) AI)))) BG)
    (AS (Av (i:=4) HF.nd rfl (Aa rfl) (Ag FC (Ag FC (pv 4) (pv 7)) (Ag V0 AZ (CB C2 (Bu (AE Ac (AE Ac (AE Ac (AE Ac (AE Ac AI)))))) (Ag Bx (Ag DD (pv 5) (pv 6)) Ac) (fun _ _=>rfl)))))
    (AU (Av (i:=5) HF.nd rfl (Aa rfl) (Ag JL (pv 5) Ac)))))))
   (AU (An (pv 4)))))))),?_⟩;refine⟨by show 12<=sizeLine;decide,fun m0 hm0=>⟨_,rfl,by show 4<=sizeLine;decide,fun l4 hl4=>?_⟩⟩;have n04:m0≠l4:=A9 AM hl4;refine⟨m0,l4,_,_,rfl,rfl,(by rw[AR n04];exact AM),AM,by show 16<=sizeLine;decide,fun m hm=>?_⟩;generalize hHm:upd (upd (upd H m0 _) l4 _) m _=Hm;have hmn:H m=none:=((AY hm0).trans (AY hl4)).free hm;have sM:AQ H Hm:=by rw[<-hHm];exact(((AQ.refl H).upd hm0).upd ((AY hm0).free hl4)).upd hmn
  have mM:Hm m=some (.lst (menu.map V.str)):=by rw[<-hHm];exact AM
  refine⟨_,rfl,_,_,rfl,rfl,⟨by decide,by decide⟩,by show 2<=sizeLine;decide,fun l2 hl2=>?_⟩;obtain⟨v0,hv0,e0⟩:=GV [V.str "",V.str " "] 2 rfl (by decide) (c/16);have s2:AQ Hm (upd Hm l2 (.lst [V.str "",V.str " "])):=AY hl2;have ht0:∃t0:Str,v0=.str t0/\t0.length<=1/\OB t0.cps.toList:=by
   rcases Be.mp hv0 with e|e
   ·exact⟨"",e,by left,by left,.inl rfl⟩
   ·exact⟨" ",by simpa using e,by left,by left,.inr ⟨[],by left⟩⟩
  obtain⟨t0,rfl,hl0,hb0⟩:=ht0;refine⟨_,rfl,_,_,rfl,rfl,(by show(0:Int)<2;decide),l2,_,_,.str t0,rfl,rfl,AJ.of AM,e0,?_⟩;refine⟨_,rfl,_,rfl,_,_,rfl,rfl,.inl ⟨by decide,by decide⟩,_,_,rfl,rfl,_,_,_,rfl,by decide,by decide,fun left0=>?_⟩;have mM2:=s2 _ _ mM;have sM2:=sM.trans s2;generalize upd Hm l2 (.lst [V.str "",V.str " "])=H2 at mM2 sM2;refine⟨_,rfl,_,rfl,_,_,rfl,rfl,_,_,rfl,rfl,(by show(0:Int)<7;decide),by show 2<=sizeLine;decide,fun l3 hl3=>?_⟩;have hm7:0<=(c/16+k)%7/\(c/16+k)%7<7:=⟨Mn _ (by decide),MY _ (by decide)⟩;have s3:AQ H2 (upd H2 l3 (.lst [V.int ((c/16+k)%7),V.int 24])):=AY hl3;have hev:∀b:Bool,∃nn:Int,0<=nn/\nn<=24/\Gm [V.int ((c/16+k)%7),V.int 24] (if b=true then 1 else 0)=some (.int nn):=fun b=>by
   cases b with
   |false=>exact⟨((c/16+k)%7),hm7.1,by lia,rfl⟩
   |true=>exact⟨24,by decide,by decide,rfl⟩
  obtain⟨nn,hn0,hn24,en⟩:=hev (decide (V.int (c%37)=V.int 4));refine⟨_,rfl,_,_,rfl,rfl,(by show(0:Int)<37;decide),rfl,.inr ⟨_,rfl,l3,_,_,.int nn,rfl,rfl,AJ.of AM,en,nn,rfl,by lia,by lia,?_⟩⟩;have mM3:=s3 _ _ mM2;have sM3:=sM2.trans s3;refine O0 (lo:=0) (n:=nn.toNat) (fun i σ H'=>∃(t:Str)(left:Int)(v6 v7:Option V),σ=[some (.int c),some (.int k),some (.ref m),some (.int (c/16)),some (.str t),some (.int left),v6,v7]/\AQ (upd H2 l3 (.lst [V.int ((c/16+k)%7),V.int 24])) H'/\t.length<=1+16*i/\OB t.cps.toList)
   ⟨t0,left0,none,none,rfl,AQ.refl _,by lia,hb0⟩ ?_ ?_
  ·rintro i σ H' hi ⟨t,left,v6,v7,rfl,sm,tl,tb⟩;obtain⟨vw,hvw,ew⟩:=GV (menu.map V.str) 16 (by rw[AK];exact ik) (by decide) (left+5*(0+(i:Int))+k);obtain⟨wd,hwd,rfl⟩:=BP.mp hvw;have hwl:=dU wd hwd;refine⟨_,rfl,_,rfl,_,rfl,_,_,rfl,rfl,.inl ⟨by decide,by decide⟩,_,_,rfl,rfl,_,rfl,_,_,rfl,rfl,_,_,rfl,rfl,(by show(0:Int)<16;decide),m,_,_,.str wd,rfl,rfl,AJ.of (sm _ _ mM3),ew,?_⟩;dsimp only[Dy];refine O7 (fun σ H2=>∃wd:Str,(wd.length<=11/\T7 wd.cps.toList)/\σ=[some (.int c),some (.int k),some (.ref m),some (.int (c/16)),some (.str t),some (.int left),some (.int (0+(i:Int))),some (.str wd)]/\H2=H') ?_ ?_
   ·rintro σ H2 ⟨wd,⟨hwl,h7⟩,rfl,rfl⟩;obtain⟨vb,hvb,eb⟩:=GV [V.int 1,V.int 1,V.int 1,V.int 2,V.int 5] 5 rfl (by decide) (left+(0+(i:Int)));have hb:∃nb:Int,vb=.int nb/\1<=nb/\nb<=5:=by simp only[Be,JC,KN] at hvb;rcases hvb with e|e|e|e|e<;>exact⟨_,e,by decide,by decide⟩
    obtain⟨nb,rfl,hb0,hb5⟩:=hb;refine⟨_,rfl,_,rfl,t,wd,rfl,rfl,by rw[Aw];lia,by show 5<=sizeLine;decide,fun l5 hl5=>?_⟩;refine⟨_,rfl,_,rfl,_,_,rfl,rfl,_,_,rfl,rfl,(by show(0:Int)<5;decide),l5,_,_,.int nb,rfl,rfl,AJ.of AM,eb," ",nb,rfl,rfl,cg nb (by lia) (by lia),t++wd,_,rfl,rfl,by rw[Hx,Vf,Aw];lia,?_⟩;exact⟨_,rfl,_,_,rfl,rfl,⟨by decide,by decide⟩,_,_,_,_,rfl,sm.trans (AY hl5),by rw[Hx,Hx,Vf];lia,by rw[O5,O5,WN,show nb.toNat=(nb.toNat-1)+1 by lia];exact tb.add h7 _⟩
   ·intro hG;refine⟨_,rfl,_,rfl,_,_,rfl,rfl,_,_,rfl,rfl,(by show(0:Int)<13;decide),rfl,_,rfl,F1 (fun _=>?_) (fun _=>?_)⟩
    ·exact⟨_,rfl,_,rfl,_,_,rfl,rfl,_,rfl,fun z hz=>hG _ _ ⟨z,⟨by lia,fun p hp=>by have:=Yb _ p hp;rw[LN] at this;lia⟩,rfl,rfl⟩⟩
    ·exact hG _ _ ⟨wd,hwl,rfl,rfl⟩
  ·rintro σ H' ⟨t,left,v6,v7,rfl,sm,tl,tb⟩;exact⟨_,rfl,q t H' ⟨by lia,tb.ok⟩ (sM3.trans sm)⟩
inductive Am where
 |write (n t:Str)|rename (n o:Str)|join (n o:Str)|cut (n:Str) (p:Int) (o:Str)|drop (n:Str)|text (n:Str)|back (o:Str)|find (ws:List Str) (far:Int)
noncomputable def Am.dt:Am->Dt
 |.write n t=>.tup [.str "write",.str n,.str t]
 |.rename n o=>.tup [.str "rename",.str n,.str o]
 |.join n o=>.tup [.str "join",.str n,.str o]
 |.cut n p o=>.tup [.str "cut",.str n,.int p,.str o]
 |.drop n=>.tup [.str "drop",.str n]
 |.text n=>.tup [.str "text",.str n]
 |.back o=>.tup [.str "back",.str o]
 |.find ws far=>.tup [.str "find",.tup (ws.map Dt.str),.int far]
def Am.Good:Am->Prop
 |.write n t=>n.length<=40/\t.length<=1000
 |.rename n o=>n.length<=40/\o.length<=40
 |.join n o=>n.length<=40/\o.length<=40
 |.cut n _ o=>n.length<=40/\o.length<=40
 |.drop n=>n.length<=40
 |.text n=>n.length<=40
 |.back o=>o.length<=40
 |.find ws _=>ws.length<=9/\∀z∈ws,z.length<=9
def Am.Kx:Am->Prop
 |.write n t=>n.length≠5/\T7 t.cps.toList
 |.rename _ o=>o.length≠5
 |.cut _ _ o=>o.length≠5
 |_=>True
abbrev L5(n:Str):Prop:=n.length<=40/\n.length≠5
def YI:Sp:=fun vs H Q _=>∃(a:Ya)(ns:List Int),vs=[.ref a]/\AJ [] H a (ns.map V.int)/\ns.length<=63/\
 ∀(L:Ya)(ds:List Am)(xs:List V)(H':Hp),AQ H H'->H L=none->H' L=some (.lst xs)->Ab (Ex H' L) (ds.map Am.dt) xs->ds.length=ns.length->(∀d∈ds,d.Good/\d.Kx)->Q (.ref L) H'
structure LI(H H':Hp)(nm M:Ya)(xs:List V)(ds:List Am):Prop where
 same:AQ H H'
 Ql:H' nm=some (.lst [.str "a",.str "b",.str "cat",.str "catalogue"])
 Dm:H' M=some (.lst xs)
 Uq:H M=none
 ne:nm≠M
 rep:Ab (Ex H' M) (ds.map Am.dt) xs
 good:∀d∈ds,d.Good/\d.Kx
def LI.ext{nm M:Ya}{xs:List V}{ds:List Am}(h:LI H H' nm M xs ds)(s:AQ H' H2):LI H H2 nm M xs ds:=
 ⟨h.same.trans s,s _ _ h.Ql,s _ _ h.Dm,h.Uq,h.ne,h.rep.same (Ex.mono s),h.good⟩
def LI.new{nm M l:Ya}{o:HO}{xs:List V}{ds:List Am}(h:LI H H' nm M xs ds)(hl:H' l=none):LI H (upd H' l o) nm M xs ds:=h.ext (AY hl)
def LI.push{nm M:Ya}{xs:List V}{ds:List Am}{d:Am}{x:V}(h:LI H H' nm M xs ds)(r:Rep (Ex H' M) d.dt x)(g:d.Good/\d.Kx):LI H (upd H' M (.lst (xs++[x]))) nm M (xs++[x]) (ds++[d]):=by
 refine⟨h.same.upd h.Uq,by rw[AR h.ne];exact h.Ql,AM,h.Uq,h.ne,?_,fun e he=>?_⟩
 ·rw[Ex.upd,A8];exact h.rep.snoc r
 ·rcases Bk.mp he with z|z
  ·exact h.good e z
  ·rw[Bj.mp z];exact g
def XJ:∀ws:List Str,Ab H (ws.map Dt.str) (ws.map V.str):=fun ws=>by
 refine⟨by rw[AK,AK],fun i d x h1 h2=>?_⟩;rw[A0] at h1 h2
 cases e:ws[i]?with
 |none=>rw[e] at h1;cases h1
 |some z=>
 rw[e] at h1 h2;cases Ai h1;cases Ai h2;exact .str z
noncomputable def Ul:Str:="abcdefghijklmnopqrstuvwxyz"
def jN:Ul.cps.toList.length=26:=by left
noncomputable def U2:Str:=Txt.mul "e" 40
def kf:MulOk "e" 40:=mulOk_of 1 40 (by left) (by decide) (by decide) (by decide) (by decide)
def cc:∀z∈sought,z.length<=9:=by left
def iT(ws:List Str)(lo hi:Option Int):∃vs:List Str,Cn (ws.map V.str) lo hi=vs.map V.str/\vs.length<=ws.length/\∀z∈vs,z∈ws:=by
 unfold Cn;refine⟨(ws.drop (BD (ws.map V.str).length 0 lo)).take (BD (ws.map V.str).length (ws.map V.str).length hi-BD (ws.map V.str).length 0 lo),by rw[J7,J8],?_,fun z hz=>I0 (Gv hz)⟩;rw[Bc,C9]
 lia
def Df:Az ["_law_cells","_law_names","_law_made","_law_k","_law_rest","_law_pick","_law_name","_law_near","_law_other","_law_place","_law_odd","_law_stop","_law_words","_law_far"] ["_law_cells"] (Ao Tb):=by left
def iY{fS:Ya}{fdS:qo}(F:Aj K "_law_deeds" "_law_deeds" Tb f fd)(O:Own mg)
 (HP:Hv P w K mg base "_law_penned" 2 ["_law_cell","_law_k"] XC)
 (FS:Aj K "_law_sought" "_law_sought" NG fS fdS)(bS:Binds K fdS [] [])(mS:mg "_law_sought" =some (.ref fS)):AW P w K mg base Ah 3 f fd ["_law_cells"] YI:=by
 have GS:AW P w K mg base Ah 1 fS fdS [] XQ:=eY FS;refine F.ok Df ?_ ?_
 ·rintro _ _ _ _ ⟨_,_,rfl,_⟩;rfl
 ·rintro _ A _ s H _ Q E hr ⟨a,ns,rfl,hS,hlen,q⟩;have hr1:Bl 1 _:=hr.mono (by decide);refine⟨_,(AS (Av (i:=1) Df.nd rfl (Aa rfl) (Bu (AE AZ (AE AZ (AE AZ (AE AZ AI)))))) (AS (Av (i:=2) Df.nd rfl (Aa rfl) (Bu AI)) (AS (EJ EG rfl (Rt rfl O.Ku (AE (BY E3 rfl O.len DB (AE (pv 0) AI)) AI)) (Bh (i:=3) Df.nd rfl (Aa rfl))
   (AS (Av (i:=4) Df.nd rfl (Aa rfl) (Ag JL (CB C2 (pv 0) (pv 3) (fun _ _=>rfl)) Ac)) (AS (Av (i:=5) Df.nd rfl (Aa rfl) (Ag Bx (Ag DD (CB C2 (pv 0) (pv 3) (fun _ _=>rfl)) (Ag Pt Ac (pv 3))) Ac)) (AS (Av (i:=6) Df.nd rfl (Aa rfl) (CB C2 (pv 1) (Ag Bx (Ag DD (pv 4) (pv 3)) Ac) (fun _ _=>rfl))) (AS (Av (i:=7) Df.nd rfl (Aa rfl) (CB C2 (pv 0) (Ag Bx (Ag DD (pv 3) Ac) (BY E3 rfl O.len DB (AE (pv 0) AI))) (fun _ _=>rfl))) (AS (Av (i:=8) Df.nd rfl (Aa rfl) (CB C2 (Ag FK (pv 1) (Bu (AE AZ (AE (Ag V0 AZ Ac) AI)))) (Ag Bx (Ag DD (pv 7) (Ag JL (pv 3) Ac)) Ac) (fun _ _=>rfl))) (AS (Av (i:=9) Df.nd rfl (Aa rfl) (Ag Bx (Ag DD (Ag JL (pv 7) Ac) (pv 3)) Ac)) (AS (A7 (Ax Ba (Ag Bx (CB C2 (pv 0) (pv 3) (fun _ _=>rfl)) Ac) Ac (Ar _))
   (AU (Av (i:=9) Df.nd rfl (Aa rfl) (CB C2 (Bu (AE (Eb Ea Ac) (AE (Ag TM Ac Ac) (AE (Ag Pq (Eb Ea Ac) (Ag Bx (pv 4) (Ag TM Ac Ac))) (AE (Ag Bx (pv 7) Ac) AI))))) (Ag Bx (pv 4) Ac) (fun _ _=>rfl))))
   BG) (AS (Av (i:=10) Df.nd rfl (Aa rfl) (Ag FC AZ (CB Pl AZ (Ag Bx (pv 4) Ac) (fun _ _=>rfl)))) (AS (Av (i:=6) Df.nd rfl (Aa rfl) (CB C2 (Bu (AE (pv 6) (AE (pv 10) AI))) (Er M5 rfl O.int Lg (AE (Ic Ba (Ag Bx (CB C2 (pv 0) (pv 3) (fun _ _=>rfl)) Ac) Ac (Ar _)) AI)) (fun _ _=>rfl))) (AS (Av (i:=8) Df.nd rfl (Aa rfl) (CB C2 (Bu (AE (pv 8) (AE (pv 10) AI))) (Er M5 rfl O.int Lg (AE (Ic Ba (Ag Bx (CB C2 (pv 0) (pv 3) (fun _ _=>rfl)) Ac) Ac (Ar _)) AI)) (fun _ _=>rfl))) (AS (A7 (Ax Ba (Ag Bx (CB C2 (pv 0) (pv 3) (fun _ _=>rfl)) Ac) Ac (Ar _))
   (AU (Av (i:=8) Df.nd rfl (Aa rfl) (CB C2 (Bu (AE AZ (AE AZ (AE AZ (AE AZ AI))))) (Ag Bx (pv 4) Ac) (fun _ _=>rfl))))
   BG) (AU (A7 (Ax JY (pv 5) Ac (Ar _))
   (AS (A7 (Ax Ba (Ag Bx (CB C2 (pv 0) (pv 3) (fun _ _=>rfl)) Ac) Ac (Ar _))
   (AU (Av (i:=6) Df.nd rfl (Aa rfl) (pv 8)))
   BG) (AU (Bp (D4 ED Fh Fg Es (pv 2) (AE (CJ (AE AZ (AE (pv 6) (AE (Cb HP hr rfl A3 (AE (CB C2 (pv 0) (pv 3) (fun _ _=>rfl)) (AE (pv 3) AI))) AI)))) AI)))))
   (AU (A7 (Ax JY (pv 5) Ac (Ar _))
   (AU (Bp (D4 ED Fh Fg Es (pv 2) (AE (CJ (AE AZ (AE (pv 6) (AE (pv 8) AI)))) AI))))
   (AU (A7 (Ax JY (pv 5) Ac (Ar _))
   (AU (Bp (D4 ED Fh Fg Es (pv 2) (AE (CJ (AE AZ (AE (pv 6) (AE (pv 8) AI)))) AI))))
   (AU (A7 (Ax JY (pv 5) Ac (Ar _))
   (AU (Bp (D4 ED Fh Fg Es (pv 2) (AE (CJ (AE AZ (AE (pv 6) (AE (pv 9) (AE (pv 8) AI))))) AI))))
   (AU (A7 (Ax Ba (pv 5) Ac (Ar _))
   (AU (Bp (D4 ED Fh Fg Es (pv 2) (AE (CJ (AE AZ (AE (pv 6) AI))) AI))))
   (AU (A7 (Ax Ba (pv 5) Ac (Ar _))
   (AU (Bp (D4 ED Fh Fg Es (pv 2) (AE (CJ (AE AZ (AE (pv 6) AI))) AI))))
   (AU (A7 (Ax Ba (pv 5) Ac (Ar _))
   (AU (Bp (D4 ED Fh Fg Es (pv 2) (AE (CJ (AE AZ (AE (pv 8) AI))) AI))))
   (AS (Av (i:=11) Df.nd rfl (Aa rfl) (Ag DD (Ag Bx (pv 4) Ac) (Ag Bx (Ag DD (pv 7) (pv 3)) Ac))) (AS (Av (i:=12) Df.nd rfl (Aa rfl) (Dr pF (W3 GS hr1 rfl mS FS.kp bS .nil A3) (C0 (Ag Bx (pv 4) Ac)) (C0 (pv 11)))) (AS (Av (i:=13) Df.nd rfl (Aa rfl) (Bu (AE (Ag Bx (Ag DD (Ag JL (pv 7) Ac) (pv 3)) Ac) (AE (Eb Ea Ac) (AE (Ag TM Ac Ac) (AE (Ag Bx (pv 7) Ac) AI)))))) (AS (Av (i:=13) Df.nd rfl (Aa rfl) (CB C2 (pv 13) (Ag Bx (CB C2 (pv 0) (Ag Bx (Ag DD (pv 3) Ac) (BY E3 rfl O.len DB (AE (pv 0) AI))) (fun _ _=>rfl)) Ac) (fun _ _=>rfl))) (AU (Bp (D4 ED Fh Fg Es (pv 2) (AE (CJ (AE AZ (AE (pv 12) (AE (pv 13) AI)))) AI)))))))))))))))))))))))))))))))))) (AU (An (pv 2)))))),?_⟩;refine⟨by show 4<=sizeLine;decide,fun nm hnm=>⟨by show 0<=sizeLine;decide,fun M hM=>?_⟩⟩;have s1:AQ H (upd H nm (.lst [.str "a",.str "b",.str "cat",.str "catalogue"])):=AY hnm;have hMn:H M=none:=s1.free hM;have nnM:nm≠M:=A9 AM hM;have hnl:(ns.map V.int).length=ns.length:=AK ..;have li0:LI H (upd (upd H nm (.lst [.str "a",.str "b",.str "cat",.str "catalogue"])) M (.lst [])) nm M [] []:=
   ⟨s1.upd hMn,by rw[AR nnM];exact AM,AM,hMn,nnM,Ab.nil,fun d hd=>by cases hd⟩;refine⟨_,rfl,a,_,rfl,.inl (li0.same.seq hS),((ns.map V.int).length:Int),rfl,by lia,by lia,?_⟩;refine O0 (lo:=0) (n:=(ns.map V.int).length) (fun i σ H'=>∃(xs:List V)(ds:List Am)(v3 v4 v5 v6 v7 v8 v9 v10 v11 v12 v13:Option V),σ=[some (.ref a),some (.ref nm),some (.ref M),v3,v4,v5,v6,v7,v8,v9,v10,v11,v12,v13]/\LI H H' nm M xs ds/\xs.length=i/\ds.length=i)
   ⟨[],[],none,none,none,none,none,none,none,none,none,none,none,rfl,li0,rfl,rfl⟩ ?_ ?_
  ·rintro i σ H' hi ⟨xs,ds,v3,v4,v5,v6,v7,v8,v9,v10,v11,v12,v13,rfl,li,hxl,hdl⟩;rw[hnl] at hi;have hSi:∀{H2:Hp},LI H H2 nm M xs ds->AJ [] H2 a (ns.map V.int):=fun l=>l.same.seq hS;generalize ev:ns.getD i 0=c;have hat:Gm (ns.map V.int) (0+(i:Int))=some (.int c):=by rw[Int.zero_add];refine Bt ?_;rw[A0,Ap hi,<-ev,Cs,Ap hi];rfl
   have hcell:∀j:Int,∃z:Int,Gm (ns.map V.int) (j%((ns.map V.int).length:Nat))=some (.int z):=fun j=>by obtain⟨v,hv,e⟩:=GV (ns.map V.int) (ns.map V.int).length rfl (by lia) j;obtain⟨z,_,rfl⟩:=BP.mp hv;exact⟨z,e⟩
   have hpos:(0:Int)<((ns.map V.int).length:Nat):=by lia
   refine⟨_,rfl,_,rfl,a,_,_,.int c,rfl,rfl,hSi li,hat,_,_,rfl,rfl,⟨by decide,by decide⟩,?_⟩;refine⟨_,rfl,_,rfl,a,_,_,.int c,rfl,rfl,hSi li,hat,_,rfl,_,_,rfl,rfl,.inl ⟨by decide,by decide⟩,_,_,rfl,rfl,_,_,rfl,rfl,(by show(0:Int)<16;decide),?_⟩;obtain⟨vn,hvn,en⟩:=GV [V.str "a",V.str "b",V.str "cat",V.str "catalogue"] 4 rfl (by decide) (c/16+(0+(i:Int)));have hn0:∃n0:Str,vn=.str n0/\L5 n0:=by simp only[Be,JC,KN] at hvn;rcases hvn with e|e|e|e<;>exact⟨_,e,by left⟩
   obtain⟨n0,rfl,ln0⟩:=hn0;refine⟨_,rfl,_,rfl,_,rfl,_,_,rfl,rfl,_,_,rfl,rfl,(by show(0:Int)<4;decide),nm,_,_,.str n0,rfl,rfl,AJ.of li.Ql,en,?_⟩;obtain⟨near,enear⟩:=hcell (0+(i:Int)+1);refine⟨_,rfl,_,rfl,_,_,rfl,rfl,_,rfl,a,_,rfl,.inl (hSi li),_,_,rfl,rfl,hpos,a,_,_,.int near,rfl,rfl,hSi li,enear,?_⟩;refine⟨_,rfl,"e",40,rfl,rfl,kf,by show 2<=sizeLine;decide,fun l2 hl2=>?_⟩;have li2:=li.new (o:=.lst [V.str "zed",V.str U2]) hl2;refine⟨nm,l2,_,_,rfl,rfl,li2.Ql,AM,by show 6<=sizeLine;decide,fun l6 hl6=>?_⟩;have li6:=li2.new (o:=.lst ([V.str "a",V.str "b",V.str "cat",V.str "catalogue"]++[V.str "zed",V.str U2])) hl6;obtain⟨vo,hvo,eo⟩:=GV ([V.str "a",V.str "b",V.str "cat",V.str "catalogue"]++[V.str "zed",V.str U2]) 6 rfl (by decide) (near+(0+(i:Int))/2);have ho0:∃o0:Str,vo=.str o0/\L5 o0:=by
    simp only[Bk,Be,JC,KN] at hvo;rcases hvo with(e|e|e|e)|e|e
    ·exact⟨_,e,by left⟩
    ·exact⟨_,e,by left⟩
    ·exact⟨_,e,by left⟩
    ·exact⟨_,e,by left⟩
    ·exact⟨_,e,by left⟩
    ·exact⟨_,e,by left⟩
   obtain⟨o0,rfl,lo0⟩:=ho0;refine⟨_,rfl,_,rfl,_,_,rfl,rfl,⟨by decide,by decide⟩,_,_,rfl,rfl,_,_,rfl,rfl,(by show(0:Int)<6;decide),l6,_,_,.str o0,rfl,rfl,AJ.of AM,eo,?_⟩;clear li li2;change LI H (upd (upd H' l2 (.lst [V.str "zed",V.str (Txt.mul "e" 40)])) l6 (.lst ([V.str "a",V.str "b",V.str "cat",V.str "catalogue"]++[V.str "zed",V.str (Txt.mul "e" 40)]))) nm M xs ds at li6;generalize upd (upd H' l2 (.lst [V.str "zed",V.str (Txt.mul "e" 40)])) l6 (.lst ([V.str "a",V.str "b",V.str "cat",V.str "catalogue"]++[V.str "zed",V.str (Txt.mul "e" 40)]))=H6 at li6;refine⟨_,rfl,_,_,rfl,rfl,⟨by decide,by decide⟩,_,rfl,_,_,rfl,rfl,_,_,rfl,rfl,(by show(0:Int)<8;decide),?_⟩;dsimp only[Dy];refine O7 (fun σ H7=>∃pl:Int,σ=[some (.ref a),some (.ref nm),some (.ref M),some (.int (0+(i:Int))),some (.int (c/16)),some (.int ((c+5*(0+(i:Int)))%16)),some (.str n0),some (.int near),some (.str o0),some (.int pl),v10,v11,v12,v13]/\LI H H7 nm M xs ds) ?_ ?_
   ·rintro σ H7 ⟨pl,rfl,li⟩;have fin:∀(d:Am)(dds:List Dt)(es:List V)(tp:Ya)(H9:Hp)(w3 w4 w5 w6 w7 w8 w9 w10 w11 w12 w13:Option V),LI H H9 nm M xs ds->H9 tp=none->d.dt=.tup dds->Ab (Ex H9 M) dds es->d.Good/\d.Kx->
     ∃(xs':List V)(ds':List Am)(v3 v4 v5 v6 v7 v8 v9 v10 v11 v12 v13:Option V),([some (.ref a),some (.ref nm),some (.ref M),w3,w4,w5,w6,w7,w8,w9,w10,w11,w12,w13]:St)=[some (.ref a),some (.ref nm),some (.ref M),v3,v4,v5,v6,v7,v8,v9,v10,v11,v12,v13]/\
      LI H (upd (upd H9 tp (.tup es)) M (.lst (xs++[V.ref tp]))) nm M xs' ds'/\xs'.length=i+1/\ds'.length=i+1:=by
     intro d dds es tp H9 w3 w4 w5 w6 w7 w8 w9 w10 w11 w12 w13 l9 htp ed rp gd;have ntM:tp≠M:=(A9 l9.Dm htp).symm;have lt:=l9.new (o:=.tup es) htp;refine⟨_,_,_,_,_,_,_,_,_,_,_,_,_,rfl,lt.push (d:=d) ?_ gd,by rw[Au,hxl];rfl,by rw[Au,hdl];rfl⟩;rw[ed];exact Rep.K0 (Ex.at AM ntM) (rp.same (Ex.mono (AY htp)))
    have hxs:xs.length<sizeLine:=by rw[hxl,Aw];lia
    obtain⟨ch,_,ech⟩:=GV Ul.cps.toList 26 jN (by decide) (c/16);refine⟨_,rfl,_,_,rfl,rfl,(by show(0:Int)<26;decide),Ul,_,ch,rfl,rfl,by left,ech,_,_,rfl,rfl,by show 1+1<=sizeLine;decide,?_⟩;have lodd:L5 (("p" :Str)++(⟨#[ch]⟩:Str)):=by unfold L5;rw[Hx];show 1+1<=40/\1+1≠5;decide
    have hat2:∀(b:Bool)(x y:Str),L5 x->L5 y->∃z:Str,L5 z/\Gm [V.str x,V.str y] (if b=true then 1 else 0)=some (V.str z):=fun b x y hx hy=>by
     cases b with
     |false=>exact⟨x,hx,rfl⟩
     |true=>exact⟨y,hy,rfl⟩
    obtain⟨n1,ln1,en1⟩:=hat2 (decide (V.int (c%23)=V.int 7)) n0 _ ln0 lodd;obtain⟨o1,lo1,eo1⟩:=hat2 (decide (V.int (c%23)=V.int 8)) o0 _ lo0 lodd;refine⟨_,rfl,_,rfl,by show 2<=sizeLine;decide,fun l8 hl8=>⟨_,rfl,_,rfl,a,_,_,.int c,rfl,rfl,hSi (li.new hl8),hat,_,_,rfl,rfl,(by show(0:Int)<23;decide),rfl,.inr ⟨_,rfl,l8,_,_,.str n1,rfl,rfl,AJ.of AM,en1,?_⟩⟩⟩;have li8:=li.new (o:=.lst [V.str n0,V.str (("p" :Str)++(⟨#[ch]⟩:Str))]) hl8;refine⟨_,rfl,_,rfl,by show 2<=sizeLine;decide,fun l9 hl9=>⟨_,rfl,_,rfl,a,_,_,.int c,rfl,rfl,hSi (li8.new hl9),hat,_,_,rfl,rfl,(by show(0:Int)<23;decide),rfl,.inr ⟨_,rfl,l9,_,_,.str o1,rfl,rfl,AJ.of AM,eo1,?_⟩⟩⟩;have li9:=li8.new (o:=.lst [V.str o0,V.str (("p" :Str)++(⟨#[ch]⟩:Str))]) hl9;dsimp only[Dy];refine O7 (fun σ H7=>∃o2:Str,L5 o2/\σ=[some (.ref a),some (.ref nm),some (.ref M),some (.int (0+(i:Int))),some (.int (c/16)),some (.int ((c+5*(0+(i:Int)))%16)),some (.str n1),some (.int near),some (.str o2),some (.int pl),some (.str (("p" :Str)++(⟨#[ch]⟩:Str))),v11,v12,v13]/\LI H H7 nm M xs ds) ?_ ?_
    ·rintro σ HA ⟨o2,Fe,rfl,li⟩;refine⟨_,rfl,_,_,rfl,rfl,_,rfl,F1 (fun _=>?_) (fun _=>?_)⟩
     ·
      refine O7 (fun σ H7=>∃n2:Str,L5 n2/\σ=[some (.ref a),some (.ref nm),some (.ref M),some (.int (0+(i:Int))),some (.int (c/16)),some (.int ((c+5*(0+(i:Int)))%16)),some (.str n2),some (.int near),some (.str o2),some (.int pl),some (.str (("p" :Str)++(⟨#[ch]⟩:Str))),v11,v12,v13]/\H7=HA) ?_ ?_
      ·rintro σ H7 ⟨n2,ln2,rfl,rfl⟩;refine⟨_,rfl,.inl ⟨rfl,_,AJ.of li.Dm⟩,_,rfl,_,rfl,_,rfl,a,_,_,.int c,rfl,rfl,hSi li,hat,_,rfl,c,_,rfl,fun t H9 lt s9=>⟨by show 3<=sizeLine;decide,fun tp htp=>⟨M,xs,.ref tp,rfl,rfl,((li.ext s9).new htp).Dm,hxs,?_⟩⟩⟩;exact fin (.write n2 t) _ _ tp H9 _ _ _ _ _ _ _ _ _ _ _ (li.ext s9) htp rfl (Ab.snoc (Ab.snoc (Ab.snoc Ab.nil (.str _)) (.str _)) (.str _)) ⟨⟨ln2.1,lt.1⟩,ln2.2,lt.2⟩
      ·intro hG;refine⟨_,rfl,_,rfl,a,_,_,.int c,rfl,rfl,hSi li,hat,_,_,rfl,rfl,(by show(0:Int)<29;decide),rfl,_,rfl,F1 (fun _=>?_) (fun _=>?_)⟩
       ·exact⟨_,rfl,hG _ _ ⟨o2,Fe,rfl,rfl⟩⟩
       ·exact hG _ _ ⟨n1,ln1,rfl,rfl⟩
     refine⟨_,rfl,_,_,rfl,rfl,_,rfl,F1 (fun _=>?_) (fun _=>?_)⟩
     ·exact⟨_,rfl,.inl ⟨rfl,_,AJ.of li.Dm⟩,_,rfl,_,rfl,by show 3<=sizeLine;decide,fun tp htp=>⟨M,xs,.ref tp,rfl,rfl,(li.new htp).Dm,hxs,fin (.rename n1 o2) _ _ tp HA _ _ _ _ _ _ _ _ _ _ _ li htp rfl (Ab.snoc (Ab.snoc (Ab.snoc Ab.nil (.str _)) (.str _)) (.str _)) ⟨⟨ln1.1,Fe.1⟩,Fe.2⟩⟩⟩
     refine⟨_,rfl,_,_,rfl,rfl,_,rfl,F1 (fun _=>?_) (fun _=>?_)⟩
     ·exact⟨_,rfl,.inl ⟨rfl,_,AJ.of li.Dm⟩,_,rfl,_,rfl,by show 3<=sizeLine;decide,fun tp htp=>⟨M,xs,.ref tp,rfl,rfl,(li.new htp).Dm,hxs,fin (.join n1 o2) _ _ tp HA _ _ _ _ _ _ _ _ _ _ _ li htp rfl (Ab.snoc (Ab.snoc (Ab.snoc Ab.nil (.str _)) (.str _)) (.str _)) ⟨⟨ln1.1,Fe.1⟩,trivial⟩⟩⟩
     refine⟨_,rfl,_,_,rfl,rfl,_,rfl,F1 (fun _=>?_) (fun _=>?_)⟩
     ·exact⟨_,rfl,.inl ⟨rfl,_,AJ.of li.Dm⟩,_,rfl,_,rfl,_,rfl,by show 4<=sizeLine;decide,fun tp htp=>⟨M,xs,.ref tp,rfl,rfl,(li.new htp).Dm,hxs,fin (.cut n1 pl o2) _ _ tp HA _ _ _ _ _ _ _ _ _ _ _ li htp rfl (Ab.snoc (Ab.snoc (Ab.snoc (Ab.snoc Ab.nil (.str _)) (.str _)) (.int _)) (.str _)) ⟨⟨ln1.1,Fe.1⟩,Fe.2⟩⟩⟩
     refine⟨_,rfl,rfl,_,rfl,F1 (fun _=>?_) (fun _=>?_)⟩
     ·exact⟨_,rfl,.inl ⟨rfl,_,AJ.of li.Dm⟩,_,rfl,by show 2<=sizeLine;decide,fun tp htp=>⟨M,xs,.ref tp,rfl,rfl,(li.new htp).Dm,hxs,fin (.drop n1) _ _ tp HA _ _ _ _ _ _ _ _ _ _ _ li htp rfl (Ab.snoc (Ab.snoc Ab.nil (.str _)) (.str _)) ⟨ln1.1,trivial⟩⟩⟩
     refine⟨_,rfl,rfl,_,rfl,F1 (fun _=>?_) (fun _=>?_)⟩
     ·exact⟨_,rfl,.inl ⟨rfl,_,AJ.of li.Dm⟩,_,rfl,by show 2<=sizeLine;decide,fun tp htp=>⟨M,xs,.ref tp,rfl,rfl,(li.new htp).Dm,hxs,fin (.text n1) _ _ tp HA _ _ _ _ _ _ _ _ _ _ _ li htp rfl (Ab.snoc (Ab.snoc Ab.nil (.str _)) (.str _)) ⟨ln1.1,trivial⟩⟩⟩
     refine⟨_,rfl,rfl,_,rfl,F1 (fun _=>?_) (fun _=>?_)⟩
     ·exact⟨_,rfl,.inl ⟨rfl,_,AJ.of li.Dm⟩,_,rfl,by show 2<=sizeLine;decide,fun tp htp=>⟨M,xs,.ref tp,rfl,rfl,(li.new htp).Dm,hxs,fin (.back o2) _ _ tp HA _ _ _ _ _ _ _ _ _ _ _ li htp rfl (Ab.snoc (Ab.snoc Ab.nil (.str _)) (.str _)) ⟨Fe.1,trivial⟩⟩⟩
     have hm7:0<=c/16%7/\c/16%7<7:=⟨Mn _ (by decide),MY _ (by decide)⟩;have hm4:0<=(near+(0+(i:Int)))%4/\(near+(0+(i:Int)))%4<4:=⟨Mn _ (by decide),MY _ (by decide)⟩;refine⟨_,rfl,_,_,rfl,rfl,(by show(0:Int)<7;decide),_,rfl,_,rfl,_,_,rfl,rfl,_,_,rfl,rfl,(by show(0:Int)<4;decide),_,_,rfl,rfl,?_⟩;refine⟨rfl,fun p HB sB hpB=>⟨_,rfl,_,_,rfl,rfl,(by show(0:Int)<7;decide),_,rfl,_,rfl,_,rfl,p,_,rfl,AX.of hpB,?_,fun t ht=>?_⟩⟩
     ·rintro⟨h1,h2⟩;have h1':(if c/16%7<0 then(c/16%7+((9:Nat):Int)).toNat else min (c/16%7).toNat 9)=0:=h1;have h2':(if c/16%7+(near+(0+(i:Int)))%4<0 then(c/16%7+(near+(0+(i:Int)))%4+((9:Nat):Int)).toNat else min (c/16%7+(near+(0+(i:Int)))%4).toNat 9)=9:=h2;rw[AG (by lia)] at h1' h2'
      lia
     obtain⟨ws,ews,lws,mws⟩:=iT sought (some (c/16%7)) (some (c/16%7+(near+(0+(i:Int)))%4));have liB:=(li.ext sB).new (o:=.tup (Cn (sought.map V.str) (some (c/16%7)) (some (c/16%7+(near+(0+(i:Int)))%4)))) ht;have hMB:=(li.ext sB).Dm;have ntM:t≠M:=(A9 hMB ht).symm;have htB:(upd HB t (.tup (Cn (sought.map V.str) (some (c/16%7)) (some (c/16%7+(near+(0+(i:Int)))%4))))) t=some (.tup (ws.map V.str)):=by rw[AM,ews]
     refine⟨_,rfl,_,_,rfl,rfl,⟨by decide,by decide⟩,_,rfl,_,_,rfl,rfl,_,_,rfl,rfl,(by show(0:Int)<6;decide),_,rfl,_,_,rfl,rfl,⟨by decide,by decide,by left⟩,_,rfl,_,_,rfl,rfl,(by show(0:Int)<40;decide),by show 4<=sizeLine;decide,fun fl hfl=>?_⟩;obtain⟨z,ez⟩:=hcell (0+(i:Int)+2);obtain⟨vf,hvf,ef⟩:=GV [V.int ((near/4+(0+(i:Int)))%6),V.int (-1),V.int (10^Int.toNat 9),V.int (near%40)] 4 rfl (by decide) z;have hfar:∃far:Int,vf=.int far:=by simp only[Be,JC,KN] at hvf;rcases hvf with e|e|e|e<;>exact⟨_,e⟩
     obtain⟨far,rfl⟩:=hfar;have liC:=liB.new (o:=.lst [V.int ((near/4+(0+(i:Int)))%6),V.int (-1),V.int (10^Int.toNat 9),V.int (near%40)]) hfl;refine⟨_,rfl,_,rfl,_,rfl,_,_,rfl,rfl,_,rfl,a,_,rfl,.inl (hSi liC),_,_,rfl,rfl,hpos,a,_,_,.int z,rfl,rfl,hSi liC,ez,_,_,rfl,rfl,(by show(0:Int)<4;decide),fl,_,_,.int far,rfl,rfl,AJ.of AM,ef,?_⟩;refine⟨_,rfl,.inl ⟨rfl,_,AJ.of liC.Dm⟩,_,rfl,_,rfl,by show 3<=sizeLine;decide,fun tp htp=>⟨M,xs,.ref tp,rfl,rfl,(liC.new htp).Dm,hxs,?_⟩⟩;exact fin (.find ws far) _ _ tp _ _ _ _ _ _ _ _ _ _ _ _ liC htp rfl (Ab.snoc (Ab.snoc (Ab.snoc Ab.nil (.str _)) (Rep.K0 (Ex.at ((AY hfl) _ _ htB) ntM) (XJ ws))) (.int _)) ⟨⟨lws,fun z hz=>cc z (mws z hz)⟩,trivial⟩
    ·intro hG;refine⟨_,rfl,_,rfl,a,_,_,.int c,rfl,rfl,hSi li9,hat,_,_,rfl,rfl,(by show(0:Int)<29;decide),rfl,_,rfl,F1 (fun _=>?_) (fun _=>?_)⟩
     ·obtain⟨vx,hvx,ex⟩:=GV [V.str "",V.str "A",V.str "a1",V.str "[a]"] 4 rfl (by decide) (c/16);have hx:∃o2:Str,vx=.str o2/\L5 o2:=by simp only[Be,JC,KN] at hvx;rcases hvx with e|e|e|e<;>exact⟨_,e,by left⟩
      obtain⟨o2,rfl,Fe⟩:=hx;exact⟨by show 4<=sizeLine;decide,fun lx hlx=>⟨_,rfl,_,_,rfl,rfl,(by show(0:Int)<4;decide),lx,_,_,.str o2,rfl,rfl,AJ.of AM,ex,hG _ _ ⟨o2,Fe,rfl,li9.new hlx⟩⟩⟩
     ·exact hG _ _ ⟨o1,lo1,rfl,li9⟩
   ·intro hG;refine⟨_,rfl,_,rfl,a,_,_,.int c,rfl,rfl,hSi li6,hat,_,_,rfl,rfl,(by show(0:Int)<31;decide),rfl,_,rfl,F1 (fun _=>?_) (fun _=>?_)⟩
    ·refine⟨_,rfl,_,_,rfl,rfl,⟨by decide,by decide,by left⟩,_,rfl,_,rfl,_,_,rfl,rfl,⟨by decide,by decide,by left⟩,_,_,rfl,rfl,(by show(0:Int)<10^Int.toNat 60;decide+kernel),_,_,rfl,rfl,_,rfl,_,_,rfl,rfl,(by show(0:Int)<30;decide),by show 4<=sizeLine;decide,fun l hl=>?_⟩;obtain⟨vp,hvp,ep⟩:=GV [V.int (-1),V.int (10^Int.toNat 9),V.int (-2-c/16%10^Int.toNat 60),V.int (near%30)] 4 rfl (by decide) (c/16);have hpl:∃pl:Int,vp=.int pl:=by simp only[Be,JC,KN] at hvp;rcases hvp with e|e|e|e<;>exact⟨_,e⟩
     obtain⟨pl,rfl⟩:=hpl;exact⟨_,rfl,_,_,rfl,rfl,(by show(0:Int)<4;decide),l,_,_,.int pl,rfl,rfl,AJ.of AM,ep,hG _ _ ⟨pl,rfl,li6.new hl⟩⟩
    ·exact hG _ _ ⟨_,rfl,li6⟩
  ·rintro σ H' ⟨xs,ds,v3,v4,v5,v6,v7,v8,v9,v10,v11,v12,v13,rfl,li,hxl,hdl⟩;exact⟨_,rfl,q M ds xs H' li.same hMn li.Dm li.rep (by rw[hdl,hnl]) li.good⟩
def CP{o:hY}{td:TE}{j}(hu:X.A.units+1<rC)(ho:PE X o td):PE X (.Subscript o (.Constant (.str x) j p) pos) (JZ td (tC (.str x))):=Dx hu ho AZ fun _ _=>rfl
section
variable[DecidableEq α]{f:α->Key}{g:β->V}(hf:∀a b,f a=f b->a=b)
include hf
noncomputable def AF(l:List (α×β))(k:α):Option β:=(l.find? fun p=>decide (p.1=k)).map (·.2)
noncomputable def AV(l:List (α×β))(k:α)(v:β):List (α×β):=if(l.any fun p=>decide (p.1=k))=true then l.map (fun p=>if p.1=k then(p.1,v) else p) else l++[(k,v)]
noncomputable def AN(l:List (α×β))(k:α):List (α×β):=l.filter fun p=>decide (p.1≠k)
noncomputable def HZ(f:α->Key)(g:β->V)(l:List (α×β)):List (Key×V):=l.map fun p=>(f p.1,g p.2)
def nM(a b:α):decide (f a=f b)=decide (a=b):=by
 by_cases h:a=b
 ·rw[h];simp
 ·rw[BO h,BO (fun z=>h (hf a b z))]
def Et(k:α):∀l:List (α×β),Bn (HZ f g l) (f k)=(AF l k).map g
 |[]=>rfl
 |p::l=>by
  show Bn ((f p.1,g p.2)::HZ f g l) (f k)=_;by_cases h:p.1=k
  ·rw[GL (by rw[h])];unfold AF;rw[DA,BW h];rfl
  ·rw[GN (fun z=>h (hf _ _ z)),Et k l];unfold AF;rw[DA,BO h]
def KL(k:α)(v:β)(l:List (α×β)):putK (HZ f g l) (f k) (g v)=HZ f g (AV l k v):=by
 unfold putK AV HZ;have e:((l.map fun p=>(f p.1,g p.2)).any fun kv=>decide (kv.1=f k))=l.any fun p=>decide (p.1=k):=by rw[List.any_map];congr 1;funext p;exact nM hf p.1 k
 rw[e];by_cases h:(l.any fun p=>decide (p.1=k))=true
 ·rw[AH h,AH h,Bf,Bf];refine EF fun p _=>?_;show(if f p.1=f k then(f p.1,g v) else(f p.1,g p.2))=(f (if p.1=k then(p.1,v) else p).1,g (if p.1=k then(p.1,v) else p).2);by_cases hp:p.1=k
  ·rw[AH (by rw[hp]),AH hp]
  ·rw[AG (fun z=>hp (hf _ _ z)),AG hp]
 ·rw[AG h,AG h,A8];rfl
def LP(k:α)(l:List (α×β)):Ja (HZ f g l) (f k)=HZ f g (AN l k):=by
 unfold Ja AN HZ;rw[List.filter_map];congr 1;refine List.filter_congr fun p _=>?_;show decide (f p.1≠f k)=decide (p.1≠k);by_cases h:p.1=k
 ·rw[h];simp
 ·have h2:f p.1≠f k:=fun z=>h (hf _ _ z);rw[BW h2,BW (show p.1≠k from h)]
end
def FG:∀a b:Int,(Sum.inl a:Key)=Sum.inl b->a=b:=fun _ _ h=>Sum.inl.inj h
def Fp:∀a b:Str,(Sum.inr a:Key)=Sum.inr b->a=b:=fun _ _ h=>Sum.inr.inj h
structure Wd where
 to:Bool
 nm:Str
 no:Int
noncomputable def Wd.vq(w:Wd):List V:=[.str (if w.to then "to" else "word"),.str w.nm,.int w.no]
structure Nk where
 names:List (Str×Int)
 texts:List (Int×List Wd)
 made:Int
abbrev F5(l:List (Str×Int)):List (Key×V):=HZ Sum.inr V.int l
abbrev CQ(l:List (Int×Ya×List Ya)):List (Key×V):=HZ Sum.inl (fun p:Ya×List Ya=>V.ref p.1) l
noncomputable def FZ(an at_:Ya)(made:Int):List (Key×V):=[(.inr "names",.ref an),(.inr "texts",.ref at_),(.inr "made",.int made)]
def P9(H:Hp)(t:Int×Ya×List Ya)(p:Int×List Wd):Prop:=t.1=p.1/\H t.2.1=some (.lst (t.2.2.map V.ref))/\t.2.2.length=p.2.length/\∀(j:Nat) w wd,t.2.2[j]? =some w->p.2[j]? =some wd->H w=some (.lst wd.vq)
structure qX(a b c:Ya):Prop where
 xy:a≠b
 xz:a≠c
 yz:b≠c
structure C1(H0 H:Hp)(a an at_:Ya)(tx:List (Int×Ya×List Ya))(n:Nk):Prop where
 same:AQ H0 H
 ha:H a=some (.dK (FZ an at_ n.made))
 hn:H an=some (.dK (F5 n.names))
 ht:H at_=some (.dK (CQ tx))
 len:tx.length=n.texts.length
 Dc:∀(i:Nat) t p,tx[i]? =some t->n.texts[i]? =some p->P9 H t p
 fa:H0 a=none
 fn:H0 an=none
 ft:H0 at_=none
 fw:∀t∈tx,∀w∈t.2.2,H0 w=none
 ap:qX a an at_
def Ce(H0 H:Hp)(a:Ya)(n:Nk):Prop:=∃an at_ tx,C1 H0 H a an at_ tx n
structure Fits(n:Nk):Prop where
 CW:(n.names.map (·.1)).Nodup
 Cf:(n.texts.map (·.1)).Nodup
 names:n.names.length<=1000
 texts:n.texts.length<=1000
 words:∀p∈n.texts,p.2.length<=100000
noncomputable def Nk.Ip(n:Nk)(g:Wd->Wd):Nk:={n with texts:=n.texts.map fun p=>(p.1,p.2.map g)}
variable{H0:Hp}{an at_:Ya}{n:Nk}
def C1.ext{tx:List (Int×Ya×List Ya)}(h:C1 H0 H a an at_ tx n)(s:AQ H H'):C1 H0 H' a an at_ tx n:=
 ⟨h.same.trans s,s _ _ h.ha,s _ _ h.hn,s _ _ h.ht,h.len,fun i t p h1 h2=>let⟨q1,q2,q3,q4⟩:=h.Dc i t p h1 h2;⟨q1,s _ _ q2,q3,fun j w wd e1 e2=>s _ _ (q4 j w wd e1 e2)⟩,h.fa,h.fn,h.ft,h.fw,h.ap⟩
def C1.keys{tx:List (Int×Ya×List Ya)}(h:C1 H0 H a an at_ tx n):tx.map (·.1)=n.texts.map (·.1):=by
 apply Jx;intro i;rw[A0,A0]
 cases e1:tx[i]?with
 |none=>rw[Em (by rw[<-h.len];exact OI.mp e1)];rfl
 |some t=>
  have hi:i<n.texts.length:=by rw[<-h.len];exact(BZ.mp e1).1
  rw[Ap hi];exact BJ some (h.Dc i t _ e1 (Ap hi)).1
def M6{m:Int}:Bn (FZ an at_ m) (.inr "texts")=some (.ref at_):=rfl
def gN{m:Int}:Bn (FZ an at_ m) (.inr "names")=some (.ref an):=rfl
def kE{m:Int}:Bn (FZ an at_ m) (.inr "made")=some (.int m):=rfl
def kr{m k:Int}:putK (FZ an at_ m) (.inr "made") (.int k)=FZ an at_ k:=rfl
structure aM(a at_ L:Ya)(A:List (Key×V))(tx:List (Int×Ya×List Ya))(H:Hp):Prop where
 ha:H a=some (.dK A)
 hA:Bn A (.inr "texts")=some (.ref at_)
 ht:H at_=some (.dK (CQ tx))
 hL:H L=some (.lst (tx.map fun t=>V.int t.1))
 hl:∀t∈tx,H t.2.1=some (.lst (t.2.2.map V.ref))
 nd:(tx.map (·.1)).Nodup
def JM{α β:Type}[DecidableEq α]:∀{l:List (α×β)}{i:Nat}{p:α×β},(l.map (·.1)).Nodup->l[i]? =some p->AF l p.1=some p.2
 |[],i,p,_,h=>by simp at h
 |q::l,0,p,_,h=>by
  have e:q=p:=by simpa using h
  subst e;unfold AF;rw[DA,BW rfl];rfl
 |q::l,i+1,p,nd,h=>by
  have h':l[i]? =some p:=by simpa using h
  have nd':=IV.mp nd;have hne:¬q.1=p.1:=fun z=>nd'.1 (by have:q.1=p.1:=z;show q.1∈l.map (·.1);rw[this];exact BP.mpr ⟨p,CF h',rfl⟩);have:=JM nd'.2 h';unfold AF at this⊢;rw[DA,BO hne];exact this
def V2{D:Ends}{A:List (Key×V)}{tx:List (Int×Ya×List Ya)}
 (Iv:Ya->Nat->Nat->St->Hp->Prop)(s0:σ[0]? =some (some (.ref a)))
 (ha:H a=some (.dK A))(hA:Bn A (.inr "texts")=some (.ref at_))(ht:H at_=some (.dK (CQ tx)))
 (h0:∀L,H L=none->Iv L 0 0 σ (upd H L (.lst (tx.map fun t=>V.int t.1))))
 (hw:∀L p q σ H,Iv L p q σ H->aM a at_ L A tx H/\σ[0]? =some (some (.ref a))/\i<σ.length)(hi:0<i)
 (st:∀L p t q w σ H (D':Ends),tx[p]? =some t->t.2.2[q]? =some w->Iv L p q σ H->(∀σ' H',Iv L p (q+1) σ' H'->D'.nx σ' H')->tb D' (σ.set j (some (.ref w))) H)
 (set:∀L p t σ H,tx[p]? =some t->Iv L p 0 σ H->Iv L p 0 (σ.set i (some (.int t.1))) H)
 (nxt:∀L p t σ H,tx[p]? =some t->Iv L p t.2.2.length σ H->Iv L (p+1) 0 σ H)(hd:∀L σ H,Iv L tx.length 0 σ H->D.nx σ H):
 N2 (Kd [] (QU TN (Nj (JZ (Ed 0) (tC (.str "texts"))) Kg))) (Dy i) (N2 (Kd [] (JZ (JZ (Ed 0) (tC (.str "texts"))) (Ed i))) (Dy j) tb) D σ H:=by
 have gt:∀{H:Hp},H a=some (.dK A)->BS H a (.str "texts") (some (.ref at_)):=fun h=>by have:=BS.kq (k:=.inr "texts") h;rw[hA] at this;exact this
 refine⟨_,s0,a,_,rfl,gt ha,at_,_,rfl,ht,fun L hL=>?_⟩;have ek:((CQ tx).map fun kv=>kV kv.1)=tx.map fun t=>V.int t.1:=by show(tx.map _).map _=_;rw[Bf];rfl
 rw[ek];refine⟨L,rfl,⟨_,AJ.of AM⟩,?_⟩;refine JH (K:=[]) (a:=L) (xs:=tx.map fun t=>V.int t.1) (fun p σ H=>Iv L p 0 σ H) (h0 L hL) (fun p σ H _ iv=>AJ.of (hw _ _ _ _ _ iv).1.hL) ?_ (fun σ H iv=>hd L σ H (by rw[AK] at iv;exact iv));intro p x σ1 H1 hx iv;rw[A0] at hx
 cases et:tx[p]?with
 |none=>rw[et] at hx;cases hx
 |some t=>
 rw[et] at hx;obtain rfl:V.int t.1=x:=Ai hx;obtain⟨wk,z0,zi⟩:=hw _ _ _ _ _ iv;have iv2:=set _ _ _ _ _ et iv;obtain⟨wk2,z02,zi2⟩:=hw _ _ _ _ _ iv2;have gv:BS H1 at_ (.int t.1) (some (.ref t.2.1)):=by have:=BS.kq (k:=.inl t.1) wk.ht;rw[Et FG,JM wk.nd et] at this;exact this
 refine⟨_,z02,a,_,rfl,gt wk.ha,_,by rw[OL zi],at_,_,rfl,gv,t.2.1,rfl,⟨_,AJ.of (wk.hl t (CF et))⟩,?_⟩;refine JH (K:=[]) (a:=t.2.1) (xs:=t.2.2.map V.ref) (fun q σ H=>Iv L p q σ H) iv2 (fun q σ H _ iv=>AJ.of ((hw _ _ _ _ _ iv).1.hl t (CF et))) ?_ (fun σ H iv=>nxt _ _ _ _ _ et (by rw[AK] at iv;exact iv));intro q x σ2 H2 hx iv3;rw[A0] at hx
 cases ew:t.2.2[q]?with
 |none=>rw[ew] at hx;cases hx
 |some w=>
 rw[ew] at hx;obtain rfl:V.ref w=x:=Ai hx;exact st _ _ _ _ _ _ _ _ et ew iv3 fun σ' H' z=>z
def Zq{a b:Wd}(h:a.vq=b.vq):a=b:=by
 obtain⟨t1,n1,k1⟩:=a;obtain⟨t2,n2,k2⟩:=b;unfold Wd.vq at h;simp only[List.cons.injEq,V.str.injEq,V.int.injEq,and_true] at h;obtain⟨h1,h2,h3⟩:=h;subst h2 h3;cases t1<;>cases t2
 ·rfl
 ·exact absurd (show("word" :Str)="to" from h1) (by left)
 ·exact absurd (show("to" :Str)="word" from h1) (by left)
 ·rfl
def WZ(as:List Ya)(w:Wd):as.map V.ref≠w.vq:=fun h=>by
 cases as with
 |nil=>cases h
 |cons x xs=>exact absurd (Gy h).1 (by intro z;cases z)
def fX(l:List β)(f:β->Int)(w:Wd):(l.map fun t=>V.int (f t))≠w.vq:=fun h=>by
 cases l with
 |nil=>cases h
 |cons x xs=>exact absurd (Gy h).1 (by intro z;cases z)
def ZH{o:HO}(h:H a=some o):upd H a o=H:=by
 funext b;unfold upd;by_cases e:b=a
 ·rw[AH e,e,h]
 ·rw[AG e]
structure MI(H0 H:Hp)(a an at_ L:Ya)(tx:List (Int×Ya×List Ya))(n:Nk)(g:Wd->Wd)(p q:Nat)(H':Hp):Prop where
 wk:aM a at_ L (FZ an at_ n.made) tx H'
 same:AQ H0 H'
 hn:H' an=some (.dK (F5 n.names))
 c1:∀(i:Nat) t pp (j:Nat) w wd,tx[i]? =some t->n.texts[i]? =some pp->t.2.2[j]? =some w->pp.2[j]? =some wd->H' w=some (.lst wd.vq)\/H' w=some (.lst (g wd).vq)
 c2:∀(i:Nat) t pp (j:Nat) w wd,tx[i]? =some t->n.texts[i]? =some pp->t.2.2[j]? =some w->pp.2[j]? =some wd->(i<p\/(i=p/\j<q))->H' w=some (.lst (g wd).vq)
variable{L:Ya}
def MI.set{tx:List (Int×Ya×List Ya)}{g:Wd->Wd}{p q:Nat}{w:Ya}{wd wc:Wd}{t:Int×Ya×List Ya}{pp:Int×List Wd}(idem:∀w,g (g w)=g w)(nk:C1 H0 H a an at_ tx n)
 (m:MI H0 H a an at_ L tx n g p q H')(et:tx[p]? =some t)(ep:n.texts[p]? =some pp)(ew:t.2.2[q]? =some w)(ed:pp.2[q]? =some wd)(hc:H' w=some (.lst wc.vq))(hg:g wc=g wd):MI H0 H a an at_ L tx n g p (q+1) (upd H' w (.lst (g wc).vq)):=by
 have hwn:H0 w=none:=nk.fw t (CF et) w (CF ew);have other:∀b o,H' b=some o->o≠.lst wc.vq->(upd H' w (.lst (g wc).vq)) b=some o:=fun b o h1 h2=>by rw[AR (Ca h1 hc h2)];exact h1
 have hw0:H w=some (.lst wd.vq):=(nk.Dc p t pp et ep).2.2.2 q w wd ew ed;refine⟨⟨other _ _ m.wk.ha (by intro z;cases z),m.wk.hA,other _ _ m.wk.ht (by intro z;cases z),other _ _ m.wk.hL (by intro z;exact fX tx (·.1) wc (HO.lst.inj z)),fun t' ht'=>other _ _ (m.wk.hl t' ht') (by intro z;exact WZ _ wc (HO.lst.inj z)),m.wk.nd⟩,
  m.same.upd hwn,other _ _ m.hn (by intro z;cases z),fun i t' pp' j w' wd' e1 e2 e3 e4=>?_,fun i t' pp' j w' wd' e1 e2 e3 e4 hlt=>?_⟩
 ·by_cases hww:w'=w
  ·subst hww;have hw1:H w'=some (.lst wd'.vq):=(nk.Dc i t' pp' e1 e2).2.2.2 j w' wd' e3 e4;rw[hw0] at hw1;have:wd=wd':=Zq (HO.lst.inj (Ai hw1));subst this;exact .inr (by rw[AM,hg])
  ·rw[AR hww];exact m.c1 i t' pp' j w' wd' e1 e2 e3 e4
 ·by_cases hww:w'=w
  ·subst hww;have hw1:H w'=some (.lst wd'.vq):=(nk.Dc i t' pp' e1 e2).2.2.2 j w' wd' e3 e4;rw[hw0] at hw1;have:wd=wd':=Zq (HO.lst.inj (Ai hw1));subst this;rw[AM,hg]
  ·rw[AR hww];rcases hlt with h|⟨h1,h2⟩
   ·exact m.c2 i t' pp' j w' wd' e1 e2 e3 e4 (.inl h)
   ·by_cases hj:j<q
    ·exact m.c2 i t' pp' j w' wd' e1 e2 e3 e4 (.inr ⟨h1,hj⟩)
    ·have hjq:j=q:=by lia
     subst h1 hjq;rw[et] at e1;cases Ai e1;rw[ew] at e3;exact absurd (Ai e3).symm hww
def W7{D:Ends}{tx:List (Int×Ya×List Ya)}(S:St->Prop)(g:Wd->Wd)(idem:∀w,g (g w)=g w)
 (hS:S σ)(S0:∀σ,S σ->σ[0]? =some (some (.ref a))/\i<σ.length)(Si:∀σ v,S σ->S (σ.set i v))(Sj:∀σ v,S σ->S (σ.set j v))(hi:0<i)(nk:C1 H0 H a an at_ tx n)(Cf:(n.texts.map (·.1)).Nodup)
 (bd:∀σ H' (D':Ends) w wd,S σ->H' w=some (.lst wd.vq)->D'.nx (σ.set j (some (.ref w))) (upd H' w (.lst (g wd).vq))->tb D' (σ.set j (some (.ref w))) H')
 (hd:∀σ H',S σ->C1 H0 H' a an at_ tx (n.Ip g)->D.nx σ H'):
 N2 (Kd [] (QU TN (Nj (JZ (Ed 0) (tC (.str "texts"))) Kg))) (Dy i) (N2 (Kd [] (JZ (JZ (Ed 0) (tC (.str "texts"))) (Ed i))) (Dy j) tb) D σ H:=by
 have at_p:∀{p t},tx[p]? =some t->∃pp,n.texts[p]? =some pp:=fun{p t} e=>by
  have hp:p<n.texts.length:=by rw[<-nk.len];exact(BZ.mp e).1
  exact⟨_,Ap hp⟩
 refine V2 (a:=a) (at_:=at_) (A:=FZ an at_ n.made) (tx:=tx) (fun L p q σ H'=>S σ/\MI H0 H a an at_ L tx n g p q H') (S0 σ hS).1 nk.ha M6 nk.ht (fun L hL=>⟨hS,?_⟩) (fun L p q σ H' h=>⟨h.2.wk,S0 σ h.1⟩) hi
  (fun L p t q w σ H' D' et ew h kn=>?_) (fun L p t σ H' et h=>⟨Si _ _ h.1,h.2⟩) (fun L p t σ H' et h=>⟨h.1,h.2.wk,h.2.same,h.2.hn,h.2.c1,fun i t' pp' j w' wd' e1 e2 e3 e4 hlt=>?_⟩) (fun L σ H' h=>hd σ H' h.1 ?_)
 ·have s:AQ H (upd H L (.lst (tx.map fun t=>V.int t.1))):=AY hL;have nk2:=nk.ext s;refine⟨⟨nk2.ha,M6,nk2.ht,AM,fun t ht=>?_,by rw[nk.keys];exact Cf⟩,nk2.same,nk2.hn,fun i t pp j w wd e1 e2 e3 e4=>.inl ((nk2.Dc i t pp e1 e2).2.2.2 j w wd e3 e4),fun i t pp j w wd e1 e2 e3 e4 hlt=>by lia⟩;obtain⟨i,hi',e⟩:=IQ.mp ht;have e1:tx[i]? =some t:=by rw[Ap hi',e]
  obtain⟨pp,ep⟩:=at_p e1;exact(nk2.Dc i t pp e1 ep).2.1
 ·obtain⟨pp,ep⟩:=at_p et;have hq:q<pp.2.length:=by rw[<-(nk.Dc p t pp et ep).2.2.1];exact(BZ.mp ew).1
  have ed:pp.2[q]? =some pp.2[q]:=Ap hq;rcases h.2.c1 p t pp q w _ et ep ew ed with hc|hc
  ·exact bd σ H' D' w _ h.1 hc (kn _ _ ⟨Sj _ _ h.1,h.2.set idem nk et ep ew ed hc rfl⟩)
  ·exact bd σ H' D' w _ h.1 hc (kn _ _ ⟨Sj _ _ h.1,h.2.set idem nk et ep ew ed hc (idem _)⟩)
 ·rcases hlt with hlt|⟨_,hlt⟩
  ·by_cases hip:i=p
   ·subst hip;rw[et] at e1;cases Ai e1;exact h.2.c2 i t pp' j w' wd' et e2 e3 e4 (.inr ⟨rfl,(BZ.mp e3).1⟩)
   ·exact h.2.c2 i t' pp' j w' wd' e1 e2 e3 e4 (.inl (by lia))
  ·lia
 ·have m:=h.2;refine⟨m.same,m.wk.ha,m.hn,m.wk.ht,by show _=(n.texts.map _).length;rw[AK];exact nk.len,fun i t p' e1 e2=>?_,nk.fa,nk.fn,nk.ft,nk.fw,nk.ap⟩;have e2':(n.texts.map fun p=>(p.1,p.2.map g))[i]? =some p':=e2;rw[A0] at e2';obtain⟨pp,ep⟩:=at_p e1;rw[ep] at e2';cases Ai e2';obtain⟨q1,q2,q3,q4⟩:=nk.Dc i t pp e1 ep;refine⟨q1,m.wk.hl t (CF e1),by show _=(pp.2.map g).length;rw[AK];exact q3,fun j w wd e3 e4=>?_⟩;have e4':(pp.2.map g)[j]? =some wd:=e4;rw[A0] at e4'
  cases e5:pp.2[j]?with
  |none=>rw[e5] at e4';cases e4'
  |some wo=>
  rw[e5] at e4';cases Ai e4';exact m.c2 i t pp j w wo e1 ep e3 e5 (.inl (BZ.mp e1).1)
noncomputable def CN(name:Str)(no:Int)(w:Wd):Wd:=if w.to=true/\w.no= -1/\w.nm=name then{w with no:=no} else w
noncomputable def CM(no:Int)(name:Str)(other:Int)(w:Wd):Wd:=if w.to=true/\w.no=no then{w with nm:=name,no:=other} else w
def dn(name:Str)(no:Int)(w:Wd):CN name no (CN name no w)=CN name no w:=by
 unfold CN;by_cases h:w.to=true/\w.no= -1/\w.nm=name
 ·rw[AH h];by_cases h2:w.to=true/\no= -1/\w.nm=name
  ·rw[AH h2]
  ·rw[AG h2]
 ·rw[AG h,AG h]
def df(no:Int)(name:Str)(other:Int)(w:Wd):CM no name other (CM no name other w)=CM no name other w:=by
 unfold CM;by_cases h:w.to=true/\w.no=no
 ·rw[AH h];by_cases h2:w.to=true/\other=no
  ·rw[AH h2]
  ·rw[AG h2]
 ·rw[AG h,AG h]
def Nk.named(n:Nk)(name:Str)(no:Int):Nk:=({n with names:=AV n.names name no}:Nk).Ip (CN name no)
def Nk.turned(n:Nk)(no:Int)(name:Str)(other:Int):Nk:=n.Ip (CM no name other)
noncomputable def Nk.flat(n:Nk):List Wd:=n.texts.flatMap (·.2)
noncomputable def HU(no:Int)(w:Wd):Bool:=w.to&&decide (w.no=no)
def Nk.led(n:Nk)(no:Int):Nat:=n.flat.countP (HU no)
def C1.tab{tx:List (Int×Ya×List Ya)}{o:HO}(h:C1 H0 H a an at_ tx n)(hb:H b=some (.dK AA)):∀(i:Nat) t p,tx[i]? =some t->n.texts[i]? =some p->P9 (upd H b o) t p:=fun i t p h1 h2=>by
 obtain⟨q1,q2,q3,q4⟩:=h.Dc i t p h1 h2;exact⟨q1,by rw[AR (Ca q2 hb (by intro z;cases z))];exact q2,q3,fun j w wd e1 e2=>by have:=q4 j w wd e1 e2;rw[AR (Ca this hb (by intro z;cases z))];exact this⟩
def C1.putN{tx:List (Int×Ya×List Ya)}(h:C1 H0 H a an at_ tx n)(nm:List (Str×Int)):C1 H0 (upd H an (.dK (F5 nm))) a an at_ tx {n with names:=nm}:=
 ⟨h.same.upd h.fn,by rw[AR h.ap.xy];exact h.ha,AM,by rw[AR h.ap.yz.symm];exact h.ht,h.len,h.tab h.hn,h.fa,h.fn,h.ft,h.fw,h.ap⟩
def C1.pB{tx:List (Int×Ya×List Ya)}(h:C1 H0 H a an at_ tx n)(k:Int):C1 H0 (upd H a (.dK (FZ an at_ k))) a an at_ tx {n with made:=k}:=
 ⟨h.same.upd h.fa,AM,by rw[AR h.ap.xy.symm];exact h.hn,by rw[AR h.ap.xz.symm];exact h.ht,h.len,h.tab h.ha,h.fa,h.fn,h.ft,h.fw,h.ap⟩
def any_keys{α γ:Type}[DecidableEq α]{l:List (α×β)}{m:List (α×γ)}(e:l.map (·.1)=m.map (·.1))(k:α):(l.any fun p=>decide (p.1=k))=m.any fun p=>decide (p.1=k):=by
 have h1:(l.any fun p=>decide (p.1=k))=(l.map (·.1)).any fun x=>decide (x=k):=by rw[List.any_map];rfl
 have h2:(m.any fun p=>decide (p.1=k))=(m.map (·.1)).any fun x=>decide (x=k):=by rw[List.any_map];rfl
 rw[h1,h2,e]
def C1.Nz{tx:List (Int×Ya×List Ya)}(h:C1 H0 H a an at_ tx n)(k:Int){l:Ya}{ws:List Ya}{CY:List Wd}(hl:H l=some (.lst (ws.map V.ref)))(el:ws.length=CY.length)
 (hw:∀(j:Nat) w wd,ws[j]? =some w->CY[j]? =some wd->H w=some (.lst wd.vq))(hf:∀w∈ws,H0 w=none):
 C1 H0 (upd H at_ (.dK (CQ (AV tx k (l,ws))))) a an at_ (AV tx k (l,ws)) {n with texts:=AV n.texts k CY}:=by
 have new:P9 (upd H at_ (.dK (CQ (AV tx k (l,ws))))) (k,l,ws) (k,CY):=⟨rfl,by rw[AR (Ca hl h.ht (by intro z;cases z))];exact hl,el,fun j w wd e1 e2=>by have:=hw j w wd e1 e2;rw[AR (Ca this h.ht (by intro z;cases z))];exact this⟩;have ek:=any_keys h.keys k;refine⟨h.same.upd h.ft,by rw[AR h.ap.xz];exact h.ha,by rw[AR h.ap.yz];exact h.hn,AM,?_,fun i t p h1 h2=>?_,h.fa,h.fn,h.ft,fun t ht w hw'=>?_,h.ap⟩
 ·unfold AV;by_cases c:(tx.any fun p=>decide (p.1=k))=true
  ·rw[AH c,AH (by rw[<-ek];exact c),AK,AK];exact h.len
  ·rw[AG c,AG (by rw[<-ek];exact c),Au,Au,h.len];rfl
 ·have h2':(AV n.texts k CY)[i]? =some p:=h2;unfold AV at h1 h2';by_cases c:(tx.any fun p=>decide (p.1=k))=true
  ·rw[AH c,A0] at h1;rw[AH (by rw[<-ek];exact c),A0] at h2'
   cases e1:tx[i]?with
   |none=>rw[e1] at h1;cases h1
   |some t0=>
   cases e2:n.texts[i]?with
   |none=>rw[e2] at h2';cases h2'
   |some p0=>
   rw[e1] at h1;rw[e2] at h2';have q:=h.tab (o:=.dK (CQ (AV tx k (l,ws)))) h.ht i t0 p0 e1 e2;have f1:(if t0.1=k then(t0.1,(l,ws)) else t0)=t:=Ai h1;have f2:(if p0.1=k then(p0.1,CY) else p0)=p:=Ai h2';by_cases hk:t0.1=k
   ·rw[AH hk] at f1;rw[AH (by rw[<-q.1];exact hk)] at f2;rw[<-f1,<-f2,hk,<-q.1,hk];exact new
   ·rw[AG hk] at f1;rw[AG (by rw[<-q.1];exact hk)] at f2;rw[<-f1,<-f2];exact q
  ·rw[AG c] at h1;rw[AG (by rw[<-ek];exact c)] at h2';by_cases hi:i<tx.length
   ·rw[C4 hi] at h1;rw[C4 (by rw[<-h.len];exact hi)] at h2';exact h.tab h.ht i t p h1 h2'
   ·have DI:i<(tx++[(k,l,ws)]).length:=(BZ.mp h1).1;rw[Au,CK] at DI;obtain rfl:i=tx.length:=by lia
    rw[Cj (Ad _),EX] at h1;rw[Cj (by rw[h.len];exact Ad _),h.len,EX] at h2';rw[<-Ai h1,<-Ai h2'];exact new
 ·unfold AV at ht;by_cases c:(tx.any fun p=>decide (p.1=k))=true
  ·rw[AH c] at ht;obtain⟨t0,ht0,e⟩:=BP.mp ht;by_cases hk:t0.1=k
   ·rw[AH hk] at e;rw[<-e] at hw';exact hf w hw'
   ·rw[AG hk] at e;rw[<-e] at hw';exact h.fw t0 ht0 w hw'
  ·rw[AG c] at ht;rcases Bk.mp ht with z|z
   ·exact h.fw t z w hw'
   ·rw[Bj.mp z] at hw';exact hf w hw'
noncomputable def F4:Nk:=⟨[],[],0⟩
def X9:Sp:=fun vs H Q _=>vs=[]/\∀(a:Ya)(H':Hp),Ce H H' a F4->Q (.ref a) H'
def Sw:Sp:=fun vs H Q _=>∃(a:Ya)(name:Str)(no:Int)(H0:Hp)(n:Nk),vs=[.ref a,.str name,.int no]/\Ce H0 H a n/\Fits n/\∀H',Ce H0 H' a (n.named name no)->Q .BB H'
def SO:Sp:=fun vs H Q _=>∃(a:Ya)(no:Int)(name:Str)(other:Int)(H0:Hp)(n:Nk),vs=[.ref a,.int no,.str name,.int other]/\Ce H0 H a n/\Fits n/\∀H',Ce H0 H' a (n.turned no name other)->Q .BB H'
def Tz:Sp:=fun vs H Q _=>∃(a:Ya)(no:Int)(H0:Hp)(n:Nk),vs=[.ref a,.int no]/\Ce H0 H a n/\Fits n/\∀H',AQ H H'->Q (.int (n.led no)) H'
def EY{m:Int}(h:H a=some (.dK (FZ an at_ m))):BS H a (.str "names") (some (.ref an)):=by have:=BS.kq (k:=.inr "names") h;rw[gN] at this;exact this
def Gz{m:Int}(h:H a=some (.dK (FZ an at_ m))):BS H a (.str "texts") (some (.ref at_)):=by have:=BS.kq (k:=.inr "texts") h;rw[M6] at this;exact this
def gI{m:Int}(h:H a=some (.dK (FZ an at_ m))):BS H a (.str "made") (some (.int m)):=by have:=BS.kq (k:=.inr "made") h;rw[kE] at this;exact this
def ij{X:Cx}{pos:Pos}{k1 k2 k3 v1 v2 v3:hY}{trs:List (TE×TE)}(h:OA X pos [some k1,some k2,some k3] [v1,v2,v3] trs):PE X (.Dict [some k1,some k2,some k3] [v1,v2,v3] pos) (Zr trs):=@kB X pos [some k1,some k2,some k3] [v1,v2,v3] trs h rfl rfl (List.cons_ne_nil _ _) (by show 3<=15;decide)
def jx:Az [] [] (Ao Pr):=by left
def gW(F:Aj K "_law_begun" "_law_begun" Pr f fd):AW P w K mg base Ah 1 f fd [] X9:=by
 refine F.ok jx ?_ ?_
 ·rintro _ _ _ _ ⟨rfl,_⟩;rfl
 ·rintro _ A _ s H _ Q E hr ⟨rfl,q⟩;refine⟨_,@AU _ _ _ (@An _ _ _ _ (@ij _ _ _ _ _ _ _ _ _ (@SA _ _ _ _ _ _ _ _ _ (@AZ _ _ _ _) (@PD _ _) (@SA _ _ _ _ _ _ _ _ _ (@AZ _ _ _ _) (@PD _ _) (@SA _ _ _ _ _ _ _ _ _ (@AZ _ _ _ _) (@Ac _ _ _ _) (@ju _ _)))))),?_⟩;intro a ha an han at_ hat;have n1:a≠an:=A9 AM han;have hA1:(upd (upd H a (.dK [])) an (.dK [])) a=some (.dK []):=by rw[AR n1];exact AM
  have n2:a≠at_:=A9 hA1 hat;have n3:an≠at_:=A9 AM hat;have fan:H an=none:=(AY ha).free han;have fat:H at_=none:=((AY ha).trans (AY han)).free hat;refine⟨by rw[AR n2];exact hA1,[(.inr "names",.ref an),(.inr "texts",.ref at_),(.inr "made",.int 0)],rfl,by show 3<=15;decide,q a _ ⟨an,at_,[],?_⟩⟩;refine⟨(((AQ.refl H).upd ha).upd fan).upd fat|>.upd ha,?_,?_,?_,rfl,fun i t p e=>(by simp at e),ha,fan,fat,fun t ht=>(by cases ht),⟨n1,n2,n3⟩⟩
  ·rw[AM];rfl
  ·rw[AR n1.symm,AR n3];exact AM
  ·rw[AR n2.symm];exact AM
def Sq:Az ["_law_nook","_law_name","_law_number","_law_one","_law_word"] ["_law_nook","_law_name","_law_number"] (Ao Nf):=by left
def Wy(F:Aj K "_law_named" "_law_named" Nf f fd)(O:Own mg):AW P w K mg base Ah 1 f fd ["_law_nook","_law_name","_law_number"] Sw:=by
 refine F.ok Sq ?_ ?_
 ·rintro _ _ _ _ ⟨_,_,_,_,_,rfl,_⟩;rfl
 ·rintro _ A _ s H _ Q E hr ⟨a,name,no,H0,n,rfl,⟨an,at_,tx,nk⟩,fit,q⟩;have hu1:=Ck hr;refine⟨_,(AS (FH hu1 (CP hu1 (pv 0)) (pv 1) (pv 2) rfl) (AU (EJ EG rfl (Fz (Er (LL rfl) rfl O.lst Fs (AE (CP hu1 (pv 0)) AI))) (Bh (i:=3) Sq.nd rfl (Aa rfl))
   (AU (EJ EG rfl (Fz (Dx hu1 (CP hu1 (pv 0)) (pv 3) (fun _ _=>rfl))) (Bh (i:=4) Sq.nd rfl (Aa rfl))
   (AU (A7 (PW.pt (FN (Ax Ba (Gk (pv 4)) AZ (Ar _)) (FN (Ax Ba (Gk (pv 4)) (Eb Ea Ac) (Ar _)) (HH (Ax Ba (Gk (pv 4)) (pv 1) (Ar _))))))
   (AU (Pm (pv 2) (TV (pv 4) Ac set_list)))
   BG))))))),?_⟩;have hl:(F5 n.names).length<sizeLine:=by
   show(n.names.map _).length<_;have:=fit.names;rw[AK,Aw]
   lia
  have dp:=Dh.kq (k:=.inr name) (v:=.int no) nk.hn hl;rw[KL Fp] at dp;refine⟨_,rfl,_,rfl,a,_,rfl,EY nk.ha,_,rfl,an,_,rfl,dp,?_⟩;have nk2:=nk.putN (AV n.names name no);refine W7 (fun σ=>∃v3 v4,σ=[some (.ref a),some (.str name),some (.int no),v3,v4]) (CN name no) (dn name no) ⟨none,none,rfl⟩ ?_ ?_ ?_ (by decide) nk2 fit.Cf ?_ ?_
  ·rintro σ ⟨v3,v4,rfl⟩;exact⟨rfl,by show 3<5;decide⟩
  ·rintro σ v ⟨v3,v4,rfl⟩;exact⟨_,_,rfl⟩
  ·rintro σ v ⟨v3,v4,rfl⟩;exact⟨_,_,rfl⟩
  ·rintro _ H' D' w wd ⟨v3,v4,rfl⟩ hw kn;obtain⟨to,nm,no0⟩:=wd;have same:CN name no ⟨to,nm,no0⟩=⟨to,nm,no0⟩->D'.nx [some (.ref a),some (.str name),some (.int no),v3,some (.ref w)] H':=fun e=>by rw[e,ZH hw] at kn;exact kn
   cases to with
   |false=>refine⟨_,rfl,w,_,_,.str "word",rfl,rfl,AJ.of hw,rfl,rfl,_,rfl,CT (by intro z;exact absurd (V.str.inj z) (by left)) (BK (same ?_))⟩;unfold CN;rw[AG (by simp)]
   |true=>
    refine⟨_,rfl,w,_,_,.str "to",rfl,rfl,AJ.of hw,rfl,rfl,_,rfl,CD rfl ⟨_,rfl,w,_,_,.int no0,rfl,rfl,AJ.of hw,rfl,_,rfl,rfl,_,rfl,?_⟩⟩;by_cases h1:no0= -1
    ·refine CD (by rw[h1]) ⟨_,rfl,w,_,_,.str nm,rfl,rfl,AJ.of hw,rfl,_,rfl,rfl,_,rfl,?_⟩;by_cases h2:nm=name
     ·refine CD (by rw[h2]) ⟨_,rfl,_,rfl,w,_,_,2,rfl,rfl,hw,rfl,?_⟩;have eg:CN name no ⟨true,nm,no0⟩=⟨true,nm,no⟩:=by unfold CN;rw[AH ⟨rfl,h1,h2⟩]
      rw[eg] at kn;exact kn
     ·refine CT (by intro z;exact h2 (V.str.inj z)) (same ?_);unfold CN;rw[AG (fun z=>h2 z.2.2)]
    ·refine CT (by intro z;exact h1 (V.int.inj z)) (BK (same ?_));unfold CN;rw[AG (fun z=>h1 z.2.1)]
  ·rintro σ H' ⟨v3,v4,rfl⟩ nk3;exact q H' ⟨an,at_,tx,nk3⟩
def SK:Az ["_law_nook","_law_number","_law_name","_law_other","_law_one","_law_word"] ["_law_nook","_law_number","_law_name","_law_other"] (Ao NJ):=by left
def WG(F:Aj K "_law_turned" "_law_turned" NJ f fd)(O:Own mg):AW P w K mg base Ah 1 f fd ["_law_nook","_law_number","_law_name","_law_other"] SO:=by
 refine F.ok SK ?_ ?_
 ·rintro _ _ _ _ ⟨_,_,_,_,_,_,rfl,_⟩;rfl
 ·rintro _ A _ s H _ Q E hr ⟨a,no,name,other,H0,n,rfl,⟨an,at_,tx,nk⟩,fit,q⟩;have hu1:=Ck hr;refine⟨_,(AU (EJ EG rfl (Fz (Er (LL rfl) rfl O.lst Fs (AE (CP hu1 (pv 0)) AI))) (Bh (i:=4) SK.nd rfl (Aa rfl))
   (AU (EJ EG rfl (Fz (Dx hu1 (CP hu1 (pv 0)) (pv 4) (fun _ _=>rfl))) (Bh (i:=5) SK.nd rfl (Aa rfl))
   (AU (A7 (PW.pt (FN (Ax Ba (Gk (pv 5)) AZ (Ar _)) (HH (Ax Ba (Gk (pv 5)) (pv 1) (Ar _)))))
   (AS (Pm (pv 2) (TV (pv 5) Ac set_list)) (AU (Pm (pv 3) (TV (pv 5) Ac set_list))))
   BG)))))),?_⟩;refine W7 (fun σ=>∃v4 v5,σ=[some (.ref a),some (.int no),some (.str name),some (.int other),v4,v5]) (CM no name other) (df no name other) ⟨none,none,rfl⟩ ?_ ?_ ?_ (by decide) nk fit.Cf ?_ ?_
  ·rintro σ ⟨v3,v4,rfl⟩;exact⟨rfl,by show 4<6;decide⟩
  ·rintro σ v ⟨v3,v4,rfl⟩;exact⟨_,_,rfl⟩
  ·rintro σ v ⟨v3,v4,rfl⟩;exact⟨_,_,rfl⟩
  ·rintro _ H' D' w wd ⟨v3,v4,rfl⟩ hw kn;obtain⟨to,nm,no0⟩:=wd;have same:CM no name other ⟨to,nm,no0⟩=⟨to,nm,no0⟩->D'.nx [some (.ref a),some (.int no),some (.str name),some (.int other),v3,some (.ref w)] H':=fun e=>by rw[e,ZH hw] at kn;exact kn
   cases to with
   |false=>refine⟨_,rfl,w,_,_,.str "word",rfl,rfl,AJ.of hw,rfl,rfl,_,rfl,CT (by intro z;exact absurd (V.str.inj z) (by left)) (BK (same ?_))⟩;unfold CM;rw[AG (by simp)]
   |true=>
    refine⟨_,rfl,w,_,_,.str "to",rfl,rfl,AJ.of hw,rfl,rfl,_,rfl,CD rfl ⟨_,rfl,w,_,_,.int no0,rfl,rfl,AJ.of hw,rfl,_,rfl,rfl,_,rfl,?_⟩⟩;by_cases h1:no0=no
    ·refine CD (by rw[h1]) ⟨_,rfl,_,rfl,w,_,_,1,rfl,rfl,hw,rfl,_,rfl,_,rfl,w,_,_,2,rfl,rfl,AM,rfl,?_⟩;have eg:CM no name other ⟨true,nm,no0⟩=⟨true,name,other⟩:=by unfold CM;rw[AH ⟨rfl,h1⟩]
     rw[eg] at kn;rw[KO];exact kn
    ·refine CT (by intro z;exact h1 (V.int.inj z)) (same ?_);unfold CM;rw[AG (fun z=>h1 z.2)]
  ·rintro σ H' ⟨v3,v4,rfl⟩ nk3;exact q H' ⟨an,at_,tx,nk3⟩
def Nm:Az ["_law_nook","_law_number","_law_many","_law_one","_law_word"] ["_law_nook","_law_number"] (Ao Nw):=by left
noncomputable def upTo(n:Nk)(p q:Nat):List Wd:=(n.texts.take p).flatMap (·.2)++(((n.texts[p]?).map (·.2)).getD []).take q
def ZJ(F:Aj K "_law_led" "_law_led" Nw f fd)(O:Own mg):AW P w K mg base Ah 1 f fd ["_law_nook","_law_number"] Tz:=by
 refine F.ok Nm ?_ ?_
 ·rintro _ _ _ _ ⟨_,_,_,_,rfl,_⟩;rfl
 ·rintro _ A _ s H _ Q E hr ⟨a,no,H0,n,rfl,⟨an,at_,tx,nk⟩,fit,q⟩;have hu1:=Ck hr;refine⟨_,(AS (Av (i:=2) Nm.nd rfl (Aa rfl) Ac) (AS (EJ EG rfl (Fz (Er (LL rfl) rfl O.lst Fs (AE (CP hu1 (pv 0)) AI))) (Bh (i:=3) Nm.nd rfl (Aa rfl))
   (AU (EJ EG rfl (Fz (Dx hu1 (CP hu1 (pv 0)) (pv 3) (fun _ _=>rfl))) (Bh (i:=4) Nm.nd rfl (Aa rfl))
   (AU (Av (i:=2) Nm.nd rfl (Aa rfl) (Ag DD (pv 2) (Er M5 rfl O.int Lg (AE (Po (Ic Ba (Gk (pv 4)) AZ (Ar _)) (Pu (Ic Ba (Gk (pv 4)) (pv 1) (Ar _)))) AI)))))))) (AU (An (pv 2))))),?_⟩;have at_p:∀{p t},tx[p]? =some t->∃pp,n.texts[p]? =some pp:=fun{p t} e=>by
   have hp:p<n.texts.length:=by rw[<-nk.len];exact(BZ.mp e).1
   exact⟨_,Ap hp⟩
  refine V2 (a:=a) (at_:=at_) (A:=FZ an at_ n.made) (tx:=tx) (fun L p q σ H'=>∃(v3 v4:Option V),σ=[some (.ref a),some (.int no),some (.int ((upTo n p q).countP (HU no):Nat)),v3,v4]/\AQ H H'/\H' L=some (.lst (tx.map fun t=>V.int t.1))) rfl nk.ha M6 nk.ht
   (fun L hL=>⟨none,none,rfl,AY hL,AM⟩) ?_ (by decide) ?_ ?_ ?_ ?_
  ·rintro L p q σ H' ⟨v3,v4,rfl,sm,hL⟩;have nk2:=nk.ext sm;refine⟨⟨nk2.ha,M6,nk2.ht,hL,fun t ht=>?_,by rw[nk.keys];exact fit.Cf⟩,rfl,by show 3<5;decide⟩;obtain⟨i,hi',e⟩:=IQ.mp ht;have e1:tx[i]? =some t:=by rw[Ap hi',e]
   obtain⟨pp,ep⟩:=at_p e1;exact(nk2.Dc i t pp e1 ep).2.1
  ·rintro L p t q w σ H' D' et ew ⟨v3,v4,rfl,sm,hL⟩ kn;obtain⟨pp,ep⟩:=at_p et;have nk2:=nk.ext sm;have hq:q<pp.2.length:=by rw[<-(nk.Dc p t pp et ep).2.2.1];exact(BZ.mp ew).1
   have ed:pp.2[q]? =some pp.2[q]:=Ap hq;have hw:=(nk2.Dc p t pp et ep).2.2.2 q w _ ew ed;generalize pp.2[q]=wd at ed hw;have eu:upTo n p (q+1)=upTo n p q++[wd]:=by unfold upTo;rw[ep];show _++pp.2.take (q+1)=(_++pp.2.take q)++[wd];rw[EW,ed,Bb];rfl
   have kn':D'.nx [some (.ref a),some (.int no),some (.int (((upTo n p q).countP (HU no):Nat)+(if HU no wd=true then 1 else 0))),v3,some (.ref w)] H':=by
    have h1:=kn [some (.ref a),some (.int no),some (.int ((upTo n p (q+1)).countP (HU no):Nat)),v3,some (.ref w)] H' ⟨_,_,rfl,sm,hL⟩;rw[eu,Q1,List.countP_singleton] at h1;have e2:(((upTo n p q).countP (HU no)+(if HU no wd=true then 1 else 0):Nat):Int)=((upTo n p q).countP (HU no):Nat)+(if HU no wd=true then 1 else 0):=by cases HU no wd<;>rfl
    rw[e2] at h1;exact h1
   obtain⟨to,nm,no0⟩:=wd
   cases to with
   |false=>refine⟨_,rfl,_,rfl,w,_,_,.str "word",rfl,rfl,AJ.of hw,rfl,rfl,_,rfl,CT (by intro z;exact absurd (V.str.inj z) (by left)) (.inr ⟨_,rfl,_,_,rfl,rfl,kn'⟩)⟩
   |true=>
    refine⟨_,rfl,_,rfl,w,_,_,.str "to",rfl,rfl,AJ.of hw,rfl,rfl,_,rfl,CD rfl ⟨_,rfl,w,_,_,.int no0,rfl,rfl,AJ.of hw,rfl,_,rfl,rfl,.inr ⟨_,rfl,_,_,rfl,rfl,?_⟩⟩⟩;have e3:HU no ⟨true,nm,no0⟩=decide (V.int no0=V.int no):=by
     show(true&&decide (no0=no))=_;rw[Bool.true_and];by_cases h:no0=no
     ·rw[h];simp
     ·rw[BO h,BO (fun z=>h (V.int.inj z))]
    rw[e3] at kn';exact kn'
  ·rintro L p t σ H' et ⟨v3,v4,rfl,sm,hL⟩;exact⟨_,_,rfl,sm,hL⟩
  ·rintro L p t σ H' et ⟨v3,v4,rfl,sm,hL⟩;obtain⟨pp,ep⟩:=at_p et;have eu:upTo n p t.2.2.length=upTo n (p+1) 0:=by unfold upTo;rw[ep,EW,ep,(nk.Dc p t pp et ep).2.2.1,K9,Ct];show _++pp.2.take pp.2.length=(_++[pp]).flatMap _;rw[Cy,List.flatMap_append];show _++pp.2=_++(pp.2++[]);rw[Ct]
   rw[eu];exact⟨_,_,rfl,sm,hL⟩
  ·rintro L σ H' ⟨v3,v4,rfl,sm,hL⟩;have eu:upTo n tx.length 0=n.flat:=by unfold upTo Nk.flat;rw[nk.len,Cy,K9,Ct]
   rw[eu];exact⟨_,rfl,q H' sm⟩
theorem fN:Bv X (qm .Gt) (fun x y H Q=>∃i j,x=.str i/\y=.str j/\Q (.bl (decide (j.cps.toList<i.cps.toList))) H):=by intro pins s σ H x y v u Q I rx ry h;obtain⟨i,j,rfl,rfl,q⟩:=h;obtain⟨t,rfl⟩:=rx;obtain⟨t',rfl⟩:=ry;exact P.gt_str (CA I q rfl)
noncomputable def D1(c:Nat):Bool:=decide (([c]:List Nat)<("a" :Str).cps.toList)||decide (("z" :Str).cps.toList<([c]:List Nat))
def DN(z:Str):Bool:=(!decide (z=""))&&(z.cps.toList.filter D1).isEmpty
def SW:Sp:=fun vs H Q _=>∃z:Str,vs=[.str z]/\z.length<=100000/\∀H',AQ H H'->Q (.bl (DN z)) H'
def Nk.added(n:Nk)(name:Str):Nk:=({n with made:=n.made+1,texts:=AV n.texts n.made []}:Nk).named name n.made
def YW:Sp:=fun vs H Q _=>∃(a:Ya)(name:Str)(H0:Hp)(n:Nk),vs=[.ref a,.str name]/\Ce H0 H a n/\Fits n/\n.texts.length<1000/\AF n.texts n.made=none/\∀H',Ce H0 H' a (n.added name)->Q (.int n.made) H'
def NB{α β:Type}[DecidableEq α]{k:α}:∀{l:List (α×β)},AF l k=none->k∉l.map (·.1)
 |[],_=>by simp
 |p::l,h=>by
  unfold AF at h;rw[DA] at h;by_cases e:p.1=k
  ·rw[BW e] at h;cases h
  ·rw[BO e] at h;have:=NB (l:=l) (k:=k) h;rw[Ay,Be];rintro(z|z)
   ·exact e z.symm
   ·exact this z
def G0{α:Type}[DecidableEq α]{k:α}{v:β}{l:List (α×β)}(h:AF l k=none):AV l k v=l++[(k,v)]:=by unfold AV;rw[AG];intro z;obtain⟨p,hp,e⟩:=Jz.mp z;exact NB h (BP.mpr ⟨p,hp,IT e⟩)
def Fits.pW{k:Int}{m:Int}(h:Fits n)(hk:AF n.texts k=none)(hl:n.texts.length<1000):Fits {n with made:=m,texts:=AV n.texts k []}:=by
 refine⟨h.CW,?_,h.names,?_,fun p hp=>?_⟩
 ·show((AV n.texts k []).map (·.1)).Nodup;rw[G0 hk,A8,OZ];refine⟨h.Cf,by simp,fun x hx y hy z=>?_⟩;have:y=k:=by simpa using hy
  rw[this] at z;rw[z] at hx;exact NB hk hx
 ·show(AV n.texts k []).length<=1000;rw[G0 hk,Au,CK]
  lia
 ·have hp':p∈AV n.texts k []:=hp;rw[G0 hk] at hp';rcases Bk.mp hp' with z|z
  ·exact h.words p z
  ·rw[Bj.mp z];exact CG _
def YH:Az ["_law_nook","_law_name","_law_number"] ["_law_nook","_law_name"] (Ao TJ):=by left
def iO{fNa:Ya}{fdNa:qo}(F:Aj K "_law_added" "_law_added" TJ f fd)(O:Own mg)
 (FNa:Aj K "_law_named" "_law_named" Nf fNa fdNa)(bNa:Binds K fdNa ["_law_nook","_law_name","_law_number"] [])(mNa:mg "_law_named" =some (.ref fNa)):AW P w K mg base Ah 2 f fd ["_law_nook","_law_name"] YW:=by
 have GNa:AW P w K mg base Ah 1 fNa fdNa ["_law_nook","_law_name","_law_number"] Sw:=Wy FNa O;refine F.ok YH ?_ ?_
 ·rintro _ _ _ _ ⟨_,_,_,_,rfl,_⟩;rfl
 ·rintro _ A _ s H _ Q E hr ⟨a,name,H0,n,rfl,⟨an,at_,tx,nk⟩,fit,hlt,hnew,q⟩;have hu1:=Ck hr;refine⟨_,(AS (Av (i:=2) YH.nd rfl (Aa rfl) (CP hu1 (pv 0))) (AS (FH hu1 (pv 0) AZ (Ag DD (pv 2) Ac) rfl) (AS (FH hu1 (CP hu1 (pv 0)) (pv 2) (Bu AI) rfl) (AS (Bp (CL GNa hr rfl mNa FNa.kp bNa .nil A3 (AE (pv 0) (AE (pv 1) (AE (pv 2) AI))))) (AU (An (pv 2))))))),?_⟩;have dp1:=Dh.kq (k:=.inr "made") (v:=.int (n.made+1)) nk.ha (by show 3<sizeLine;decide);rw[kr] at dp1;refine⟨_,rfl,a,_,rfl,gI nk.ha,_,rfl,_,_,rfl,rfl,_,rfl,a,_,rfl,dp1,?_⟩;have nk1:=nk.pB (n.made+1);generalize upd H a (.dK (FZ an at_ (n.made+1)))=H1 at nk1;refine⟨by show 0<=sizeLine;decide,fun l hl=>?_⟩;have nk2:=nk1.ext (AY (o:=.lst []) hl);have htl:(CQ tx).length<sizeLine:=by
   show(tx.map _).length<_;rw[AK,nk.len,Aw]
   lia
  have dp2:=Dh.kq (k:=.inl n.made) (v:=.ref l) nk2.ht htl;have e2:putK (CQ tx) (.inl n.made) (.ref l)=CQ (AV tx n.made (l,[])):=KL (g:=fun p:Ya×List Ya=>V.ref p.1) FG n.made (l,[]) tx;rw[e2] at dp2;refine⟨_,rfl,a,_,rfl,Gz nk2.ha,_,rfl,at_,_,rfl,dp2,?_⟩;have nk3:=nk2.Nz n.made (l:=l) (ws:=[]) (CY:=[]) AM rfl (fun j w wd e=>by simp at e) (fun w hw=>by cases hw);exact⟨_,rfl,_,rfl,_,rfl,a,name,n.made,H0,_,rfl,⟨an,at_,_,nk3⟩,fit.pW hnew hlt,fun H' nk'=>⟨_,rfl,q H' nk'⟩⟩
def iH:Az ["_law_text"] ["_law_text"] (Ao NK):=by left
def WM(F:Aj K "_law_is_name" "_law_is_name" NK f fd):AW P w K mg base Ah 1 f fd ["_law_text"] SW:=by
 refine F.ok iH ?_ ?_
 ·rintro _ _ _ _ ⟨_,rfl,_⟩;rfl
 ·rintro _ A _ s H _ Q E hr ⟨x,rfl,hx,k⟩;have hu:=hr.TL;refine⟨_,(AU (An (Po (Ic Fw (pv 0) AZ (Ar _)) (Pu (Ic (pk hu) (Eu (ts:=["_law_sign"]) (cap:=[]) (ix:=[]) (KJ rfl rfl (by left) (by left)) (Yu (pv 0)) (fun _ _ _ _ _=>Bh (i:=0) Ei rfl (Aa rfl) (Cv rfl)) (fun _ _ _ _ _=>(NM (PW.pt (Je (Ax fe (pv 0) AZ (Ar _)) (JU (Ax fN (pv 0) AZ (Ar _))))))) (fun _ _ _ _ _=>(pv 0))) (Bu AI) (Ar _)))))),?_⟩;refine⟨_,rfl,rfl,_,rfl,?_⟩;by_cases e:x=""
  ·refine ER (by rw[e]) ?_;have:DN x=false:=by unfold DN;rw[BW e];rfl
   have q:=k H (AQ.refl H);rw[this] at q;exact q
  ·refine Gh (fun z=>e (V.str.inj z)) ?_;have en:DN x=(x.cps.toList.filter D1).isEmpty:=by unfold DN;rw[BO e];rfl
   have el:x.cps.toList.length<=100000:=by simpa[Str.length] using hx
   refine⟨_,rfl,x,rfl,fun D hD=>W6 (fun i H'=>AQ H H'/\H' D=some (.lst (((x.cps.toList.take i).filter D1).map fun c=>V.str ⟨#[c]⟩))) ⟨AY hD,AM⟩ ?_ ?_⟩
   ·rintro i c H' hc ⟨sm,hD'⟩;have hlt:i<x.cps.toList.length:=(BZ.mp hc).1;have et:x.cps.toList.take (i+1)=x.cps.toList.take i++[c]:=by rw[EW,hc];rfl
    have put:D1 c=true->∃ys,H' D=some (.lst ys)/\ys.length<sizeLine/\AQ H (upd H' D (.lst (ys++[V.str ⟨#[c]⟩])))/\(upd H' D (.lst (ys++[V.str ⟨#[c]⟩]))) D=some (.lst (((x.cps.toList.take (i+1)).filter D1).map fun c=>V.str ⟨#[c]⟩)):=fun hb=>by
     refine⟨_,hD',?_,sm.upd hD,?_⟩
     ·have:=F9 D1 (x.cps.toList.take i);rw[Bc] at this;rw[AK,Aw]
      lia
     ·rw[AM,et,I9,A8];have:[c].filter D1=[c]:=by simp[hb]
      rw[this];rfl
    have skip:D1 c=false->AQ H H'/\H' D=some (.lst (((x.cps.toList.take (i+1)).filter D1).map fun c=>V.str ⟨#[c]⟩)):=fun hb=>by
     refine⟨sm,?_⟩;rw[hD',et,I9];have:[c].filter D1=[]:=by simp[hb]
     rw[this,Ct]
    refine⟨FV,_,rfl,_,_,rfl,rfl,_,rfl,?_⟩;by_cases h1:([c]:List Nat)<("a" :Str).cps.toList
    ·exact CD h1 (Bo ⟨_,rfl,put (by unfold D1;rw[BW h1];rfl)⟩)
    ·refine CT h1 ⟨_,rfl,_,_,rfl,rfl,_,rfl,?_⟩;by_cases h2:("z" :Str).cps.toList<([c]:List Nat)
     ·exact CD h2 ⟨_,rfl,put (by unfold D1;rw[BW h2,Bool.or_true])⟩
     ·exact CT h2 (skip (by unfold D1;rw[BO h1,BO h2];rfl))
   ·rintro H' ⟨sm,hD'⟩;rw[Cy] at hD';refine⟨by show 0<=sizeLine;decide,fun q hq=>⟨D,q,_,rfl,rfl,AJ.of ((AY hq) _ _ hD'),AJ.of AM,?_⟩⟩;have h1:=k _ (sm.trans (AY (o:=.lst []) hq));have h2:((x.cps.toList.filter D1).map fun c=>V.str ⟨#[c]⟩).isEmpty=(x.cps.toList.filter D1).isEmpty:=by cases x.cps.toList.filter D1<;>rfl
    rw[h2,<-en];exact h1
def fM{c:TT}{t u:TS}{D:Ends}(G:Hp->Prop)(hG:∀H2,G H2->u D σ H2)(h:(∀H2,G H2->u D σ H2)->Hb c t u D σ H):Hb c t u D σ H:=h hG
def gC(t p:Str)(h:p∈Txt.split t " "):p.length<=t.length:=by
 have hw:=Ms t " " (by decide);have h2:p.length<=((Txt.split t " ").map (·.length)).sum:=by
  generalize Txt.split t " " =L at h
  induction L with
  |nil=>cases h
  |cons a r ih=>
   rw[Ay,Bz];rcases Be.mp h with e|e
   ·subst e;lia
   ·have:=ih e;lia
 have h3:1<=(Txt.split t " ").length:=VF h
 lia
noncomputable def inner(p:Str):Str:=Txt.slice p (some 1) (some (-1))
def IF(p:Str):Bool:=decide (V.str (Txt.slice p none (some 1))=V.str "[")&&(decide (V.str (Txt.slice p (some (-1)) none)=V.str "]")&&DN (inner p))
def EA(names:List (Str×Int))(p:Str):Option Wd:=if IF p=true then some ⟨true,inner p,(AF names (inner p)).getD (-1)⟩ else if p="" then none else some ⟨false,p,-1⟩
def Ge(names:List (Str×Int))(z:Str):List Wd:=(Txt.split z " ").filterMap (EA names)
structure IM(H H':Hp)(ws:List Ya)(CY:List Wd):Prop where
 len:ws.length=CY.length
 at_:∀(j:Nat) w wd,ws[j]? =some w->CY[j]? =some wd->H' w=some (.lst wd.vq)
 new:∀w∈ws,H w=none
def Vt:Sp:=fun vs H Q _=>∃(a:Ya)(z:Str)(H0:Hp)(n:Nk),vs=[.ref a,.str z]/\Ce H0 H a n/\z.length<=1000/\
 ∀(L:Ya)(ws:List Ya)(H':Hp),AQ H H'->H L=none->H' L=some (.lst (ws.map V.ref))->IM H H' ws (Ge n.names z)->Q (.ref L) H'
def IM.snoc{ws:List Ya}{CY:List Wd}{w:Ya}{wd:Wd}{o:HO}(h:IM H H2 ws CY)(hw:H2 w=none)(hn:H w=none)(hL:H2 L=some (.lst (ws.map V.ref))):IM H (upd (upd H2 w (.lst wd.vq)) L o) (ws++[w]) (CY++[wd]):=by
 have nLw:w≠L:=(A9 hL hw).symm;refine⟨by rw[Au,Au,h.len];rfl,fun j x xd h1 h2=>?_,fun x hx=>?_⟩
 ·by_cases hj:j<ws.length
  ·rw[C4 hj] at h1;rw[C4 (by rw[<-h.len];exact hj)] at h2;have:=h.at_ j x xd h1 h2;rw[AR (Ca this hL (by intro z;exact WZ _ xd (HO.lst.inj z).symm)),AR (A9 this hw)];exact this
  ·have hj1:j<(ws++[w]).length:=(BZ.mp h1).1;rw[Au,CK] at hj1;obtain rfl:j=ws.length:=by lia
   rw[Cj (Ad _),EX] at h1;rw[Cj (by rw[h.len];exact Ad _),h.len,EX] at h2;cases Ai h1;cases Ai h2;rw[AR nLw,AM]
 ·rcases Bk.mp hx with z|z
  ·exact h.new x z
  ·rw[Bj.mp z];exact hn
def IM.ext{H3:Hp}{ws:List Ya}{CY:List Wd}(h:IM H H2 ws CY)(s:AQ H2 H3):IM H H3 ws CY:=⟨h.len,fun j w wd h1 h2=>s _ _ (h.at_ j w wd h1 h2),h.new⟩
def Rk:Az ["_law_nook","_law_text","_law_words","_law_one"] ["_law_nook","_law_text"] (Ao R8):=by left
def cj{fIs:Ya}{fdIs:qo}(F:Aj K "_law_penned_in" "_law_penned_in" R8 f fd)(FIs:Aj K "_law_is_name" "_law_is_name" NK fIs fdIs)(bIs:Binds K fdIs ["_law_text"] [])(mIs:mg "_law_is_name" =some (.ref fIs)):
 AW P w K mg base Ah 2 f fd ["_law_nook","_law_text"] Vt:=by
 have GIs:AW P w K mg base Ah 1 fIs fdIs ["_law_text"] SW:=WM FIs;refine F.ok Rk ?_ ?_
 ·rintro _ _ _ _ ⟨_,_,_,_,rfl,_⟩;rfl
 ·rintro _ A _ s H _ Q E hr ⟨a,z,H0,n,rfl,⟨an,at_,tx,nk⟩,hz,q⟩;have hu1:=Ck hr;refine⟨_,(AS (Av (i:=2) Rk.nd rfl (Aa rfl) (Bu AI)) (AS (EJ EG rfl (Fz (D4 Iy Qq Qp PH (pv 1) (AE AZ AI))) (Bh (i:=3) Rk.nd rfl (Aa rfl))
   (AU (A7 (PW.pt (FN (Ax Ba (Dr Ln (pv 3) Fo (C0 Ac)) AZ (Ar _)) (FN (Ax Ba (Dr Ln (pv 3) (C0 (Eb Ea Ac)) Fo) AZ (Ar _)) (HH (EN (CL GIs hr rfl mIs FIs.kp bIs .nil A3 (AE (Dr Ln (pv 3) (C0 Ac) (C0 (Eb Ea Ac))) AI)))))))
   (AU (Bp (D4 ED Fh Fg Es (pv 2) (AE (Bu (AE AZ (AE (Dr Ln (pv 3) (C0 Ac) (C0 (Eb Ea Ac))) (AE (iM hu1 (CP hu1 (pv 0)) (Dr Ln (pv 3) (C0 Ac) (C0 (Eb Ea Ac))) (Eb Ea Ac) ⟨rfl,rfl,rfl,rfl⟩) AI)))) AI))))
   (AU (A7 (Ax Fw (pv 3) AZ (Ar _))
   (AU (Bp (D4 ED Fh Fg Es (pv 2) (AE (Bu (AE AZ (AE (pv 3) (AE (Eb Ea Ac) AI)))) AI))))
   BG))))) (AU (An (pv 2))))),?_⟩;have hpl:(Txt.split z " ").length<=1001:=by
   have:=Ms z " " (by decide)
   lia
  refine⟨by show 0<=sizeLine;decide,fun L hL=>⟨_,rfl,rfl,z,_,rfl,rfl,by left,by rw[Aw];lia,fun D0 hD0=>?_⟩⟩;have nL0:L≠D0:=A9 AM hD0;have hD0n:H D0=none:=(AY hL).free hD0;refine⟨D0,rfl,⟨_,AJ.of AM⟩,?_⟩;refine JH (K:=[]) (a:=D0) (xs:=(Txt.split z " ").map V.str) (fun i σ H'=>∃(ws:List Ya)(v3:Option V),σ=[some (.ref a),some (.str z),some (.ref L),v3]/\AQ H H'/\H' D0=some (.lst ((Txt.split z " ").map V.str))/\H' L=some (.lst (ws.map V.ref))/\IM H H' ws (((Txt.split z " ").take i).filterMap (EA n.names))/\ws.length<=i)
   ⟨[],none,rfl,((AQ.refl H).upd hL).upd hD0n,AM,by rw[AR nL0];exact AM,⟨rfl,fun j w wd e=>by simp at e,fun w hw=>by cases hw⟩,Ad _⟩ (fun i σ H' _ ⟨_,_,_,_,h,_⟩=>AJ.of h) ?_ ?_
  ·rintro i x σ H' hx ⟨ws,v3,rfl,sm,hD',hL',pw,wl⟩;rw[A0] at hx
   cases ep:(Txt.split z " ")[i]?with
   |none=>rw[ep] at hx;cases hx
   |some pc=>
   rw[ep] at hx;obtain rfl:V.str pc=x:=Ai hx;have hi:i<(Txt.split z " ").length:=(BZ.mp ep).1;have hpc:=gC z pc (CF ep);have lpc:pc.length<=sizeLine:=by rw[Aw];lia
   have li:(inner pc).length<=100000:=by have:=Oo pc (some 1) (some (-1));unfold inner;lia
   have etk:((Txt.split z " ").take (i+1)).filterMap (EA n.names)=((Txt.split z " ").take i).filterMap (EA n.names)++(EA n.names pc).toList:=by rw[EW,ep,List.filterMap_append];show _++[pc].filterMap _=_;cases e:EA n.names pc<;>simp[e]
   have hlt:(ws.map V.ref).length<sizeLine:=by rw[AK,Aw];lia
   have fin:∀(wd:Wd)(es:List V)(H2:Hp)(w:Ya),EA n.names pc=some wd->es=wd.vq->AQ H' H2->H2 w=none->∃(ws':List Ya)(v3:Option V),([some (V.ref a),some (.str z),some (.ref L),some (.str pc)]:St)=[some (.ref a),some (.str z),some (.ref L),v3]/\AQ H (upd (upd H2 w (.lst es)) L (.lst (ws.map V.ref++[V.ref w])))/\
    (upd (upd H2 w (.lst es)) L (.lst (ws.map V.ref++[V.ref w]))) D0=some (.lst ((Txt.split z " ").map V.str))/\(upd (upd H2 w (.lst es)) L (.lst (ws.map V.ref++[V.ref w]))) L=some (.lst (ws'.map V.ref))/\
    IM H (upd (upd H2 w (.lst es)) L (.lst (ws.map V.ref++[V.ref w]))) ws' (((Txt.split z " ").take (i+1)).filterMap (EA n.names))/\ws'.length<=i+1:=by
    rintro wd es H2 w e rfl s2 hw;have hwn:H w=none:=(sm.trans s2).free hw;refine⟨ws++[w],_,rfl,((sm.trans s2).upd hwn).upd hL,?_,by rw[AM,A8];rfl,?_,by rw[Au,CK];lia⟩
    ·rw[AR nL0.symm,AR (A9 (s2 _ _ hD') hw)];exact s2 _ _ hD'
    ·rw[etk,e];exact(pw.ext s2).snoc hw hwn (s2 _ _ hL')
   refine fM (fun H2=>AQ H' H2/\IF pc=false) ?_ ?_
   ·rintro H2 ⟨s2,hnp⟩;refine⟨_,rfl,rfl,_,rfl,?_⟩;by_cases e0:pc=""
    ·refine ER (by rw[e0]) ?_;have er:EA n.names pc=none:=by unfold EA;rw[hnp,AG (by decide),AH e0]
     exact⟨ws,_,rfl,sm.trans s2,s2 _ _ hD',s2 _ _ hL',by rw[etk,er];show IM _ _ _ (_++[]);rw[Ct];exact pw.ext s2,by lia⟩
    ·refine Gh (fun z=>e0 (V.str.inj z)) ⟨_,rfl,.inl ⟨rfl,_,AJ.of (s2 _ _ hL')⟩,_,rfl,_,rfl,by show 3<=sizeLine;decide,fun w hw=>⟨L,_,.ref w,rfl,rfl,(AY hw) _ _ (s2 _ _ hL'),hlt,?_⟩⟩;have er:EA n.names pc=some ⟨false,pc,-1⟩:=by unfold EA;rw[hnp,AG (by decide),AG e0]
     exact fin _ _ H2 w er rfl s2 hw
   ·intro hG;refine⟨_,rfl,_,rfl,pc,rfl,lpc,rfl,_,rfl,?_⟩;by_cases h1:V.str (Txt.slice pc none (some 1))=V.str "["
    ·refine CD h1 ⟨_,rfl,_,rfl,_,rfl,pc,rfl,lpc,rfl,_,rfl,?_⟩;by_cases h2:V.str (Txt.slice pc (some (-1)) none)=V.str "]"
     ·refine CD h2 ⟨_,rfl,_,rfl,_,rfl,_,rfl,pc,rfl,lpc,inner pc,rfl,li,fun H2 s2=>⟨_,rfl,?_⟩⟩
      cases h3:DN (inner pc) with
      |false=>exact BK (hG H2 ⟨s2,by unfold IF;rw[h3,LB,LB]⟩)
      |true=>
       have hp:IF pc=true:=by unfold IF;rw[h3,BW h1,BW h2];rfl
       have nk2:=nk.ext (sm.trans s2);have dg:=BS.kq (k:=.inr (inner pc)) nk2.hn;rw[Et Fp] at dg;refine Bo ⟨_,rfl,.inl ⟨rfl,_,AJ.of (s2 _ _ hL')⟩,_,rfl,_,rfl,_,rfl,_,rfl,pc,rfl,lpc,_,rfl,a,_,rfl,EY nk2.ha,an,rfl,.inl ⟨_,.inl nk2.hn⟩,_,rfl,_,rfl,_,rfl,_,rfl,pc,rfl,lpc,_,rfl,_,dg,by show 3<=sizeLine;decide,fun w hw=>⟨L,_,.ref w,rfl,rfl,(AY hw) _ _ (s2 _ _ hL'),hlt,?_⟩⟩;have er:EA n.names pc=some ⟨true,inner pc,(AF n.names (inner pc)).getD (-1)⟩:=by unfold EA;rw[AH hp]
       refine fin _ _ H2 w er ?_ s2 hw;show[V.str "to",V.str (inner pc),((AF n.names (inner pc)).map V.int).getD (V.int (-1))]=[V.str "to",V.str (inner pc),V.int ((AF n.names (inner pc)).getD (-1))];cases AF n.names (inner pc)<;>rfl
     ·exact CT h2 (BK (hG _ ⟨AQ.refl _,by unfold IF;rw[BO h2,Mq,LB]⟩))
    ·exact CT h1 (BK (hG _ ⟨AQ.refl _,by unfold IF;rw[BO h1,Mq]⟩))
  ·rintro σ H' ⟨ws,v3,rfl,sm,hD',hL',pw,wl⟩;rw[AK,Cy] at pw;exact⟨_,rfl,q L ws H' sm hL hL' pw⟩
noncomputable def nameOf(names:List (Str×Int))(no:Int):Str:=((names.find? fun p=>decide (p.2=no)).map (·.1)).getD ""
def shown(names:List (Str×Int))(w:Wd):Str:=if w.to=true then(if w.no= -1 then "[" ++w.nm++ "]" else "[" ++nameOf names w.no++ "]") else w.nm
def Xd:Sp:=fun vs H Q _=>∃(a:Ya)(no:Int)(H0:Hp)(n:Nk),vs=[.ref a,.int no]/\Ce H0 H a n/\Fits n/\∀H',AQ H H'->Q (.str (nameOf n.names no)) H'
def X5:Sp:=fun vs H Q _=>∃(a w:Ya)(wd:Wd)(H0:Hp)(n:Nk),vs=[.ref a,.ref w]/\Ce H0 H a n/\Fits n/\H w=some (.lst wd.vq)/\wd.nm.length<=2000/\(∀p∈n.names,p.1.length<=2000)/\∀H',AQ H H'->Q (.str (shown n.names wd)) H'
variable{names:List (Str×Int)}{no:Int}
def dY(h:∀p∈names,p.1.length<=2000):(nameOf names no).length<=2000:=by
 unfold nameOf
 cases e:names.find? fun p=>decide (p.2=no) with
 |none=>show("" :Str).length<=2000;decide+kernel
 |some p=>exact h p (List.mem_of_find?_eq_some e)
def Wt:Az ["_law_nook","_law_number","_law_name"] ["_law_nook","_law_number"] (Ao PZ):=by left
def gA(F:Aj K "_law_name_of" "_law_name_of" PZ f fd)(O:Own mg):AW P w K mg base Ah 1 f fd ["_law_nook","_law_number"] Xd:=by
 refine F.ok Wt ?_ ?_
 ·rintro _ _ _ _ ⟨_,_,_,_,rfl,_⟩;rfl
 ·rintro _ A _ s H _ Q E hr ⟨a,no,H0,n,rfl,⟨an,at_,tx,nk⟩,fit,q⟩;have hu1:=Ck hr;refine⟨_,(AS (EJ EG rfl (Fz (Er (LL rfl) rfl O.lst Fs (AE (CP hu1 (pv 0)) AI))) (Bh (i:=2) Wt.nd rfl (Aa rfl))
   (AU (A7 (Ax Ba (Dx hu1 (CP hu1 (pv 0)) (pv 2) (fun _ _=>rfl)) (pv 1) (Ar _))
   (AU (An (pv 2)))
   BG))) (AU (An AZ))),?_⟩;refine⟨_,rfl,a,_,rfl,EY nk.ha,an,_,rfl,nk.hn,fun L hL=>?_⟩;have ek:((F5 n.names).map fun kv=>kV kv.1)=n.names.map fun p=>V.str p.1:=by
   show(n.names.map _).map _=_;rw[Bf];rfl
  rw[ek];refine⟨L,rfl,⟨_,AJ.of AM⟩,?_⟩;refine JH (K:=[]) (a:=L) (xs:=n.names.map fun p=>V.str p.1) (fun i σ H'=>∃v2:Option V,σ=[some (.ref a),some (.int no),v2]/\AQ (upd H L (.lst (n.names.map fun p=>V.str p.1))) H'/\(n.names.take i).find? (fun p=>decide (p.2=no))=none)
   ⟨none,rfl,AQ.refl _,rfl⟩ (fun i σ H' _ ⟨_,_,sm,_⟩=>AJ.of (sm _ _ AM)) ?_ ?_
  ·rintro i x σ H' hx ⟨v2,rfl,sm,hno⟩;rw[A0] at hx
   cases ep:n.names[i]?with
   |none=>rw[ep] at hx;cases hx
   |some p=>
   rw[ep] at hx;obtain rfl:V.str p.1=x:=Ai hx;have sm1:=(AY hL).trans sm;have nk2:=nk.ext sm1;have dg:=BS.kq (k:=.inr p.1) nk2.hn;rw[Et Fp,JM fit.CW ep] at dg;refine⟨_,rfl,a,_,rfl,EY nk2.ha,_,rfl,an,_,rfl,dg,_,rfl,rfl,_,rfl,?_⟩;have etk:n.names.take (i+1)=n.names.take i++[p]:=by rw[EW,ep];rfl
   by_cases hp:p.2=no
   ·refine CD (by rw[hp]) ⟨_,rfl,?_⟩;have en:nameOf n.names no=p.1:=by
     unfold nameOf;have:n.names.find? (fun p=>decide (p.2=no))=some p:=by
      conv=>lhs;rw[<-DQ (i+1) n.names]
      rw[etk,RA,RA,hno,List.find?_singleton,AH (BW hp)];rfl
     rw[this];rfl
    have:=q H' sm1;rw[en] at this;exact this
   ·refine CT (fun z=>hp (V.int.inj z)) ⟨_,rfl,sm,?_⟩;rw[etk,RA,hno,List.find?_singleton,AG (by rw[BO hp];decide)];rfl
  ·rintro σ H' ⟨v2,rfl,sm,hno⟩;rw[AK,Cy] at hno;have en:nameOf n.names no="" :=by unfold nameOf;rw[hno];rfl
   have:=q H' ((AY hL).trans sm);rw[en] at this;exact this
def js:Az ["_law_nook","_law_word"] ["_law_nook","_law_word"] (Ao TY):=by left
def jr:("[" :Str).length=1/\("]" :Str).length=1:=by left
def iN{fNo:Ya}{fdNo:qo}(F:Aj K "_law_shown" "_law_shown" TY f fd)(O:Own mg)(FNo:Aj K "_law_name_of" "_law_name_of" PZ fNo fdNo)(bNo:Binds K fdNo ["_law_nook","_law_number"] [])(mNo:mg "_law_name_of" =some (.ref fNo)):
 AW P w K mg base Ah 2 f fd ["_law_nook","_law_word"] X5:=by
 have GNo:AW P w K mg base Ah 1 fNo fdNo ["_law_nook","_law_number"] Xd:=gA FNo O;refine F.ok js ?_ ?_
 ·rintro _ _ _ _ ⟨_,_,_,_,_,rfl,_⟩;rfl
 ·rintro _ A _ s H _ Q E hr ⟨a,w,wd,H0,n,rfl,nk,fit,hw,hnl,hnn,q⟩;refine⟨_,(AS (A7 (Ax Ba (Gk (pv 1)) AZ (Ar _))
   (AU (An (Gk (pv 1))))
   BG) (AS (A7 (Ax Ba (Gk (pv 1)) (Eb Ea Ac) (Ar _))
   (AU (An (Ag FC (Ag FC AZ (Gk (pv 1))) AZ)))
   BG) (AU (An (Ag FC (Ag FC AZ (CL GNo hr rfl mNo FNo.kp bNo .nil A3 (AE (pv 0) (AE (Gk (pv 1)) AI)))) AZ))))),?_⟩;obtain⟨b1,b2⟩:=jr;have hnn':=dY (no:=wd.no) hnn;obtain⟨to,nm,no⟩:=wd
  cases to with
  |false=>exact⟨_,rfl,w,_,_,.str "word",rfl,rfl,AJ.of hw,rfl,rfl,_,rfl,CD rfl ⟨_,rfl,w,_,_,.str nm,rfl,rfl,AJ.of hw,rfl,q H (AQ.refl H)⟩⟩
  |true=>
   refine⟨_,rfl,w,_,_,.str "to",rfl,rfl,AJ.of hw,rfl,rfl,_,rfl,CT (by intro z;exact absurd (V.str.inj z) (by left)) ⟨_,rfl,w,_,_,.int no,rfl,rfl,AJ.of hw,rfl,_,rfl,rfl,_,rfl,?_⟩⟩;by_cases h:no= -1
   ·refine CD (by rw[h]) ⟨_,rfl,w,_,_,.str nm,rfl,rfl,AJ.of hw,rfl,_,_,rfl,rfl,by rw[b1,Aw];show 1+nm.length<=_;have:nm.length<=2000:=hnl;lia,_,_,rfl,rfl,by rw[Hx,b1,b2,Aw];have:nm.length<=2000:=hnl;lia,?_⟩;have:=q H (AQ.refl H);have es:shown n.names ⟨true,nm,no⟩="[" ++nm++ "]" :=by unfold shown;rw[AH rfl,AH h]
    rw[es] at this;exact this
   ·refine CT (fun z=>h (V.int.inj z)) ⟨_,rfl,_,rfl,w,_,_,.int no,rfl,rfl,AJ.of hw,rfl,a,no,H0,n,rfl,nk,fit,fun H' s'=>⟨_,_,rfl,rfl,by rw[b1,Aw];have:(nameOf n.names no).length<=2000:=hnn';lia,_,_,rfl,rfl,by rw[Hx,b1,b2,Aw];have:(nameOf n.names no).length<=2000:=hnn';lia,?_⟩⟩;have:=q H' s';have es:shown n.names ⟨true,nm,no⟩="[" ++nameOf n.names no++ "]" :=by unfold shown;rw[AH rfl,AG h]
    rw[es] at this;exact this
def S1{α β γ:Type}[DecidableEq α]{R:(α×β)->(α×γ)->Prop}(hR:∀t p,R t p->t.1=p.1)(k:α):∀(l:List (α×β))(m:List (α×γ)),l.length=m.length->(∀(i:Nat) t p,l[i]? =some t->m[i]? =some p->R t p)->
 (AN l k).length=(AN m k).length/\∀(i:Nat) t p,(AN l k)[i]? =some t->(AN m k)[i]? =some p->R t p
 |[],[],_,_=>⟨rfl,fun i t p e=>by simp[AN] at e⟩
 |t0::l,p0::m,hl,h=>by
  have h0:=h 0 t0 p0 rfl rfl;obtain⟨e1,e2⟩:=S1 hR k l m (by simpa using hl) fun i t p a b=>h (i+1) t p (by simpa using a) (by simpa using b);have ek:=hR _ _ h0;by_cases c:t0.1=k
  ·have d1:AN (t0::l) k=AN l k:=by unfold AN;rw[F8];simp[c]
   have d2:AN (p0::m) k=AN m k:=by unfold AN;rw[F8];simp[<-ek,c]
   rw[d1,d2];exact⟨e1,e2⟩
  ·have d1:AN (t0::l) k=t0::AN l k:=by unfold AN;rw[Fi];simp[c]
   have d2:AN (p0::m) k=p0::AN m k:=by unfold AN;rw[Fi];simp[<-ek,c]
   rw[d1,d2];refine⟨by rw[CS,CS,e1],fun i t p a b=>?_⟩
   cases i with
   |zero=>
    have a':t0=t:=by simpa using a
    have b':p0=p:=by simpa using b
    rw[<-a',<-b'];exact h0
   |succ i=>exact e2 i t p (by simpa using a) (by simpa using b)
 |[],_::_,hl,_=>by cases hl
 |_::_,[],hl,_=>by cases hl
def C1.P1{tx:List (Int×Ya×List Ya)}(h:C1 H0 H a an at_ tx n)(k:Int):C1 H0 (upd H at_ (.dK (CQ (AN tx k)))) a an at_ (AN tx k) {n with texts:=AN n.texts k}:=by obtain⟨e1,e2⟩:=S1 (R:=P9 (upd H at_ (.dK (CQ (AN tx k))))) (fun t p r=>r.1) k tx n.texts h.len (h.tab h.ht);exact⟨h.same.upd h.ft,by rw[AR h.ap.xz];exact h.ha,by rw[AR h.ap.yz];exact h.hn,AM,e1,e2,h.fa,h.fn,h.ft,fun t ht=>h.fw t (IW.mp ht).1,h.ap⟩
def GZ{α β:Type}[DecidableEq α]{k:α}{v:β}:∀{l:List (α×β)},AF l k=some v->∃i:Nat,l[i]? =some (k,v)
 |[],h=>by cases h
 |p::l,h=>by
  unfold AF at h;rw[DA] at h;by_cases e:p.1=k
  ·rw[BW e] at h;have hv:p.2=v:=Ai h;exact⟨0,by rw[<-e,<-hv];rfl⟩
  ·rw[BO e] at h;obtain⟨i,hi⟩:=GZ (l:=l) h;exact⟨i+1,by simpa using hi⟩
def C1.find{tx:List (Int×Ya×List Ya)}(h:C1 H0 H a an at_ tx n)(Cf:(n.texts.map (·.1)).Nodup){k:Int}{CY:List Wd}(hk:AF n.texts k=some CY):
 ∃(l:Ya)(ws:List Ya),AF tx k=some (l,ws)/\H l=some (.lst (ws.map V.ref))/\ws.length=CY.length/\(∀(j:Nat) w wd,ws[j]? =some w->CY[j]? =some wd->H w=some (.lst wd.vq))/\∀w∈ws,H0 w=none:=by
 obtain⟨i,hi⟩:=GZ hk;have hl:i<tx.length:=by rw[h.len];exact(BZ.mp hi).1
 have et:tx[i]? =some tx[i]:=Ap hl;generalize tx[i]=t at et;obtain⟨q1,q2,q3,q4⟩:=h.Dc i t _ et hi;obtain⟨k',l,ws⟩:=t;have hk':k'=k:=q1;subst hk';exact⟨l,ws,JM (by rw[h.keys];exact Cf) et,q2,q3,q4,h.fw _ (CF et)⟩
def EH{α β:Type}[DecidableEq α]{k j:α}(hne:j≠k):∀l:List (α×β),AF (AN l k) j=AF l j
 |[]=>rfl
 |p::l=>by
  have ih:=EH hne l;by_cases c:p.1=k
  ·have d1:AN (p::l) k=AN l k:=by unfold AN;rw[F8];simp[c]
   rw[d1,ih];unfold AF;rw[DA,BO (fun z=>hne (z.symm.trans c))]
  ·have d1:AN (p::l) k=p::AN l k:=by unfold AN;rw[Fi];simp[c]
   rw[d1];unfold AF at ih⊢;rw[DA,DA]
   cases decide (p.1=j) with
   |true=>rfl
   |false=>exact ih
def DK{α:Type}[DecidableEq α]{k:α}{l:List (α×β)}(h:(l.map (·.1)).Nodup):((AN l k).map (·.1)).Nodup:=by unfold AN;exact h.sublist (List.filter_sublist.map _)
def Xg{α:Type}[DecidableEq α]{k:α}{v w:β}{l:List (α×β)}(h:AF l k=some w):(AV l k v).map (·.1)=l.map (·.1):=by
 unfold AV;obtain⟨i,hi⟩:=GZ h;rw[AH (Jz.mpr ⟨_,CF hi,BW rfl⟩),Bf];refine EF fun p _=>?_;show(if p.1=k then(p.1,v) else p).1=p.1;by_cases c:p.1=k
 ·rw[AH c]
 ·rw[AG c]
def Nk.joined(n:Nk)(no:Int)(other:Str)(gone:Int)(w1 w2:List Wd):Nk:=({n with names:=AN n.names other,texts:=AV (AN n.texts gone) no (w1++w2)}:Nk).turned gone "" no
def Xq:Sp:=fun vs H Q _=>∃(a:Ya)(no:Int)(other:Str)(H0:Hp)(n:Nk)(gone:Int)(w1 w2:List Wd),vs=[.ref a,.int no,.str other]/\Ce H0 H a n/\Fits n/\AF n.names other=some gone/\AF n.texts no=some w1/\AF n.texts gone=some w2/\no≠gone/\(w1++w2).length<=100000/\
 ∀H',Ce H0 H' a (n.joined no other gone w1 w2)->Q (.int ((n.joined no other gone w1 w2).led no)) H'
def Fits.map{n:Nk}{g:Wd->Wd}(h:Fits n):Fits (n.Ip g):=by
 have ek:(n.Ip g).texts.map (·.1)=n.texts.map (·.1):=by show(n.texts.map _).map _=_;rw[Bf];rfl
 refine⟨h.CW,by rw[ek];exact h.Cf,h.names,?_,fun p hp=>?_⟩
 ·show(n.texts.map _).length<=1000;rw[AK];exact h.texts
 ·obtain⟨q,hq,e⟩:=BP.mp (show p∈n.texts.map _ from hp);rw[<-e];show(q.2.map g).length<=_;rw[AK];exact h.words q hq
def Fits.join{gone:Int}{other:Str}{w1 w2:List Wd}(h:Fits n)(h1:AF n.texts no=some w1)(hne:no≠gone)(hl:(w1++w2).length<=100000):Fits {n with names:=AN n.names other,texts:=AV (AN n.texts gone) no (w1++w2)}:=by
 have hg:AF (AN n.texts gone) no=some w1:=by rw[EH hne];exact h1
 refine⟨DK h.CW,?_,BF (F9 _ _) h.names,?_,fun p hp=>?_⟩
 ·show((AV (AN n.texts gone) no (w1++w2)).map (·.1)).Nodup;rw[Xg hg];exact DK h.Cf
 ·show(AV (AN n.texts gone) no (w1++w2)).length<=1000;have:=BJ List.length (Xg (v:=w1++w2) hg);rw[AK,AK] at this;rw[this];exact BF (F9 _ _) h.texts
 ·have hp':p∈AV (AN n.texts gone) no (w1++w2):=hp;unfold AV at hp';by_cases c:((AN n.texts gone).any fun p=>decide (p.1=no))=true
  ·rw[AH c] at hp';obtain⟨q,hq,e⟩:=BP.mp hp';by_cases d:q.1=no
   ·rw[AH d] at e;rw[<-e];exact hl
   ·rw[AG d] at e;rw[<-e];exact h.words q (IW.mp hq).1
  ·rw[AG c] at hp';rcases Bk.mp hp' with z|z
   ·exact h.words p (IW.mp z).1
   ·rw[Bj.mp z];exact hl
def XR:Az ["_law_nook","_law_number","_law_other","_law_gone"] ["_law_nook","_law_number","_law_other"] (Ao S6):=by left
def eW{fTu fLe:Ya}{fdTu fdLe:qo}(F:Aj K "_law_joined" "_law_joined" S6 f fd)(O:Own mg)
 (FTu:Aj K "_law_turned" "_law_turned" NJ fTu fdTu)(bTu:Binds K fdTu ["_law_nook","_law_number","_law_name","_law_other"] [])(mTu:mg "_law_turned" =some (.ref fTu))
 (FLe:Aj K "_law_led" "_law_led" Nw fLe fdLe)(bLe:Binds K fdLe ["_law_nook","_law_number"] [])(mLe:mg "_law_led" =some (.ref fLe)):AW P w K mg base Ah 2 f fd ["_law_nook","_law_number","_law_other"] Xq:=by
 have GTu:AW P w K mg base Ah 1 fTu fdTu ["_law_nook","_law_number","_law_name","_law_other"] SO:=WG FTu O;have GLe:AW P w K mg base Ah 1 fLe fdLe ["_law_nook","_law_number"] Tz:=ZJ FLe O;refine F.ok XR ?_ ?_
 ·rintro _ _ _ _ ⟨_,_,_,_,_,_,_,_,rfl,_⟩;rfl
 ·rintro _ A _ s H _ Q E hr ⟨a,no,other,H0,n,gone,w1,w2,rfl,⟨an,at_,tx,nk⟩,fit,hgo,hw1,hw2,hne,hlen,q⟩;have hu1:=Ck hr;refine⟨_,(AS (Av (i:=3) XR.nd rfl (Aa rfl) (JJ (CP hu1 (pv 0)) (pv 2) ⟨rfl,rfl,rfl,rfl⟩)) (AS (FH hu1 (CP hu1 (pv 0)) (pv 1) (Ag FK (Dx hu1 (CP hu1 (pv 0)) (pv 1) (fun _ _=>rfl)) (JJ (CP hu1 (pv 0)) (pv 3) ⟨rfl,rfl,rfl,rfl⟩)) rfl) (AS (Bp (CL GTu hr rfl mTu FTu.kp bTu .nil A3 (AE (pv 0) (AE (pv 3) (AE AZ (AE (pv 1) AI)))))) (AU (An (CL GLe hr rfl mLe FLe.kp bLe .nil A3 (AE (pv 0) (AE (pv 1) AI)))))))),?_⟩;have v1:Bn (F5 n.names) (.inr other)=some (.int gone):=by rw[Et Fp,hgo];rfl
  refine⟨_,rfl,a,_,rfl,EY nk.ha,an,rfl,.inl ⟨_,.inl nk.hn⟩,_,rfl,_,.inr other,_,nk.hn,rfl,v1,?_⟩;rw[LP Fp];have nk1:=nk.putN (AN n.names other);generalize upd H an (.dK (F5 (AN n.names other)))=H1 at nk1;obtain⟨l1,ws1,g1,hl1,E6,at1,new1⟩:=nk1.find (show(n.texts.map (·.1)).Nodup from fit.Cf) hw1;obtain⟨l2,ws2,g2,hl2,Ly,at2',new2⟩:=nk1.find (show(n.texts.map (·.1)).Nodup from fit.Cf) hw2;have d1:BS H1 at_ (.int no) (some (.ref l1)):=by have:=BS.kq (k:=.inl no) nk1.ht;rw[Et FG,g1] at this;exact this
  have v2:Bn (CQ tx) (.inl gone)=some (.ref l2):=by rw[Et FG,g2];rfl
  refine⟨_,rfl,a,_,rfl,Gz nk1.ha,_,rfl,at_,_,rfl,d1,_,rfl,a,_,rfl,Gz nk1.ha,at_,rfl,.inl ⟨_,.inl nk1.ht⟩,_,rfl,_,.inl gone,_,nk1.ht,rfl,v2,?_⟩;rw[LP FG];have nk2:=nk1.P1 gone;have keep:∀b xs,H1 b=some (.lst xs)->(upd H1 at_ (.dK (CQ (AN tx gone)))) b=some (.lst xs):=fun b xs e=>by rw[AR (Ca e nk1.ht (by intro z;cases z))];exact e
  have hl1':=keep _ _ hl1;have hl2':=keep _ _ hl2;have at1':=fun j w wd (e1:ws1[j]? =some w)(e2:w1[j]? =some wd)=>keep _ _ (at1 j w wd e1 e2);have at2'':=fun j w wd (e1:ws2[j]? =some w)(e2:w2[j]? =some wd)=>keep _ _ (at2' j w wd e1 e2);generalize upd H1 at_ (.dK (CQ (AN tx gone)))=H2 at nk2 hl1' hl2' at1' at2'';rw[Au] at hlen;refine⟨l1,l2,_,_,rfl,rfl,hl1',hl2',by rw[AK,AK,Aw];lia,fun l hl=>?_⟩;have s3:AQ H2 (upd H2 l (.lst (ws1.map V.ref++ws2.map V.ref))):=AY hl;have nk3:=nk2.ext s3;have htl:(CQ (AN tx gone)).length<sizeLine:=by
   show((AN tx gone).map _).length<_;have h1:=F9 (fun p:Int×Ya×List Ya=>decide (p.1≠gone)) tx;have h2:=fit.texts;have h3:=nk.len;rw[AK,Aw];show(tx.filter _).length<_
   lia
  have dp:=Dh.kq (k:=.inl no) (v:=.ref l) nk3.ht htl;have e2:putK (CQ (AN tx gone)) (.inl no) (.ref l)=CQ (AV (AN tx gone) no (l,ws1++ws2)):=KL (g:=fun p:Ya×List Ya=>V.ref p.1) FG no (l,ws1++ws2) (AN tx gone);rw[e2] at dp;refine⟨_,rfl,a,_,rfl,Gz nk3.ha,_,rfl,at_,_,rfl,dp,?_⟩;have nk4:=nk3.Nz no (l:=l) (ws:=ws1++ws2) (CY:=w1++w2) (by rw[AM,A8]) (by rw[Au,Au,E6,Ly]) (fun j w wd e1 e2=>?_) (fun w hw=>(Bk.mp hw).elim (new1 w) (new2 w))
  ·have fit4:Fits {n with names:=AN n.names other,texts:=AV (AN n.texts gone) no (w1++w2)}:=fit.join hw1 hne (by rw[Au];exact hlen);refine⟨_,rfl,_,rfl,_,rfl,a,gone,"",no,H0,_,rfl,⟨an,at_,_,nk4⟩,fit4,fun H5 nk5=>?_⟩;exact⟨_,rfl,_,rfl,a,no,H0,_,rfl,nk5,fit4.map,fun H6 s6=>q H6 (let⟨x,y,z,nk⟩:=nk5;⟨x,y,z,nk.ext s6⟩)⟩
  ·by_cases hj:j<ws1.length
   ·rw[C4 hj] at e1;rw[C4 (by lia)] at e2;exact s3 _ _ (at1' j w wd e1 e2)
   ·rw[Cj (by lia)] at e1;rw[Cj (by lia),<-E6] at e2;exact s3 _ _ (at2'' _ w wd e1 e2)
def dr(hu:X.A.units<rC):Bv X (qm .Eq) (fun x y H Q=>∃a b xs,x=.ref a/\y=.ref b/\AX [] H a xs/\AX [] H b []/\Q (.bl xs.isEmpty) H):=by intro pins s σ H x y v u Q I rx ry h;obtain⟨a,b,xs,rfl,rfl,ha,hb,q⟩:=h;cases rx;cases ry;obtain⟨AO,r,pl,hz⟩:=I.tuple (L0 ha);obtain⟨its2,r2,pl2,hz2⟩:=I.tuple (L0 hb);cases r2;refine SeqAt.eq_tupleAt (e:=fun _=>true) pl pl2 hu (fun j h1 h2=>absurd h2 (by simp)) ⟨.bl xs.isEmpty,H,I,?_,q⟩;cases r<;>rfl
def Bg(r:Rep H (.str z) v):v=.str z:=by cases r;rfl
def kA{z:Int}(r:Rep H (.int z) v):v=.int z:=by cases r;rfl
def B1(r:Rep H (.tup ds) v):∃a xs,v=.ref a/\H a=some (.tup xs)/\Ab H ds xs:=by
 cases r with
 |tup h hl rr=>exact⟨_,_,rfl,h,hl,rr⟩
def HW{x y:Dt}{xs:List V}(r:Ab H [x,y] xs):∃u v,xs=[u,v]/\Rep H x u/\Rep H y v:=by exact Ly (C:=fun xs=>Ab H [x,y] xs->∃u v,xs=[u,v]/\Rep H x u/\Rep H y v) (fun u v r=>⟨u,v,rfl,r.2 0 x u rfl rfl,r.2 1 y v rfl rfl⟩) r.1.symm r
def Ey{x y z:Dt}{xs:List V}(r:Ab H [x,y,z] xs):∃u v w,xs=[u,v,w]/\Rep H x u/\Rep H y v/\Rep H z w:=by exact UY (C:=fun xs=>Ab H [x,y,z] xs->∃u v w,xs=[u,v,w]/\Rep H x u/\Rep H y v/\Rep H z w) (fun u v w r=>⟨u,v,w,rfl,r.2 0 x u rfl rfl,r.2 1 y v rfl rfl,r.2 2 z w rfl rfl⟩) r.1.symm r
def Py{x y z t:Dt}{xs:List V}(r:Ab H [x,y,z,t] xs):∃u v w q,xs=[u,v,w,q]/\Rep H x u/\Rep H y v/\Rep H z w/\Rep H t q:=by exact aG (C:=fun xs=>Ab H [x,y,z,t] xs->∃u v w q,xs=[u,v,w,q]/\Rep H x u/\Rep H y v/\Rep H z w/\Rep H t q) (fun u v w q r=>⟨u,v,w,q,rfl,r.2 0 x u rfl rfl,r.2 1 y v rfl rfl,r.2 2 z w rfl rfl,r.2 3 t q rfl rfl⟩) r.1.symm r
def BX(n:Nk):Am->Str
 |.find ws _=>if ws=[] then "no words" else ""
 |.back _=>""
 |.write nm _=>if DN nm=true then "" else "no name"
 |.rename nm o=>if AF n.names nm=none then "no page" else if DN o=false then "no name" else if AF n.names o=none then "" else "taken"
 |.join nm o=>if AF n.names nm=none then "no page" else if AF n.names o=none then "no page" else if nm=o then "same page" else ""
 |.cut nm p o=>match AF n.names nm with
  |none=>"no page"
  |some no=>if DN o=false then "no name" else if AF n.names o=none then(if p<0 then "no place" else if((AF n.texts no).getD []).length<p then "no place" else "") else "taken"
 |.drop nm=>if AF n.names nm=none then "no page" else ""
 |.text nm=>if AF n.names nm=none then "no page" else ""
def XG:Sp:=fun vs H Q _=>∃(a:Ya)(d:V)(dd:Am)(H0:Hp)(n:Nk),vs=[.ref a,d]/\Ce H0 H a n/\Fits n/\Rep H dd.dt d/\dd.Good/\(∀nm no,AF n.names nm=some no->∃ws,AF n.texts no=some ws)/\∀H',AQ H H'->Q (.str (BX n dd)) H'
def EZ(h:H an=some (.dK (F5 names)))(z:Str):BS H an (.str z) ((AF names z).map V.int):=by have:=BS.kq (k:=.inr z) h;rw[Et Fp] at this;exact this
section
variable{y:Str}{a rest:TS}{t:TT}{D:Ends}
def Bi(hx:σ[i]? =some (some (.str x)))(ne:x≠y)(h:rest D σ H):Jg (Hb (Kb (Fb MG (Ed i) (tC (.str y)))) a Kc) rest D σ H:=⟨_,hx,rfl,_,rfl,CT (fun z=>ne (V.str.inj z)) h⟩
def Jj(hx:σ[i]? =some (some (.str y)))(h:a {D with nx:=rest D} σ H):Jg (Hb (Kb (Fb MG (Ed i) (tC (.str y)))) a Kc) rest D σ H:=⟨_,hx,rfl,_,rfl,CD rfl h⟩
def Dl(hx:σ[i]? =some (some (.str x)))(ne:x≠y)(h:rest D σ H):Jg (Hb (UE (Kb (Fb MG (Ed i) (tC (.str y)))) t) a Kc) rest D σ H:=⟨_,hx,rfl,_,rfl,CT (fun z=>ne (V.str.inj z)) (BK h)⟩
def qK(hx:σ[i]? =some (some (.str y)))(h:rest D σ H):Jg (Hb (UE (Kb (Fb cG (Ed i) (tC (.str y)))) t) a Kc) rest D σ H:=⟨_,hx,rfl,_,rfl,ER rfl (BK h)⟩
end
variable{d:Ya}
section
variable{y:Str}{a rest:TS}{t:TT}{D:Ends}
def IL{vs:List V}(hx:σ[i]? =some (some (.ref d)))(hd:H d=some (.tup (.str x::vs)))(ne:x≠y)(h:rest D σ H):Jg (Hb (Kb (Fb MG (Fb (L4 []) (Ed i) (tC (.int 0))) (tC (.str y)))) a Kc) rest D σ H:=⟨_,hx,d,_,_,.str x,rfl,rfl,AX.of hd,Bt (j:=0) rfl,rfl,_,rfl,CT (fun z=>ne (V.str.inj z)) h⟩
def QY{vs:List V}(hx:σ[i]? =some (some (.ref d)))(hd:H d=some (.tup (.str y::vs)))(h:a {D with nx:=rest D} σ H):Jg (Hb (Kb (Fb MG (Fb (L4 []) (Ed i) (tC (.int 0))) (tC (.str y)))) a Kc) rest D σ H:=⟨_,hx,d,_,_,.str y,rfl,rfl,AX.of hd,Bt (j:=0) rfl,rfl,_,rfl,CD rfl h⟩
end
def SU:Az ["_law_nook","_law_deed","_law_names","_law_word"] ["_law_nook","_law_deed"] (Ao Sh):=by left
def fh{fIs:Ya}{fdIs:qo}(F:Aj K "_law_barred" "_law_barred" Sh f fd)(O:Own mg)(FIs:Aj K "_law_is_name" "_law_is_name" NK fIs fdIs)(bIs:Binds K fdIs ["_law_text"] [])(mIs:mg "_law_is_name" =some (.ref fIs)):
 AW P w K mg base Ah 2 f fd ["_law_nook","_law_deed"] XG:=by
 have GIs:AW P w K mg base Ah 1 fIs fdIs ["_law_text"] SW:=WM FIs;refine F.ok SU ?_ ?_
 ·rintro _ _ _ _ ⟨_,_,_,_,_,rfl,_⟩;rfl
 ·rintro _ A _ s H _ Q E hr ⟨a,dv,dd,H0,n,rfl,⟨an,at_,tx,nk⟩,fit,rd,gd,BI,q⟩;have hu:=hr.TL;have hu1:=Ck hr;refine⟨_,(AS (Av (i:=2) SU.nd rfl (Aa rfl) (CP hu1 (pv 0))) (AS (Av (i:=3) SU.nd rfl (Aa rfl) (BA (pv 1))) (AS (A7 (Ax Ba (pv 3) AZ (Ar _))
   (AU (An (CB C2 (Bu (AE AZ (AE AZ AI))) (Er M5 rfl O.int Lg (AE (Ic (dr hu) (BA (pv 1)) (CJ AI) (Ar _)) AI)) (fun _ _=>rfl))))
   BG) (AS (A7 (Ax Ba (pv 3) AZ (Ar _))
   (AU (An AZ))
   BG) (AS (A7 (PW.pt (FN (Ax Fw (pv 3) AZ (Ar _)) (HH (JT (O2 hu1 (BA (pv 1)) (pv 2))))))
   (AU (An AZ))
   BG) (AS (A7 (PW.pt (FN (Ax Ba (pv 3) AZ (Ar _)) (HH (JT (O2 hu1 (BA (pv 1)) (pv 2))))))
   (AU (An AZ))
   BG) (AS (A7 (PW.pt (FN (Ax Ba (pv 3) AZ (Ar _)) (HH (IA (EN (CL GIs hr rfl mIs FIs.kp bIs .nil A3 (AE (BA (pv 1)) AI)))))))
   (AU (An AZ))
   BG) (AS (A7 (Ax pI (pv 3) (Bu (AE AZ (AE AZ AI))) rfl)
   (AS (A7 (IA (EN (CL GIs hr rfl mIs FIs.kp bIs .nil A3 (AE (CB QH (pv 1) (Eb Ea Ac) (fun _ _=>rfl)) AI))))
   (AU (An AZ))
   BG) (AU (A7 (JT (Yv hu1 (CB QH (pv 1) (Eb Ea Ac) (fun _ _=>rfl)) (pv 2)))
   (AU (An AZ))
   BG)))
   BG) (AS (A7 (PW.pt (FN (Ax Ba (pv 3) AZ (Ar _)) (HH (Ax Ba (BA (pv 1)) (BA (pv 1)) (Ar _)))))
   (AU (An AZ))
   BG) (AS (A7 (PW.pt (FN (Ax Ba (pv 3) AZ (Ar _)) (HH (PW.pt (Je (Ax JY (BA (pv 1)) Ac (Ar _)) (JU (Ax Ts (BA (pv 1)) (BY E3 rfl O.len DB (AE (Dx hu1 (CP hu1 (pv 0)) (Dx hu1 (pv 2) (BA (pv 1)) (fun _ _=>rfl)) (fun _ _=>rfl)) AI)) (Ar _))))))))
   (AU (An AZ))
   BG) (AU (An AZ)))))))))))),?_⟩;refine⟨_,rfl,a,_,rfl,EY nk.ha,?_⟩;have q0:=q H (AQ.refl H)
  cases dd with
  |back o=>obtain⟨d,xs,rfl,hd,rs⟩:=B1 rd;obtain⟨u,v,rfl,r1,r2⟩:=HW rs;cases Bg r1;cases Bg r2;refine⟨_,rfl,d,_,_,.str "back",rfl,rfl,AX.of hd,rfl,?_⟩;refine Bi rfl (by left) ?_;exact Jj rfl q0
  |find ws far=>
   obtain⟨d,xs,rfl,hd,rs⟩:=B1 rd;obtain⟨u,v,x,rfl,r1,r2,r3⟩:=Ey rs;cases Bg r1;obtain⟨t,ys,rfl,ht,ry⟩:=B1 r2;refine⟨_,rfl,d,_,_,.str "find",rfl,rfl,AX.of hd,rfl,?_⟩;refine⟨_,rfl,rfl,_,rfl,CD rfl ⟨by show 2<=sizeLine;decide,fun l hl=>?_⟩⟩;have s1:AQ H (upd H l (.lst [V.str "",V.str "no words"])):=AY hl;refine⟨_,rfl,d,_,_,.ref t,rfl,rfl,AX.of (s1 _ _ hd),rfl,by show 0<=sizeLine;decide,fun e he=>?_⟩;have s2:=AY (o:=.tup []) he;have hly:=ry.1;rw[AK] at hly;refine⟨t,e,ys,rfl,rfl,AX.of (s2 _ _ (s1 _ _ ht)),AX.of AM,.inr ⟨_,rfl,l,_,_,.str (BX n (.find ws far)),rfl,rfl,AJ.of (s2 _ _ AM),?_,q _ (s1.trans s2)⟩⟩
   cases ws with
   |nil=>
    cases ys with
    |nil=>rfl
    |cons y ys=>cases hly
   |cons w ws=>
    cases ys with
    |nil=>cases hly
    |cons y ys=>rfl
  |write nm t=>
   obtain⟨d,xs,rfl,hd,rs⟩:=B1 rd;obtain⟨u,v,x,rfl,r1,r2,r3⟩:=Ey rs;cases Bg r1;cases Bg r2;cases Bg r3;refine⟨_,rfl,d,_,_,.str "write",rfl,rfl,AX.of hd,rfl,?_⟩;refine Bi rfl (by left) ?_;refine Bi rfl (by left) ?_;refine qK rfl ?_;refine Dl rfl (by left) ?_;refine⟨_,rfl,rfl,_,rfl,CD rfl ⟨_,rfl,d,_,_,.str nm,rfl,rfl,AX.of hd,rfl,nm,rfl,by have:=gd.1;lia,fun H2 s2=>⟨_,rfl,?_⟩⟩⟩;have q2:=q H2 s2
   cases hn:DN nm with
   |false=>
    have eb:BX n (.write nm t)="no name" :=by show(if DN nm=true then _ else _)=_;rw[hn];rfl
    rw[eb] at q2;exact Bo q2
   |true=>
    have eb:BX n (.write nm t)="" :=by show(if DN nm=true then _ else _)=_;rw[hn];rfl
    refine BK ?_;refine⟨_,rfl,by show 2<=sizeLine;decide,fun l hl=>⟨l,_,rfl,.inl (AJ.of AM),rfl,rfl,false,BJ V.bl (by left),BK ?_⟩⟩;refine Dl rfl (by left) ?_;refine Dl rfl (by left) ?_;have q3:=q _ (s2.trans (AY (o:=.lst [V.str "rename",V.str "cut"]) hl));rw[eb] at q3;exact q3
  |drop nm=>
   obtain⟨d,xs,rfl,hd,rs⟩:=B1 rd;obtain⟨u,v,rfl,r1,r2⟩:=HW rs;cases Bg r1;cases Bg r2;refine⟨_,rfl,d,_,_,.str "drop",rfl,rfl,AX.of hd,rfl,?_⟩;refine Bi rfl (by left) ?_;refine Bi rfl (by left) ?_;refine⟨_,rfl,rfl,_,rfl,Gh (by intro z;exact absurd (V.str.inj z) (by left)) ⟨_,rfl,d,_,_,.str nm,rfl,rfl,AX.of hd,rfl,_,rfl,an,_,rfl,EZ nk.hn nm,_,rfl,?_⟩⟩
   cases hg:AF n.names nm with
   |none=>
    have eb:BX n (.drop nm)="no page" :=by unfold BX;simp only[hg,CH]
    rw[eb] at q0;exact Bo q0
   |some no=>
   refine BK ?_;refine Dl rfl (by left) ?_;refine Dl rfl (by left) ?_;refine⟨_,rfl,by show 2<=sizeLine;decide,fun l hl=>⟨l,_,rfl,.inl (AJ.of AM),rfl,rfl,false,BJ V.bl (by left),?_⟩⟩;have s1:AQ H (upd H l (.lst [V.str "rename",V.str "cut"])):=AY hl;generalize upd H l (.lst [V.str "rename",V.str "cut"])=H1 at s1⊢;have q1:=q H1 s1;refine BK ?_;refine Dl rfl (by left) ?_;refine Dl rfl (by left) ?_;have eb:BX n (.drop nm)="" :=by unfold BX;simp only[hg,Bs,reduceCtorEq]
   rw[eb] at q1;exact q1
  |text nm=>
   obtain⟨d,xs,rfl,hd,rs⟩:=B1 rd;obtain⟨u,v,rfl,r1,r2⟩:=HW rs;cases Bg r1;cases Bg r2;refine⟨_,rfl,d,_,_,.str "text",rfl,rfl,AX.of hd,rfl,?_⟩;refine Bi rfl (by left) ?_;refine Bi rfl (by left) ?_;refine⟨_,rfl,rfl,_,rfl,Gh (by intro z;exact absurd (V.str.inj z) (by left)) ⟨_,rfl,d,_,_,.str nm,rfl,rfl,AX.of hd,rfl,_,rfl,an,_,rfl,EZ nk.hn nm,_,rfl,?_⟩⟩
   cases hg:AF n.names nm with
   |none=>
    have eb:BX n (.text nm)="no page" :=by unfold BX;simp only[hg,CH]
    rw[eb] at q0;exact Bo q0
   |some no=>
   refine BK ?_;refine Dl rfl (by left) ?_;refine Dl rfl (by left) ?_;refine⟨_,rfl,by show 2<=sizeLine;decide,fun l hl=>⟨l,_,rfl,.inl (AJ.of AM),rfl,rfl,false,BJ V.bl (by left),?_⟩⟩;have s1:AQ H (upd H l (.lst [V.str "rename",V.str "cut"])):=AY hl;generalize upd H l (.lst [V.str "rename",V.str "cut"])=H1 at s1⊢;have q1:=q H1 s1;refine BK ?_;refine Dl rfl (by left) ?_;refine Dl rfl (by left) ?_;have eb:BX n (.text nm)="" :=by unfold BX;simp only[hg,Bs,reduceCtorEq]
   rw[eb] at q1;exact q1
  |join nm o=>
   obtain⟨d,xs,rfl,hd,rs⟩:=B1 rd;obtain⟨u,v,x,rfl,r1,r2,r3⟩:=Ey rs;cases Bg r1;cases Bg r2;cases Bg r3;refine⟨_,rfl,d,_,_,.str "join",rfl,rfl,AX.of hd,rfl,?_⟩;refine Bi rfl (by left) ?_;refine Bi rfl (by left) ?_;refine⟨_,rfl,rfl,_,rfl,Gh (by intro z;exact absurd (V.str.inj z) (by left)) ⟨_,rfl,d,_,_,.str nm,rfl,rfl,AX.of hd,rfl,_,rfl,an,_,rfl,EZ nk.hn nm,_,rfl,?_⟩⟩
   cases hg:AF n.names nm with
   |none=>
    have eb:BX n (.join nm o)="no page" :=by unfold BX;simp only[hg,CH]
    rw[eb] at q0;exact Bo q0
   |some no=>
   refine BK ?_;refine⟨_,rfl,rfl,_,rfl,CD rfl ⟨_,rfl,d,_,_,.str o,rfl,rfl,AX.of hd,rfl,_,rfl,an,_,rfl,EZ nk.hn o,_,rfl,?_⟩⟩
   cases ho:AF n.names o with
   |none=>
    have eb:BX n (.join nm o)="no page" :=by unfold BX;simp only[hg,ho,CH,Bs,reduceCtorEq]
    rw[eb] at q0;exact Bo q0
   |some no2=>
   refine BK ?_;refine Dl rfl (by left) ?_;refine⟨_,rfl,by show 2<=sizeLine;decide,fun l hl=>⟨l,_,rfl,.inl (AJ.of AM),rfl,rfl,false,BJ V.bl (by left),?_⟩⟩;have s1:AQ H (upd H l (.lst [V.str "rename",V.str "cut"])):=AY hl;generalize upd H l (.lst [V.str "rename",V.str "cut"])=H1 at s1⊢;have q1:=q H1 s1;refine BK ?_;refine⟨_,rfl,rfl,_,rfl,CD rfl ⟨_,rfl,d,_,_,.str nm,rfl,rfl,AX.of (s1 _ _ hd),rfl,_,rfl,d,_,_,.str o,rfl,rfl,AX.of (s1 _ _ hd),rfl,rfl,_,rfl,?_⟩⟩;by_cases he:nm=o
   ·have eb:BX n (.join nm o)="same page" :=by unfold BX;simp only[hg,ho,Bs,reduceCtorEq];rw[AH he]
    rw[eb] at q1;exact CD (by rw[he]) q1
   ·refine CT (fun z=>he (V.str.inj z)) ?_;refine Dl rfl (by left) ?_;have eb:BX n (.join nm o)="" :=by unfold BX;simp only[hg,ho,Bs,reduceCtorEq];rw[AG he]
    rw[eb] at q1;exact q1
  |rename nm o=>
   obtain⟨d,xs,rfl,hd,rs⟩:=B1 rd;obtain⟨u,v,x,rfl,r1,r2,r3⟩:=Ey rs;cases Bg r1;cases Bg r2;cases Bg r3;refine⟨_,rfl,d,_,_,.str "rename",rfl,rfl,AX.of hd,rfl,?_⟩;refine Bi rfl (by left) ?_;refine Bi rfl (by left) ?_;refine⟨_,rfl,rfl,_,rfl,Gh (by intro z;exact absurd (V.str.inj z) (by left)) ⟨_,rfl,d,_,_,.str nm,rfl,rfl,AX.of hd,rfl,_,rfl,an,_,rfl,EZ nk.hn nm,_,rfl,?_⟩⟩
   cases hg:AF n.names nm with
   |none=>
    have eb:BX n (.rename nm o)="no page" :=by unfold BX;simp only[hg,CH]
    rw[eb] at q0;exact Bo q0
   |some no=>
   refine BK ?_;refine Dl rfl (by left) ?_;refine Dl rfl (by left) ?_;refine⟨_,rfl,by show 2<=sizeLine;decide,fun l hl=>⟨l,_,rfl,.inl (AJ.of AM),rfl,rfl,true,BJ V.bl (by left),?_⟩⟩;have s1:AQ H (upd H l (.lst [V.str "rename",V.str "cut"])):=AY hl;generalize upd H l (.lst [V.str "rename",V.str "cut"])=H1 at s1⊢;have q1:=q H1 s1;refine Bo ⟨_,rfl,_,rfl,d,_,_,.str o,rfl,rfl,AX.of (s1 _ _ hd),rfl,o,rfl,by have:=gd.2;lia,fun H2 s2=>⟨_,rfl,?_⟩⟩;have s12:=s1.trans s2;have q2:=q H2 s12;have nk2:=nk.ext s12
   cases hn:DN o with
   |false=>
    have eb:BX n (.rename nm o)="no name" :=by unfold BX;simp only[hg,hn,CH,Bs,reduceCtorEq]
    rw[eb] at q2;exact Bo q2
   |true=>
   refine BK ⟨_,rfl,_,rfl,d,_,_,.str o,rfl,rfl,AX.of (s12 _ _ hd),rfl,_,rfl,an,_,rfl,EZ nk2.hn o,_,rfl,?_⟩
   cases ho:AF n.names o with
   |some no2=>
    have eb:BX n (.rename nm o)="taken" :=by unfold BX;simp only[hg,hn,ho,Bs,reduceCtorEq,MZ]
    rw[eb] at q2;exact Bo q2
   |none=>
   refine BK ?_;refine Dl rfl (by left) ?_;refine Dl rfl (by left) ?_;have eb:BX n (.rename nm o)="" :=by unfold BX;simp only[hg,hn,ho,CH,Bs,reduceCtorEq,MZ]
   rw[eb] at q2;exact q2
  |cut nm p o=>
   obtain⟨d,xs,rfl,hd,rs⟩:=B1 rd;obtain⟨u,v,x,y,rfl,r1,r2,r3,r4⟩:=Py rs;cases Bg r1;cases Bg r2;cases kA r3;cases Bg r4;refine⟨_,rfl,d,_,_,.str "cut",rfl,rfl,AX.of hd,rfl,?_⟩;refine Bi rfl (by left) ?_;refine Bi rfl (by left) ?_;refine⟨_,rfl,rfl,_,rfl,Gh (by intro z;exact absurd (V.str.inj z) (by left)) ⟨_,rfl,d,_,_,.str nm,rfl,rfl,AX.of hd,rfl,_,rfl,an,_,rfl,EZ nk.hn nm,_,rfl,?_⟩⟩
   cases hg:AF n.names nm with
   |none=>
    have eb:BX n (.cut nm p o)="no page" :=by unfold BX;simp only[hg,CH]
    rw[eb] at q0;exact Bo q0
   |some no=>
   refine BK ?_;refine Dl rfl (by left) ?_;refine Dl rfl (by left) ?_;refine⟨_,rfl,by show 2<=sizeLine;decide,fun l hl=>⟨l,_,rfl,.inl (AJ.of AM),rfl,rfl,true,BJ V.bl (by left),?_⟩⟩;have s1:AQ H (upd H l (.lst [V.str "rename",V.str "cut"])):=AY hl;generalize upd H l (.lst [V.str "rename",V.str "cut"])=H1 at s1⊢;have q1:=q H1 s1;refine Bo ⟨_,rfl,_,rfl,d,_,_,.str o,rfl,rfl,AX.of (s1 _ _ hd),rfl,o,rfl,by have:=gd.2;lia,fun H2 s2=>⟨_,rfl,?_⟩⟩;have s12:=s1.trans s2;have q2:=q H2 s12;have nk2:=nk.ext s12
   cases hn:DN o with
   |false=>
    have eb:BX n (.cut nm p o)="no name" :=by unfold BX;simp only[hg,hn,CH,Bs,reduceCtorEq]
    rw[eb] at q2;exact Bo q2
   |true=>
   refine BK ⟨_,rfl,_,rfl,d,_,_,.str o,rfl,rfl,AX.of (s12 _ _ hd),rfl,_,rfl,an,_,rfl,EZ nk2.hn o,_,rfl,?_⟩
   cases ho:AF n.names o with
   |some no2=>
    have eb:BX n (.cut nm p o)="taken" :=by unfold BX;simp only[hg,hn,ho,Bs,reduceCtorEq,MZ]
    rw[eb] at q2;exact Bo q2
   |none=>
   refine BK ?_;refine Dl rfl (by left) ?_;obtain⟨ws,hws⟩:=BI nm no hg;obtain⟨l1,ws1,g1,hl1,E6,_,_⟩:=nk2.find fit.Cf hws;have d1:BS H2 at_ (.int no) (some (.ref l1)):=by have:=BS.kq (k:=.inl no) nk2.ht;rw[Et FG,g1] at this;exact this
   have d2:BS H2 an (.str nm) (some (.int no)):=by have:=EZ nk2.hn nm;rw[hg] at this;exact this
   refine⟨_,rfl,rfl,_,rfl,CD rfl ⟨_,rfl,d,_,_,.int p,rfl,rfl,AX.of (s12 _ _ hd),rfl,_,_,rfl,rfl,_,rfl,?_⟩⟩;by_cases hp:p<0
   ·have eb:BX n (.cut nm p o)="no place" :=by unfold BX;simp only[hg,hn,ho,CH,Bs,reduceCtorEq,MZ];rw[AH hp]
    rw[eb] at q2;exact CD hp (Bo q2)
   ·refine CT hp ⟨_,rfl,d,_,_,.int p,rfl,rfl,AX.of (s12 _ _ hd),rfl,_,rfl,a,_,rfl,Gz nk2.ha,_,rfl,_,rfl,d,_,_,.str nm,rfl,rfl,AX.of (s12 _ _ hd),rfl,an,_,rfl,d2,at_,_,rfl,d1,l1,_,rfl,.inl (AJ.of hl1),_,_,rfl,rfl,_,rfl,?_⟩;rw[AK,E6];by_cases hq:(ws.length:Int)<p
    ·have eb:BX n (.cut nm p o)="no place" :=by unfold BX;simp only[hg,hn,ho,hws,CH,Bs,reduceCtorEq,MZ,Option.getD_some];rw[AG hp,AH hq]
     rw[eb] at q2;exact CD hq q2
    ·have eb:BX n (.cut nm p o)="" :=by unfold BX;simp only[hg,hn,ho,hws,CH,Bs,reduceCtorEq,MZ,Option.getD_some];rw[AG hp,AG hq]
     rw[eb] at q2;exact CT hq q2
noncomputable def Co(C:Ya)(dd:Option Ya)(vs:Array AB):Obj:={cls:=.ref C,dict:=dd,data:=.fields vs}
def Hd(h:qp)(e:Ya)(vs:Array AB):Prop:=
 vs[1]? =some .none\/∃T oT ts,vs[1]? =some (.ref T)/\T≠e/\h.get? T=some oT/\oT.data=.fields ts/\ts[3]? =some .none
structure Lv(fs:List Ya)(e C:Ya)(dd:Option Ya)(vs:Array AB)(h h':qp):Prop where
 keep:∀b o,h.get? b=some o->b∉fs->b≠e->(∀T,vs[1]? =some (.ref T)->b≠T)->h'.get? b=some o
 slot:∀b o,h.get? b=some o->b∈fs->∃sl,h'.get? b=some {o with slots:=sl}
 size:h.objs.size<=h'.objs.size
 here:∃T oT ts,h'.get? e=some (Co C dd (vs.setIfInBounds 1 (.ref T)))/\h.objs.size<=T/\h'.get? T=some oT/\oT.data=.fields ts/\ts[3]? =some .none
def WH{l:List Env}(hl:h.FunFrames base l)(hb:h.get? b=some o)(hd:o.data=.fields vs):b∉Cp l:=fun hm=>by obtain⟨_,u,hu,hn⟩:=hl.mem hm;rw[hb] at hu;cases hu;exact hn vs hd
variable{dd:Option Ya}
def Ye{e:Ya}{head:AB}{hn:Bool}{Q:Unit->Yf->Prop}
 (hfr:A.frames=some (env::outer))(hl:s.heap.FunFrames base (env::outer))(hf:env.frame=some L)(he:s.heap.get? e=some (Co C dd vs))(hz:1<vs.size)
 (h:∀h',(∀b o,s.heap.get? b=some o->b∉Cp (env::outer)->b≠e->h'.get? b=some o)->(∀b o,s.heap.get? b=some o->b∈Cp (env::outer)->∃sl,h'.get? b=some {o with slots:=sl})->
  s.heap.objs.size<=h'.objs.size->(∃T oT ts,h'.get? e=some (Co C dd (vs.setIfInBounds 1 (.ref T)))/\s.heap.objs.size<=T/\h'.get? T=some oT/\oT.data=.fields ts/\ts[3]? =some .none)->Q () {s with heap:=h'}):
 bt M A (do
  let a<-frameOf env;let pl<-entryPlaceOf L hn;let b<-EntryCells.newEntry head a .none (rR L) .none pl
  setField (.ref e) 1 b) (fun _ s'=>bt M A (tO (.ref e) none) Q E s') E s:=by
 have nf:e∉Cp (env::outer):=WH hl he rfl;refine AL (wpAny_frameOf_fun hfr hl hf fun h1 q1=>?_);obtain⟨z1,k1,sl1⟩:=q1;have e1:h1.get? e=some (Co C dd vs):=(k1 e nf).trans he;refine AL (wpAny_entryPlaceOf fun pl hpl=>?_);unfold EntryCells.newEntry newFields;refine AL (IS ?_ (hpl.sizeOk5 _ _ _ _ _));generalize hrec:(([head,Value.ref L,Value.none,rR L,Value.none]++(if pl.isEmpty then List.replicate 6 Value.none else pl)).toArray)=rec_;have z3:3<rec_.size:=by rw[<-hrec,Cc,Au];simp only[CS,K8];lia
 have Tn:h1.objs.size≠e:=Eo (A1 e1);have e2:=BC {cls:=.type "traceback",dict:=none,data:=.fields rec_} e1;refine Og e2 rfl hz ?_;have e3:=Iz (Obj.mapFields (·.setIfInBounds 1 (Value.ref h1.objs.size))) e2 rfl;have t3:((h1.push {cls:=.type "traceback",dict:=none,data:=.fields rec_}).update e (Obj.mapFields (·.setIfInBounds 1 (Value.ref h1.objs.size)))).get? h1.objs.size=some {cls:=.type "traceback",dict:=none,data:=.fields rec_}:=
  (EE _ _ (DL Tn)).trans (By h1 rfl);unfold tO;refine AL (J9 e3 rfl (x:=.ref h1.objs.size) (by simp[hz]) ?_);rw[AH (show(Value.ref h1.objs.size !=Value.none)=true from by simp)];refine Og t3 rfl z3 (h _ (fun b o hb nb ne=>?_) (fun b o hb mb=>?_) ?_ ⟨h1.objs.size,_,_,?_,Nat.le_of_eq z1.symm,Iz _ t3 rfl,rfl,by simp[z3]⟩)
 ·have hb1:=(k1 b nb).trans hb;rw[EE _ _ (Eo (A1 hb1)),EE _ _ (DL ne)];exact BC _ hb1
 ·obtain⟨sl,hb1⟩:=sl1 b o hb;refine⟨sl,?_⟩;rw[EE _ _ (Eo (A1 hb1)),EE _ _ (show e≠b from fun z=>nf (by rw[z];exact mb))];exact BC _ hb1
 ·rw[OM,OM,Gx,z1];exact Ep _
 ·rw[EE _ _ Tn];exact e3
def Y4{e:Ya}{Q:Unit->Yf->Prop}
 (hfr:A.frames=some (env::outer))(hl:s.heap.FunFrames base (env::outer))(hf:env.frame=some L)(he:s.heap.get? e=some (Co C dd vs))(hz:1<vs.size)(hh:Hd s.heap e vs)
 (h:∀h',Lv (Cp (env::outer)) e C dd vs s.heap h'->Q () {s with heap:=h'}):
 bt M A (noteFrame (.ref e) env) (fun _ s'=>bt M A (tO (.ref e) none) Q E s') E s:=by
 unfold noteFrame;simp only[hf];rcases hh with h1|⟨T,oT,ts,h1,nT,hT,dT,h3⟩
 ·refine AL (J9 he rfl h1 ?_);rw[AG (by decide)];exact Ye hfr hl hf he hz fun h' a b c d=>h h' ⟨fun x o q n1 n2 _=>a x o q n1 n2,b,c,d⟩
 ·refine AL (J9 he rfl h1 ?_);rw[AH (show(Value.ref T !=Value.none)=true from by simp)];refine AL (J9 hT dT h3 ?_);rw[AG (show¬((Value.none==rR L)=true) from by simp[rR])];refine AL (Og hT dT (Array.getElem?_eq_some_iff.mp h3).1 ?_);have ot:∀b,b≠T->(s.heap.update T (Obj.mapFields (·.setIfInBounds 3 Value.none))).get? b=s.heap.get? b:=fun b hb=>EE _ _ (DL hb);have nfT:T∉Cp (env::outer):=WH hl hT dT;refine Ye (s:={s with heap:=s.heap.update T (Obj.mapFields (·.setIfInBounds 3 Value.none))}) hfr
   (hl.of_keeps fun b o hb hnf=>⟨o,(ot b fun z=>hnf ts (by subst z;rw[hT] at hb;cases hb;exact dT)).trans hb,rfl⟩) hf ((ot e (DL nT)).trans he) hz fun h' a b c d=>h h' ⟨fun x o q n1 n2 n3=>a x o ((ot x (n3 T h1)).trans q) n1 n2,fun x o q m=>b x o ((ot x fun z=>nfT (z▸m)).trans q) m,?_,?_⟩
  ·have:=c;rw[OM] at this;exact this
  ·have:=d;rw[OM] at this;exact this
def mU{e:Ya}{T:Ya}{oT:Obj}{ts:Array AB}{Q:Unit->Yf->Prop}
 (he:s.heap.get? e=some (Co C dd vs))(h1:vs[1]? =some (.ref T))(hT:s.heap.get? T=some oT)(dT:oT.data=.fields ts)(h3:ts[3]? =some .none)
 (h:∀h',(∀b,b≠T->h'.get? b=s.heap.get? b)->(∃o,h'.get? T=some o)->h'.objs.size=s.heap.objs.size->Q () {s with heap:=h'}):bt M A (tO (.ref e) none) Q E s:=by
 unfold tO;refine AL (J9 he rfl h1 ?_);rw[AH (show(Value.ref T !=Value.none)=true from by simp)];exact Og hT dT (Array.getElem?_eq_some_iff.mp h3).1 (h _ (fun b hb=>EE _ _ (DL hb)) ⟨_,Iz _ hT (Obj.isFreed_of_fields (Obj.data_mapFields dT _))⟩ (OM ..))
def Gj(h:qp)(C:Ya)(bm:List AB)(N:Ya):Prop:=
 ∃nm q bs hdct sn sub ab col dd k0 k1 k2 k3 k5,h.get? C=some (r9 nm q C N bs bm hdct sn sub ab col dd k0 k1 k2 k3 k5 "Exception.__new__")
variable{bm:List AB}
def Gj.keeps{N:Ya}(x:Gj h C bm N)(k:∀b o,h.get? b=some o->h'.get? b=some o):Gj h' C bm N:=by obtain⟨a1,a2,a3,a4,a5,a6,a7,a8,a9,b1,b2,b3,b4,b5,hC⟩:=x;exact⟨a1,a2,a3,a4,a5,a6,a7,a8,a9,b1,b2,b3,b4,b5,k _ _ hC⟩
structure Ij(bm:List AB):Prop where
 exc:bm.contains (.type "Exception")=true
 base:bm.contains (.type "BaseException")=true
 Jo:bm.contains (.type "AttributeError")=false
 cK:bm.contains (.type "NameError")=false
section
variable{g:Array sW}{d:Drawn}{t:Nat}{N:Ya}{rest:List AB}
def IC{v:AB}{b:Bool}(e:bm.contains v=b)(hv:(v==Value.ref C)=false):(Value.ref C::bm).contains v=b:=by rw[Q2,hv,RZ];exact e
def iI(xc:Gj h C bm N)(ln:Ij bm){Q:Unit->Yf->Prop}(hq:Q () ⟨h,g,d,t,os⟩):bt M A (checkBuiltinCall "Exception.__new__" ⟨.ref C::rest,[]⟩) Q E ⟨h,g,d,t,os⟩:=by
 obtain⟨a1,a2,a3,a4,a5,a6,a7,a8,a9,b1,b2,b3,b4,b5,cAt⟩:=xc;have cE:(Value.ref C::bm).contains (.type "Exception")=true:=IC ln.exc rfl;have star:=Iw.noStar;simp only[checkBuiltinCall,Iw.newKind,Iw.newSplit,Iw.newRow];repeat (first|refine JA cAt ?_|(refine MU cAt ?_;rw[cE])|refine wpAny_staticBase_exc cAt ?_|refine wpAny_madeBy_exc cAt ?_|simp only[Jw,DU,Bs]|wp_step)
 exact hq
abbrev Jb(h:qp)(C:Ya)(rest:List AB):qp:=(h.push {cls:=.type "tuple",data:=.seq rest.toArray}).push (Co C none #[.ref h.objs.size,.none,.none,.none,.bool false,.none])
def oR(xc:Gj h C bm N)(ln:Ij bm)(hq:R (.ok (.ret (.ref (h.objs.size+1)))) ⟨Jb h C rest,g,d,t,os⟩)(hrest:rest.length<=sizeLine):
 rT (ax prog w) A (.builtin "Exception.__new__" ⟨.ref C::rest,[]⟩) R ⟨h,g,d,t,os⟩:=by
 obtain⟨a1,a2,a3,a4,a5,a6,a7,a8,a9,b1,b2,b3,b4,b5,cAt⟩:=xc;have fends:=Iw.ends;have cE:(Value.ref C::bm).contains (.type "Exception")=true:=IC ln.exc rfl;have cA:(Value.ref C::bm).contains (.type "AttributeError")=false:=IC ln.Jo rfl;have cN:(Value.ref C::bm).contains (.type "NameError")=false:=IC ln.cK rfl;refine codeAny_builtinAt Iw.entry ?_;unfold Builtin.«BaseException.__new__»;refine PySem.wpAt_bind ?_;show PySem.wpAt _ _ _ (stack>>=_) _ _ _;refine PySem.wpAt_bind (PySem.wpAt_stack fun p below=>uQ ?_)
 wp_walk
 refine uQ ?_;rw[Iw.owner];repeat (first|with_reducible refine wpAny_madeHere_exc Iw.canon cAt ?_|with_reducible refine JA cAt ?_|(with_reducible refine MU cAt ?_;first|rw[cE]|rw[cA]|rw[cN])|wp_step)
 show R _ _;rw[Gx];exact hq
end
variable{fI:Ya}
section
variable{g:Array sW}{d:Drawn}{t:Nat}{N:Ya}{rest:List AB}
def lD(X:K.In h)(xc:Gj h C bm N)(ln:Ij bm){oI:Obj}(hi:qv K (.ref C) "__init__" =some (some (.ref fI)))(hfI:h.get? fI=some oI)(hfc:oI.cls=.type "function")
 (hq:bt (ax prog w) (A.under (.builtin "type.__call__" ⟨.ref C::rest,[]⟩)) (call (.ref fI) (.ref (h.objs.size+1)::rest)) (fun r s'=>r=.none/\Q (.ref (h.objs.size+1)) s') E ⟨Jb h C rest,g,d,t,os⟩)(hrest:rest.length<=sizeLine):
 bt (ax prog w) A (call (.ref C) rest) Q E ⟨h,g,d,t,os⟩:=by
 have kk:∀b o,h.get? b=some o->(Jb h C rest).get? b=some o:=fun b o e=>BC _ (BC _ e);have xc2:=xc.keeps kk;have hget:(Jb h C rest).get? (h.objs.size+1)=some (Co C none #[.ref h.objs.size,.none,.none,.none,.bool false,.none]):=by have z:=By (h.push {cls:=.type "tuple",data:=.seq rest.toArray}) (o:=Co C none #[.ref h.objs.size,.none,.none,.none,.bool false,.none]) rfl;rw[Gx] at z;exact z
 have xc':=xc;obtain⟨a1,a2,a3,a4,a5,a6,a7,a8,a9,b1,b2,b3,b4,b5,cAt⟩:=xc';have f1:=tc_lookup;have f2:=tc_bind (.ref C);have tT:(⟨h,g,d,t,os⟩:Yf).TypeIs (.ref C) "type" :=⟨_,cAt,rfl⟩;refine Mv (tW ?_);show bt _ _ (callAny (.ref C) _) _ _ _;repeat (any_goals (first|assumption|with_reducible refine JA cAt ?_|wp_step))
 refine⟨rfl,?_⟩;refine codeAny_call_builtin_at (OW _ (by left)) entry_typeCall (wpAny_check_type_call_sub cAt ?_);repeat (first|with_reducible refine JA cAt ?_|with_reducible refine wpAny_madeBy_exc cAt ?_|wp_step)
 refine codeAny_call_builtin_code (OW _ Iw.quiet) (iI (rest:=rest) xc ln ?_);refine oR (rest:=rest) xc ln ?_ hrest;show bt _ _ _ _ _ _;obtain⟨c1,c2,c3,c4,c5,c6,c7,c8,c9,d1,d2,d3,d4,d5,cAt2⟩:=xc2;have cC:(Value.ref C::bm).contains (.ref C)=true:=by simp
 have hI2:=kk _ _ hfI;have hget2:(Jb h C rest).get? (h.objs.size+1)=some {cls:=.ref C,dict:=none,data:=.fields #[.ref h.objs.size,.none,.none,.none,.bool false,.none]}:=hget;unfold t9;repeat (first|(with_reducible refine JA hget2 ?_)|(with_reducible refine MU cAt2 ?_;rw[cC])|wp_step)
 show bt _ _ (typeLookup (.ref C) _) _ _ _;refine(OO (X.keeps kk) hi).at ?_;refine GG (AL ?_);unfold bindSpecial;refine AL (tD (T:="function") ⟨_,hI2,hfc⟩ ?_);rw[AH (by decide)];refine Af (AL (DC hq (fun r s' hr=>?_) fun _ _ x=>x));obtain⟨rfl,hQ⟩:=hr
 wp_walk
 exact hQ
def jQ{x:Sem AB}{Q:Flow->Yf->Prop}(hh:A.handled=none)(ln:Ij bm)
 (hx:bt M A x (fun v s1=>∃e N t0 dd,v=.ref e/\Gj s1.heap C bm N/\s1.heap.get? e=some (Co C dd #[.ref t0,.none,.none,.none,.bool false,.none])/\E (.ref e) s1) E s):
 bt M A (raiseStmt env (some x) none) Q E s:=by
 have cB:(Value.ref C::bm).contains (.type "BaseException")=true:=IC ln.base rfl;unfold raiseStmt;refine AL (DC hx (fun v s1 h1=>?_) fun _ _ z=>z);obtain⟨e,N,t0,dd,rfl,xc,he,hE⟩:=h1;obtain⟨a1,a2,a3,a4,a5,a6,a7,a8,a9,b1,b2,b3,b4,b5,cAt⟩:=xc;obtain⟨hp,g,d,tk,os⟩:=s1;unfold Co at he;repeat (first|with_reducible refine JA he ?_|with_reducible refine JA cAt ?_|(with_reducible refine MU cAt ?_;rw[cB])|wp_step)
 exact wpAny_raiseNew_none hh hE
end
section
open PySem.Builtin PySem.Builtin.ObjectAttr
section
variable{g:Array sW}{d:Drawn}{t:Nat}{N e:Ya}{v:AB}
structure Dg(K:uJ)(C:Ya)(name:Str):Prop where
 dict:rj K C=true
 no:qv K (.ref C) name=some none
 sa:qv K (.ref C) "__setattr__" =some (some (.builtin "object.__setattr__"))
 ga:qv K (.ref C) "__getattribute__" =some (some (.builtin "BaseException.__getattribute__"))
 hook:qv K (.ref C) "__getattr__" =some none
 mro:∃cd l,clsIn K C=some cd/\cd.mro=l++[.type "Exception",.type "BaseException",.type "object"]/\∀c∈l,∃a,c=Value.ref a
def Vk(self:AB)(what:Str)(r:List AB):∀l:List AB,(∀c∈l,∃a,c=Value.ref a)->refuseLoop self what (l++r)=refuseLoop self what r
 |[],_=>rfl
 |c::l,hc=>by obtain⟨a,rfl⟩:=hc c (.head _);rw[Mm,refuseLoop_ref];exact Vk self what r l fun c' h'=>hc c' (.tail _ h')
def Xj{x:AB}{r:List AB}{b:Bool}(hx:∀a,(x==Value.ref a)=false)(e:r.contains x=b):∀l:List AB,(∀c∈l,∃a,c=Value.ref a)->(l++r).contains x=b
 |[],_=>e
 |c::l,hc=>by obtain⟨a,rfl⟩:=hc c (.head _);rw[Mm,Q2,hx a,RZ];exact Xj hx e l fun c' h'=>hc c' (.tail _ h')
def mq(he:h.get? e=some (Co C none vs)):InstAt h e (Co C none vs) C none:=⟨he,rfl,rfl,Cz⟩
def oN{od:Obj}(he:h.get? e=some (Co C (some D) vs))(hd:h.get? D=some od):InstAt h e (Co C (some D) vs) C (some od):=⟨he,rfl,rfl,hd⟩
def Zy(X:K.In h)(xa:Dg K C name){b:Bool}(e:[Value.type "Exception",.type "BaseException",.type "object"].contains (.type T)=b):mroIn K C (.type T)=some b:=by obtain⟨cd,l,hc,hm,hl⟩:=xa.mro;unfold mroIn;rw[hc,Mf,hm];rw[AG (by cases l<;>simp),Xj (fun _=>rfl) e l hl]
def oP(X:K.In h)(xa:Dg K C name)(he:h.get? e=some (Co C none vs)){Q:Unit->Yf->Prop}
 (hq:∀h' tk,h'.get? e=some (Co C (some h.objs.size) vs)->h'.Ns1 h.objs.size (fun y=>if y=name then some v else none)->(∀b o,b≠e->h.get? b=some o->h'.get? b=some o)->Q () ⟨h',g,d,tk,os⟩):
 bt (ax prog w) A (setAttr (.ref e) name v) Q E ⟨h,g,d,t,os⟩:=by
 have SF:=PySem.F.store_object;have I:InstAt h e (Co C none vs) C none:=mq he;have T0:uL (ax prog w) h (typeOf (.ref e)) (.ref C):=I.type;obtain⟨cd,l,hc,hm,hl⟩:=xa.mro;obtain⟨cd',hc',hdict⟩:=any_some xa.dict;obtain rfl:cd=cd':=Ai (hc.symm.trans hc');have hmro:uL (ax prog w) h (mroOf (.ref C)) cd.mro:=(VT X hc).andThen .now;have sub:uL (ax prog w) h (t9 (.ref e) (.type "object")) true:=T0.andThen (looks_mroIn X (Zy X xa rfl));refine set_plain X I xa.sa ?_;refine VN SF.slot.plain SF.entry ?_;refine @check_slot (ax prog w) _ _ ⟨h,g,d,t+1,os⟩ "object.__setattr__" "object" "__setattr__" (.ref e) [.str name t,v] [] _ SF.kind SF.split sub (SF.args (.ref e) (.str name t) v) ?_;rw[osa_eq,refuse_eq];refine AL (AL (T0.at (AL (hmro.at ?_))));rw[hm,Vk _ _ _ l hl,PySem.F.store_Exception.passes];refine Af (AL (T0.at (AL ((OO X xa.no).at (AL (Af ?_))))));show bt _ _ (storeInOwnDict (.ref e) (.ref C) _ name v _) _ _ _;have ne:e≠h.objs.size:=BN (A1 he);unfold storeInOwnDict;refine AL (Af ?_);rw[AG (show¬((Value.ref C==Value.type "module")=true) from CZ)];refine AL (AL (wpAny_loadPart he ?_));refine AL ((VT X hc).at ?_);rw[hdict,AG (by decide)];have e1:=BC {cls:=.type "dict",data:=.dict #[]} he;have e2:=Iz (fun o=>{o with dict:=some h.objs.size}) e1 rfl;have d2:((h.push {cls:=.type "dict",data:=.dict #[]}).update e fun o=>{o with dict:=some h.objs.size}).get? h.objs.size=some {cls:=.type "dict",data:=.dict #[]}:=
  (EE _ _ ne).trans (By h rfl);show bt _ _ (do
  let dd<-alloc {cls:=Value.type "dict",data:=Data.dict #[]}
  update e fun o=>{o with dict:=some dd}
  dictMade (.ref C) e dd) _ _ _;refine AL (wpAny_alloc' ?_);refine AL (wpAny_update' e1 ?_);refine Af ?_;show bt _ _ (storeInDict h.objs.size (.str name t) name v) _ _ _;have nd:((h.push {cls:=.type "dict",data:=.dict #[]}).update e fun o=>{o with dict:=some h.objs.size}).Ns h.objs.size (fun _=>none):=⟨_,#[],_,d2,rfl,fun x hx=>absurd hx (by simp),fun _=>rfl⟩;unfold storeInDict newKeyGuard;refine AL (Af (AL (wpAny_nsSet1 (Heap.Ns1.of_empty nd) fun h' hn' hs=>?_)));obtain⟨oD,esD,epD,hoD,hdD,hcD⟩:=hn'.count (Within.cons name v Within.nil);refine AL (wpAny_lookBehind hoD (by rw[hdD];exact pastItsLine_dict (BF hcD (by rw[CS,K8,Aw];lia))) ?_);refine Af ?_;exact hq h' _ ((hs.2 e ne).trans e2) hn' fun b o nb hb=>(hs.2 b (BN (A1 hb))).trans ((EE _ _ (DL nb)).trans (BC _ hb))
def nj{expr:Bool}(X:K.In h)(xa:Dg K C name)(he:h.get? e=some (Co C (some D) vs))(hn:h.Ns1 D mA)(hv:mA name=some v)(hh:handedIn v=true)
 (hq:∀tk,Q v ⟨h,g,d,tk,os⟩):bt (ax prog w) A (tY (.ref e) name expr) Q E ⟨h,g,d,t,os⟩:=by
 obtain⟨od,hod,hlk⟩:=WR hn;have I:InstAt h e (Co C (some D) vs) C (some od):=oN he hod;have T0:uL (ax prog w) h (typeOf (.ref e)) (.ref C):=I.type;obtain⟨cd,l,hc,hm,hl⟩:=xa.mro;obtain⟨cd',hc',hdict⟩:=any_some xa.dict;obtain rfl:cd=cd':=Ai (hc.symm.trans hc');have fo:findObj K C (some od) name=some (.value v):=by unfold findObj;rw[hc,Mf,xa.no,Mf];dsimp only[Mf];unfold PySem.W.ownOf;rw[hdict,AH rfl];dsimp only;rw[hlk,hv];rfl
 have L1:=looks_find (M:=ax prog w) X I fo;have sub:uL (ax prog w) h (t9 (.ref e) (.type "BaseException")) true:=T0.andThen (looks_mroIn X (Zy X xa rfl));have GA:=PySem.F.attr_Exception.ga;unfold tY getAttrBy;refine AL (wpAny_mkText (GG (AL (T0.at (AL ((OO X xa.ga).at ?_))))));dsimp only;rw[show(onTheHeap (Value.ref C)&&Value.builtin "BaseException.__getattribute__" ==Value.builtin "object.__getattribute__")=false from by rw[show(Value.builtin "BaseException.__getattribute__" ==Value.builtin "object.__getattribute__")=false from by left,LB],AG (by decide)];unfold getAttrByItsOwn;refine AL ((show uL (ax prog w) h (hookBefore (.ref C)) none from OO X xa.hook).at ?_);refine AL (uF (GG ?_));unfold callGetattribute;rw[show(expr&&onTheHeap (Value.builtin "BaseException.__getattribute__"))=false from LB _,AG (by decide)];unfold boundAndCalled;rw[GA.bind];refine AL (Af ?_);show bt _ _ (call (.builtin "BaseException.__getattribute__") [.ref e,.str name t]) _ _ _;refine Mv (VN GA.plain PySem.F.entry_bexc_ga ?_);refine @check_slot (ax prog w) _ _ ⟨h,g,d,t+1,os⟩ "BaseException.__getattribute__" "BaseException" "__getattribute__" (.ref e) [.str name t] [] _ (by left) (by left) sub (PySem.F.args_bexc_ga (.ref e) (.str name t)) ?_;unfold Builtin.«object.__getattribute__»;refine AL (Af ?_);refine AL (Af ?_);refine AL (T0.at (AL (L1.at ?_)));refine Af ?_;show bt _ _ (handedOut v) _ _ _;rw[handedOut_of hh];exact Af (hq _)
end
end
def xO(e C:Ya)(dd:Option Ya)(vs:Array AB):HO:=.ext fun h=>h.get? e=some (Co C dd vs)
def UB{e:Ya}(he:h.get? e=some (Co C dd vs)):BR P w H h e (xO e C dd vs):=
 ⟨he,⟨_,he⟩,fun _ _ p k=>k _ p⟩
def Ka{e:Ya}(ok:Bw P w H h)(q:H e=some (xO e C dd vs)):h.get? e=some (Co C dd vs):=(ok e _ q).1
structure Hk(h0:qp)(H:Hp)(h:qp)(e C D:Ya)(vs:Array AB):Prop where
 xo:H e=some (xO e C (some D) vs)
 hd:Hd h e vs
 new:h0.objs.size<=e
 Ny:∀T,vs[1]? =some (.ref T)->h0.objs.size<=T/\H T=none
 two:1<vs.size
def Ci(P:ql)(w:qu):Jn:=fun outer H s E v s'=>∃e C D vs H',v=Value.ref e/\s'.os=s.os/\sP s'.gens/\Un (Cp outer) [] H H' s.heap s'.heap/\Bw P w H' s'.heap/\Hk s.heap H' s'.heap e C D vs/\
 ∀vs,E (.ref C) (some D) (upd H' e (xO e C (some D) vs))
section
variable{h0 h2 h3:qp}{e:Ya}{fs:List Ya}
def Hk.ne(f:Hk h0 H2 h2 e C D vs)(hb:h0.get? b=some o):b≠e/\∀T,vs[1]? =some (.ref T)->b≠T:=
 ⟨fun z=>absurd (A1 hb) (Oz.mpr (z▸f.new)),fun T ht z=>absurd (A1 hb) (Oz.mpr (z▸(f.Ny T ht).1))⟩
def Hk.step(ok:Bw P w H2 h2)(f:Hk h0 H2 h2 e C D vs)(lv:Lv fs e C (some D) vs h2 h3)(ff:∀b∈fs,H2 b=none):
 ∃vs3,Bw P w (upd H2 e (xO e C (some D) vs3)) h3/\Hk h0 (upd H2 e (xO e C (some D) vs3)) h3 e C D vs3:=by
 obtain⟨T,oT,ts,he,hT,gT,dT,h3'⟩:=lv.here;have e2:=Ka ok f.xo;have Tn:T≠e:=Eo (C8 (A1 e2) hT);have one:(vs.setIfInBounds 1 (.ref T))[1]? =some (.ref T):=by simp[f.two]
 refine⟨_,fun b o q=>?_,AM,.inr ⟨T,oT,ts,one,Tn,gT,dT,h3'⟩,f.new,fun T' ht=>?_,by simpa using f.two⟩
 ·by_cases hb:b=e
  ·subst hb;rw[AM] at q;cases q;exact UB he
  ·rw[AR hb] at q;refine(ok b o q).Ec (fun c u hc g=>?_) (fun c g=>?_) fun c xs g=>?_
   ·have tc:H2 c≠none:=by
     rcases hc with z|z
     ·rw[z,q];exact fun y=>nomatch y
     ·rw[z];exact fun y=>nomatch y
    refine lv.keep c u g (fun m=>tc (ff c m)) (fun z=>?_) fun T' ht z=>tc (z▸(f.Ny T' ht).2);rcases hc with y|y
    ·exact hb (y.symm.trans z)
    ·rw[z,f.xo] at y;cases y
   ·rw[AR (fun z=>by rw[z,f.xo] at g;cases g)];exact g
   ·rw[AR (fun z=>by rw[z,f.xo] at g;cases g)];exact g
 ·rw[one] at ht;obtain rfl:T=T':=by cases ht;rfl
  refine⟨BF (BF f.new (Fm (A1 e2))) hT,?_⟩;rw[AR Tn];exact ok.fresh hT
def Hk.un(u:Un (Cp outer) [] H H2 h0 h2)(f:Hk h0 H2 h2 e C D vs){vs3:Array AB}(lv:Lv fs e C (some D) vs h2 h3)(hfs:∀b,b∈fs↔b=L\/b∈Cp outer)(hL:h0.objs.size<=L):
 Un (Cp outer) [] H (upd H2 e (xO e C (some D) vs3)) h0 h3:=by
 have nl:∀b o,h0.get? b=some o->b≠L:=fun b o q z=>absurd (A1 q) (Oz.mpr (z▸hL));have nil:∀b:Ya,b∉([]:List Ya):=fun b=>by simp
 refine⟨fun b o q n nb _=>?_,fun b o q n mb _=>?_,fun b o q n _=>?_,fun b o q _=>?_,fun b xs q=>?_,fun b o u' q=>?_,fun b ps q=>?_⟩
 ·exact lv.keep b o (u.keep b o q n nb (nil b)) (fun m=>((hfs b).mp m).elim (nl b o q) nb) (f.ne q).1 (f.ne q).2
 ·obtain⟨sl,e1⟩:=u.slot b o q n mb (nil b);obtain⟨sl',e2⟩:=lv.slot b _ e1 ((hfs b).mpr (.inr mb));exact⟨sl',e2⟩
 ·rw[AR (f.ne q).1];exact u.free b o q n (nil b)
 ·obtain⟨o',e1⟩:=u.there b o q (nil b);by_cases m:b∈fs
  ·obtain⟨sl,e2⟩:=lv.slot b _ e1 m;exact⟨_,e2⟩
  ·exact⟨o',lv.keep b o' e1 m (f.ne q).1 (f.ne q).2⟩
 ·have:=u.E7 b xs q;rw[AR (fun z=>by rw[z,f.xo] at this;cases this)];exact this
 ·have:=u.ES b o u' q;rw[AR (fun z=>by rw[z,f.xo] at this;cases this)];exact this
 ·obtain⟨more,this⟩:=u.E8 b ps q;exact⟨more,by rw[AR (fun z=>by rw[z,f.xo] at this;cases this)];exact this⟩
def Hk.qg(u:Un fs [] H H2 h0 h2)(f:Hk h0 H2 h2 e C D vs){vs3:Array AB}(lv:Lv fs e C (some D) vs h2 h3):Un fs [] H (upd H2 e (xO e C (some D) vs3)) h0 h3:=by
 have nil:∀b:Ya,b∉([]:List Ya):=fun b=>by simp
 refine⟨fun b o q n nb _=>lv.keep b o (u.keep b o q n nb (nil b)) nb (f.ne q).1 (f.ne q).2,fun b o q n mb _=>?_,fun b o q n _=>?_,fun b o q _=>?_,fun b xs q=>?_,fun b o u' q=>?_,fun b ps q=>?_⟩
 ·obtain⟨sl,e1⟩:=u.slot b o q n mb (nil b);obtain⟨sl',e2⟩:=lv.slot b _ e1 mb;exact⟨sl',e2⟩
 ·rw[AR (f.ne q).1];exact u.free b o q n (nil b)
 ·obtain⟨o',e1⟩:=u.there b o q (nil b);by_cases m:b∈fs
  ·obtain⟨sl,e2⟩:=lv.slot b _ e1 m;exact⟨_,e2⟩
  ·exact⟨o',lv.keep b o' e1 m (f.ne q).1 (f.ne q).2⟩
 ·have:=u.E7 b xs q;rw[AR (fun z=>by rw[z,f.xo] at this;cases this)];exact this
 ·have:=u.ES b o u' q;rw[AR (fun z=>by rw[z,f.xo] at this;cases this)];exact this
 ·obtain⟨more,this⟩:=u.E8 b ps q;exact⟨more,by rw[AR (fun z=>by rw[z,f.xo] at this;cases this)];exact this⟩
end
section
variable{E:XK}
abbrev Gq(P:ql)(w:qu)(K:uJ)(mg:Str->Option AB)(base:qp)(N:List Str)(qual:Str)(scope:tH)(f:Ya)(cd:AB)(A:rV)(outer:List Env)(s:Yf)(H:Hp)(E:XK):Cx:=
 Jh (Ci P w) P w K mg base N qual scope f cd A outer s H E
def jB(hf:env.frame=some L)(outer:List Env)(b:Ya):b∈Cp (env::outer)↔b=L\/b∈Cp outer:=by unfold Cp;rw[Qw,hf];exact Be
def YG{s2:Yf}{e:Ya}(J:Inv (Gq P w K mg base N qual scope f cd A outer s H E) pins σ H2 s2)(fl:Hk s.heap H2 s2.heap e C D vs)
 (hE:∀vs,E (.ref C) (some D) (upd H2 e (xO e C (some D) vs))):(Gq P w K mg base N qual scope f cd A outer s H E).xe (.ref e) s2:=by
 show bt _ _ (leaving (rm qual scope s.heap.objs.size f cd) (.ref e)) _ _ s2;refine AL (Y4 (base:=base) (L:=s.heap.objs.size) (outer:=outer) J.ok.frames J.stack rfl (Ka J.hok fl.xo) fl.two fl.hd fun h3 lv=>?_);obtain⟨vs3,ok3,fl3⟩:=fl.step J.hok lv J.Pe;refine⟨e,C,D,vs3,_,rfl,J.os,J.bare,?_,ok3,fl3,fun vs'=>?_⟩
 ·exact fl.un J.base lv (jB rfl outer) (Ad _)
 ·rw[KO];exact hE vs'
def E2:Passes (Ci P w) (Gq P w K mg base N qual scope f cd A outer s H E) E:=fun pins σ H1 s1 v s2 I cx=>by obtain⟨e,C,D,vs,H2,rfl,os,bare,un,ok,fl,hE⟩:=cx;have J:=I.Pz (ch:=[]) os un ok bare (fun b z=>absurd z (by simp));exact YG J ⟨fl.xo,fl.hd,BF I.sz fl.new,fun T ht=>⟨BF I.sz (fl.Ny T ht).1,(fl.Ny T ht).2⟩,fl.two⟩ hE
def mv:Passes (Ci P w) X E0:=fun _ _ _ _ _ _ _ ⟨_,_,_,vs,_,_,_,_,_,_,_,h⟩=>(h vs).elim
def II{st:hX}(F:Aj K x qual st f fd)(S:Az N ps (Ao st))(len:∀vs H Q E,sp vs H Q E->vs.length=ps.length)
 (hbody:∀(cdv:AB)(A:rV)(outer:List Env)(s:Yf)(H:Hp)(vs:List V)(Q:VK)(E:XK),Bl k (A.deeper (rm qual (Ao st) s.heap.objs.size f cdv))->sp vs H Q E->
  ∃t,Eh (Gq P w K mg base N qual (Ao st) f cdv A outer s H E) (Ft st) t/\t {nx:=fun _ H'=>Q .BB H',rt:=Q} (start N vs) H):AW P w K mg base (Ci P w) (k+1) f fd ps sp:=by
 obtain⟨oc,od,kV,doc,pm,an,cdv,ct,osl,rfl,lk,hcd⟩:=F.ex;exact Z9 lk hcd S len (hbody cdv)
end
structure U3(K:uJ)(C fI:Ya)(bm:List AB):Prop where
 cls:∃N,∀h:qp,K.In h->Gj h C bm N
 init:qv K (.ref C) "__init__" =some (some (.ref fI))
 line:Ij bm
 fn:isFn K (.ref fI)=true
 kp:rM K (.ref C)=true
def Fv(C:Ya)(f:Str)(msg:Str):Sp:=fun vs H Q _=>∃e ws,vs=[.ref e]/\H e=some (xO e C none ws)/\∀D,H D=none->D≠e->Q .BB (upd (upd H D (.xd [(f,.str msg)])) e (xO e C (some D) ws))
noncomputable def Jk(t:Ya):Array AB:= #[.ref t,.none,.none,.none,.bool false,.none]
def iL{o u:HO}(h:a≠b):upd (upd H a o) b u=upd (upd H b u) a o:=by
 funext c;unfold upd;by_cases h1:c=a
 ·subst h1;rw[AG h,AH rfl,AH rfl]
 ·by_cases h2:c=b
  ·subst h2;rw[AH rfl,AG h1,AH rfl]
  ·rw[AG h2,AG h1,AG h1,AG h2]
section
variable{f:Str}
def iV(I:Inv X pins σ H s)(C:Ya):Inv X pins σ (upd H (s.heap.objs.size+1) (xO (s.heap.objs.size+1) C none (Jk s.heap.objs.size))) {s with heap:=Jb s.heap C []}:=by
 have kk:∀b o,s.heap.get? b=some o->(Jb s.heap C []).get? b=some o:=fun b o e=>BC _ (BC _ e);have e2:(Jb s.heap C []).get? (s.heap.objs.size+1)=some (Co C none (Jk s.heap.objs.size)):=by have z:=By (s.heap.push {cls:=.type "tuple",data:=.seq ([]:List AB).toArray}) (o:=Co C none (Jk s.heap.objs.size)) rfl;rw[Gx] at z;exact z
 exact I.laid (t':=s.toks) kk (Ep _) (UB e2)
end
variable{msg:Str}
section
variable{f:Str}
def jG(M:U3 X.K C fI bm)(F:AW X.prog X.w X.K X.mg X.base Ah k fI fd ["self"] (Fv C f msg))(hr:Bl (k+1) X.A)(hg:Gl X x)(hm:X.mg x=some (.ref C))(hb:Binds X.K fd ["self"] [])
 (hdb:(x==("__debug__" :Str))=false)(I:Inv X pins σ H s):
 bt (ax X.prog X.w) X.A (qr (.Call (.Name x p) [] [] pos) X.env) (fun u s2=>∃e D t,u=Value.ref e/\s.heap.objs.size<=e/\H e=none/\H D=none/\D≠e/\Inv X pins σ (upd (upd H D (.xd [(f,.str msg)])) e (xO e C (some D) (Jk t))) s2) X.xe s:=by
 refine MX (La I hg hm ?_ hdb);refine Qu I.BV M.kp ?_;obtain⟨N,xc⟩:=M.cls;obtain⟨o,ho,hcf⟩:=OJ.mp (FE.mp M.fn);have I2:=iV I C;have sp:Fv C f msg [.ref (s.heap.objs.size+1)] (upd H (s.heap.objs.size+1) (xO (s.heap.objs.size+1) C none (Jk s.heap.objs.size))) (fun v H2=>v=.BB/\∃D,H D=none/\D≠s.heap.objs.size+1/\
  H2=upd (upd H D (.xd [(f,.str msg)])) (s.heap.objs.size+1) (xO (s.heap.objs.size+1) C (some D) (Jk s.heap.objs.size))) E0:=by
  refine⟨_,_,rfl,AM,fun D hD nD=>⟨rfl,D,?_,nD,?_⟩⟩
  ·rw[AR nD] at hD;exact hD
  ·rw[iL (DL nD),KO]
 have run:=F.run (X.A.under (.builtin "type.__call__" ⟨[.ref C],[]⟩)) X.stack _ _ ⟨[.ref (s.heap.objs.size+1)],[]⟩ [.ref (s.heap.objs.size+1)] [.ref (s.heap.objs.size+1)] _ E0 (hr.make C [] []) (I2.Uc.make C [] [])
  (hb _ [.ref (s.heap.objs.size+1)] I2.BV rfl) (.cons rfl .nil) sp;obtain⟨hp,g,d,tk,os⟩:=s;refine lD (rest:=[]) I.BV (xc _ I.BV) M.line M.init (I.BV _ _ ho) hcf ?_ (CG _);refine Mv (LG run fun r s' hq=>?_)
 cases r with
 |error e=>exact hq.elim
 |ok fl=>
  cases fl with
  |ret u=>obtain⟨v,H',I3,rv,ev,D,q1,q2,q3⟩:=I2.after hq;subst ev q3;exact⟨rv,hp.objs.size+1,D,hp.objs.size,rfl,Ep _,I.hok.fresh (Ep _),q1,q2,I3⟩
  |next=>exact False.elim hq
  |brk=>exact False.elim hq
  |cont=>exact False.elim hq
def ip{g:Ya}{dvs:List V}{ds:List AB}{E:XK}{es:List hY}{t:TA}(hg:Gl X x)(hm:X.mg x=some (.ref C))(hrd:readsIn X.K C (.type "type")=true)
 (hf:findCls X.K (.ref C) (.type "type") m=some (.val (.ref g)))(hs:tN X.K (.ref C) "__getattribute__" =some (some (.builtin "type.__getattribute__")))(hk:rM X.K (.ref g)=true)
 (F:AW X.prog X.w X.K X.mg X.base CX k g fd ps sp)(hr:Bl k X.A)(hb:Binds X.K fd ps ds)(hd:Vals dvs ds)(hx:Passes CX X E)(ha:PA X (e::es) t)(hdb:(x==("__debug__" :Str))=false:=by decide)
 (hst:dy (e::es) X.env=(false,qr e X.env)::dy es X.env:=by rfl)(hpl:(q5 pos (dy es X.env)).any (·.1)=false:=by rfl)
 (ht:qr (.Call (.Attribute (.Name x p) m apos) (e::es) [] pos) X.env=(do
  let ov<-qr (.Name x p) X.env
  tX apos.atName
  let(f,first)<-sX [ov] (sj ov m pl)
  callWith pos f first (q5 pos (dy (e::es) X.env)) (rq pos (rJ [] X.env))):=by rfl):
 PE X (.Call (.Attribute (.Name x p) m apos) (e::es) [] pos) (Ni sp dvs E t):=by
 intro pins s σ H Q I h;refine VH (pl:=pl) (La I hg hm ?_ hdb) ht;refine method_cls I.BV hs (cls_value I.BV hrd hf rfl ?_);have I1:=I.tok (s.toks+1);refine VY (first:=[]) (h₀:=X.base) I.ok.mod.N7 hk (Ae (ha pos pins _ σ H _ I1 h) fun us s2 ⟨vs,H2,I2,r,q2⟩=>⟨I2.BV,?_⟩) hst hpl;exact NX F hr hb hd hx I2 r q2
def nS(K:uJ)(ta tv:TE)(f:Str):TS:=fun D σ H=>tv σ H fun y H1=>ta σ H1 fun x H2=>∃e C ws,x=.ref e/\H2 e=some (xO e C none ws)/\Dg K C f/\
 ∀d,H2 d=none->d≠e->D.nx σ (upd (upd H2 d (.xd [(f,y)])) e (xO e C (some d) ws))
def jd{o value:hY}{pos':Pos}{tv:TE}(ha:PE X o ta)(hv:PE X value tv)(hs:sg value (some (.Attribute o f pos')) pos.line X.env=pure false):PS X (.Assign [.Attribute o f pos'] value pos) (nS X.K ta tv f):=by
 intro pins s σ H D I h;refine tK (Ae (hv pins s σ H _ I h) fun u s1 ⟨y,H1,I1,ry,q⟩=>Ae (ha pins s1 σ H1 _ I1 q) fun ov s2 ⟨x,H2,I2,rx,e,C,ws,ex,ea,xa,q2⟩=>?_) hs;subst ex;obtain rfl:ov=Value.ref e:=rx;have he:=Ka I2.hok ea;have nD:s2.heap.objs.size≠e:=Eo (A1 he);have fr:H2 s2.heap.objs.size=none:=I2.hok.fresh (Ad _);obtain⟨hp,g,d,tk,os⟩:=s2;refine oP I2.BV xa he fun h' tk' he' hn' hk'=>⟨σ,_,?_,q2 hp.objs.size fr nD⟩;have hD:∃o,h'.get? hp.objs.size=some o:=let⟨o,_,_,q,_⟩:=hn';⟨o,q⟩;have un:Un X.fs [] H2 (upd (upd H2 hp.objs.size (.xd [(f,y)])) e (xO e C (some hp.objs.size) ws)) hp h':=by
  refine⟨fun b o q n _ _=>hk' b o (fun z=>by rw[z,ea] at n;cases n) q,fun b o q n _ _=>⟨o.slots,hk' b o (fun z=>by rw[z,ea] at n;cases n) q⟩,fun b o q n _=>?_,fun b o q _=>?_,fun b xs q=>?_,fun b o u q=>?_,fun b ps q=>⟨#[],?_⟩⟩
  ·rw[AR (fun z=>by rw[z,ea] at n;cases n),AR (BN (A1 q))];exact n
  ·by_cases z:b=e
   ·rw[z];exact⟨_,he'⟩
   ·exact⟨o,hk' b o z q⟩
  ·rw[AR (fun z=>by rw[z,ea] at q;cases q),AR (A9 q fr)];exact q
  ·rw[AR (fun z=>by rw[z,ea] at q;cases q),AR (A9 q fr)];exact q
  ·rw[AR (fun z=>by rw[z,ea] at q;cases q),AR (A9 q fr),q];simp
 refine I2.un (t':=tk') (h':=h') un fun b o q=>?_;by_cases hb:b=e
 ·subst hb;rw[AM] at q;cases q;exact UB he'
 ·rw[AR hb] at q;by_cases hb2:b=hp.objs.size
  ·subst hb2;rw[AM] at q;cases q;refine⟨_,hn',fun y'=>?_⟩;show Dj (List.lookup y' [(f,y)]) (if y'=f then some u else none);by_cases z:y'=f
   ·subst z;rw[AH rfl,Gw,JB];exact ry
   ·rw[AG z,Gw,K7 z];exact Cz
  ·rw[AR hb2] at q;refine(I2.hok b o q).Ec (fun c v hc gg=>hk' c v (fun z=>?_) gg) (fun c gg=>?_) fun c xs gg=>?_
   ·rcases hc with y1|y1
    ·exact hb (y1.symm.trans z)
    ·rw[z,ea] at y1;cases y1
   ·rw[AR (fun z=>by rw[z,ea] at gg;cases gg),AR (A9 gg fr)];exact gg
   ·rw[AR (fun z=>by rw[z,ea] at gg;cases gg),AR (A9 gg fr)];exact gg
end
section
variable{E:XK}
def mC(C:Ya)(fl msg:Str)(E:XK):TS:=fun _ _ H=>∀e D ws,H e=none->H D=none->D≠e->E (.ref C) (some D) (upd (upd H D (.xd [(fl,.str msg)])) e (xO e C (some D) ws))
def iS{np:Pos}{fl:Str}(M:U3 K C fI bm)(F:AW P w K mg base Ah k fI fd ["self"] (Fv C fl msg))
 (hr:Bl (k+1) (Gq P w K mg base N qual scope f cd A outer s H E).A)(hg:Gl (Gq P w K mg base N qual scope f cd A outer s H E) x)(hm:mg x=some (.ref C))(hb:Binds K fd ["self"] [])(hdb:(x==("__debug__" :Str))=false:=by decide):
 PS (Gq P w K mg base N qual scope f cd A outer s H E) (.Raise (some (.Call (.Name x np) [] [] cpos)) none pos) (mC C fl msg E):=by
 intro pins s1 σ H1 D I h;rw[arm_exec_Raise];refine AL (Oi ?_);have ev:=jG (X:=Gq P w K mg base N qual scope f cd A outer s H E) (p:=np) (pos:=cpos) M F hr hg hm hb hdb I;refine jQ (C:=C) (bm:=bm) (I.ok.hd rfl) M.line ?_;refine AL (DC ev (fun v s2 z=>?_) fun _ _ z=>z);obtain⟨e,D',t,rfl,new,he,hD,ne,I2⟩:=z;refine AL (Oi (Af ?_));obtain⟨Nn,xc⟩:=M.cls;have at2:(upd (upd H1 D' (.xd [(fl,.str msg)])) e (xO e C (some D') (Jk t))) e=some (xO e C (some D') (Jk t)):=AM;refine⟨e,Nn,t,some D',rfl,xc _ I2.BV,Ka I2.hok at2,?_⟩;refine YG I2 ⟨at2,.inl rfl,?_,(fun T hT=>by cases hT),(by show 1<6;decide)⟩ fun ws=>?_
 ·exact BF I.sz new
 ·rw[KO];exact h e D' ws he hD ne
end
abbrev Nb(X:Cx)(pins:List (Ya×Obj))(W:AB->Yf->Prop):Cx:={X with pn:=X.pn++pins,xe:=W}
abbrev KP(X:Cx)(e:Ya)(W:AB->Yf->Prop):Cx:={X with A:=X.A.mark (some (.ref e)),calm:=false,xe:=W}
def Inv.nO(I:Inv X pins σ H s)(W:AB->Yf->Prop):Inv (Nb X pins W) [] σ H s:=
 ⟨⟨I.ok.mod,I.ok.kind,I.ok.glob,I.ok.blt,I.ok.above,I.ok.inj,I.ok.has,I.ok.Kv,I.ok.hd,I.ok.frames,I.ok.MM,I.ok.QT,I.ok.bs,I.ok.Gn,I.ok.Kr,I.ok.Ko,I.ok.E5,I.ok.IJ⟩,
  I.os,I.bare,I.base,I.loc,I.cell,I.free,I.DM,fun p hp=>I.pin p (by rw[Ct] at hp;exact hp),I.hok,I.len⟩
def Inv.NL{pins1:List (Ya×Obj)}{W:AB->Yf->Prop}(ok:X.Ok)(I:Inv (Nb X pins W) pins1 σ H s):Inv X pins σ H s:=
 ⟨ok,I.os,I.bare,I.base,I.loc,I.cell,I.free,I.DM,fun p hp=>I.pin p (GC _ hp),I.hok,I.len⟩
def Inv.marked(I:Inv X pins σ H s)(e:Ya)(W:AB->Yf->Prop):Inv (KP X e W) pins σ H s:=
 ⟨⟨I.ok.mod,I.ok.kind,I.ok.glob,I.ok.blt,I.ok.above,I.ok.inj,I.ok.has,I.ok.Kv,(fun z=>nomatch z),I.ok.frames,I.ok.MM,I.ok.QT,I.ok.bs,I.ok.Gn,I.ok.Kr,I.ok.Ko,I.ok.E5,I.ok.IJ⟩,
  I.os,I.bare,I.base,I.loc,I.cell,I.free,I.DM,I.pin,I.hok,I.len⟩
def Inv.unmarked{e:Ya}{W:AB->Yf->Prop}(ok:X.Ok)(I:Inv (KP X e W) pins σ H s):Inv X pins σ H s:=
 ⟨ok,I.os,I.bare,I.base,I.loc,I.cell,I.free,I.DM,I.pin,I.hok,I.len⟩
structure UJ(K:uJ)(R:Ya):Prop where
 cls:∃bm N,(∀h:qp,K.In h->Gj h R bm N)/\Ij bm
structure UK(K:uJ)(C R:Ya):Prop where
 cls:∃bm N,(∀h:qp,K.In h->Gj h C bm N)/\(Value.ref C::bm).contains (.ref R)=true
section
variable{g:Array sW}{d:Drawn}{t:Nat}{R N NR e:Ya}{bmR:List AB}
def jY(xc:Gj h C bm N)(xr:Gj h R bmR NR)(ln:Ij bmR)(he:h.get? e=some (Co C dd vs))(hs:(Value.ref C::bm).contains (.ref R)=true){Q:Bool->Yf->Prop}(hq:Q true ⟨h,g,d,t,os⟩):
 bt M A (excMatches (.ref e) (.ref R)) Q E ⟨h,g,d,t,os⟩:=by
 obtain⟨a1,a2,a3,a4,a5,a6,a7,a8,a9,b1,b2,b3,b4,b5,cAt⟩:=xc;obtain⟨c1,c2,c3,c4,c5,c6,c7,c8,c9,d1,d2,d3,d4,d5,rAt⟩:=xr;have rB:(Value.ref R::bmR).contains (.type "BaseException")=true:=IC ln.base rfl;have nt:=tc_notTuple;unfold Co at he;unfold excMatches;repeat (first|with_reducible refine JA he ?_|with_reducible refine JA rAt ?_|(with_reducible refine MU rAt ?_;rw[rB])|(with_reducible refine MU cAt ?_;rw[hs])|wp_step)
 exact hq
end
def To(K:uJ)(R:Ya)(f:Str)(Q:VK):XK:=fun c d H'=>∃C D msg,c=.ref C/\d=some D/\UK K C R/\Dg K C f/\H' D=some (.xd [(f,.str msg)])/\Q (.str msg) H'
def oY{e:Ya}{ws:Array AB}{f:Str}{fs:List (Str×V)}{expr:Bool}{Q:VK}(I:Inv X pins σ H s)(he:H e=some (xO e C (some D) ws))(xa:Dg X.K C f)
 (hD:H D=some (.xd fs))(hv:fs.lookup f=some v)(q:Q v H):bt (ax X.prog X.w) A (tY (.ref e) f expr) (EP X pins σ Q) E s:=by
 obtain⟨mA,hn,rel⟩:=(show BR X.prog X.w H s.heap D (.xd fs) from I.hok D _ hD);have r:=rel f;rw[hv] at r;obtain⟨u,hu,ru⟩:=r.some_of;have at_:=Ka I.hok he;obtain⟨hp,g,d,tk,os⟩:=s;exact nj I.BV xa at_ hn hu (Wr ru) fun tk=>⟨v,H,I.tok tk,ru,q⟩
def oK(K:uJ)(ta:TE)(f:Str):TE:=fun σ H Q=>ta σ H fun x H1=>∃e C D ws fs v,x=.ref e/\H1 e=some (xO e C (some D) ws)/\Dg K C f/\H1 D=some (.xd fs)/\fs.lookup f=some v/\Q v H1
def j8{o:hY}{f:Str}(he:PE X o ta)(hb:qy o f X.env (qr o X.env)=qr o X.env):PE X (.Attribute o f pos) (oK X.K ta f):=by intro pins s σ H Q I h;refine YA hb (Ae (he pins s σ H _ I h) fun u s1 ⟨x,H1,I1,rx,e,C,D,ws,fs,v,ex,ea,xa,eD,l,q⟩=>?_);subst ex;obtain rfl:u=Value.ref e:=rx;exact oY I1 ea xa eD l q
def ig{m':Str->Option AB}(I:Inv X pins σ H s)(hs:Heap.SameBut X.env.locals s.heap h')(hn:h'.Ns X.env.locals m'):
 Inv X pins (List.replicate X.N.length none) H {s with heap:=h',toks:=t'}:=by
 have nl:∀b o,X.s₀.heap.get? b=some o->b≠X.env.locals:=fun b o e=>BN (C8 (A1 e) I.ok.above);refine⟨I.ok,I.os,I.bare,⟨fun b o e n hb hx=>(hs.2 b (nl b o e)).trans (I.base.keep b o e n hb hx),fun b o e n hb hx=>?_,I.base.free,fun b o e hx=>?_,I.base.E7,I.base.ES,I.base.E8⟩,⟨m',hn,fun j y v' _ e2 _=>?_⟩,fun y c e=>?_,I.free,I.DM,
  fun p hp=>?_,fun b u e=>?_,by simp⟩
 ·obtain⟨sl,e1⟩:=I.base.slot b o e n hb hx;exact⟨sl,(hs.2 b (nl b o e)).trans e1⟩
 ·obtain⟨o',e1⟩:=I.base.there b o e hx;exact⟨o',(hs.2 b (nl b o e)).trans e1⟩
 ·rw[List.getElem?_replicate] at e2;split at e2<;>cases e2
 ·obtain⟨v,z⟩:=I.cell y c e;exact⟨v,z.sameBut hs (I.Js y c e)⟩
 ·obtain⟨e,n,ne,nf,dt⟩:=I.pin p hp;exact⟨(hs.2 p.1 ne).trans e,n,ne,nf,dt⟩
 ·refine(I.hok b u e).Ec (fun c w' hc q=>(hs.2 c ?_).trans q) (fun _ q=>q) fun _ _ q=>q;intro z;rcases hc with y|y
  ·rw[<-y,z,I.free] at e;cases e
  ·rw[z,I.free] at y;cases y
def lL{tb:XK->TS}{n R:Str}{Rc:Ya}{f:Str}{np p1 p2 p3 hpos:Pos}(hN:X.N.Nodup)(hi:X.N[i]? =some n)(hn:X.env.scope.names.lookup n=some .local)
 (hb:∀(pins:List (Ya×Obj))(W:AB->Yf->Prop)(E:XK),Passes (Ci X.prog X.w) (Nb X pins W) E->Eh (Nb X pins W) body (tb E))
 (hg:Gl X R)(hm:X.mg R=some (.ref Rc))(hR:UJ X.K Rc)(hst:X.stack=X.env::X.outer/\X.env.frame=some X.env.locals)(hd1:(R==("__debug__" :Str))=false:=by decide)(hd2:(n==("__debug__" :Str))=false:=by decide)(hd3:(n==("__classdict__" :Str))=false:=by decide)
 (hab:qy (.Name n p1) f X.env (qr (.Name n p1) X.env)=qr (.Name n p1) X.env:=by rfl):
 PS X (.Try body [.ExceptHandler (some (.Name R np)) (some n) [.Return (some (.Attribute (.Name n p1) f p2)) p3] hpos] [] [] pos) (fun D σ H=>tb (To X.K Rc f D.rt) D σ H):=by
 intro pins s σ H D I h;let W:AB->Yf->Prop:=fun v s'=>∃σ1 H1 s1,Inv X pins σ1 H1 s1/\Ci X.prog X.w X.stack H1 s1 (To X.K Rc f D.rt) v s';have ps:Passes (Ci X.prog X.w) (Nb X pins W) (To X.K Rc f D.rt):=fun pins1 σ1 H1 s1 v s2 I1 cx=>⟨σ1,H1,s1,Inv.NL I.ok I1,cx⟩;have hr:=hb pins W _ ps [] s σ H D (Inv.nO I W) h;refine wpAny_Try_except (DC hr (fun fl s1 z=>?_) fun v s2 z=>?_)
 ·cases fl with
  |next=>obtain⟨σ',H',J,q⟩:=z;exact Oc ⟨σ',H',Inv.NL I.ok J,q⟩
  |brk=>obtain⟨σ',H',J,q⟩:=z;exact⟨σ',H',Inv.NL I.ok J,q⟩
  |cont=>obtain⟨σ',H',J,q⟩:=z;exact⟨σ',H',Inv.NL I.ok J,q⟩
  |ret u=>obtain⟨v,σ',H',J,r,q⟩:=z;exact⟨v,σ',H',Inv.NL I.ok J,r,q⟩
 ·obtain⟨σ1,H1,s1,I1,e,C,Dd,vs,H2,rfl,os,bare,un,ok,fl,hE⟩:=z;have J:=I1.Pz (ch:=[]) os un ok bare (fun b z=>absurd z (by simp));have ff:(envs:List Env)->X.stack=envs->s2.heap.FunFrames X.base envs:=fun l e=>e▸J.stack;refine Y4 (base:=X.base) (L:=X.env.locals) (outer:=X.outer) (hst.1▸J.ok.frames) (ff _ hst.1) hst.2 (Ka J.hok fl.xo) fl.two fl.hd fun h3 lv=>?_;obtain⟨vs3,ok3,fl3⟩:=fl.step J.hok lv (fun b hb=>J.Pe b (by rw[hst.1];exact hb));have un3:Un (Cp X.stack) [] H1 (upd H2 e (xO e C (some Dd) vs3)) s1.heap h3:=by rw[hst.1] at un⊢;exact fl.qg un lv
  have J3:Inv X pins σ1 (upd H2 e (xO e C (some Dd) vs3)) {s2 with heap:=h3}:=I1.Pz (s':={s2 with heap:=h3}) (ch:=[]) os un3 ok3 bare (fun b z=>absurd z (by simp));obtain⟨C',D',msg,eC,eD,xs,xa,hD,hQ⟩:=hE vs3;obtain rfl:C=C':=by cases eC;rfl
  obtain rfl:Dd=D':=by cases eD;rfl
  obtain⟨bm,N,xc,hsub⟩:=xs.cls;obtain⟨bmR,NR,xr,lnR⟩:=hR.cls;have e3:=Ka J3.hok fl3.xo;refine wpAny_handleBy_cons (codeAny_handlers_test ?_) (by intro q;cases q);refine La (X:=KP X e fun _ _=>True) (Inv.marked J3 e _) hg hm ?_ hd1;refine jY (xc _ J3.BV) (xr _ J3.BV) lnR e3 hsub ?_;refine codeAny_handlers_suite_as ?_;obtain⟨T,oT,ts,h1,nT,hT,dT,h3n⟩:∃T oT ts,vs3[1]? =some (.ref T)/\T≠e/\h3.get? T=some oT/\oT.data=.fields ts/\ts[3]? =some .none:=by
   rcases fl3.hd with z|z
   ·obtain⟨T,oT,ts,he,_,gT,dT,h3'⟩:=lv.here;have:vs3=vs.setIfInBounds 1 (.ref T):=by have a:=e3.symm.trans he;cases a;rfl
    rw[this] at z;simp[fl.two] at z
   ·exact z
  have nT':=fl3.Ny T h1;refine mU e3 h1 hT dT h3n fun h4 k4 x4 z4=>?_;have J4:=J3.turned (t':=s2.toks) (it:=T) (h':=h4) (fun b o nb q=>(k4 b nb).trans q) nT'.2 (Eo (C8 I1.lt nT'.1)) (.inr (BF I1.sz nT'.1))
   (fun x c q=>by obtain⟨v,z⟩:=I1.cell x c q;exact BN (C8 z.lt nT'.1))
   fun p hp=>BN (C8 (A1 (I1.pin p hp).1) nT'.1);refine SV (X:=KP X e fun _ _=>True) (Inv.marked J4 e _) hN hi (.inl hn) (v:=.ref e) rfl (fun s5 J5=>?_) (.inr hn);have hil:i<σ1.length:=by rw[I1.len];exact(BZ.mp hi).1
  refine DC ((AU (An (j8 (X:=KP X e _) (f:=f) (pos:=p2) (Y6 (X:=KP X e _) (pos:=p1) hi (.inl hn) hd2 hd3) hab)):Eh (KP X e _) _ _) pins s5 _ _ {nx:=fun _ _=>False,rt:=D.rt} (Inv.marked (Inv.unmarked I.ok J5) e _)
   ⟨.ref e,OL hil,e,C,Dd,vs3,_,.str msg,rfl,fl3.xo,xa,hD,by rw[Gw,JB],hQ⟩) (fun fl6 s6 z=>?_) fun _ _ z=>z
  cases fl6 with
  |next=>obtain⟨_,_,_,q⟩:=z;exact q.elim
  |brk=>obtain⟨_,_,_,q⟩:=z;exact q.elim
  |cont=>obtain⟨_,_,_,q⟩:=z;exact q.elim
  |ret u=>obtain⟨v,σ6,H6,J6,r6,q6⟩:=z;obtain⟨m6,n6,_⟩:=J6.loc;exact wpAny_nameGoes hn n6 (by rw[I.ok.kind];rfl) fun h7 m7 n7 s7=>⟨v,_,H6,ig (Inv.unmarked I.ok J6) s7 n7,r6,q6⟩
abbrev PR:=Str×Str
noncomputable def F2(p:PR):List V:=[.str p.1,.str p.2]
noncomputable def Di(p:PR):Dt:=.tup [.str p.1,.str p.2]
noncomputable def Nu(H:Hp)(a:Ya):Option PR:=match H a with
 |some (.tup [.str k,.str z])=>some (k,z)
 |_=>none
def X4{p:PR}(h:H a=some (.tup (F2 p))):Nu H a=some p:=by unfold Nu;rw[h];rfl
def Ng{p:PR}(r:Rep H (Di p) v):∃a,v=.ref a/\H a=some (.tup (F2 p)):=by
 cases r with
 |@tup ds a xs h hl rr=>refine⟨a,rfl,?_⟩;revert h rr;refine Ly (C:=fun xs=>H a=some (.tup xs)->(∀(i:Nat) d x,[Dt.str p.1,Dt.str p.2][i]? =some d->xs[i]? =some x->Rep H d x)->H a=some (.tup (F2 p))) (fun u v h rr=>?_) hl.symm;have e1:=rr 0 (.str p.1) u rfl rfl;have e2:=rr 1 (.str p.2) v rfl rfl;cases e1;cases e2;exact h
def Ta{p:PR}(h:H a=some (.tup (F2 p))):Rep H (Di p) (.ref a):=by
 refine .tup h rfl fun i d x h1 h2=>?_
 match i with
 |0=>cases h1;cases h2;exact .str _
 |1=>cases h1;cases h2;exact .str _
 |i+2=>simp at h1
def Yr(p q:PR):decide (p=q)=((p.1==q.1)&&((p.2==q.2)&&true)):=by
 by_cases h1:p.1=q.1
 ·by_cases h2:p.2=q.2
  ·rw[BW (Prod.ext h1 h2),h1,h2,JB,JB];rfl
  ·rw[BO (fun z=>h2 (BJ Prod.snd z)),K7 h2,Mq,LB]
 ·rw[BO (fun z=>h1 (BJ Prod.fst z)),K7 h1,Mq]
def je(I:Inv X pins σ H s){p q:PR}(ha:H a=some (.tup (F2 p)))(hb:H b=some (.tup (F2 q)))(hu:A.units<rC):SeqAt.EqAt A s (.ref a) (.ref b) (decide (p=q)):=by
 by_cases hab:a=b
 ·subst hab;rw[ha] at hb;have e:p=q:=by have:=Ai hb;cases p;cases q;simp[F2] at this;exact Prod.ext this.1 this.2
  rw[BW e];exact .same _
 ·obtain⟨AO,r,pl,hz⟩:=I.tuple (AX.of (K:=X.K) ha);obtain⟨its2,r2,pl2,hz2⟩:=I.tuple (AX.of (K:=X.K) hb);obtain⟨u1,u2,rfl,e1,e2⟩:=Vals.two r;obtain⟨w1,w2,rfl,e3,e4⟩:=Vals.two r2;obtain⟨t1,rfl⟩:=e1;obtain⟨t2,rfl⟩:=e2;obtain⟨t3,rfl⟩:=e3;obtain⟨t4,rfl⟩:=e4;have rc:=SeqAt.RcAt.tuples (e:=fun j=>if j=0 then p.1==q.1 else p.2==q.2) pl pl2 hu (fun j h1 h2=>?_)
  ·refine SeqAt.EqAt.of_refs hab ?_;have:decide (p=q)=((List.range (min #[Value.str p.1 t1,Value.str p.2 t2].size #[Value.str q.1 t3,Value.str q.2 t4].size)).all (fun j=>if j=0 then p.1==q.1 else p.2==q.2)&& #[Value.str p.1 t1,Value.str p.2 t2].size== #[Value.str q.1 t3,Value.str q.2 t4].size):=by show decide (p=q)=((List.range 2).all (fun j=>if j=0 then p.1==q.1 else p.2==q.2)&&true);rw[Bool.and_true,show List.range 2=[0,1] from rfl,LD,LD,List.all_nil];exact Yr p q
   rw[this];exact rc
  ·match j,h1 with
   |0,_=>exact .str_str _ _ _ _
   |1,_=>exact .str_str _ _ _ _
def Gr(H:Hp)(p:PR)(u:AB):Bool:=match u with
 |.ref a=>decide (Nu H a=some p)
 |_=>false
def ZC(I:Inv X pins σ H s)(hu:A.units<rC){p:PR}(hb:H b=some (.tup (F2 p))):∀{ws:List PR}{xs:List V}{us:List AB},Ab H (ws.map Di) xs->Vals xs us->∀u∈us,SeqAt.EqAt A s u (.ref b) (Gr H p u):=fun{ws xs us} rr rv u hu'=>by
 obtain⟨i,hi⟩:=VO hu';have hl:i<ws.length:=by
  have h1:=(BZ.mp hi).1;have h2:=rv.length;have h3:=rr.1;rw[AK] at h3
  lia
 have hx:i<xs.length:=by have:=rr.1;rw[AK] at this;lia
 have ex:xs[i]? =some xs[i]:=Ap hx;have ew:(ws.map Di)[i]? =some (Di ws[i]):=by rw[A0,Ap hl];rfl
 obtain⟨a,ea,ha⟩:=Ng (rr.2 i _ _ ew ex);obtain⟨u',hu2,ru⟩:=rv.get ex;rw[hi] at hu2;cases hu2;rw[ea] at ru;cases ru;have e:Gr H p (.ref a)=decide (ws[i]=p):=by
  show decide (Nu H a=some p)=_;rw[X4 ha];by_cases z:ws[i]=p
  ·rw[z];simp
  ·rw[BO z,BO (fun y=>z (Ai y))]
 rw[e];exact je I ha hb hu
def Td(H:Hp)(p:PR):∀{ws:List PR}{xs:List V}{us:List AB},Ab H (ws.map Di) xs->Vals xs us->us.map (Gr H p)=ws.map fun q=>decide (q=p)
 |[],[],_,_,.nil=>rfl
 |w::ws,x::xs,u::us,rr,.cons r t=>by
  obtain⟨a,ea,ha⟩:=Ng (rr.2 0 _ x rfl rfl);rw[Ay,Ay,Td H p (ws:=ws) (xs:=xs) ⟨by simpa using rr.1,fun i d y h1 h2=>rr.2 (i+1) d y (by simpa using h1) (by simpa using h2)⟩ t];rw[ea] at r;cases r;congr 1;show decide (Nu H a=some p)=_;rw[X4 ha];by_cases z:w=p
  ·rw[z];simp
  ·rw[BO z,BO (fun y=>z (Ai y))]
 |[],_::_,_,rr,_=>by cases rr.1
 |_::_,[],_,rr,_=>by cases rr.1
def qC:R2:=fun x y H Q=>∃a b p q,x=.ref a/\y=.ref b/\H a=some (.tup (F2 p))/\H b=some (.tup (F2 q))/\Q (.bl (decide (p=q))) H
def XD(hu:X.A.units<rC):Bv X (qm .Eq) qC:=by
 intro pins s σ H x y v u Q I rx ry h;obtain⟨a,b,p,q,rfl,rfl,ha,hb,qq⟩:=h;cases rx;cases ry;obtain⟨AO,r,pl,hz⟩:=I.tuple (AX.of (K:=X.K) ha);obtain⟨its2,r2,pl2,hz2⟩:=I.tuple (AX.of (K:=X.K) hb);obtain⟨u1,u2,rfl,e1,e2⟩:=Vals.two r;obtain⟨w1,w2,rfl,e3,e4⟩:=Vals.two r2;obtain⟨t1,rfl⟩:=e1;obtain⟨t2,rfl⟩:=e2;obtain⟨t3,rfl⟩:=e3;obtain⟨t4,rfl⟩:=e4;refine SeqAt.eq_tupleAt (e:=fun j=>if j=0 then p.1==q.1 else p.2==q.2) pl pl2 hu (fun j h1 h2=>?_) ⟨.bl (decide (p=q)),H,I,?_,qq⟩
 ·match j,h1 with
  |0,_=>exact .str_str _ _ _ _
  |1,_=>exact .str_str _ _ _ _
 ·show Value.bool ((List.range 2).all (fun j=>if j=0 then p.1==q.1 else p.2==q.2)&&true)=Value.bool (decide (p=q));rw[Bool.and_true,show List.range 2=[0,1] from rfl,LD,LD,List.all_nil];exact BJ Value.bool (Yr p q).symm
def ph:R2:=fun x y H Q=>∃(b l:Ya)(p:PR)(ws:List PR)(xs:List V),x=.ref b/\y=.ref l/\H b=some (.tup (F2 p))/\H l=some (.lst xs)/\Ab H (ws.map Di) xs/\Q (.bl (ws.any fun q=>decide (q=p))) H
def i5(hu:X.A.units+1<rC):Bv X (qm .In) ph:=by intro pins s σ H x y v u Q I rx ry h;obtain⟨b,l,p,ws,xs,rfl,rfl,hb,hl,rr,q⟩:=h;cases rx;cases ry;obtain⟨AO,r,pl,hz⟩:=I.list (AJ.of (K:=X.K) hl);refine SeqAt.in_listAt (Gr H p) pl.isList (fun w hw=>ZC I (show X.A.in1.units<rC from hu) hb rr r w (by simpa using hw)) ⟨.bl _,H,I,rfl,?_⟩;have e:=BJ (fun l:List Bool=>l.any id) (Td H p rr r);simp only[List.any_map] at e;rw[show AO.toArray.any (Gr H p)=AO.any (Gr H p) by simp,show AO.any (Gr H p)=AO.any (id∘Gr H p) from rfl,e];exact q
def jM:V->List V->Hp->VK->Prop:=fun x vs H Q=>∃(b l:Ya)(p:PR)(ws:List PR)(xs:List V),x=.ref l/\vs=[.ref b]/\H b=some (.tup (F2 p))/\H l=some (.lst xs)/\Ab H (ws.map Di) xs/\Q (.int (ws.countP fun q=>decide (q=p):Nat)) H
def cy(hu:X.A.units+1<rC):Hh X "list.count" jM:=by intro pins s σ H x vs v us Q I rx rv h;obtain⟨b,l,p,ws,xs,rfl,rfl,hb,hl,rr,q⟩:=h;cases rx;obtain⟨u,rfl,ru⟩:=rv.one;cases ru;obtain⟨z,AO,n,r,hl',e⟩:=I.Ji hl;refine JG F.slot_list_count ⟨_,e,rfl⟩ F.entry_list_count (F.args_list_count_2 _ _) (SeqAt.list_countAt l AO.toArray n none #[] (.ref b) (Gr H p)) ⟨e,fun w hw=>ZC I (show X.A.in1.units<rC from hu) hb rr r w (by simpa using hw),?_⟩;refine⟨.int _,H,I.tok _,⟨_,rfl⟩,?_⟩;have e2:=BJ (fun l:List Bool=>l.countP id) (Td H p rr r);simp only[List.countP_map] at e2;show Q (.int (AO.countP (Gr H p):Nat)) H;rw[show AO.countP (Gr H p)=AO.countP (id∘Gr H p) from rfl,e2];exact q
def Inv.Y9{o u:HO}(I:Inv X pins σ H s)(h:H d=some o)(nt:∀xs,o≠.tup xs)(nw:∀x,o≠.own x)(nf:∀b u',X.H₀ d≠some (.BU b u'))(nb:∀ps,o≠.Jr ps)(new:BR X.prog X.w (upd H d u) s.heap d u):Inv X pins σ (upd H d u) s:=by
 refine⟨I.ok,I.os,I.bare,⟨I.base.keep,I.base.slot,fun b ob q n hx=>?_,I.base.there,fun b xs q=>?_,fun b ob u' q=>?_,fun b ps q=>?_⟩,I.loc,I.cell,?_,fun x c e=>?_,fun p hp=>?_,fun b ob q=>?_,I.len⟩
 ·have z:=I.base.free b ob q n hx;rw[AR (fun y=>by rw[y,h] at z;cases z)];exact z
 ·have z:=I.base.E7 b xs q;rw[AR (fun y=>by rw[y,h] at z;exact nt xs (Ai z))];exact z
 ·have z:=I.base.ES b ob u' q;rw[AR (fun y=>nf ob u' (by rw[<-y];exact q))];exact z
 ·obtain⟨m,z⟩:=I.base.E8 b ps q;exact⟨m,by rw[AR (fun y=>by rw[y,h] at z;exact nb _ (Ai z))];exact z⟩
 ·rw[AR (fun y=>by have:=I.free;rw[y,h] at this;cases this)];exact I.free
 ·rw[AR (fun y=>by have:=I.DM x c e;rw[y,h] at this;cases this)];exact I.DM x c e
 ·obtain⟨e,n,r⟩:=I.pin p hp;exact⟨e,by rw[AR (fun y=>by rw[y,h] at n;cases n)];exact n,r⟩
 ·by_cases hb:b=d
  ·subst hb;rw[AM] at q;cases q;exact new
  ·rw[AR hb] at q;refine(I.hok b ob q).Ec (fun _ _ _ z=>z) (fun c z=>?_) fun c xs z=>?_
   ·rw[AR (fun y=>by rw[y,h] at z;exact nw _ (Ai z))];exact z
   ·rw[AR (fun y=>by rw[y,h] at z;exact nt _ (Ai z))];exact z
def Inv.Ls(I:Inv X pins σ H s)(h:H d=some (.dK AA))(b:Obj)(u:HO):X.H₀ d≠some (.BU b u):=fun z=>by have:=I.base.ES d b u z;rw[h] at this;cases this
def BR.Zw(x:BR P w H h d (.dK AA)):BR P w H' h d (.dK AA):=x
def Inv.Zs(I:Inv X pins σ H s)(h:H d=some (.dK AA)):∃o es ep,s.heap.get? d=some o/\o.data=.dict es ep/\Inv X pins σ (upd H d (.BU o (.dK AA))) s:=by have ok:=I.hok d _ h;obtain⟨z,hm,vs,rel,o,es,ep,ho,hc,hd,r⟩:=(show BR X.prog X.w H s.heap d (.dK AA) from ok);refine⟨o,es,ep,ho,hd,I.Y9 h (fun _ q=>nomatch q) (fun _ q=>nomatch q) (I.Ls h) (fun _ q=>nomatch q) ⟨ho,BR.Zw (show BR X.prog X.w H s.heap d (.dK AA) from ok)⟩⟩
def Inv.Nx(I:Inv X pins σ H s)(nf:∀b u',X.H₀ d≠some (.BU b u'))(h:H d=some (.BU o (.dK AA))):Inv X pins σ (upd H d (.dK AA)) s:=by have ok:=I.hok d _ h;obtain⟨ho,z⟩:=(show BR X.prog X.w H s.heap d (.BU o (.dK AA)) from ok);exact I.Y9 h (fun _ q=>nomatch q) (fun _ q=>nomatch q) nf (fun _ q=>nomatch q) (BR.Zw (show BR X.prog X.w H s.heap d (.dK AA) from z))
def oj(d:Ya)(AA:List (Key×V))(te:TE):TE:=fun σ H Q=>H d=some (.dK AA)/\te σ H fun v H'=>∃o,H' d=some (.BU o (.dK AA))/\Q v (upd H' d (.dK AA))
def Yc(he:PE X e te):PE X e (fun σ H Q=>∃d AA,oj d AA te σ H Q):=by intro pins s σ H Q I h;obtain⟨d,AA,hd,h⟩:=h;refine Ae (he pins s σ H _ I h) fun v s1 ⟨x,H',I1,r,o,ho,q⟩=>?_;exact⟨x,_,I1.Nx (I.Ls hd) ho,r,q⟩
def oS(d:Ya)(AA:List (Key×V))(t:TS):TS:=fun D σ H=>H d=some (.dK AA)/\t {nx:=(fun σ' H'=>∃o,H' d=some (.BU o (.dK AA))/\D.nx σ' (upd H' d (.dK AA))),rt:=(fun v H'=>∃o,H' d=some (.BU o (.dK AA))/\D.rt v (upd H' d (.dK AA))),bk:=(fun σ' H'=>∃o,H' d=some (.BU o (.dK AA))/\D.bk σ' (upd H' d (.dK AA))),ct:=(fun σ' H'=>∃o,H' d=some (.BU o (.dK AA))/\D.ct σ' (upd H' d (.dK AA)))} σ H
def j3{st:hX}{t:TS}(hs:PS X st t):PS X st (fun D σ H=>∃d AA,oS d AA t D σ H):=by
 intro pins s σ H D I h;obtain⟨d,AA,hd,h⟩:=h;refine Ae (hs pins s σ H _ I h) fun f s1 z=>?_
 cases f with
 |next=>obtain⟨σ',H',J,o,ho,q⟩:=z;exact⟨σ',_,J.Nx (I.Ls hd) ho,q⟩
 |brk=>obtain⟨σ',H',J,o,ho,q⟩:=z;exact⟨σ',_,J.Nx (I.Ls hd) ho,q⟩
 |cont=>obtain⟨σ',H',J,o,ho,q⟩:=z;exact⟨σ',_,J.Nx (I.Ls hd) ho,q⟩
 |ret u=>obtain⟨v,σ',H',J,r,o,ho,q⟩:=z;exact⟨v,σ',_,J.Nx (I.Ls hd) ho,r,q⟩
noncomputable def IB(p d:Ya):HO:=.ext fun h=>h.IsItemsView p d
def mB:V->List V->Hp->VK->Prop:=fun x vs H Q=>∃d AA,x=.ref d/\vs=[]/\H d=some (.dK AA)/\∀p,H p=none->Q (.ref p) (upd H p (IB p d))
def W5:Hh X "dict.items" mB:=by intro pins s σ H x vs v us Q I rx rv h;obtain⟨d,AA,rfl,rfl,hd,q⟩:=h;cases rx;cases rv;obtain⟨z,hm,ws,rel,dd⟩:=Jd I.hok hd;refine Om VB dd.typeIs PySem.F.entry_dict_items (PySem.F.args_dict_items_1 _) (meets_dict_items (Cd X.prog X.w) d hm) ⟨⟨ws,dd⟩,?_⟩;refine⟨.ref s.heap.objs.size,_,I.laid (t':=s.toks) (o:=IB s.heap.objs.size d) (fun b o e=>BC _ e) (Ad _) ?_,rfl,q _ I.fresh⟩;have hv:(s.heap.push {cls:=.type "dict_items",data:=.fields #[.ref d]}).IsItemsView s.heap.objs.size d:=⟨_,By _ rfl,rfl,rfl⟩;exact⟨hv,⟨_,By _ rfl⟩,fun h1 h2 a k=>let⟨o,e,r⟩:=a;⟨o,k o e,r⟩⟩
def L6(d:Ya)(o:Obj)(AA:List (Key×V)):It:=
 ⟨fun i H=>H d=some (.BU o (.dK AA))/\i<AA.length,fun i H v H'=>∃p k x,v=.ref p/\H p=none/\AA[i]? =some (k,x)/\H'=upd H p (.tup [kV k,x]),fun i H=>H d=some (.BU o (.dK AA))/\AA.length<=i⟩
def U5(d:Ya)(o:Obj)(AA:List (Key×V)):It:=
 ⟨fun i H=>H d=some (.BU o (.dK AA))/\i<AA.length,fun i H v H'=>∃k,AA[i]? =some (k,v)/\H'=H,fun i H=>H d=some (.BU o (.dK AA))/\AA.length<=i⟩
variable{ep:Nat}
def Lo{es:Array DictEntry}(ok:Bw P w H h)(e:H d=some (.BU o (.dK AA)))(hd:o.data=.dict es ep):∃vs,KV AA vs/\h.DictAt (Cd P w) d vs ep:=by obtain⟨ho,z,hm,vs,rel,o',es',ep',ho',hc,hd',r⟩:=(show BR P w H h d (.BU o (.dK AA)) from ok d _ e);rw[ho] at ho';cases ho';rw[hd] at hd';cases hd';exact⟨vs,rel,o,es,ho,hc,hd,r⟩
def Te{AA:List (Key×V)}{ws:List (Key×AB)}:KV AA ws->∀{i:Nat}{k:Key}{x:V},AA[i]? =some (k,x)->∃u,ws[i]? =some (k,u)/\RelV x u
 |.nil,i,k,x,e=>by simp at e
 |.cons r t,0,k,x,e=>by have e':=Ai (show some _=some (k,x) from by simpa using e);subst e';rename_i b _ _;obtain⟨k',u⟩:=b;obtain⟨h1,h2⟩:=r;exact⟨u,by simp;exact h1.symm,h2⟩
 |.cons _ t,i+1,k,x,e=>by obtain⟨u,h1,h2⟩:=Te (show KV _ _ from t) (i:=i) (k:=k) (x:=x) (by simpa using e);exact⟨u,by simpa using h1,h2⟩
def j0{k:Key}{key:AB}(h:(Cd P w).is k key=true):RelV (kV k) key:=by
 rcases GJ h with⟨i,t,rfl,rfl⟩|⟨x,t,rfl,rfl⟩
 ·exact⟨t,rfl⟩
 ·exact⟨t,rfl⟩
def cS:entryFor table "dict_itemiterator.__iter__" =some Builtin.«dict_keyiterator.__iter__»:=
 entryFor_alias (id':="dict_keyiterator.__iter__") (by kernel_rfl) rfl (by left) (by kernel_rfl)
def dh{x1:Nat}(d it:Ya)(o:Obj)(AA:List (Key×V))(es:Array DictEntry)(ep:Nat)(hod:o.data=.dict es ep):
 Turn P w K (.Tuple elts x1 tpos) (L6 d o AA) [it] it (fun i h=>∃ok ov,IsItemIter h it d i AA.length ep ok ov) where
 mem:=by simp
 obj:=fun i h st b hb=>by
  obtain⟨ok,ov,he⟩:=st;have hb':b=it:=by simpa using hb
  subst hb';exact⟨_,he,fun v q=>nomatch q⟩
 keep:=fun i h h' st k=>by obtain⟨ok,ov,he⟩:=st;exact⟨ok,ov,k it (by simp) _ he⟩
 item:=by
  intro X hP hw hK hc i pins s σ H E I hf st hg;subst hP hw hK;obtain⟨ok,ov,he⟩:=st;obtain⟨hd,hi⟩:=hg;obtain⟨vs,rel,dat⟩:=Lo I.hok hd hod;have ex:AA[i]? =some (AA[i].1,AA[i].2):=Ap hi;obtain⟨u,hu,ru⟩:=Te rel ex;have hl:AA.length=vs.length:=JF rel;have hn:H s.heap.objs.size=none:=I.hok.fresh (Ad _);have lt:=A1 he;rw[hl] at he;refine wpAny_pyNext_items_item (knd:=Cd X.prog X.w) he dat hu fun key h1 hkey e1 t1 z1 k1=>⟨_,rfl,?_⟩;refine wpAny_letOwnedTupleGo_items e1 fun h2 e2 sb=>?_;have sb':Heap.SameBut it h1 h2:=sb;have k2:∀b o,b∉[it]->s.heap.get? b=some o->h2.get? b=some o:=fun b o hb z=>by
   have hb':b≠it:=by simpa using hb
   exact(sb'.2 b hb').trans (k1 b o hb' z)
  have t2:IsTup h2 s.heap.objs.size [key,u].toArray:=⟨_,(sb'.2 _ (Eo lt)).trans t1,rfl,_,rfl⟩;have I2:=I.WA (h':=h2) (t':=s.toks) (xs:=[kV AA[i].1,AA[i].2]) hf k2 (fun b hb=>by
   have hb':b=it:=by simpa using hb
   rw[hb'];exact⟨_,e2⟩) (.cons (j0 hkey) (.cons ru .nil)) (by show 2<=sizeLine;decide) t2;refine⟨.ref s.heap.objs.size,_,I2,rfl,⟨_,_,_,rfl,hn,ex,rfl⟩,⟨key,u,by rw[hl];exact e2⟩,fun b hb=>?_⟩;have hb':b=it:=by simpa using hb
  rw[hb',AR (BN lt)];exact(hf it (by simp)).1
 done:=by intro X hP hw hK hc i pins s σ H E I hf st hg;subst hP hw hK;obtain⟨ok,ov,he⟩:=st;obtain⟨hd,hi⟩:=hg;obtain⟨vs,rel,dat⟩:=Lo I.hok hd hod;have hl:AA.length=vs.length:=JF rel;obtain⟨f0,f1,f2,f3,f4,f5⟩:=hf it (by simp);rw[hl] at he;exact wpAny_pyNext_items_end (knd:=Cd X.prog X.w) (I.ok.hd hc) he dat (OI.mpr (by lia)) fun h' eb=>⟨rfl,I.turned (t':=s.toks) (fun b o hb e=>eb b o hb e) f0 f1 f3 f4 f5⟩
 self:=fun A i s Q E st h=>by obtain⟨ok,ov,he⟩:=st;have ty:s.TypeIs (.ref it) "dict_itemiterator" :=⟨_,he,rfl⟩;refine wpAny_pyIter_slot ty cL (Oa cL ty cS ?_ (PySem.F.args_dict_itemiterator_iter_1 _));show bt _ _ (ret (.ref it)) _ _ s;exact Af ⟨_,rfl,"dict_itemiterator",_,ty,PySem.F.slot_dict_itemiterator_next.lookup,h⟩
def cu(d it:Ya)(o:Obj)(AA:List (Key×V))(es:Array DictEntry)(ep:Nat)(hod:o.data=.dict es ep):
 Turn P w K tg (U5 d o AA) [it] it (fun i h=>h.IsValIter it d i AA.length ep) where
 mem:=by simp
 obj:=fun i h st b hb=>by
  obtain⟨oi,he,hc,hdt⟩:=st;have hb':b=it:=by simpa using hb
  subst hb';exact⟨_,he,fun v q=>by rw[hdt] at q;cases q⟩
 keep:=fun i h h' st k=>st.at fun o z=>k it (by simp) o z
 item:=by
  intro X hP hw hK hc i pins s σ H E I hf st hg;subst hP hw hK;obtain⟨hd,hi⟩:=hg;obtain⟨vs,rel,dat⟩:=Lo I.hok hd hod;have ex:AA[i]? =some (AA[i].1,AA[i].2):=Ap hi;obtain⟨u,hu,ru⟩:=Te rel ex;have hl:AA.length=vs.length:=JF rel;obtain⟨f0,f1,f2,f3,f4,f5⟩:=hf it (by simp);rw[hl] at st;refine wpAny_pyNext_values_item (knd:=Cd X.prog X.w) st dat hu fun h1 e1 sb=>⟨_,rfl,?_⟩;obtain⟨oi,he,hci,hdt⟩:=id e1;refine P5 (s:={s with heap:=h1}) he hci hdt (by decide) ?_;exact⟨AA[i].2,H,I.turned (t':=s.toks) (fun b o hb e=>(sb.2 b hb).trans e) f0 f1 f3 f4 f5,ru,⟨_,ex,rfl⟩,by rw[hl];exact e1,fun b hb=>by
   have hb':b=it:=by simpa using hb
   rw[hb'];exact f0⟩
 done:=by intro X hP hw hK hc i pins s σ H E I hf st hg;subst hP hw hK;obtain⟨hd,hi⟩:=hg;obtain⟨vs,rel,dat⟩:=Lo I.hok hd hod;have hl:AA.length=vs.length:=JF rel;obtain⟨f0,f1,f2,f3,f4,f5⟩:=hf it (by simp);rw[hl] at st;exact wpAny_pyNext_values_end (knd:=Cd X.prog X.w) (I.ok.hd hc) st dat (OI.mpr (by lia)) fun h' eb=>⟨rfl,I.turned (t':=s.toks) (fun b o hb e=>eb b o hb e) f0 f1 f3 f4 f5⟩
 self:=fun _ _ _ _ _ st h=>wpAny_pyIter_valiter st h
def kc(tl:TE):TI:=fun σ H R=>tl σ H fun x H1=>∃p d AA,x=.ref p/\H1 p=some (IB p d)/\H1 d=some (.dK AA)/\∀o,R (L6 d o AA) (upd H1 d (.BU o (.dK AA)))
def om(tl:TE):TI:=fun σ H R=>tl σ H fun x H1=>∃p d AA,x=.ref p/\H1 p=some (HY p d)/\H1 d=some (.dK AA)/\∀o,R (U5 d o AA) (upd H1 d (.BU o (.dK AA)))
def XY{x1:Nat}{l:hY}{tl:TE}(hl:PE X l tl):PI X (.Tuple elts x1 tpos) l (kc tl):=by
 intro pins s σ H R I h;refine Ae (hl pins s σ H _ I h) fun v s1 ⟨x,H1,I1,r,p,d,AA,ex,hp,hd,q⟩=>?_;subst ex;cases r;obtain⟨hvw,_⟩:=(show BR X.prog X.w H1 s1.heap p (IB p d) from I1.hok p _ hp);obtain⟨o,es,ep,ho,hod,I2⟩:=I1.Zs hd;obtain⟨vs,rel,dat⟩:=Lo I2.hok AM hod;have hlv:AA.length=vs.length:=JF rel;refine wpAny_pyIter_items (knd:=Cd X.prog X.w) hvw dat ?_;refine⟨s1.heap.objs.size,[s1.heap.objs.size],_,_,_,rfl,I2.kept (t':=s1.toks) (fun b o e=>BC _ e),dh d _ o AA es ep hod,⟨.none,.none,?_⟩,fun b hb=>?_,q o⟩
 ·rw[hlv];exact By _ rfl
 ·have hb':b=s1.heap.objs.size:=by simpa using hb
  rw[hb'];exact I2.Kk (Ad _) (I2.hok.fresh (Ad _))
def jX{l:hY}{tl:TE}(hl:PE X l tl):PI X tg l (om tl):=by
 intro pins s σ H R I h;refine Ae (hl pins s σ H _ I h) fun v s1 ⟨x,H1,I1,r,p,d,AA,ex,hp,hd,q⟩=>?_;subst ex;cases r;obtain⟨hvw,_⟩:=(show BR X.prog X.w H1 s1.heap p (HY p d) from I1.hok p _ hp);obtain⟨o,es,ep,ho,hod,I2⟩:=I1.Zs hd;obtain⟨vs,rel,dat⟩:=Lo I2.hok AM hod;have hlv:AA.length=vs.length:=JF rel;refine wpAny_pyIter_values (knd:=Cd X.prog X.w) hvw dat ?_;refine⟨s1.heap.objs.size,[s1.heap.objs.size],_,_,_,rfl,I2.kept (t':=s1.toks) (fun b o e=>BC _ e),cu d _ o AA es ep hod,?_,fun b hb=>?_,q o⟩
 ·exact⟨_,By _ rfl,rfl,by rw[hlv];rfl⟩
 ·have hb':b=s1.heap.objs.size:=by simpa using hb
  rw[hb'];exact I2.Kk (Ad _) (I2.hok.fresh (Ad _))
def dG{Q:VK}(Pv:Nat->Hp->Prop)(h0:Pv 0 (upd H1 D (.lst [])))(hl:∀i H,Pv i H->H d=some (.BU o (.dK AA)))
 (hs:∀i k x p H,AA[i]? =some (k,x)->H p=none->Pv i H->g (.ref p) (ts.map (fun _=>none)++D9 ix σ) (upd H p (.tup [kV k,x])) fun σ2 H2=>Ir ts ix σ σ2/\ti σ2 H2 fun b H3=>if b=true then te σ2 H3 fun y H4=>∃ys,H4 D=some (.lst ys)/\ys.length<sizeLine/\Pv (i+1) (upd H4 D (.lst (ys++[y]))) else Pv (i+1) H3)
 (hd:∀H,Pv AA.length H->Q (.ref D) H):Lw ts ix σ (L6 d o AA) g ti te D Q H1:=by
 refine⟨fun i m H=>m=AA.length-i/\i<=AA.length/\Pv i H,⟨AA.length,by simp,CG _,h0⟩,?_⟩;rintro i m H ⟨rfl,hi,p⟩;by_cases hlt:i<AA.length
 ·refine .inr ⟨⟨hl i H p,hlt⟩,Pv (i+1),fun H' p'=>⟨AA.length-(i+1),by lia,rfl,hlt,p'⟩,fun v H' y=>?_⟩;obtain⟨q,k,x,ev,hq,ex,eH⟩:=y;subst ev eH;exact hs i k x q H ex hq p
 ·obtain rfl:i=AA.length:=by lia
  exact .inl ⟨⟨hl _ H p,Ad _⟩,hd H p⟩
def fm{Q:VK}(Pv:Nat->Hp->Prop)(h0:Pv 0 (upd H1 D (.lst [])))(hl:∀i H,Pv i H->H d=some (.BU o (.dK AA)))
 (hs:∀i k x H,AA[i]? =some (k,x)->Pv i H->g x (ts.map (fun _=>none)++D9 ix σ) H fun σ2 H2=>Ir ts ix σ σ2/\ti σ2 H2 fun b H3=>if b=true then te σ2 H3 fun y H4=>∃ys,H4 D=some (.lst ys)/\ys.length<sizeLine/\Pv (i+1) (upd H4 D (.lst (ys++[y]))) else Pv (i+1) H3)
 (hd:∀H,Pv AA.length H->Q (.ref D) H):Lw ts ix σ (U5 d o AA) g ti te D Q H1:=by
 refine⟨fun i m H=>m=AA.length-i/\i<=AA.length/\Pv i H,⟨AA.length,by simp,CG _,h0⟩,?_⟩;rintro i m H ⟨rfl,hi,p⟩;by_cases hlt:i<AA.length
 ·refine .inr ⟨⟨hl i H p,hlt⟩,Pv (i+1),fun H' p'=>⟨AA.length-(i+1),by lia,rfl,hlt,p'⟩,fun v H' y=>?_⟩;obtain⟨k,ex,eH⟩:=y;subst eH;exact hs i k v _ ex p
 ·obtain rfl:i=AA.length:=by lia
  exact .inl ⟨⟨hl _ H p,Ad _⟩,hd H p⟩
def fQ{D:Ends}(Pv:Nat->St->Hp->Prop)(h0:Pv 0 σ H)(hl:∀i σ H,Pv i σ H->H d=some (.BU o (.dK AA)))
 (hs:∀i k x p σ H,AA[i]? =some (k,x)->H p=none->Pv i σ H->g (.ref p) σ (upd H p (.tup [kV k,x])) fun σ2 H2=>tb {D with nx:=Pv (i+1),ct:=Pv (i+1),bk:=D.nx} σ2 H2)(hd:∀σ H,Pv AA.length σ H->D.nx σ H):
 ∃W:Nat->Nat->St->Hp->Prop,(∃m,W 0 m σ H)/\∀i m σ H,W i m σ H->
  ((L6 d o AA).stop i H/\D.nx σ H)\/((L6 d o AA).go i H/\∃N:St->Hp->Prop,(∀σ' H',N σ' H'->∃m',m'<m/\W (i+1) m' σ' H')/\∀x H',(L6 d o AA).Jq i H x H'->g x σ H' fun σ2 H2=>tb {D with nx:=N,ct:=N,bk:=D.nx} σ2 H2):=by
 refine⟨fun i m σ H=>m=AA.length-i/\i<=AA.length/\Pv i σ H,⟨AA.length,by simp,CG _,h0⟩,?_⟩;rintro i m σ H ⟨rfl,hi,p⟩;by_cases hlt:i<AA.length
 ·refine .inr ⟨⟨hl i σ H p,hlt⟩,Pv (i+1),fun σ' H' p'=>⟨AA.length-(i+1),by lia,rfl,hlt,p'⟩,fun v H' y=>?_⟩;obtain⟨q,k,x,ev,hq,ex,eH⟩:=y;subst ev eH;exact hs i k x q σ H ex hq p
 ·obtain rfl:i=AA.length:=by lia
  exact .inl ⟨⟨hl _ σ H p,Ad _⟩,hd σ H p⟩
def gk{y:Str}{c e:Ya}(hc:X.calm=true)(hk:scope.kind=.function)(h:scope.names.all (fun p=>p.2 !=.cell&&(p.2 !=.free||(p.1==y||p.1==z)))=true)
 (hn:∀q∈scope.names,q.2=.local->scope.names.lookup q.1=some .local)(hcl:closureFor scope X.env=pure [(y,c),(z,e)])(hyz:z≠y)(hce:X.env.cells.lookup y=some c)(hce2:X.env.cells.lookup z=some e)(hx:X.env.kindOf y=some .cell)(hx2:X.env.kindOf z=some .cell)
 (hj:X.N[j]? =some y)(hj2:X.N[k]? =some z)(hr:(rh scope X.env).names.lookup y=some .cell)(hr2:(rh scope X.env).names.lookup z=some .cell):KU X ts [y,z] [j,k] scope [(y,c),(z,e)]:=by
 have hall:∀q∈scope.names,q.2≠.cell/\(q.2=.free->q.1=y\/q.1=z):=fun q hq=>by have:=K5.mp h q hq;simp only[D6,Bool.or_eq_true,bne_iff_ne,FE] at this;exact⟨this.1,fun e=>this.2.elim (fun q=>absurd e q) id⟩
 have rel:∀q kd,(rh scope X.env).names.lookup q=some kd->(kd=.cell\/kd=.free)->q=y\/q=z:=fun q kd hq hk'=>by
  have hm:=I8 hq;obtain⟨p,hp,e⟩:=BP.mp (show(q,kd)∈scope.names.map _ from hm);obtain⟨n,kq⟩:=p;have hp':=hall (n,kq) hp;by_cases hf:kq=.free
  ·have e1:=hp'.2 hf;have e2:n=q:=by have:=BJ Prod.fst e;revert this;dsimp only;split<;>exact id
   rw[<-e2];exact e1
  ·have e3:(n,kq)=(q,kd):=by
    rw[<-e];dsimp only;rw[AG (by
     intro zz;have:(kq==NameKind.free)=true:=by simp only[D6] at zz;exact zz.1.1
     exact hf (by simpa using this))]
   have e4:kq=kd:=BJ Prod.snd e3;rcases hk' with z1|z1
   ·exact absurd (e4.trans z1) hp'.1
   ·exact absurd (e4.trans z1) hf
 have l1:List.lookup y [(y,c),(z,e)]=some c:=by rw[Gw,JB]
 have l2:List.lookup z [(y,c),(z,e)]=some e:=by rw[Gw,K7 hyz,Gw,JB]
 refine⟨hc,hcl,fun q hq=>(hall q hq).1,hk,hn,fun q a e'=>?_,fun q hq=>?_,rfl,fun i q m e1 e2=>?_,fun q hq=>?_⟩
 ·by_cases h1:q=y
  ·rw[h1] at e'⊢;rw[l1] at e';rw[<-Ai e'];exact hce
  ·by_cases h2:q=z
   ·rw[h2] at e'⊢;rw[l2] at e';rw[<-Ai e'];exact hce2
   ·rw[Gw,K7 h1,Gw,K7 h2] at e';cases e'
 ·have e:=hq.elim (fun r=>rel q _ r (.inl rfl)) fun r=>rel q _ r (.inr rfl);rcases e with e|e
  ·rw[e];exact⟨c,l1⟩
  ·rw[e];exact⟨_,l2⟩
 ·match i with
  |0=>
   have e3:q=y:=by simpa using e1.symm
   have e4:m=j:=by simpa using e2.symm
   rw[e3,e4];exact hj
  |1=>
   have e3:q=z:=by simpa using e1.symm
   have e4:m=k:=by simpa using e2.symm
   rw[e3,e4];exact hj2
  |i+2=>simp at e1
 ·have e:q=y\/q=z:=by simpa using hq
  rcases e with e|e
  ·rw[e];exact⟨.inr (.inl hx),(by rw[hx];intro q;cases q),.inl hr⟩
  ·rw[e];exact⟨.inr (.inl hx2),(by rw[hx2];intro q;cases q),.inl hr2⟩
def qQ{y:Str}(h:x≠y)(h2:x≠z)(h3:y≠z):([x]++[y,z]:List Str).Nodup:=by simp[h,h2,h3]
def aS{y:Str}{u:V}:Ir [x,y] ix σ (((([x,y]:List Str).map (fun _=>(none:Option V))++D9 ix σ).set 0 (some u)).set 1 (some v)):=⟨[some u,some v],rfl,rfl⟩
def WC(hc:X.calm=true):DO X (.builtin "sum") (fun xs H Q=>∃(l:Ya)(ns:List Int),xs=[.ref l]/\AJ X.K H l (ns.map V.int)/\Q (.int ns.sum) H):=by
 intro pins s σ H xs us Q I r h;obtain⟨l,ns,rfl,hq,q⟩:=h;obtain⟨u,rfl,rx⟩:=vals1 r;cases rx;obtain⟨AO,rv,pl,hz⟩:=I.list hq;have hh:X.A.handled=none:=I.ok.hd hc;obtain⟨l',e,en⟩:∃l:List (Int×Tok),l.map (fun p=>Value.int p.1 p.2)=AO/\l.map (·.1)=ns:=by
  have:∀(ns:List Int)(us:List AB),Vals (ns.map V.int) us->∃l:List (Int×Tok),l.map (fun p=>Value.int p.1 p.2)=us/\l.map (·.1)=ns:=by
   intro ns
   induction ns with
   |nil=>intro us h;cases h;exact⟨[],rfl,rfl⟩
   |cons n r ih=>
    intro us h
    cases h with
    |cons a t=>obtain⟨l,e,en⟩:=ih _ t;obtain⟨k,ek⟩:=a;exact⟨(n,k)::l,by rw[Ay,e,ek],by rw[Ay,en]⟩
  exact this ns AO rv
 have ex:intItems l'.toArray=AO.toArray:=by unfold intItems;rw[<-e];simp
 refine sum_intListG hh (xs:=l'.toArray) (by rw[ex];exact pl.isList) fun h' tk t' kk=>?_;refine⟨.int _,H,I.kept kk,⟨t',rfl⟩,?_⟩;rw[preSum_eq];have:((l'.toArray.toList.map (·.1)).take l'.toArray.size)=ns:=by
  show(l'.map (·.1)).take l'.length=ns;rw[en,Fj];have:=BJ List.length en;rw[AK] at this
  lia
 rw[this];exact q
noncomputable def IK(sep:Str):List Str->Str
 |[p]=>p
 |l=>PySem.Builtin.Str.glued sep l
def rJoin(K:uJ):V->List V->Hp->VK->Prop:=fun x vs H Q=>∃(sep:Str)(l:Ya)(zs:List Str),x=.str sep/\vs=[.ref l]/\AJ K H l (zs.map V.str)/\zs.foldl (·+·.length+sep.length) 0<=sizeLine/\(IK sep zs).length<=sizeLine/\Q (.str (IK sep zs)) H
def X8:∀(zs:List Str)(us:List AB),Vals (zs.map V.str) us->∃l:List (Str×Tok),strValues l=us/\l.map (·.1)=zs
 |[],us,h=>by cases h;exact⟨[],rfl,rfl⟩
 |z::zs,us,h=>by
  cases h with
  |cons a t=>obtain⟨l,e,en⟩:=X8 zs _ t;obtain⟨k,ek⟩:=a;exact⟨(z,k)::l,by show Value.str z k::strValues l=_;rw[e,ek],by rw[Ay,en]⟩
def S4:Hh X "str.join" (rJoin X.K):=by
 intro pins s σ H x vs v us Q I rx rv h;obtain⟨sep,l,zs,rfl,rfl,hq,hz,hz3,q⟩:=h;obtain⟨t,rfl⟩:=rx;obtain⟨u,rfl,ru⟩:=rv.one;cases ru;obtain⟨AO,r,pl,hz2⟩:=I.list hq;obtain⟨l',e,en⟩:=X8 zs AO r;refine JG F.slot_str_join (LM _ _ _) F.entry_str_join (F.args_str_join_2 _ _) (meets_str_join_list sep t l l' ?_) ⟨by rw[e];exact pl.isList,?_⟩
 ·rw[en];unfold Builtin.Str.tooLong;simpa using hz
 ·match l',en with
  |[],en=>subst en;exact⟨hz3,.str _,H,I.tok _,⟨_,rfl⟩,q⟩
  |[p],en=>subst en;exact⟨.str _,H,I,⟨_,rfl⟩,q⟩
  |p::p2::l,en=>subst en;exact⟨hz3,.str _,H,I.tok _,⟨_,rfl⟩,q⟩
def o4(a b:Str)(tx:TE):TE:=fun σ H Q=>tx σ H fun v H1=>∃z,v=.str z/\z.length<=4000000/\Q (.str (a++z++b)) H1
def jc{a b:Str}{x:hY}{tx:TE}{k1 k2:Nat}{p1 p2 p3 p4:Pos}(hx:PE X x tx)(ha:a.length<=1000)(hb:b.length<=1000):PE X (.JoinedStr [.Constant (.str a) k1 p1,.FormattedValue x (-1) none p2,.Constant (.str b) k2 p3] p4) (o4 a b tx):=by
 intro pins s σ H Q I h;refine wpAny_JoinedStr ?_;refine Vc ⟨a,_,rfl,?_,?_⟩
 ·rw[Hs,Aw];show 0+a.length<=_;lia
 refine wpAny_FormattedValue_plain (Ae (hx pins _ σ H _ (I.tok _) h) fun v s1 ⟨y,H1,I1,r,z,ey,hz,q⟩=>?_);subst ey;obtain⟨t,rfl⟩:=r;have fin:∀(u:Tok)(s2:Yf),Inv X pins σ H1 s2->∃y t,Value.str z u=.str y t/\(Str.empty++a++y).length<=sizeLine/\Joins (ax X.prog X.w) X.A X.xe [qr (.Constant (.str b) k2 p3) X.env] (Str.empty++a++y) (fun out s₁=>out.length<=sizeLine/\EP X pins σ Q (.str out s₁.toks) {s₁ with toks:=s₁.toks+1}) s2:=fun u s2 I2=>by
  refine⟨z,u,rfl,?_,Vc ⟨b,_,rfl,?_,?_,?_⟩⟩
  ·rw[Hs,Hs,Aw];show 0+a.length+z.length<=_;lia
  ·rw[Hs,Hs,Hs,Aw];show 0+a.length+z.length+b.length<=_;lia
  ·rw[Hs,Hs,Hs,Aw];show 0+a.length+z.length+b.length<=_;lia
  ·refine⟨.str (Str.empty++a++z++b),H1,(I2.tok _).tok _,⟨_,rfl⟩,?_⟩;have e:Str.empty++a=a:=by obtain⟨c⟩:=a;show(⟨#[]++c⟩:Str)=⟨c⟩;rw[Array.empty_append]
   rw[e];exact q
 exact wpAny_formatField_str (fin t s1 I1) (fin _ _ (I1.tok _)) (by rw[Aw];lia)
structure CI(H1:Hp)(D:Ya)(out:List Dt)(H:Hp):Prop where
 same:AQ H1 H
 fr:H1 D=none
 lst:∃ys,H D=some (.lst ys)/\Ab (Ex H D) out ys
def CI.start(h:H1 D=none):CI H1 D [] (upd H1 D (.lst [])):=⟨AY h,h,[],AM,Ab.nil⟩
def CI.ext{out:List Dt}(c:CI H1 D out H)(s:AQ H H'):CI H1 D out H':=by obtain⟨ys,h,r⟩:=c.lst;exact⟨c.same.trans s,c.fr,ys,s _ _ h,r.same (Ex.mono s)⟩
def CI.push{out:List Dt}{d:Dt}(c:CI H1 D out H)(r:Rep (Ex H D) d y)(hl:out.length<=200000):∃ys,H D=some (.lst ys)/\ys.length<sizeLine/\CI H1 D (out++[d]) (upd H D (.lst (ys++[y]))):=by
 obtain⟨ys,h,rr⟩:=c.lst;refine⟨ys,h,?_,c.same.upd c.fr,c.fr,ys++[y],AM,?_⟩
 ·have:=rr.1;rw[Aw]
  lia
 ·rw[Ex.upd];exact rr.snoc r
def CI.done{out:List Dt}(c:CI H1 D out H):Rep H (.lst out) (.ref D):=by obtain⟨ys,h,rr⟩:=c.lst;exact Rep.Fd h (rr.same Ex.sub)
def Ew(r:Rep H (.lst ds) v):∃a xs,v=.ref a/\H a=some (.lst xs)/\Ab H ds xs:=by
 cases r with
 |lst h hl rr=>exact⟨_,_,rfl,h,hl,rr⟩
def Mt(hD:H D=some (.dK AA)){d:Dt}(r:Rep H d v):Rep (Ex H D) d v:=by
 induction r with
 |bl b=>exact .bl b
 |int i=>exact .int i
 |str x=>exact .str x
 |lst h hl _ ih=>exact .lst (Ex.at h (Ca h hD (by intro z;cases z))) hl ih
 |tup h hl _ ih=>exact .tup (Ex.at h (Ca h hD (by intro z;cases z))) hl ih
def Hw{f:α->Dt}{ws:List α}{xs:List V}(r:Ab H (ws.map f) xs){x:V}(h:xs[i]? =some x):∃w,ws[i]? =some w/\Rep H (f w) x:=by
 have hl:i<ws.length:=by
  have h1:=(BZ.mp h).1;have h2:=r.1;rw[AK] at h2
  lia
 refine⟨ws[i],Ap hl,r.2 i _ x ?_ h⟩;rw[A0,Ap hl];rfl
def JE{f:α->β}{ws:List α}{w:α}(h:ws[i]? =some w):(ws.take (i+1)).map f=(ws.take i).map f++[f w]:=by rw[EW,h,A8];rfl
def take_succ_filter{p:α->Bool}{ws:List α}{w:α}(h:ws[i]? =some w):(ws.take (i+1)).filter p=(ws.take i).filter p++(if p w=true then[w] else[]):=by
 rw[EW,h,I9];congr 1;show List.filter p [w]=_;by_cases z:p w=true
 ·rw[AH z,Fi z];rfl
 ·rw[AG z,F8 z];rfl
def X0{y:Str}{p1 p2:Pos}(hK:X.K=K)(hc:X.calm=true)(hN:X.N.Nodup)(hi:X.N[i]? =some x)(hx:Loc X.env.scope x)(hf:X.fn x=true\/X.env.scope.names.lookup x=some .local)(hj:X.N[j]? =some y)(hy:Loc X.env.scope y)(hg:X.fn y=true\/X.env.scope.names.lookup y=some .local):
 PG X (.Tuple [.Name x p1,.Name y p2] k pos) (UW K 2 (Lr (Dy i) (Lr (Dy j) UP))):=by
 subst hK;exact Lj hc (Fn (Bh hN hi hx hf) (Fn (Bh hN hj hy hg) LY))
def jw{l:Nat}{y:Str}{p1 p2 p3:Pos}(hK:X.K=K)(hc:X.calm=true)(hN:X.N.Nodup)(hi:X.N[i]? =some x)(hx:Loc X.env.scope x)(hf:X.fn x=true\/X.env.scope.names.lookup x=some .local)(hj:X.N[j]? =some y)(hy:Loc X.env.scope y)(hg:X.fn y=true\/X.env.scope.names.lookup y=some .local)
 (hl:X.N[l]? =some z)(hz:Loc X.env.scope z)(hh:X.fn z=true\/X.env.scope.names.lookup z=some .local):
 PG X (.Tuple [.Name x p1,.Name y p2,.Name z p3] k pos) (UW K 3 (Lr (Dy i) (Lr (Dy j) (Lr (Dy l) UP)))):=by
 subst hK;exact Lj hc (Fn (Bh hN hi hx hf) (Fn (Bh hN hj hy hg) (Fn (Bh hN hl hz hh) LY)))
section
variable{o:hY}{es:List hY}{to:TE}{t:TA}{id:String}
def ko(K:uJ)(hK:X.K=K)(pa:sq T)(slot:Slot T name id)(hty:typeOf (.builtin id)=pure (.type "method_descriptor"))(hm:N5 X id r)(ho:PE X o to)(ha:PA X (e::es) t)
 (hbase:qy o name X.env (qr o X.env)=qr o X.env:=by rfl)
 (hfew:((q5 cpos (dy (e::es) X.env)).all (fun x=> !x.1)&&(rq cpos (rJ [] X.env)).all (fun x=>x.1.isSome)&&decide ((e::es).length+([]:List sO).length+(if([]:List sO).isEmpty then 0 else 1)<30))=true:=by rfl)
 (hline:(apos.endLine==cpos.line)=true:=by rfl)(hs:dy (e::es) X.env=(false,qr e X.env)::dy es X.env:=by rfl)(hplain:(q5 cpos (dy es X.env)).any (·.1)=false:=by rfl):
 PE X (.Call (.Attribute o name apos) (e::es) [] cpos) (Uj K T r to t):=by
 subst hK;exact JV pa slot hty hm ho ha hbase hfew hline hs hplain
end
def fA{xs:List V}{Q:VK}(Pv:Nat->Hp->Prop)(h0:Pv 0 (upd H1 D (.lst [])))(hl:∀i H,i<=xs.length->Pv i H->AJ K H a xs)
 (hs:∀i x p H,xs[i]? =some x->H p=none->Pv i H->g (.ref p) (ts.map (fun _=>none)++D9 ix σ) (upd H p (.tup [.int i,x])) fun σ2 H2=>Ir ts ix σ σ2/\ti σ2 H2 fun b H3=>if b=true then te σ2 H3 fun y H4=>∃ys,H4 D=some (.lst ys)/\ys.length<sizeLine/\Pv (i+1) (upd H4 D (.lst (ys++[y]))) else Pv (i+1) H3)
 (hd:∀H,Pv xs.length H->Q (.ref D) H):Lw ts ix σ (MB K a) g ti te D Q H1:=by
 refine⟨fun i m H=>m=xs.length-i/\i<=xs.length/\Pv i H,⟨xs.length,by simp,CG _,h0⟩,?_⟩;rintro i m H ⟨rfl,hi,p⟩;have q:=hl i H hi p;by_cases hlt:i<xs.length
 ·refine .inr ⟨⟨xs,xs[i],q,by simp[hlt]⟩,Pv (i+1),fun H' p'=>⟨xs.length-(i+1),by lia,rfl,hlt,p'⟩,fun v H' y=>?_⟩;obtain⟨pa,ev,hp,y⟩:=y;obtain⟨x,hx,eH⟩:=y xs q;subst ev eH;exact hs i x pa H hx hp p
 ·obtain rfl:i=xs.length:=by lia
  exact .inl ⟨⟨xs,q,Ad _⟩,hd H p⟩
section
variable{xs:List V}
def Ex.ne(h:b≠D):Ex H D b=H b:=by unfold Ex;rw[AG h]
def Ex.self:Ex H D D=none:=by unfold Ex;rw[AH rfl]
def Inv.nq(I:Inv X pins σ H s)(h:H D=some (.lst xs)):∃o:Obj,(∃(AO:List AB)(n:Nat),Vals xs AO/\o={cls:=.type "list",data:=.seq AO.toArray n})/\xs.length<=sizeLine/\Inv X (pins++[(D,o)]) σ (Ex H D) s:=by
 obtain⟨hz,AO,n,rv,ho⟩:=(show BR X.prog X.w H s.heap D (.lst xs) from I.hok D _ h);have nD:∀b,H b=none->b≠D:=fun b hb z=>by rw[z,h] at hb;cases hb
 refine⟨_,⟨AO,n,rv,rfl⟩,hz,I.ok,I.os,I.bare,⟨I.base.keep,I.base.slot,fun b ob q nn hx=>?_,I.base.there,fun b ys q=>?_,fun b ob u q=>?_,fun b ps q=>?_⟩,I.loc,I.cell,?_,fun x c e=>?_,fun p hp=>?_,fun b ob q=>?_,I.len⟩
 ·have z:=I.base.free b ob q nn hx;rw[Ex.ne (nD b z)];exact z
 ·have z:=I.base.E7 b ys q;rw[Ex.ne (fun y=>by rw[y,h] at z;cases z)];exact z
 ·have z:=I.base.ES b ob u q;rw[Ex.ne (fun y=>by rw[y,h] at z;cases z)];exact z
 ·obtain⟨m,z⟩:=I.base.E8 b ps q;exact⟨m,by rw[Ex.ne (fun y=>by rw[y,h] at z;cases z)];exact z⟩
 ·rw[Ex.ne (nD _ I.free)];exact I.free
 ·rw[Ex.ne (nD _ (I.DM x c e))];exact I.DM x c e
 ·rw[<-Bb] at hp;rcases Bk.mp hp with z|z
  ·obtain⟨e,nn,r⟩:=I.pin p z;exact⟨e,by rw[Ex.ne (nD _ nn)];exact nn,r⟩
  ·have e:=Bj.mp z;subst e;refine⟨ho,Ex.self,fun z=>?_,fun z=>?_,fun v z=>nomatch z⟩
   ·have:=I.free;rw[<-z,h] at this;cases this
   ·obtain⟨_,o,ho',_⟩:=I.ok.E5.mem z;by_cases hx:D∈X.ex
    ·exact I.ok.Ko D hx z
    ·have:=I.base.free D o ho' (I.ok.IJ D z) hx;rw[h] at this;cases this
 ·by_cases hb:b=D
  ·rw[hb,Ex.self] at q;cases q
  ·rw[Ex.ne hb] at q;refine(I.hok b ob q).Ec (fun _ _ _ z=>z) (fun c z=>?_) fun c ys z=>?_
   ·rw[Ex.ne (fun y=>by rw[y,h] at z;cases z)];exact z
   ·rw[Ex.ne (fun y=>by rw[y,h] at z;cases z)];exact z
def Inv.oU{n:Nat}(I:Inv X (pins++[(D,{cls:=.type "list",data:=.seq AO.toArray n})]) σ H s)(rv:Vals xs AO)(hz:xs.length<=sizeLine)(h0:∀o,X.s₀.heap.get? D=some o->D∈X.ex\/X.H₀ D≠none)(hp0:∀p∈X.pn++pins,p.1≠D):H D=none/\Inv X pins σ (upd H D (.lst xs)) s:=by
 obtain⟨e,nn,nl,nf,_⟩:=I.pin (D,{cls:=.type "list",data:=.seq AO.toArray n}) (by rw[<-Bb];exact Dq _ (.head _));have nn:H D=none:=nn;refine⟨nn,I.ok,I.os,I.bare,⟨I.base.keep,I.base.slot,fun b ob q n0 hx=>?_,I.base.there,fun b ys q=>?_,fun b ob u q=>?_,fun b ps q=>?_⟩,I.loc,I.cell,?_,fun x c ec=>?_,fun p hp=>?_,fun b ob q=>?_,I.len⟩
 ·have z:=I.base.free b ob q n0 hx;by_cases hb:b=D
  ·subst hb;rcases h0 ob q with y|y
   ·exact absurd y hx
   ·exact absurd n0 y
  ·rw[AR hb];exact z
 ·have z:=I.base.E7 b ys q;rw[AR (A9 z nn)];exact z
 ·have z:=I.base.ES b ob u q;rw[AR (A9 z nn)];exact z
 ·obtain⟨m,z⟩:=I.base.E8 b ps q;exact⟨m,by rw[AR (A9 z nn)];exact z⟩
 ·rw[AR (fun z=>nl z.symm)];exact I.free
 ·have hc:=I.cell x c ec;rw[AR (fun z=>by obtain⟨v,oc,h1,h2⟩:=hc;rw[z] at h1;have e':s.heap.get? D=some {cls:=.type "list",data:=.seq AO.toArray n}:=e;rw[e'] at h1;cases h1;cases h2)];exact I.DM x c ec
 ·obtain⟨e1,n1,r1⟩:=I.pin p (by rw[<-Bb];exact GC _ hp);exact⟨e1,by rw[AR (hp0 p hp)];exact n1,r1⟩
 ·by_cases hb:b=D
  ·subst hb;rw[AM] at q;cases q;exact⟨hz,AO,n,rv,e⟩
  ·rw[AR hb] at q;refine(I.hok b ob q).Ec (fun _ _ _ z=>z) (fun c z=>?_) fun c ys z=>?_
   ·rw[AR (A9 z nn)];exact z
   ·rw[AR (A9 z nn)];exact z
end
def XW(he:PE X e te):PE X e (fun σ H Q=>∃D xs,H D=some (.lst xs)/\te σ (Ex H D) fun v H'=>H' D=none->Q v (upd H' D (.lst xs))):=by
 intro pins s σ H Q I h;obtain⟨D,xs,hD,h⟩:=h;obtain⟨o,⟨AO,n,rv,rfl⟩,hz,I2⟩:=I.nq hD;have h0:∀o,X.s₀.heap.get? D=some o->D∈X.ex\/X.H₀ D≠none:=fun o ho=>by
  by_cases hx:D∈X.ex
  ·exact .inl hx
  ·exact .inr fun z=>by have:=I.base.free D o ho z hx;rw[hD] at this;cases this
 have hp0:∀p∈X.pn++pins,p.1≠D:=fun p hp z=>by obtain⟨_,nn,_⟩:=I.pin p hp;rw[z,hD] at nn;cases nn
 refine Ae (he _ s σ _ _ I2 h) fun v s1 ⟨x,H',I1,r,q⟩=>?_;obtain⟨nn,I3⟩:=I1.oU rv hz h0 hp0;exact⟨x,_,I3,r,q nn⟩
section
variable(O:N0 α)
noncomputable def L3(a:α):List α->List α
 |[]=>[a]
 |b::l=>if O.lt b a=true then b::L3 a l else a::b::l
def Kn:List α->List α
 |[]=>[]
 |a::l=>L3 O a (Kn l)
def R0(a:α):∀l:List α,(L3 O a l).Perm (a::l)
 |[]=>.refl _
 |b::l=>by
  unfold L3;split
  ·exact((R0 a l).cons b).trans (.swap a b l)
  ·exact .refl _
def My:∀l:List α,(Kn O l).Perm l
 |[]=>.refl _
 |a::l=>(R0 O a (Kn O l)).trans ((My l).cons a)
def YM(a:α):∀l:List α,l.Pairwise (fun x y=>O.lt y x=false)->(L3 O a l).Pairwise (fun x y=>O.lt y x=false)
 |[],_=>VC _ _
 |b::l,h=>by
  obtain⟨h1,h2⟩:=OU.mp h;unfold L3;by_cases z:O.lt b a=true
  ·rw[AH z];refine OU.mpr ⟨fun c hc=>?_,YM a l h2⟩;rcases Be.mp ((R0 O a l).mem_iff.mp hc) with e|e
   ·rw[e]
    cases y:O.lt a b with
    |false=>rfl
    |true=>have:=O.tr _ _ _ z y;rw[O.bu] at this;cases this
   ·exact h1 c e
  ·rw[AG z];have z':O.lt b a=false:=by simpa using z
   refine OU.mpr ⟨fun c hc=>?_,h⟩;rcases Be.mp hc with e|e
   ·rw[e];exact z'
   ·cases y:O.lt c a with
    |false=>rfl
    |true=>
     exfalso
     cases w:O.lt a b with
     |true=>have:=O.tr _ _ _ y w;rw[h1 c e] at this;cases this
     |false=>have:=O.BI _ _ w z';subst this;rw[h1 c e] at y;cases y
def Sl:∀l:List α,(Kn O l).Pairwise (fun x y=>O.lt y x=false)
 |[]=>List.Pairwise.nil
 |a::l=>YM O a _ (Sl l)
def Ow:∀l m:List α,l.Perm m->l.Pairwise (fun x y=>O.lt y x=false)->m.Pairwise (fun x y=>O.lt y x=false)->l=m
 |[],m,p,_,_=>p.nil_eq
 |a::l,[],p,_,_=>absurd p.symm.nil_eq (by intro z;cases z)
 |a::l,b::m,p,h1,h2=>by
  obtain⟨a1,a2⟩:=OU.mp h1;obtain⟨b1,b2⟩:=OU.mp h2;have e:a=b:=by
   rcases Be.mp (p.mem_iff.mp (.head _)) with e|e
   ·exact e
   ·rcases Be.mp (p.mem_iff.mpr (List.Mem.head m)) with f|f
    ·exact f.symm
    ·exact O.BI _ _ (b1 a e) (a1 b f)
  subst e;rw[Ow l m p.cons_inv a2 b2]
def TK{l m:List α}(p:l.Perm m)(h:l.Pairwise (fun x y=>O.lt y x=false)):l=Kn O m:=Ow O _ _ (p.trans (My O m).symm) h (Sl O m)
end
abbrev Kl:List Str->List Str:=Kn Gg
section
open PySem.W
noncomputable def dK:cm:=(Value.none,Value.none)
abbrev SM:=StateT qk Sem
noncomputable def up1(lo b BM:Nat):SM (Option (Option Nat)×Nat):=
 forIn [b:BM] ((none,b):Option (Option Nat)×Nat) fun _ z=>ltAt' (lo+z.2) (lo+z.2-1)>>=fun t=>
  match t with
  |some c=>if c=true then pure (.done (none,z.2)) else pure (.yield (none,z.2+1))
  |none=>pure (.done (some none,z.2))
noncomputable def qJ(z:Option (Option Nat)×Nat):SM (Option Nat):=
 match z.1 with
 |some r=>pure r
 |none=>pure (some z.2)
def Kz(lo n BM:Nat):SM (Option Nat):=sR lo (lo+n)>>=fun _=>up1 lo n BM>>=qJ
noncomputable def Ug(lo b BM:Nat):SM (Option (Option Nat)×Nat×Nat):=
 forIn [b:BM] ((none,b,0):Option (Option Nat)×Nat×Nat) fun _ z=>ltAt' (lo+z.2.1) (lo+z.2.1-1)>>=fun t=>
  match t with
  |some c=>
   if c=true then
    (if z.2.2>0 then(sR (lo+z.2.1-(z.2.2+1)) (lo+z.2.1)>>=fun _=>pure (.yield (none,z.2.1+1,0))) else pure (.yield (none,z.2.1+1,0)))
   else ltAt' (lo+z.2.1-1) (lo+z.2.1)>>=fun t=>
    match t with
    |some d=>if d=true then pure (.done (none,z.2.1,z.2.2)) else pure (.yield (none,z.2.1+1,z.2.2+1))
    |none=>pure (.done (some none,z.2.1,z.2.2))
  |none=>pure (.done (some none,z.2.1,z.2.2))
def p7(lo BM:Nat)(z:Option (Option Nat)×Nat×Nat):SM (Option Nat):=
 match z.1 with
 |some r=>pure r
 |none=>if z.2.2>0 then(sR (lo+z.2.1-(z.2.2+1)) (lo+z.2.1)>>=fun _=>Kz lo z.2.1 BM) else Kz lo z.2.1 BM
def P4(lo n BM:Nat):SM (Option Nat):=(liftM (rule "list.sort.descending-run"):SM Unit)>>=fun _=>Ug lo (n+1) BM>>=p7 lo BM
def qW(lo BM:Nat)(z:Option (Option Nat)×Nat):SM (Option Nat):=
 match z.1 with
 |some r=>pure r
 |none=>if(z.2==BM)=true then pure (some z.2) else
  if z.2>1 then(ltAt' lo (lo+z.2-1)>>=fun t=>
   match t with
   |some c=>if c=true then pure (some z.2) else sR lo (lo+z.2)>>=fun _=>P4 lo z.2 BM
   |none=>pure none)
  else P4 lo z.2 BM
def BH{m m':SM α}{f f':α->SM β}(h:m=m')(g:∀x,f x=f' x):(m>>=f)=(m'>>=f'):=by rw[h,funext g]
def HL{a b:Nat}{c:β}{f g:Nat->β->SM (ForInStep β)}(h:∀i z,f i z=g i z):forIn [a:b] c f=forIn [a:b] c g:=by rw[funext fun i=>funext (h i)]
def count_eq(lo BM:Nat):countRun' lo BM=(up1 lo 1 BM>>=qW lo BM):=by
 rw[countRun'_eq];refine BH (HL fun i z=>BH rfl fun x=>?_) fun z=>?_
 ·cases x<;>rfl
 ·obtain⟨r,n⟩:=z
  match r with
  |some r=>rfl
  |none=>
   refine DV rfl (fun _=>rfl) fun _=>DV rfl (fun _=>BH rfl fun x=>?_) fun _=>?_;rcases x with _|c
   ·rfl
   refine DV rfl (fun _=>rfl) fun _=>BH rfl fun _=>?_;all_goals
    refine BH rfl fun _=>BH (HL fun i z=>BH rfl fun x=>?_) fun z=>?_
    ·cases x with
     |none=>rfl
     |some c=>refine DV rfl (fun _=>rfl) fun _=>BH rfl fun x=>?_;cases x<;>rfl
    ·obtain⟨r,n,q⟩:=z
     match r with
     |some r=>rfl
     |none=>refine DV rfl (fun _=>BH rfl fun _=>?_) fun _=>?_<;>exact BH rfl fun _=>BH (HL fun i z=>BH rfl fun x=>by cases x<;>rfl) fun z=>by obtain⟨r,n⟩:=z;cases r<;>rfl
section
variable(rk:cm->Nat)
def kv(xs:Array cm)(i:Nat):Nat:=rk (xs.getD i dK)
end
end
variable{xs:Array cm}
section
open PySem.W
section
variable(rk:cm->Nat)
def ID{ys:Array cm}(h:xs[i]? =ys[j]?):kv rk xs i=kv rk ys j:=by unfold kv;rw[Gu,Gu,h]
def Up(xs:Array cm)(lo hi:Nat):Prop:=∀i j,lo<=i->i<=j->j<hi->kv rk xs i<=kv rk xs j
def Dn(xs:Array cm)(lo hi:Nat):Prop:=∀i j,lo<=i->i<=j->j<hi->kv rk xs j<=kv rk xs i
def Ev(xs:Array cm)(lo hi:Nat):Prop:=∀i,lo<=i->i<hi->kv rk xs i=kv rk xs (hi-1)
def TU(hj:j<=xs.size)(k:Nat):kv rk (tP xs i j ((j-i)/2)) k=if i<=k/\k<j then kv rk xs (i+j-1-k) else kv rk xs k:=by
 have e:=getElem?_mirror_all (i:=i) hj k;by_cases c:i<=k/\k<j
 ·rw[AH c] at e⊢;exact ID rk e
 ·rw[AG c] at e⊢;exact ID rk e
def PX(hj:j<=xs.size)(he:Ev rk xs i j)(k:Nat):kv rk (tP xs i j ((j-i)/2)) k=kv rk xs k:=by
 rw[TU rk hj];split
 ·rw[he _ (by lia) (by lia),he k (by lia) (by lia)]
 ·rfl
def Up.one(xs:Array cm)(lo:Nat):Up rk xs lo (lo+1):=fun i j h1 h2 h3=>by
 have:i=j:=by lia
 rw[this];exact Ad _
end
end
variable{lo:Nat}
section
open PySem.W
section
variable(rk:cm->Nat)
def Up.step{n:Nat}(h1:1<=n)(h:Up rk xs lo (lo+n))(hl:¬kv rk xs (lo+n)<kv rk xs (lo+n-1)):Up rk xs lo (lo+(n+1)):=fun i j a b c=>by
 by_cases e:j<lo+n
 ·exact h i j a b e
 ·have e':j=lo+n:=by lia
  subst e';by_cases e2:i=lo+n
  ·rw[e2];exact Ad _
  ·exact BF (h i (lo+n-1) a (by lia) (by lia)) (Ob hl)
def Dn.step{ys:Array cm}{n:Nat}(h1:1<=n)(hk:∀k,kv rk ys k=kv rk xs k)(h:Dn rk xs lo (lo+n))(hl:kv rk xs (lo+n)<=kv rk xs (lo+n-1)):Dn rk ys lo (lo+(n+1)):=fun i j a b c=>by
 rw[hk,hk];by_cases e:j<lo+n
 ·exact h i j a b e
 ·have e':j=lo+n:=by lia
  subst e';by_cases e2:i=lo+n
  ·rw[e2];exact Ad _
  ·exact BF hl (h i (lo+n-1) a (by lia) (by lia))
end
structure Ok(κ:SortKind)(a0:Array cm)(lo:Nat)(P:Array (Nat×Nat×Nat))(st:qk):Prop where
 perm:(dq st).Perm a0
 fix:∀k,k<lo->(dq st)[k]? =a0[k]?
 kind:kindOf st=κ
 failed:qz st=none
 pend:dA st=P
end
variable{κ:SortKind}{a0:Array cm}{st:qk}
section
open PySem.W
def Ok.size{P:Array (Nat×Nat×Nat)}(h:Ok κ a0 lo P st):(dq st).size=a0.size:=h.perm.size_eq
def Ok.set{P:Array (Nat×Nat×Nat)}(h:Ok κ a0 lo P st)(hp:xs.Perm (dq st))(hf:∀k,k<lo->xs[k]? =(dq st)[k]?):Ok κ a0 lo P (setArr st xs):=
 ⟨hp.trans h.perm,fun k hk=>(hf k hk).trans (h.fix k hk),h.kind,h.failed,h.pend⟩
def Ok.Qf{P:Array (Nat×Nat×Nat)}(h:Ok κ a0 lo P st)(hi:lo<=i)(hj:j<=a0.size):Ok κ a0 lo P (setArr st (tP (dq st) i j ((j-i)/2))):=
 h.set (mirror_perm _ _ _ _) fun k hk=>by rw[getElem?_mirror_all (by rw[h.size];exact hj),AG (by lia)]
end
variable{rk:cm->Nat}
section
open PySem.W
section
variable{P:Array (Nat×Nat×Nat)}
def C7(prog:ql)(w:qu)(A:rV)(s:Yf)(κ:SortKind)(rk:cm->Nat)(a0:Array cm):Prop:=
 ∀x y,x∈a0.toList->y∈a0.toList->∀C:Bool->Yf->Prop,C (decide (rk x<rk y)) s->bt (ax prog w) A (keyLt' κ x.1 y.1) C (fun _ _=>False) s
def Nq(hc:C7 prog w A s κ rk a0){x y:cm}{Q:Option Bool->qk->Prop}(hk:kindOf st=κ)(hx:x∈a0.toList)(hy:y∈a0.toList)(h:Q (some (decide (rk x<rk y))) st):
 wpS (ax prog w) A E s (lt' x y) Q st:=by
 rw[lt'_eq];refine Ak (Hz ?_);rw[hk];refine Ak (LW (uF (DC (hc x y hx hy (fun c s'=>c=decide (rk x<rk y)/\s'=s) ⟨rfl,rfl⟩) (fun c s' z=>?_) fun _ _ z=>z.elim)));obtain⟨rfl,rfl⟩:=z;exact⟨rfl,Aq h⟩
def Ok.at(hB:Ok κ a0 lo P st)(hi:i<a0.size):(dq st)[i]? =some ((dq st).getD i dK)/\(dq st).getD i dK∈a0.toList:=by
 have hi':i<(dq st).size:=by rw[hB.size];exact hi
 have e:(dq st)[i]? =some (dq st)[i]:=GH _ i hi';have e2:(dq st).getD i dK=(dq st)[i]:=by rw[Gu,e];rfl
 rw[e2];exact⟨e,(MP.mp hB.perm).mem_iff.mp (by simp)⟩
def NY(hc:C7 prog w A s κ rk a0){Q:Option Bool->qk->Prop}(hB:Ok κ a0 lo P st)(hi:i<a0.size)(hj:j<a0.size)
 (h:Q (some (decide (kv rk (dq st) i<kv rk (dq st) j))) st):wpS (ax prog w) A E s (ltAt' i j) Q st:=by
 rw[ltAt'_eq];refine Ak (Hz ?_);show wpS _ _ _ _ (rL (dq st) i>>=fun x=>rL (dq st) j>>=fun y=>lt' x y) Q st;rw[elem'_eq,elem'_eq,(hB.at hi).1,(hB.at hj).1];exact Ak (Aq (Ak (Aq (Nq hc hB.kind (hB.at hi).2 (hB.at hj).2 h))))
def P0{Q:Unit->qk->Prop}(h:Q () (setArr st (tP (dq st) i j ((j-i)/2)))):wpS (ax prog w) A E s (sR i j) Q st:=by rw[reverseSlice'_eq];exact KD h
def Z6(hc:C7 prog w A s κ rk a0){b BM:Nat}{Q:Option (Option Nat)×Nat->qk->Prop}(hn:lo+BM<=a0.size)(hb:1<=b)(hbn:b<=BM)(hB:Ok κ a0 lo P st)(hs:Up rk (dq st) lo (lo+b))
 (h:∀n,b<=n->n<=BM->Up rk (dq st) lo (lo+n)->(n=BM\/kv rk (dq st) (lo+n)<kv rk (dq st) (lo+n-1))->Q (none,n) st):
 wpS (ax prog w) A E s (up1 lo b BM) Q st:=by
 unfold up1;refine FA (I:=fun x c st'=>st'=st/\c=(none,x)/\Up rk (dq st) lo (lo+x)) ?_ ?_ ⟨rfl,rfl,hs⟩
 ·rintro x c st' h1 h2 ⟨rfl,rfl,hs'⟩;refine Ak (NY hc hB (by dsimp only;lia) (by dsimp only;lia) ?_);by_cases hl:kv rk (dq st') (lo+x)<kv rk (dq st') (lo+x-1)
  ·simp only[hl,LJ,CH];exact Aq (h x h1 (by lia) hs' (.inr hl))
  ·simp only[hl,LF,DU,Bs];exact Aq ⟨rfl,rfl,hs'.step rk (by lia) hl⟩
 ·rintro c st' ⟨rfl,rfl,hs'⟩;rw[show max b BM=BM by lia] at hs'⊢;exact h BM hbn (Ad _) hs' (.inl rfl)
def Zl(hc:C7 prog w A s κ rk a0){n BM:Nat}{Q:Option Nat->qk->Prop}(hn:lo+BM<=a0.size)(h1:1<=n)(hnn:n<=BM)(hB:Ok κ a0 lo P st)(hs:Dn rk (dq st) lo (lo+n))
 (h:∀m st',Ok κ a0 lo P st'->1<=m->m<=BM->Up rk (dq st') lo (lo+m)->Q (some m) st'):wpS (ax prog w) A E s (Kz lo n BM) Q st:=by
 unfold Kz;refine Ak (P0 ?_);have hB':=hB.Qf (i:=lo) (j:=lo+n) (Ad _) (by lia);refine Ak (Z6 hc hn h1 hnn hB' ?_ fun m a b c _=>Aq (h m _ hB' (by lia) b c));intro i j a b c;have hz:lo+n<=(dq st).size:=by rw[hB.size];lia
 show kv rk (tP (dq st) lo (lo+n) _) i<=kv rk (tP (dq st) lo (lo+n) _) j;rw[TU rk hz,TU rk hz,AH (by lia),AH (by lia)];exact hs _ _ (by lia) (by lia) (by lia)
def nh(hc:C7 prog w A s κ rk a0){n BM:Nat}{Q:Option (Option Nat)×Nat×Nat->qk->Prop}(hn:lo+BM<=a0.size)(h1:1<=n)(hnn:n<=BM)(hB:Ok κ a0 lo P st)(hs:Dn rk (dq st) lo (lo+n))
 (h:∀m q st',Ok κ a0 lo P st'->n<=m->m<=BM->Dn rk (dq st') lo (lo+m)->q+1<=m->Ev rk (dq st') (lo+m-(q+1)) (lo+m)->Q (none,m,q) st'):
 wpS (ax prog w) A E s (Ug lo n BM) Q st:=by
 unfold Ug;refine FA (I:=fun x c st'=>∃q,c=(none,x,q)/\Ok κ a0 lo P st'/\Dn rk (dq st') lo (lo+x)/\q+1<=x/\Ev rk (dq st') (lo+x-(q+1)) (lo+x)) ?_ ?_
  ⟨0,rfl,hB,hs,by lia,fun i a b=>by congr 1;lia⟩
 ·rintro x c st' h2 h3 ⟨q,rfl,hB',hs',hq,he⟩;have hz:lo+x<=(dq st').size:=by rw[hB'.size];lia
  refine Ak (NY hc hB' (by dsimp only;lia) (by dsimp only;lia) ?_);by_cases hl:kv rk (dq st') (lo+x)<kv rk (dq st') (lo+x-1)
  ·simp only[hl,LJ,CH];by_cases hq0:q>0
   ·rw[AH hq0];refine Ak (P0 (Aq ⟨0,rfl,hB'.Qf (by lia) (by lia),hs'.step rk (by lia) (PX rk hz he) (Fm hl),by lia,fun i a b=>by congr 1;lia⟩))
   ·rw[AG hq0];exact Aq ⟨0,rfl,hB',hs'.step rk (by lia) (fun _=>rfl) (Fm hl),by lia,fun i a b=>by congr 1;lia⟩
  ·simp only[hl,LF,DU,Bs];refine Ak (NY hc hB' (by lia) (by lia) ?_);by_cases hg:kv rk (dq st') (lo+x-1)<kv rk (dq st') (lo+x)
   ·simp only[hg,LJ,CH];exact Aq (h x q st' hB' h2 (by lia) hs' hq he)
   ·simp only[hg,LF,DU,Bs];have ex:kv rk (dq st') (lo+x)=kv rk (dq st') (lo+x-1):=by lia
    refine Aq ⟨q+1,rfl,hB',hs'.step rk (by lia) (fun _=>rfl) (by lia),by lia,fun i a b=>?_⟩;rw[show lo+(x+1)-1=lo+x by lia,ex];by_cases ei:i=lo+x
    ·rw[ei,ex]
    ·exact he i (by lia) (by lia)
 ·rintro c st' ⟨q,rfl,hB',hs',hq,he⟩;rw[show max n BM=BM by lia] at hs' hq he⊢;exact h BM q st' hB' hnn (Ad _) hs' hq he
def YS(hc:C7 prog w A s κ rk a0){n BM:Nat}{Q:Option Nat->qk->Prop}(hn:lo+BM<=a0.size)(hnn:n+1<=BM)(hB:Ok κ a0 lo P st)(hs:Dn rk (dq st) lo (lo+(n+1)))
 (h:∀m st',Ok κ a0 lo P st'->1<=m->m<=BM->Up rk (dq st') lo (lo+m)->Q (some m) st'):wpS (ax prog w) A E s (P4 lo n BM) Q st:=by
 unfold P4;refine Ak (LW (Ht ⟨rfl,?_⟩));refine Ak (nh hc hn (by lia) hnn hB hs fun m q st' hB' a b hs' hq he=>?_);have hz:lo+m<=(dq st').size:=by rw[hB'.size];lia
 show wpS _ _ _ _ (if q>0 then _ else _) Q st';by_cases hq0:q>0
 ·rw[AH hq0];refine Ak (P0 (Zl hc hn (by show 1<=m;lia) b (hB'.Qf (by dsimp only;lia) (by dsimp only;lia)) (fun i j c d e=>?_) h));show kv rk (tP (dq st') _ _ _) j<=kv rk (tP (dq st') _ _ _) i;rw[PX rk hz he,PX rk hz he];exact hs' i j c d e
 ·rw[AG hq0];exact Zl hc hn (by show 1<=m;lia) b hB' hs' h
def j7(hc:C7 prog w A s κ rk a0){BM:Nat}{Q:Option Nat->qk->Prop}(hn:lo+BM<=a0.size)(h1:1<=BM)(hB:Ok κ a0 lo P st)
 (h:∀m st',Ok κ a0 lo P st'->1<=m->m<=BM->Up rk (dq st') lo (lo+m)->Q (some m) st'):wpS (ax prog w) A E s (countRun' lo BM) Q st:=by
 rw[count_eq];refine Ak (Z6 hc hn (Ad _) h1 hB (Up.one rk _ _) fun n a b hs ho=>?_);show wpS _ _ _ _ (if(n==BM)=true then _ else _) Q st;by_cases e:n=BM
 ·rw[AH (by simpa using e)];exact Aq (h n st hB a b hs)
 ·rw[AG (by simpa using e)];have hl:=ho.resolve_left e;by_cases g:n>1
  ·show wpS _ _ _ _ (if n>1 then _ else _) Q st;rw[AH g];refine Ak (NY hc hB (by lia) (by dsimp only;lia) ?_);by_cases hr:kv rk (dq st) lo<kv rk (dq st) (lo+n-1)
   ·simp only[hr,LJ,CH];exact Aq (h n st hB a b hs)
   ·simp only[hr,LF,DU,Bs];have hz:lo+n<=(dq st).size:=by rw[hB.size];lia
    have hall:Ev rk (dq st) lo (lo+n):=fun k x y=>by
     have a1:=hs lo k (Ad _) x y;have a2:=hs k (lo+n-1) x (by lia) (by lia)
     lia
    refine Ak (P0 (YS hc hn (by lia) (hB.Qf (Ad _) (by lia)) (Dn.step rk (xs:=dq st) (by lia) (PX rk hz hall) (fun i j x y z=>?_) (Fm hl)) h));rw[hall i x (by lia),hall j (by lia) z];exact Ad _
  ·show wpS _ _ _ _ (if n>1 then _ else _) Q st;rw[AG g];have e1:n=1:=by lia
   subst e1;refine YS hc hn (by lia) hB (Dn.step rk (xs:=dq st) (Ad _) (fun _=>rfl) (fun i j x y z=>?_) (Fm hl)) h;have:i=j:=by lia
   rw[this];exact Ad _
end
abbrev G3:=Option (Option Nat)×Nat×Nat
noncomputable def past(left:Bool)(key:cm)(arr:Array cm)(base i:Nat):SM (Option Bool):=
 rL arr (base+i)>>=fun x=>if left=true then lt' x key else lt' key x>>=fun t=>pure (t.map (!·))
noncomputable def Nt(f:Nat->SM (Option Bool))(n lo hi:Nat):SM G3:=
 forIn [0:n] ((none,lo,hi):G3) fun _ z=>if z.2.1>=z.2.2 then pure (.done (none,z.2.1,z.2.2)) else f (z.2.1+(z.2.2-z.2.1)/2)>>=fun t=>
  match t with
  |some c=>if c=true then pure (.yield (none,z.2.1+(z.2.2-z.2.1)/2+1,z.2.2)) else pure (.yield (none,z.2.1,z.2.1+(z.2.2-z.2.1)/2))
  |none=>pure (.done (some none,z.2.1,z.2.2))
noncomputable def UN(z:G3):SM (Option Nat):=
 match z.1 with
 |some r=>pure r
 |none=>pure (some z.2.2)
noncomputable def Lu(f:Nat->SM (Option Bool))(n most:Nat)(go:Nat->Nat)(stop:Bool->Bool):SM G3:=
 forIn [0:n] ((none,0,1):G3) fun _ z=>if z.2.2>=most then pure (.done (none,z.2.1,z.2.2)) else f (go z.2.2)>>=fun t=>
  match t with
  |some c=>if stop c=true then pure (.done (none,z.2.1,z.2.2)) else pure (.yield (none,z.2.2,2*z.2.2+1))
  |none=>pure (.done (some none,z.2.1,z.2.2))
def Zb(f:Nat->SM (Option Bool))(n:Nat)(lo hi:Nat->Nat->Nat)(z:G3):SM (Option Nat):=
 match z.1 with
 |some r=>pure r
 |none=>Nt f n (lo z.2.1 z.2.2) (hi z.2.1 z.2.2)>>=UN
def Uy(f:Nat->SM (Option Bool))(n hint:Nat):SM (Option Nat):=f hint>>=fun t=>
 match t with
 |some c=>if c=true then Lu f n (n-hint) (fun o=>hint+o) (fun c=> !c)>>=Zb f n (fun l _=>hint+l+1) (fun _ o=>hint+min o (n-hint))
  else Lu f n (hint+1) (fun o=>hint-o) (fun c=>c)>>=Zb f n (fun _ o=>hint+1-min o (hint+1)) (fun l _=>hint-l)
 |none=>pure none
noncomputable def JK:Bool->cm->Array cm->Nat->Nat->Nat->SM (Option Nat):=sortPriv%PySem.Builtin.gallop
def eR(left:Bool)(key:cm)(arr:Array cm)(base n hint:Nat):JK left key arr base n hint=Uy (past left key arr base) n hint:=by
 refine BH rfl fun x=>?_
 cases x with
 |none=>rfl
 |some c=>
  refine DV rfl (fun _=>?_) fun _=>?_;all_goals
   refine BH (HL fun i z=>DV rfl (fun _=>rfl) fun _=>BH rfl fun x=>?_) fun z=>?_
   ·cases x<;>rfl
   ·obtain⟨r,l,h⟩:=z
    match r with
    |some r=>rfl
    |none=>
     refine BH (HL fun i z=>DV rfl (fun _=>rfl) fun _=>BH rfl fun x=>?_) fun z=>?_
     ·cases x<;>rfl
     ·obtain⟨r,l,h⟩:=z;cases r<;>rfl
section
variable{f:Nat->SM (Option Bool)}{B:Nat->Bool}{n:Nat}
def Zc{hi:Nat}{Q:G3->qk->Prop}(hf:∀i,i<n->∀R:Option Bool->qk->Prop,R (some (B i)) st->wpS M A E s (f i) R st)(hm:∀i j,i<=j->j<n->B j=true->B i=true)
 (h1:lo<=hi)(h2:hi<=n)(h3:∀i,i<lo->B i=true)(h4:∀i,hi<=i->i<n->B i=false)
 (h:∀l k,k<=n->(∀i,i<k->B i=true)->(∀i,k<=i->i<n->B i=false)->Q (none,l,k) st):wpS M A E s (Nt f n lo hi) Q st:=by
 unfold Nt;refine FA (I:=fun x c st'=>st'=st/\∃l r,c=(none,l,r)/\l<=r/\r<=n/\r-l<=n-x/\(∀i,i<l->B i=true)/\∀i,r<=i->i<n->B i=false) ?_ ?_ ⟨rfl,lo,hi,rfl,h1,h2,by lia,h3,h4⟩
 ·rintro x c st' _ hx ⟨rfl,l,r,rfl,a1,a2,a3,a4,a5⟩;dsimp only;by_cases hg:l>=r
  ·rw[AH hg];have e:l=r:=by lia
   subst e;exact Aq (h l l a2 a4 a5)
  ·rw[AG hg];refine Ak (hf _ (by lia) _ ?_)
   cases e:B (l+(r-l)/2) with
   |true=>refine Aq ⟨rfl,_,_,rfl,by lia,a2,by lia,fun i hi=>hm i (l+(r-l)/2) (by lia) (by lia) e,a5⟩
   |false=>
    refine Aq ⟨rfl,_,_,rfl,by lia,by lia,by lia,a4,fun i hi hn=>?_⟩
    cases e2:B i with
    |false=>rfl
    |true=>rw[hm _ i hi hn e2] at e;cases e
 ·rintro c st' ⟨rfl,l,r,rfl,a1,a2,a3,a4,a5⟩;have e:l=r:=by lia
  subst e;exact h l l a2 a4 a5
def Yh{most:Nat}{go:Nat->Nat}{stop:Bool->Bool}{Q:G3->qk->Prop}(J:Nat->Prop)(hf:∀i,i<n->∀R:Option Bool->qk->Prop,R (some (B i)) st->wpS M A E s (f i) R st)(hmost:0<most)(hmn:most<=n)(hgo:∀o,o<most->go o<n)
 (h0:J 0)(hJ:∀o,o<most->stop (B (go o))=false->J o)
 (h:∀l o,l<o->l<most->J l->(o>=most\/(o<most/\stop (B (go o))=true))->Q (none,l,o) st):wpS M A E s (Lu f n most go stop) Q st:=by
 unfold Lu;refine FA (I:=fun x c st'=>st'=st/\∃l o,c=(none,l,o)/\l<o/\l<most/\J l/\x+1<=o) ?_ ?_ ⟨rfl,0,1,rfl,by lia,hmost,h0,by lia⟩
 ·rintro x c st' _ hx ⟨rfl,l,o,rfl,a1,a2,a3,a4⟩;dsimp only;by_cases hg:o>=most
  ·rw[AH hg];exact Aq (h l o a1 a2 a3 (.inl hg))
  ·rw[AG hg];refine Ak (hf _ (hgo o (by lia)) _ ?_);dsimp only
   cases e:stop (B (go o)) with
   |true=>rw[AH rfl];exact Aq (h l o a1 a2 a3 (.inr ⟨by lia,e⟩))
   |false=>rw[AG (by simp)];exact Aq ⟨rfl,o,2*o+1,rfl,by lia,by lia,hJ o (by lia) e,by lia⟩
 ·rintro c st' ⟨rfl,l,o,rfl,a1,a2,a3,a4⟩;exact h l o a1 a2 a3 (.inl (by lia))
def nI{hint:Nat}{Q:Option Nat->qk->Prop}(hf:∀i,i<n->∀R:Option Bool->qk->Prop,R (some (B i)) st->wpS M A E s (f i) R st)(hm:∀i j,i<=j->j<n->B j=true->B i=true)(hh:hint<n)
 (h:∀k,k<=n->(∀i,i<k->B i=true)->(∀i,k<=i->i<n->B i=false)->Q (some k) st):wpS M A E s (Uy f n hint) Q st:=by
 have hm':∀i j,i<=j->j<n->B i=false->B j=false:=fun i j a b c=>by
  cases e:B j with
  |false=>rfl
  |true=>rw[hm i j a b e] at c;cases c
 unfold Uy;refine Ak (hf _ hh _ ?_)
 cases e:B hint with
 |true=>
  show wpS _ _ _ _ (Lu f n (n-hint) _ _>>=_) Q st;refine Ak (Yh (B:=B) (fun l=>B (hint+l)=true) hf (by lia) (by lia) (fun o ho=>by lia) e (fun o ho hs=>by simpa using hs) fun l o a1 a2 a3 a4=>?_);show wpS _ _ _ _ (Nt f n (hint+l+1) (hint+min o (n-hint))>>=UN) Q st;refine Ak (Zc hf hm (by lia) (by lia) (fun i hi=>hm i (hint+l) (by lia) (by lia) a3) (fun i hi hn=>?_) fun l k b1 b2 b3=>Aq (h k b1 b2 b3));rcases a4 with c|⟨c1,c2⟩
  ·lia
  ·exact hm' (hint+o) i (by lia) hn (by simpa using c2)
 |false=>
  show wpS _ _ _ _ (Lu f n (hint+1) _ _>>=_) Q st;refine Ak (Yh (B:=B) (fun l=>B (hint-l)=false) hf (by lia) (by lia) (fun o ho=>by lia) e (fun o ho hs=>hs) fun l o a1 a2 a3 a4=>?_);show wpS _ _ _ _ (Nt f n (hint+1-min o (hint+1)) (hint-l)>>=UN) Q st;refine Ak (Zc hf hm (by lia) (by lia) (fun i hi=>?_) (fun i hi hn=>hm' (hint-l) i (by lia) hn a3) fun l k b1 b2 b3=>Aq (h k b1 b2 b3));rcases a4 with c|⟨c1,c2⟩
  ·lia
  ·exact hm i (hint-o) (by lia) (by lia) c2
end
end
variable{arr:Array cm}
section
open PySem.W
def DW{Q:cm->qk->Prop}(hi:i<arr.size)(h:Q (arr.getD i dK) st):wpS M A E s (rL arr i) Q st:=by
 have e:arr[i]? =some (arr.getD i dK):=by rw[Gu,GH _ i hi];rfl
 rw[elem'_eq,e];exact Aq h
def getD_mem(hi:i<arr.size):arr.getD i dK∈arr.toList:=by rw[Gu,GH _ i hi];simp
def LV(hc:C7 prog w A s κ rk a0){left:Bool}{key:cm}{base n hint:Nat}{Q:Option Nat->qk->Prop}(hk:kindOf st=κ)(hkey:key∈a0.toList)(ha:∀x∈arr.toList,x∈a0.toList)
 (hn:base+n<=arr.size)(hh:hint<n)(hs:Up rk arr base (base+n))
 (h:∀k,k<=n->(∀i,i<k->(kv rk arr (base+i)<rk key\/(left=false/\kv rk arr (base+i)=rk key)))->(∀i,k<=i->i<n->(rk key<kv rk arr (base+i)\/(left=true/\kv rk arr (base+i)=rk key)))->Q (some k) st):
 wpS (ax prog w) A E s (JK left key arr base n hint) Q st:=by
 rw[eR];refine nI (B:=fun i=>if left=true then decide (kv rk arr (base+i)<rk key) else !decide (rk key<kv rk arr (base+i))) (fun i hi R hR=>?_) (fun i j a b c=>?_) hh fun k a b c=>h k a (fun i hi=>?_) fun i hi hn'=>?_
 ·unfold past;have hz:base+i<arr.size:=by lia
  refine Ak (DW hz ?_)
  cases left with
  |true=>exact Nq hc hk (ha _ (getD_mem hz)) hkey hR
  |false=>exact Ak (Nq hc hk hkey (ha _ (getD_mem hz)) (Aq hR))
 ·have:=hs (base+i) (base+j) (by lia) (by lia) (by lia)
  cases left with
  |true=>simp only[CH,OX] at c⊢;lia
  |false=>simp only[DU,Bs,Bool.not_eq_true',VA] at c⊢;lia
 ·have:=b i hi
  cases left with
  |true=>simp only[CH,OX] at this;exact .inl this
  |false=>simp only[DU,Bs,Bool.not_eq_true',VA] at this;simp;lia
 ·have:=c i hi hn'
  cases left with
  |true=>simp only[CH,VA] at this;simp;lia
  |false=>simp only[DU,Bs,Bool.not_eq_false',OX] at this;exact .inl this
def SL(rk:cm->Nat)(l:List cm):Prop:=l.Pairwise fun x y=>rk x<=rk y
def SL.app{l m:List cm}:SL rk (l++m)↔SL rk l/\SL rk m/\∀x∈l,∀y∈m,rk x<=rk y:=List.pairwise_append
structure Mi(rk:cm->Nat)(out p q:List cm):Prop where
 l:SL rk (out++p)
 r:SL rk (out++q)
def Mi.swap{out p q:List cm}(h:Mi rk out p q):Mi rk out q p:=⟨h.r,h.l⟩
def Mi.Tt{out p u q:List cm}(h:Mi rk out p (u++q))(hu:∀x∈u,∀y∈p,rk x<=rk y):Mi rk (out++u) p q:=by
 refine⟨?_,by rw[Bb];exact h.r⟩;obtain⟨a,b,c⟩:=SL.app.mp h.l;obtain⟨a',b',c'⟩:=SL.app.mp h.r;refine SL.app.mpr ⟨SL.app.mpr ⟨a,(SL.app.mp b').1,fun x hx y hy=>c' x hx y (GC _ hy)⟩,b,fun x hx y hy=>?_⟩;rcases Bk.mp hx with z|z
 ·exact c x z y hy
 ·exact hu x z y hy
def NI(h:i<xs.size):kv rk xs i=rk (xs.toList[i]'(by simpa using h)):=by unfold kv;rw[Gu,GH _ i h];simp
def Ld(h:Up rk xs 0 xs.size):∀y∈xs.toList.drop i,kv rk xs i<=rk y:=by
 intro y hy;obtain⟨j,hj,e⟩:=IQ.mp hy;rw[C9] at hj;have hl:xs.toList.length=xs.size:=by simp
 rw[List.getElem_drop] at e;rw[<-e,<-NI (rk:=rk) (i:=i+j) (by lia)];exact h _ _ (CG _) (by lia) (by lia)
def Pd(h:i<xs.size):xs.toList.drop i=xs.getD i dK::xs.toList.drop (i+1):=by
 have hl:xs.toList.length=xs.size:=by simp
 rw[Jt (by lia)];congr 1;rw[Gu,GH _ i h];simp
def P7(h:Up rk xs 0 xs.size):SL rk xs.toList:=by
 refine OH.mpr fun i j hi hj hij=>?_;have hl:xs.toList.length=xs.size:=by simp
 rw[<-NI (rk:=rk) (by lia),<-NI (rk:=rk) (by lia)];exact h _ _ (CG _) (by lia) (by lia)
def kF(hk:i+k<=xs.size){y:cm}(h:y∈(xs.toList.drop i).take k):∃j,j<k/\y=xs.getD (i+j) dK:=by
 obtain⟨j,hj,e⟩:=IQ.mp h;rw[Bc] at hj;have hl:xs.toList.length=xs.size:=by simp
 refine⟨j,by lia,?_⟩;rw[List.getElem_take,List.getElem_drop] at e;rw[<-e,Gu,GH _ (i+j) (by lia)];simp
def M9(xs:Array cm)(i j:Nat):(xs.extract i j).toList=(xs.toList.drop i).take (j-i):=by rw[VR]
def LR(xs:Array cm)(i:Nat):(xs.extract i xs.size).toList=xs.toList.drop i:=by rw[M9,Fj (by simp)]
structure Mg(rk:cm->Nat)(a b out:Array cm)(ia ib:Nat):Prop where
 mi:Mi rk out.toList (a.toList.drop ia) (b.toList.drop ib)
 pm:out.toList.Perm (a.toList.take ia++b.toList.take ib)
 ha:ia+1<a.size
 hb:ib<b.size
end
variable{out:Array cm}
section
open PySem.W
section
variable{a b:Array cm}
structure Me(rk:cm->Nat)(a b out:Array cm):Prop where
 sl:SL rk out.toList
 pm:out.toList.Perm (a.toList++b.toList)
end
end
variable{ia ib:Nat}
section
open PySem.W
section
variable{a b:Array cm}
noncomputable def FX(a b out:Array cm)(ia ib:Nat):Array cm:=out++a.extract ia a.size++b.extract ib b.size
noncomputable def Kq(a b out:Array cm)(ia ib:Nat):Array cm:=out++b.extract ib b.size++a.extract ia a.size
def Ru{o a b:List cm}(h:o.Perm (a.take i++b.take j)):(o++(a.drop i++b.drop j)).Perm (a++b):=by
 have e:a++b=(a.take i++a.drop i)++(b.take j++b.drop j):=by rw[DQ,DQ]
 rw[e];refine(h.append_right _).trans ?_;rw[Bb,Bb];refine ON _ ?_;rw[<-Bb,<-Bb];exact VG _ IP
def QD(mi:Mi rk out.toList (a.toList.drop ia) (b.toList.drop ib))(pm:out.toList.Perm (a.toList.take ia++b.toList.take ib))(hb:ib=b.size):Me rk a b (FX a b out ia ib):=by
 have e:b.toList.drop ib=[]:=by rw[hb];simp
 have e2:(FX a b out ia ib).toList=out.toList++(a.toList.drop ia++b.toList.drop ib):=by unfold FX;rw[GF,GF,LR,LR,Bb]
 refine⟨?_,by rw[e2];exact Ru pm⟩;rw[e2,e,Ct];exact mi.l
def qI(mi:Mi rk out.toList (a.toList.drop ia) (b.toList.drop ib))(pm:out.toList.Perm (a.toList.take ia++b.toList.take ib))(ha:ia=a.size):Me rk a b (FX a b out ia ib):=by
 have e:a.toList.drop ia=[]:=by rw[ha];simp
 have e2:(FX a b out ia ib).toList=out.toList++(a.toList.drop ia++b.toList.drop ib):=by unfold FX;rw[GF,GF,LR,LR,Bb]
 refine⟨?_,by rw[e2];exact Ru pm⟩;rw[e2,e,RM];exact mi.r
def QR(mi:Mi rk out.toList (a.toList.drop ia) (b.toList.drop ib))(pm:out.toList.Perm (a.toList.take ia++b.toList.take ib))(ha:ia+1=a.size)(hl:∀y∈b.toList,rk y<=kv rk a (a.size-1)):Me rk a b (Kq a b out ia ib):=by
 have e:a.toList.drop ia=[a.getD ia dK]:=by rw[Pd (by lia),ha];simp
 have e2:(Kq a b out ia ib).toList=out.toList++(b.toList.drop ib++a.toList.drop ia):=by unfold Kq;rw[GF,GF,LR,LR,Bb]
 refine⟨?_,by rw[e2];exact(ON _ IP).trans (Ru pm)⟩;rw[e2,e,<-Bb];refine SL.app.mpr ⟨mi.r,VC _ _,fun x hx y hy=>?_⟩;rw[Bj] at hy;rcases Bk.mp hx with z|z
 ·exact(SL.app.mp mi.l).2.2 x z y (by rw[e,hy];exact Bj.mpr rfl)
 ·have:=hl x (I0 z);rw[hy];unfold kv at this
  rwa [show a.size-1=ia by lia] at this
end
end
variable{out':Array cm}
section
open PySem.W
section
variable{a b:Array cm}
def Nr(mi:Mi rk out.toList (a.toList.drop ia) (b.toList.drop ib))(pm:out.toList.Perm (a.toList.take ia++b.toList.take ib))(k:Nat)(hk:ib+k<=b.size)(e:out'.toList=out.toList++(b.toList.drop ib).take k)(hle:∀i,i<k->∀y∈a.toList.drop ia,kv rk b (ib+i)<=rk y):
 Mi rk out'.toList (a.toList.drop ia) (b.toList.drop (ib+k))/\out'.toList.Perm (a.toList.take ia++b.toList.take (ib+k)):=by
 rw[e];constructor
 ·have e3:b.toList.drop ib=(b.toList.drop ib).take k++b.toList.drop (ib+k):=by rw[<-List.drop_drop,DQ]
  rw[e3] at mi;refine mi.Tt fun x hx y hy=>?_;obtain⟨j,hj,rfl⟩:=kF hk hx;exact hle j hj y hy
 ·have e3:b.toList.take (ib+k)=b.toList.take ib++(b.toList.drop ib).take k:=List.take_add;rw[e3,<-Bb];exact pm.append_right _
def UR(mi:Mi rk out.toList (a.toList.drop ia) (b.toList.drop ib))(pm:out.toList.Perm (a.toList.take ia++b.toList.take ib))(k:Nat)(hk:ia+k<=a.size)(e:out'.toList=out.toList++(a.toList.drop ia).take k)(hle:∀i,i<k->∀y∈b.toList.drop ib,kv rk a (ia+i)<=rk y):
 Mi rk out'.toList (a.toList.drop (ia+k)) (b.toList.drop ib)/\out'.toList.Perm (a.toList.take (ia+k)++b.toList.take ib):=by
 have:=Nr (a:=b) (b:=a) mi.swap (pm.trans IP) k hk e hle;exact⟨this.1.swap,this.2.trans IP⟩
def M8(h:i<xs.size)(out:Array cm):(out.push (xs.getD i dK)).toList=out.toList++(xs.toList.drop i).take 1:=by rw[Md,Pd h];rfl
def YE(i k:Nat)(out:Array cm):(out++xs.extract i (i+k)).toList=out.toList++(xs.toList.drop i).take k:=by rw[GF,M9,Nat.add_sub_cancel_left]
end
abbrev A4:=Option (Array cm)×Array cm×Nat×Nat×Nat
abbrev A5:=Option (Array cm)×Array cm×Nat×Nat×Nat×Nat
abbrev A6:=Option (Array cm)×Array cm×Nat×Nat×Nat×Nat×Nat
noncomputable def NH:Nat->SM Unit:=sortPriv%PySem.Builtin.setMinGallop
def lo1(a b:Array cm)(mg:Nat)(out:Array cm)(ia ib:Nat):SM A5:=
 forIn [0:a.size+b.size] ((none,out,ia,ib,0,0):A5) fun _ z=>rL b z.2.2.2.1>>=fun y=>rL a z.2.2.1>>=fun x=>lt' y x>>=fun t=>
  match t with
  |some c=>
   if c=true then(rL b z.2.2.2.1>>=fun y=>
    if(z.2.2.2.1+1==b.size)=true then pure (.done (some (FX a b (z.2.1.push y) z.2.2.1 (z.2.2.2.1+1)),z.2.1.push y,z.2.2.1,z.2.2.2.1+1,0,z.2.2.2.2.2+1))
    else if z.2.2.2.2.2+1>=mg then pure (.done (none,z.2.1.push y,z.2.2.1,z.2.2.2.1+1,0,z.2.2.2.2.2+1))
    else pure (.yield (none,z.2.1.push y,z.2.2.1,z.2.2.2.1+1,0,z.2.2.2.2.2+1)))
   else(rL a z.2.2.1>>=fun x=>
    if(z.2.2.1+1+1==a.size)=true then pure (.done (some (Kq a b (z.2.1.push x) (z.2.2.1+1) z.2.2.2.1),z.2.1.push x,z.2.2.1+1,z.2.2.2.1,z.2.2.2.2.1+1,0))
    else if z.2.2.2.2.1+1>=mg then pure (.done (none,z.2.1.push x,z.2.2.1+1,z.2.2.2.1,z.2.2.2.2.1+1,0))
    else pure (.yield (none,z.2.1.push x,z.2.2.1+1,z.2.2.2.1,z.2.2.2.2.1+1,0)))
  |none=>pure (.done (some (FX a b z.2.1 z.2.2.1 z.2.2.2.1),z.2.1,z.2.2.1,z.2.2.2.1,z.2.2.2.2.1,z.2.2.2.2.2))
def QW(a b:Array cm)(mg ac bc:Nat)(out:Array cm)(ia ib:Nat):SM (ForInStep A6):=
 rL a ia>>=fun x=>
  if(ia+1+1==a.size)=true then pure (.done (some (Kq a b (out.push x) (ia+1) ib),out.push x,ia+1,ib,mg,ac,bc))
  else if(decide (ac<7)&&decide (bc<7))=true then pure (.done (none,out.push x,ia+1,ib,mg,ac,bc))
  else pure (.yield (none,out.push x,ia+1,ib,mg,ac,bc))
def Qe(a b:Array cm)(mg ac bc:Nat)(out:Array cm)(ia ib:Nat):SM (ForInStep A6):=
 rL b ib>>=fun y=>
  if(ib+1==b.size)=true then pure (.done (some (FX a b (out.push y) ia (ib+1)),out.push y,ia,ib+1,mg,ac,bc))
  else rL a ia>>=fun x=>JK true x b (ib+1) (b.size-(ib+1)) 0>>=fun t=>
   match t with
   |some k=>
    if k>0 then
     (if(ib+1+k==b.size)=true then pure (.done (some (FX a b (out.push y++b.extract (ib+1) (ib+1+k)) ia (ib+1+k)),out.push y++b.extract (ib+1) (ib+1+k),ia,ib+1+k,mg,ac,k))
     else QW a b mg ac k (out.push y++b.extract (ib+1) (ib+1+k)) ia (ib+1+k))
    else QW a b mg ac k (out.push y) ia (ib+1)
   |none=>pure (.done (some (FX a b (out.push y) ia (ib+1)),out.push y,ia,ib+1,mg,ac,bc))
def Fe(a b:Array cm)(mg ac bc:Nat)(out:Array cm)(ia ib:Nat):SM (ForInStep A6):=
 NH mg>>=fun _=>rL b ib>>=fun y=>JK false y a ia (a.size-ia) 0>>=fun t=>
  match t with
  |some k=>
   if k>0 then
    (if(ia+k+1==a.size)=true then pure (.done (some (Kq a b (out++a.extract ia (ia+k)) (ia+k) ib),out++a.extract ia (ia+k),ia+k,ib,mg,k,bc))
    else if(ia+k==a.size)=true then pure (.done (some (FX a b (out++a.extract ia (ia+k)) (ia+k) ib),out++a.extract ia (ia+k),ia+k,ib,mg,k,bc))
    else Qe a b mg k bc (out++a.extract ia (ia+k)) (ia+k) ib)
   else Qe a b mg k bc out ia ib
  |none=>pure (.done (some (FX a b out ia ib),out,ia,ib,mg,ac,bc))
def Ut(a b:Array cm)(out:Array cm)(ia ib mg ac bc:Nat):SM A6:=
 forIn [0:a.size+b.size] ((none,out,ia,ib,mg,ac,bc):A6) fun _ z=>if z.2.2.2.2.1>1 then Fe a b (z.2.2.2.2.1-1) z.2.2.2.2.2.1 z.2.2.2.2.2.2 z.2.1 z.2.2.1 z.2.2.2.1 else Fe a b z.2.2.2.2.1 z.2.2.2.2.2.1 z.2.2.2.2.2.2 z.2.1 z.2.2.1 z.2.2.2.1
def qP(z:A6):SM (ForInStep A4):=
 match z.1 with
 |some r=>pure (.done (some r,z.2.1,z.2.2.1,z.2.2.2.1,z.2.2.2.2.1))
 |none=>NH (z.2.2.2.2.1+1)>>=fun _=>pure (.yield (none,z.2.1,z.2.2.1,z.2.2.2.1,z.2.2.2.2.1+1))
def qU(a b:Array cm)(mg:Nat)(z:A5):SM (ForInStep A4):=
 match z.1 with
 |some r=>pure (.done (some r,z.2.1,z.2.2.1,z.2.2.2.1,mg))
 |none=>(liftM (rule "list.sort.gallop"):SM Unit)>>=fun _=>Ut a b z.2.1 z.2.2.1 z.2.2.2.1 (mg+1) z.2.2.2.2.1 z.2.2.2.2.2>>=qP
def cD(a b:Array cm)(out:Array cm)(ia ib mg:Nat):SM A4:=
 forIn [0:a.size+b.size] ((none,out,ia,ib,mg):A4) fun _ z=>lo1 a b z.2.2.2.2 z.2.1 z.2.2.1 z.2.2.2.1>>=qU a b z.2.2.2.2
noncomputable def qN(z:A4):SM (Array cm):=
 match z.1 with
 |some r=>pure r
 |none=>liftM (rN "internal:list.sort.merge-bound" :Sem (Array cm))
def low(a b:Array cm):SM (Array cm):=
 (liftM (rule "list.sort.merge-lo"):SM Unit)>>=fun _=>rL b 0>>=fun y=>
  if(1==b.size)=true then pure (FX a b #[y] 0 1)
  else if(0+1==a.size)=true then pure (Kq a b #[y] 0 1)
  else get>>=fun st=>cD a b #[y] 0 1 (gallopOf st)>>=qN
noncomputable def SS:Array cm->Array cm->SM (Array cm):=sortPriv%PySem.Builtin.mergeLo
def mF(a b:Array cm):SS a b=low a b:=by
 refine BH rfl fun _=>BH rfl fun y=>DV rfl (fun _=>rfl) fun _=>DV rfl (fun _=>rfl) fun _=>BH rfl fun st=>BH (HL fun i z=>BH (HL fun i z=>?_) fun z'=>?_) fun z=>?_
 ·refine BH rfl fun y=>BH rfl fun x=>BH rfl fun t=>?_;cases t<;>rfl
 ·obtain⟨r,o,ia,ib,ac,bc⟩:=z'
  match r with
  |some r=>rfl
  |none=>
   refine BH rfl fun _=>BH (HL fun i z=>?_) fun z=>?_
   ·refine DV rfl (fun _=>?_) fun _=>?_;all_goals
     refine BH rfl fun _=>BH rfl fun y=>BH rfl fun t=>?_
     cases t with
     |none=>rfl
     |some k=>
      refine DV rfl (fun _=>DV rfl (fun _=>rfl) fun _=>DV rfl (fun _=>rfl) fun _=>?_) fun _=>?_;all_goals
       refine BH rfl fun y=>DV rfl (fun _=>rfl) fun _=>BH rfl fun x=>BH rfl fun t=>?_;cases t<;>rfl
   ·obtain⟨r,o,ia,ib,mg,ac,bc⟩:=z;cases r<;>rfl
 ·obtain⟨r,z⟩:=z;cases r<;>rfl
structure Sm(st st':qk):Prop where
 k:kindOf st'=kindOf st
 a:dq st'=dq st
 p:dA st'=dA st
 f:qz st'=qz st
def Sm.Jf(st:qk):Sm st st:=⟨rfl,rfl,rfl,rfl⟩
def Sm.trans{x y z:qk}(h:Sm x y)(g:Sm y z):Sm x z:=⟨g.k.trans h.k,g.a.trans h.a,g.p.trans h.p,g.f.trans h.f⟩
def O9{m:Nat}{Q:Unit->qk->Prop}(h:∀st',Sm st st'->Q () st'):wpS M A E s (NH m) Q st:=
 KD (f:=fun z=>SortSt.mk' (kindOf z) (dq z) (dA z) m (qz z)) (h _ ⟨rfl,rfl,rfl,rfl⟩)
def Uu(rk:cm->Nat)(a b:Array cm)(N:Nat)(z:A6):Prop:=z.1=none/\Mg rk a b z.2.1 z.2.2.1 z.2.2.2.1/\N<=z.2.2.1+z.2.2.2.1
def b9(rk:cm->Nat)(a b:Array cm)(N:Nat)(z:A6):Prop:=(∃r,z.1=some r/\Me rk a b r)\/Uu rk a b N z
def Uz(rk:cm->Nat)(a b:Array cm)(N:Nat):ForInStep A6->Prop
 |.done z=>b9 rk a b N z
 |.yield z=>Uu rk a b N z
section
variable{a b:Array cm}
structure F7(rk:cm->Nat)(a0 a b:Array cm):Prop where
 MN:∀x∈a.toList,x∈a0.toList
 L7:∀x∈b.toList,x∈a0.toList
 ua:Up rk a 0 a.size
 ub:Up rk b 0 b.size
 na:0<a.size
 nb:0<b.size
 first:∀y∈a.toList,kv rk b 0<=rk y
 last:∀y∈b.toList,rk y<=kv rk a (a.size-1)
def Up.part(h:Up rk xs 0 xs.size){n:Nat}(hn:i+n<=xs.size):Up rk xs i (i+n):=fun x y a b c=>h x y (CG _) b (by lia)
def nX(hc:C7 prog w A s κ rk a0)(T:F7 rk a0 a b)(hk:kindOf st=κ){mg:Nat}{N:Nat}(g:Mg rk a b out ia ib)(hN:N<=ia+ib){Q:A5->qk->Prop}
 (h1:∀r z,Me rk a b r->Q (some r,z) st)(h2:∀out ia ib ac bc,Mg rk a b out ia ib->N+1<=ia+ib->Q (none,out,ia,ib,ac,bc) st):wpS (ax prog w) A E s (lo1 a b mg out ia ib) Q st:=by
 unfold lo1;refine FA (I:=fun x c st'=>st'=st/\∃out ia ib ac bc,c=(none,out,ia,ib,ac,bc)/\Mg rk a b out ia ib/\N+x<=ia+ib) ?_ ?_ ⟨rfl,out,ia,ib,0,0,rfl,g,hN⟩
 ·rintro x c st' _ hx ⟨rfl,out,ia,ib,ac,bc,rfl,g,hx2⟩;have ha:ia<a.size:=by have:=g.ha;lia
  refine Ak (DW g.hb (Ak (DW ha (Ak (Nq hc hk (T.L7 _ (getD_mem g.hb)) (T.MN _ (getD_mem ha)) ?_)))));by_cases hl:rk (b.getD ib dK)<rk (a.getD ia dK)
  ·simp only[hl,LJ,CH];refine Ak (DW g.hb ?_);obtain⟨m1,m2⟩:=Nr g.mi g.pm 1 (by have:=g.hb;lia) (M8 g.hb out) (fun i hi y hy=>by
    have e:i=0:=by lia
    subst e;exact BF (Fm hl) (Ld T.ua y hy));by_cases e:ib+1=b.size
   ·rw[AH (by simpa using e)];exact Aq (h1 _ _ (QD m1 m2 e))
   ·rw[AG (by simpa using e)];have g2:Mg rk a b (out.push (b.getD ib dK)) ia (ib+1):=⟨m1,m2,g.ha,by have:=g.hb;lia⟩;by_cases e2:bc+1>=mg
    ·rw[AH e2];exact Aq (h2 _ _ _ _ _ g2 (by lia))
    ·rw[AG e2];exact Aq ⟨rfl,_,_,_,_,_,rfl,g2,by lia⟩
  ·simp only[hl,LF,DU,Bs];refine Ak (DW ha ?_);obtain⟨m1,m2⟩:=UR g.mi g.pm 1 (by lia) (M8 ha out) (fun i hi y hy=>by
    have e:i=0:=by lia
    subst e;exact BF (Ob hl) (Ld T.ub y hy));by_cases e:ia+1+1=a.size
   ·rw[AH (by simpa using e)];exact Aq (h1 _ _ (QR m1 m2 e T.last))
   ·rw[AG (by simpa using e)];have g2:Mg rk a b (out.push (a.getD ia dK)) (ia+1) ib:=⟨m1,m2,by have:=g.ha;lia,g.hb⟩;by_cases e2:ac+1>=mg
    ·rw[AH e2];exact Aq (h2 _ _ _ _ _ g2 (by lia))
    ·rw[AG e2];exact Aq ⟨rfl,_,_,_,_,_,rfl,g2,by lia⟩
 ·rintro c st' ⟨rfl,out,ia,ib,ac,bc,rfl,g,hx2⟩;refine h2 _ _ _ _ _ g ?_;have:=T.na
  lia
end
end
variable{ac bc:Nat}
section
open PySem.W
section
variable{a b:Array cm}
def Z4(T:F7 rk a0 a b){mg:Nat}{N:Nat}(g:Mg rk a b out ia ib)(hN:N<=ia+ib)(hle:∀y∈b.toList.drop ib,kv rk a ia<=rk y){Q:ForInStep A6->qk->Prop}
 (h:∀z,Uz rk a b N z->Q z st):wpS (ax prog w) A E s (QW a b mg ac bc out ia ib) Q st:=by
 have ha:ia<a.size:=by have:=g.ha;lia
 unfold QW;refine Ak (DW ha ?_);obtain⟨m1,m2⟩:=UR g.mi g.pm 1 (by lia) (M8 ha out) (fun i hi y hy=>by
  have e:i=0:=by lia
  subst e;exact hle y hy);by_cases e:ia+1+1=a.size
 ·rw[AH (by simpa using e)];exact Aq (h _ (.inl ⟨_,rfl,QR m1 m2 e T.last⟩))
 ·rw[AG (by simpa using e)];have g2:Mg rk a b (out.push (a.getD ia dK)) (ia+1) ib:=⟨m1,m2,by have:=g.ha;lia,g.hb⟩;by_cases e3:(decide (ac<7)&&decide (bc<7))=true
  ·rw[AH e3];exact Aq (h _ (.inr ⟨rfl,g2,by show N<=ia+1+ib;lia⟩))
  ·rw[AG e3];exact Aq (h _ ⟨rfl,g2,by show N<=ia+1+ib;lia⟩)
def Zt(hc:C7 prog w A s κ rk a0)(T:F7 rk a0 a b)(hk:kindOf st=κ){mg:Nat}{N:Nat}(g:Mg rk a b out ia ib)(hN:N<=ia+ib)(hle:∀y∈a.toList.drop ia,kv rk b ib<=rk y){Q:ForInStep A6->qk->Prop}
 (h:∀z,Uz rk a b N z->Q z st):wpS (ax prog w) A E s (Qe a b mg ac bc out ia ib) Q st:=by
 have ha:ia<a.size:=by have:=g.ha;lia
 unfold Qe;refine Ak (DW g.hb ?_);obtain⟨m1,m2⟩:=Nr g.mi g.pm 1 (by have:=g.hb;lia) (M8 g.hb out) (fun i hi y hy=>by
  have e:i=0:=by lia
  subst e;exact hle y hy);by_cases e:ib+1=b.size
 ·rw[AH (by simpa using e)];exact Aq (h _ (.inl ⟨_,rfl,QD m1 m2 e⟩))
 ·rw[AG (by simpa using e)];have hb:=g.hb;have g2:Mg rk a b (out.push (b.getD ib dK)) ia (ib+1):=⟨m1,m2,g.ha,by lia⟩;refine Ak (DW ha (Ak (LV hc hk (T.MN _ (getD_mem ha)) T.L7 (by lia) (by lia) (T.ub.part (by lia)) fun k k1 k2 k3=>?_)));dsimp only;have rest:∀y∈b.toList.drop (ib+1+k),kv rk a ia<=rk y:=fun y hy=>by
   by_cases hz:ib+1+k<b.size
   ·have h1:=k3 k (Ad _) (by lia);have h2:=Ld T.ub y hy;have h3:rk (a.getD ia dK)<=kv rk b (ib+1+k):=by rcases h1 with z|⟨_,z⟩<;>lia
    exact BF h3 h2
   ·rw[K4 (by simp;lia)] at hy;cases hy
  by_cases k0:k>0
  ·rw[AH k0];obtain⟨n1,n2⟩:=Nr m1 m2 k (by lia) (YE (xs:=b) (ib+1) k (out.push (b.getD ib dK))) (fun i hi y hy=>by
    have h1:=k2 i hi;have h2:=Ld T.ua y hy;have h3:kv rk b (ib+1+i)<=rk (a.getD ia dK):=by rcases h1 with z|⟨_,z⟩<;>lia
    exact BF h3 h2);by_cases e2:ib+1+k=b.size
   ·rw[AH (by simpa using e2)];exact Aq (h _ (.inl ⟨_,rfl,QD n1 n2 e2⟩))
   ·rw[AG (by simpa using e2)];exact Z4 T ⟨n1,n2,g.ha,by lia⟩ (by lia) rest h
  ·rw[AG k0];have k00:k=0:=by lia
   subst k00;exact Z4 T g2 (by lia) rest h
def Zh(hc:C7 prog w A s κ rk a0)(T:F7 rk a0 a b)(hk:kindOf st=κ){mg:Nat}{N:Nat}(g:Mg rk a b out ia ib)(hN:N<=ia+ib){Q:ForInStep A6->qk->Prop}
 (h:∀z st',Sm st st'->Uz rk a b N z->Q z st'):wpS (ax prog w) A E s (Fe a b mg ac bc out ia ib) Q st:=by
 have ha:=g.ha;have hb:=g.hb;unfold Fe;refine Ak (O9 fun st' sm=>Ak (DW g.hb (Ak (LV hc (sm.k.trans hk) (T.L7 _ (getD_mem g.hb)) T.MN (by lia) (by lia) (T.ua.part (by lia)) fun k k1 k2 k3=>?_))));dsimp only;have rest:∀y∈a.toList.drop (ia+k),kv rk b ib<=rk y:=fun y hy=>by
  by_cases hz:ia+k<a.size
  ·have h1:=k3 k (Ad _) (by lia);have h2:=Ld T.ua y hy;have h3:rk (b.getD ib dK)<=kv rk a (ia+k):=by rcases h1 with z|⟨_,z⟩<;>lia
   exact BF h3 h2
  ·rw[K4 (by simp;lia)] at hy;cases hy
 by_cases k0:k>0
 ·rw[AH k0];obtain⟨n1,n2⟩:=UR g.mi g.pm k (by lia) (YE (xs:=a) ia k out) (fun i hi y hy=>by
   have h1:=k2 i hi;have h2:=Ld T.ub y hy;have h3:kv rk a (ia+i)<=rk (b.getD ib dK):=by rcases h1 with z|⟨_,z⟩<;>lia
   exact BF h3 h2);by_cases e1:ia+k+1=a.size
  ·rw[AH (by simpa using e1)];exact Aq (h _ _ sm (.inl ⟨_,rfl,QR n1 n2 e1 T.last⟩))
  ·rw[AG (by simpa using e1)];by_cases e2:ia+k=a.size
   ·rw[AH (by simpa using e2)];exact Aq (h _ _ sm (.inl ⟨_,rfl,qI n1 n2 e2⟩))
   ·rw[AG (by simpa using e2)];exact Zt hc T (sm.k.trans hk) ⟨n1,n2,by lia,g.hb⟩ (by lia) rest fun z hz=>h z _ sm hz
 ·rw[AG k0];have k00:k=0:=by lia
  subst k00;exact Zt hc T (sm.k.trans hk) g hN rest fun z hz=>h z _ sm hz
def nB(hc:C7 prog w A s κ rk a0)(T:F7 rk a0 a b)(hk:kindOf st=κ){mg:Nat}{N:Nat}(g:Mg rk a b out ia ib)(hN:N<=ia+ib){Q:A6->qk->Prop}
 (h:∀z st',Sm st st'->b9 rk a b N z->Q z st'):wpS (ax prog w) A E s (Ut a b out ia ib mg ac bc) Q st:=by
 unfold Ut;refine FA (I:=fun x c st'=>Sm st st'/\Uu rk a b N c) ?_ ?_ ⟨Sm.Jf _,rfl,g,hN⟩
 ·rintro x c st' _ hx ⟨sm,c1,c2,c3⟩;by_cases e3:c.2.2.2.2.1>1
  ·rw[AH e3];refine Zh hc T (sm.k.trans hk) c2 c3 fun z st'' s2 hz=>?_
   cases z with
   |done z=>exact h z _ (sm.trans s2) hz
   |yield z=>exact⟨sm.trans s2,hz⟩
  ·rw[AG e3];refine Zh hc T (sm.k.trans hk) c2 c3 fun z st'' s2 hz=>?_
   cases z with
   |done z=>exact h z _ (sm.trans s2) hz
   |yield z=>exact⟨sm.trans s2,hz⟩
 ·rintro c st' ⟨sm,hz⟩;exact h c st' sm (.inr hz)
def n9(hc:C7 prog w A s κ rk a0)(T:F7 rk a0 a b)(hk:kindOf st=κ){Q:Array cm->qk->Prop}(h:∀r st',Sm st st'->Me rk a b r->Q r st'):wpS (ax prog w) A E s (SS a b) Q st:=by
 rw[mF];unfold low;have nb:=T.nb;have na:=T.na;refine Ak (LW (Ht ⟨rfl,?_⟩));refine Ak (DW nb ?_);obtain⟨m1,m2⟩:=Nr (rk:=rk) (a:=a) (b:=b) (out:= #[]) (ia:=0) (ib:=0) ⟨P7 T.ua,P7 T.ub⟩ (Oh _) 1 (by lia) (M8 nb #[]) (fun i hi y hy=>by
  have e:i=0:=by lia
  subst e;exact T.first y hy);by_cases e1:1=b.size
 ·rw[AH (by simpa using e1)];exact Aq (h _ _ (Sm.Jf _) (QD m1 m2 e1))
 ·rw[AG (by simpa using e1)];by_cases e2:0+1=a.size
  ·rw[AH (by simpa using e2)];exact Aq (h _ _ (Sm.Jf _) (QR m1 m2 e2 T.last))
  ·rw[AG (by simpa using e2)];refine Ak (Hz (Ak ?_));unfold cD;refine FA (I:=fun x c st'=>Sm st st'/\∃out ia ib mg,c=(none,out,ia,ib,mg)/\Mg rk a b out ia ib/\x+1<=ia+ib) ?_ ?_ ⟨Sm.Jf _,_,0,1,_,rfl,⟨m1,m2,by lia,by lia⟩,by lia⟩
   ·rintro x c st' _ hx ⟨sm,out,ia,ib,mg,rfl,g,hx2⟩;refine Ak (nX hc T (sm.k.trans hk) g hx2 (fun r z hr=>Aq ?_) fun out ia ib ac bc g2 hx3=>?_)
    ·exact Aq (h r _ sm hr)
    ·refine Ak (LW (Ht ⟨rfl,?_⟩));refine Ak (nB hc T (sm.k.trans hk) g2 hx3 fun z st2 s2 hz=>?_);obtain⟨r,o,ia',ib',mg',ac',bc'⟩:=z;rcases hz with⟨r',rfl,hr⟩|⟨rfl,g3,hx4⟩
     ·exact Aq (Aq (h r' _ (sm.trans s2) hr))
     ·exact Ak (O9 fun st3 s3=>Aq ⟨(sm.trans s2).trans s3,o,ia',ib',_,rfl,g3,hx4⟩)
   ·rintro c st' ⟨sm,out,ia,ib,mg,rfl,g,hx2⟩;exfalso;have:=g.ha;have:=g.hb
    lia
end
structure Mj(rk:cm->Nat)(p q o:List cm):Prop where
 l:SL rk (p++o)
 r:SL rk (q++o)
def Mj.swap{p q o:List cm}(h:Mj rk p q o):Mj rk q p o:=⟨h.r,h.l⟩
def Mj.Tt{p q u o:List cm}(h:Mj rk p (q++u) o)(hu:∀x∈p,∀y∈u,rk x<=rk y):Mj rk p q (u++o):=by
 refine⟨?_,by rw[<-Bb];exact h.r⟩;obtain⟨a,b,c⟩:=SL.app.mp h.l;obtain⟨a',b',c'⟩:=SL.app.mp h.r;refine SL.app.mpr ⟨a,SL.app.mpr ⟨(SL.app.mp a').2.1,b,fun x hx y hy=>c' x (Dq _ hx) y hy⟩,fun x hx y hy=>?_⟩;rcases Bk.mp hy with z|z
 ·exact hu x hx y z
 ·exact c x hx y z
def Ph(h:Up rk xs 0 xs.size){n:Nat}(hn:n<=i+1)(hi:i<xs.size):∀y∈xs.toList.take n,rk y<=kv rk xs i:=by
 intro y hy;obtain⟨j,hj,e⟩:=IQ.mp hy;rw[Bc] at hj;have hl:xs.toList.length=xs.size:=by simp
 rw[List.getElem_take] at e;rw[<-e,<-NI (rk:=rk) (i:=j) (by lia)];exact h _ _ (CG _) (by lia) (by lia)
def Ib{m n:Nat}(hn:n<=xs.size){y:cm}(h:y∈(xs.toList.take n).drop m):∃j,m<=j/\j<n/\y=xs.getD j dK:=by
 obtain⟨j,hj,e⟩:=IQ.mp h;rw[C9,Bc] at hj;have hl:xs.toList.length=xs.size:=by simp
 refine⟨m+j,by lia,by lia,?_⟩;rw[List.getElem_drop,List.getElem_take] at e;rw[<-e,Gu,GH _ (m+j) (by lia)];simp
def Mz{n:Nat}(h:n<xs.size)(out:Array cm):(out.push (xs.getD n dK)).toList.reverse=(xs.toList.take (n+1)).drop n++out.toList.reverse:=by
 have hl:xs.toList.length=xs.size:=by simp
 have e:(xs.toList.take (n+1)).drop n=[xs.getD n dK]:=by rw[List.drop_take,Pd h];simp
 rw[e,Md,List.reverse_append];rfl
def Xo(m n:Nat)(out:Array cm):(out++(xs.extract m n).reverse).toList.reverse=(xs.toList.take n).drop m++out.toList.reverse:=by rw[GF,List.reverse_append,VQ,List.reverse_reverse,M9,List.drop_take]
structure Mh(rk:cm->Nat)(a b out:Array cm)(na nb:Nat):Prop where
 mi:Mj rk (a.toList.take na) (b.toList.take nb) out.toList.reverse
 pm:out.toList.reverse.Perm (a.toList.drop na++b.toList.drop nb)
 ha:0<na
 la:na<=a.size
 hb:1<nb
 lb:nb<=b.size
end
variable{na nb:Nat}
section
open PySem.W
section
variable{a b:Array cm}
noncomputable def Gi(a b out:Array cm)(na nb:Nat):Array cm:=a.extract 0 na++b.extract 0 nb++out.reverse
noncomputable def Kj(a b out:Array cm)(na nb:Nat):Array cm:=b.extract 0 nb++a.extract 0 na++out.reverse
def O4(xs:Array cm)(i:Nat):(xs.extract 0 i).toList=xs.toList.take i:=by rw[M9];simp
def Ro{o a b:List cm}(h:o.Perm (a.drop i++b.drop j)):(a.take i++b.take j++o).Perm (a++b):=by
 have e:a++b=(a.take i++a.drop i)++(b.take j++b.drop j):=by rw[DQ,DQ]
 rw[e];refine(h.append_left _).trans ?_;rw[Bb,Bb];refine ON _ ?_;rw[<-Bb,<-Bb];exact VG _ IP
def O1:(Gi a b out na nb).toList=a.toList.take na++b.toList.take nb++out.toList.reverse:=by unfold Gi;rw[GF,GF,O4,O4,VQ]
def We:(Kj a b out na nb).toList=b.toList.take nb++a.toList.take na++out.toList.reverse:=by unfold Kj;rw[GF,GF,O4,O4,VQ]
def QG(mi:Mj rk (a.toList.take na) (b.toList.take nb) out.toList.reverse)(pm:out.toList.reverse.Perm (a.toList.drop na++b.toList.drop nb))(ha:na=0):Me rk a b (Gi a b out na nb):=by refine⟨?_,by rw[O1];exact Ro pm⟩;rw[O1,ha,K9,RM];exact mi.r
def pe(mi:Mj rk (a.toList.take na) (b.toList.take nb) out.toList.reverse)(pm:out.toList.reverse.Perm (a.toList.drop na++b.toList.drop nb))(hb:nb=0):Me rk a b (Gi a b out na nb):=by refine⟨?_,by rw[O1];exact Ro pm⟩;rw[O1,hb,K9,Ct];exact mi.l
def QB(mi:Mj rk (a.toList.take na) (b.toList.take nb) out.toList.reverse)(pm:out.toList.reverse.Perm (a.toList.drop na++b.toList.drop nb))(hb:nb=1)(hz:0<b.size)(hl:∀y∈a.toList,kv rk b 0<=rk y):Me rk a b (Kj a b out na nb):=by
 have e:b.toList.take nb=[b.getD 0 dK]:=by have:=Pd (xs:=b) (i:=0) hz;rw[Mp] at this;rw[hb,this];rfl
 refine⟨?_,?_⟩
 ·rw[We,e,Bb];refine SL.app.mpr ⟨VC _ _,mi.l,fun x hx y hy=>?_⟩;rw[Bj] at hx;rw[hx];rcases Bk.mp hy with z|z
  ·exact hl y (Gv z)
  ·exact(SL.app.mp mi.r).2.2 _ (by rw[e];exact Bj.mpr rfl) y z
 ·rw[We];exact(IP.append_right _).trans (Ro pm)
def QK(mi:Mj rk (a.toList.take na) (b.toList.take nb) out.toList.reverse)(pm:out.toList.reverse.Perm (a.toList.drop na++b.toList.drop nb))(m:Nat)(hm:m<=nb)(hnb:nb<=b.size)(e:out'.toList.reverse=(b.toList.take nb).drop m++out.toList.reverse)(hle:∀i,m<=i->i<nb->∀y∈a.toList.take na,rk y<=kv rk b i):
 Mj rk (a.toList.take na) (b.toList.take m) out'.toList.reverse/\out'.toList.reverse.Perm (a.toList.drop na++b.toList.drop m):=by
 have e3:b.toList.take nb=b.toList.take m++(b.toList.take nb).drop m:=by
  have:=(DQ m (b.toList.take nb)).symm
  rwa [RQ,J1 hm] at this
 rw[e];constructor
 ·rw[e3] at mi;refine mi.Tt fun x hx y hy=>?_;obtain⟨j,h1,h2,rfl⟩:=Ib hnb hy;exact hle j h1 h2 x hx
 ·have e4:b.toList.drop m=(b.toList.take nb).drop m++b.toList.drop nb:=by
   have e5:b.toList=b.toList.take nb++b.toList.drop nb:=(DQ _ _).symm;have hl:m<=(b.toList.take nb).length:=by rw[Bc];simp;lia
   conv=>lhs;rw[e5]
   rw[Qm hl]
  rw[e4];refine(pm.append_left _).trans ?_;rw[<-Bb,<-Bb];exact VG _ IP
def QE(mi:Mj rk (a.toList.take na) (b.toList.take nb) out.toList.reverse)(pm:out.toList.reverse.Perm (a.toList.drop na++b.toList.drop nb))(m:Nat)(hm:m<=na)(hna:na<=a.size)(e:out'.toList.reverse=(a.toList.take na).drop m++out.toList.reverse)(hle:∀i,m<=i->i<na->∀y∈b.toList.take nb,rk y<=kv rk a i):
 Mj rk (a.toList.take m) (b.toList.take nb) out'.toList.reverse/\out'.toList.reverse.Perm (a.toList.drop m++b.toList.drop nb):=by
 have:=QK (a:=b) (b:=a) mi.swap (pm.trans IP) m hm hna e hle;exact⟨this.1.swap,this.2.trans IP⟩
end
abbrev B4:=Option (Array cm)×Nat×Nat×Array cm×Nat
abbrev B5:=Option (Array cm)×Nat×Nat×Array cm×Nat×Nat
abbrev B6:=Option (Array cm)×Nat×Nat×Array cm×Nat×Nat×Nat
def DI(a b:Array cm)(mg na nb:Nat)(out:Array cm):SM B5:=
 forIn [0:a.size+b.size] ((none,na,nb,out,0,0):B5) fun _ z=>rL b (z.2.2.1-1)>>=fun y=>rL a (z.2.1-1)>>=fun x=>lt' y x>>=fun t=>
  match t with
  |some c=>
   if c=true then(rL a (z.2.1-1)>>=fun x=>
    if(z.2.1-1==0)=true then pure (.done (some (Gi a b (z.2.2.2.1.push x) (z.2.1-1) z.2.2.1),z.2.1-1,z.2.2.1,z.2.2.2.1.push x,z.2.2.2.2.1+1,0))
    else if z.2.2.2.2.1+1>=mg then pure (.done (none,z.2.1-1,z.2.2.1,z.2.2.2.1.push x,z.2.2.2.2.1+1,0))
    else pure (.yield (none,z.2.1-1,z.2.2.1,z.2.2.2.1.push x,z.2.2.2.2.1+1,0)))
   else(rL b (z.2.2.1-1)>>=fun y=>
    if(z.2.2.1-1==1)=true then pure (.done (some (Kj a b (z.2.2.2.1.push y) z.2.1 (z.2.2.1-1)),z.2.1,z.2.2.1-1,z.2.2.2.1.push y,0,z.2.2.2.2.2+1))
    else if z.2.2.2.2.2+1>=mg then pure (.done (none,z.2.1,z.2.2.1-1,z.2.2.2.1.push y,0,z.2.2.2.2.2+1))
    else pure (.yield (none,z.2.1,z.2.2.1-1,z.2.2.2.1.push y,0,z.2.2.2.2.2+1)))
  |none=>pure (.done (some (Gi a b z.2.2.2.1 z.2.1 z.2.2.1),z.2.1,z.2.2.1,z.2.2.2.1,z.2.2.2.2.1,z.2.2.2.2.2))
def Jp(a b:Array cm)(mg ac bc na nb:Nat)(out:Array cm):SM (ForInStep B6):=
 rL a (na-1)>>=fun x=>
  if(na-1==0)=true then pure (.done (some (Gi a b (out.push x) (na-1) nb),na-1,nb,out.push x,mg,ac,bc))
  else if(decide (ac<7)&&decide (bc<7))=true then pure (.done (none,na-1,nb,out.push x,mg,ac,bc))
  else pure (.yield (none,na-1,nb,out.push x,mg,ac,bc))
def Ek(a b:Array cm)(mg ac bc na nb:Nat)(out:Array cm):SM (ForInStep B6):=
 rL b (nb-1)>>=fun y=>
  if(nb-1==1)=true then pure (.done (some (Kj a b (out.push y) na (nb-1)),na,nb-1,out.push y,mg,ac,bc))
  else rL a (na-1)>>=fun x=>JK true x b 0 (nb-1) (nb-1-1)>>=fun t=>
   match t with
   |some k=>
    if nb-1-k>0 then
     (if(k==1)=true then pure (.done (some (Kj a b (out.push y++(b.extract k (nb-1)).reverse) na k),na,k,out.push y++(b.extract k (nb-1)).reverse,mg,ac,nb-1-k))
     else if(k==0)=true then pure (.done (some (Gi a b (out.push y++(b.extract k (nb-1)).reverse) na k),na,k,out.push y++(b.extract k (nb-1)).reverse,mg,ac,nb-1-k))
     else Jp a b mg ac (nb-1-k) na k (out.push y++(b.extract k (nb-1)).reverse))
    else Jp a b mg ac (nb-1-k) na (nb-1) (out.push y)
   |none=>pure (.done (some (Gi a b (out.push y) na (nb-1)),na,nb-1,out.push y,mg,ac,bc))
def Fc(a b:Array cm)(mg ac bc na nb:Nat)(out:Array cm):SM (ForInStep B6):=
 NH mg>>=fun _=>rL b (nb-1)>>=fun y=>JK false y a 0 na (na-1)>>=fun t=>
  match t with
  |some k=>
   if na-k>0 then
    (if(k==0)=true then pure (.done (some (Gi a b (out++(a.extract k na).reverse) k nb),k,nb,out++(a.extract k na).reverse,mg,na-k,bc))
    else Ek a b mg (na-k) bc k nb (out++(a.extract k na).reverse))
   else Ek a b mg (na-k) bc na nb out
  |none=>pure (.done (some (Gi a b out na nb),na,nb,out,mg,ac,bc))
def K3(a b:Array cm)(na nb:Nat)(out:Array cm)(mg ac bc:Nat):SM B6:=
 forIn [0:a.size+b.size] ((none,na,nb,out,mg,ac,bc):B6) fun _ z=>if z.2.2.2.2.1>1 then Fc a b (z.2.2.2.2.1-1) z.2.2.2.2.2.1 z.2.2.2.2.2.2 z.2.1 z.2.2.1 z.2.2.2.1 else Fc a b z.2.2.2.2.1 z.2.2.2.2.2.1 z.2.2.2.2.2.2 z.2.1 z.2.2.1 z.2.2.2.1
def qa(z:B6):SM (ForInStep B4):=
 match z.1 with
 |some r=>pure (.done (some r,z.2.1,z.2.2.1,z.2.2.2.1,z.2.2.2.2.1))
 |none=>NH (z.2.2.2.2.1+1)>>=fun _=>pure (.yield (none,z.2.1,z.2.2.1,z.2.2.2.1,z.2.2.2.2.1+1))
def Ui(a b:Array cm)(mg:Nat)(z:B5):SM (ForInStep B4):=
 match z.1 with
 |some r=>pure (.done (some r,z.2.1,z.2.2.1,z.2.2.2.1,mg))
 |none=>(liftM (rule "list.sort.gallop"):SM Unit)>>=fun _=>K3 a b z.2.1 z.2.2.1 z.2.2.2.1 (mg+1) z.2.2.2.2.1 z.2.2.2.2.2>>=qa
def Qk(a b:Array cm)(na nb:Nat)(out:Array cm)(mg:Nat):SM B4:=
 forIn [0:a.size+b.size] ((none,na,nb,out,mg):B4) fun _ z=>DI a b z.2.2.2.2 z.2.1 z.2.2.1 z.2.2.2.1>>=Ui a b z.2.2.2.2
noncomputable def OD(z:B4):SM (Array cm):=
 match z.1 with
 |some r=>pure r
 |none=>liftM (rN "internal:list.sort.merge-bound" :Sem (Array cm))
def high(a b:Array cm):SM (Array cm):=
 (liftM (rule "list.sort.merge-hi"):SM Unit)>>=fun _=>rL a (a.size-1)>>=fun x=>
  if(a.size-1==0)=true then pure (Gi a b #[x] (a.size-1) b.size)
  else if(b.size==1)=true then pure (Kj a b #[x] (a.size-1) b.size)
  else get>>=fun st=>Qk a b (a.size-1) b.size #[x] (gallopOf st)>>=OD
noncomputable def SQ:Array cm->Array cm->SM (Array cm):=sortPriv%PySem.Builtin.mergeHi
def jR(a b:Array cm):SQ a b=high a b:=by
 refine BH rfl fun _=>BH rfl fun y=>DV rfl (fun _=>rfl) fun _=>DV rfl (fun _=>rfl) fun _=>BH rfl fun st=>BH (HL fun i z=>BH (HL fun i z=>?_) fun z'=>?_) fun z=>?_
 ·refine BH rfl fun y=>BH rfl fun x=>BH rfl fun t=>?_;cases t<;>rfl
 ·obtain⟨r,na,nb,o,ac,bc⟩:=z'
  match r with
  |some r=>rfl
  |none=>
   refine BH rfl fun _=>BH (HL fun i z=>?_) fun z=>?_
   ·refine DV rfl (fun _=>?_) fun _=>?_;all_goals
     refine BH rfl fun _=>BH rfl fun y=>BH rfl fun t=>?_
     cases t with
     |none=>rfl
     |some k=>
      refine DV rfl (fun _=>DV rfl (fun _=>rfl) fun _=>?_) fun _=>?_;all_goals
       refine BH rfl fun y=>DV rfl (fun _=>rfl) fun _=>BH rfl fun x=>BH rfl fun t=>?_;cases t<;>rfl
   ·obtain⟨r,z⟩:=z;cases r<;>rfl
 ·obtain⟨r,z⟩:=z;cases r<;>rfl
def Uk(rk:cm->Nat)(a b:Array cm)(N:Nat)(z:B6):Prop:=z.1=none/\Mh rk a b z.2.2.2.1 z.2.1 z.2.2.1/\z.2.1+z.2.2.1<=N
def bo(rk:cm->Nat)(a b:Array cm)(N:Nat)(z:B6):Prop:=(∃r,z.1=some r/\Me rk a b r)\/Uk rk a b N z
def U1(rk:cm->Nat)(a b:Array cm)(N:Nat):ForInStep B6->Prop
 |.done z=>bo rk a b N z
 |.yield z=>Uk rk a b N z
section
variable{a b:Array cm}
def nE(hc:C7 prog w A s κ rk a0)(T:F7 rk a0 a b)(hk:kindOf st=κ){mg:Nat}{N:Nat}(g:Mh rk a b out na nb)(hN:na+nb<=N){Q:B5->qk->Prop}
 (h1:∀r z,Me rk a b r->Q (some r,z) st)(h2:∀out na nb ac bc,Mh rk a b out na nb->na+nb+1<=N->Q (none,na,nb,out,ac,bc) st):wpS (ax prog w) A E s (DI a b mg na nb out) Q st:=by
 unfold DI;refine FA (I:=fun x c st'=>st'=st/\∃out na nb ac bc,c=(none,na,nb,out,ac,bc)/\Mh rk a b out na nb/\na+nb+x<=N) ?_ ?_ ⟨rfl,out,na,nb,0,0,rfl,g,hN⟩
 ·rintro x c st' _ hx ⟨rfl,out,na,nb,ac,bc,rfl,g,hx2⟩;obtain⟨gm,gp,g1,g2,g3,g4⟩:=g;have ha:na-1<a.size:=by lia
  have hb:nb-1<b.size:=by lia
  refine Ak (DW hb (Ak (DW ha (Ak (Nq hc hk (T.L7 _ (getD_mem hb)) (T.MN _ (getD_mem ha)) ?_)))));have pa:=Mz ha out;have pb:=Mz hb out;rw[show na-1+1=na by lia] at pa;rw[show nb-1+1=nb by lia] at pb;by_cases hl:rk (b.getD (nb-1) dK)<rk (a.getD (na-1) dK)
  ·simp only[hl,LJ,CH];refine Ak (DW ha ?_);obtain⟨m1,m2⟩:=QE gm gp (na-1) (by lia) g2 pa (fun i h1 h2 y hy=>by
    have e:i=na-1:=by lia
    subst e;exact BF (Ph T.ub (by lia) hb y hy) (Fm hl));by_cases e:na-1=0
   ·rw[AH (by simpa using e)];exact Aq (h1 _ _ (QG m1 m2 e))
   ·rw[AG (by simpa using e)];have g':Mh rk a b (out.push (a.getD (na-1) dK)) (na-1) nb:=⟨m1,m2,by lia,by lia,g3,g4⟩;by_cases e2:ac+1>=mg
    ·rw[AH e2];exact Aq (h2 _ _ _ _ _ g' (by lia))
    ·rw[AG e2];exact Aq ⟨rfl,_,_,_,_,_,rfl,g',by lia⟩
  ·simp only[hl,LF,DU,Bs];refine Ak (DW hb ?_);obtain⟨m1,m2⟩:=QK gm gp (nb-1) (by lia) g4 pb (fun i h1 h2 y hy=>by
    have e:i=nb-1:=by lia
    subst e;exact BF (Ph T.ua (by lia) ha y hy) (Ob hl));by_cases e:nb-1=1
   ·rw[AH (by simpa using e)];exact Aq (h1 _ _ (QB m1 m2 e T.nb T.first))
   ·rw[AG (by simpa using e)];have g':Mh rk a b (out.push (b.getD (nb-1) dK)) na (nb-1):=⟨m1,m2,g1,g2,by lia,by lia⟩;by_cases e2:bc+1>=mg
    ·rw[AH e2];exact Aq (h2 _ _ _ _ _ g' (by lia))
    ·rw[AG e2];exact Aq ⟨rfl,_,_,_,_,_,rfl,g',by lia⟩
 ·rintro c st' ⟨rfl,out,na,nb,ac,bc,rfl,g,hx2⟩;refine h2 _ _ _ _ _ g ?_;have:=T.na
  lia
def Z3(T:F7 rk a0 a b){mg:Nat}{N:Nat}(g:Mh rk a b out na nb)(hN:na+nb<=N)(hle:∀y∈b.toList.take nb,rk y<=kv rk a (na-1)){Q:ForInStep B6->qk->Prop}
 (h:∀z,U1 rk a b N z->Q z st):wpS (ax prog w) A E s (Jp a b mg ac bc na nb out) Q st:=by
 obtain⟨gm,gp,g1,g2,g3,g4⟩:=g;have ha:na-1<a.size:=by lia
 have pa:=Mz ha out;rw[show na-1+1=na by lia] at pa;unfold Jp;refine Ak (DW ha ?_);obtain⟨m1,m2⟩:=QE gm gp (na-1) (by lia) g2 pa (fun i h1 h2 y hy=>by
  have e:i=na-1:=by lia
  subst e;exact hle y hy);by_cases e:na-1=0
 ·rw[AH (by simpa using e)];exact Aq (h _ (.inl ⟨_,rfl,QG m1 m2 e⟩))
 ·rw[AG (by simpa using e)];have g':Mh rk a b (out.push (a.getD (na-1) dK)) (na-1) nb:=⟨m1,m2,by lia,by lia,g3,g4⟩;by_cases e3:(decide (ac<7)&&decide (bc<7))=true
  ·rw[AH e3];exact Aq (h _ (.inr ⟨rfl,g',by show na-1+nb<=N;lia⟩))
  ·rw[AG e3];exact Aq (h _ ⟨rfl,g',by show na-1+nb<=N;lia⟩)
def aA(hc:C7 prog w A s κ rk a0)(T:F7 rk a0 a b)(hk:kindOf st=κ){mg:Nat}{N:Nat}(g:Mh rk a b out na nb)(hN:na+nb<=N)(hle:∀y∈a.toList.take na,rk y<=kv rk b (nb-1)){Q:ForInStep B6->qk->Prop}
 (h:∀z,U1 rk a b N z->Q z st):wpS (ax prog w) A E s (Ek a b mg ac bc na nb out) Q st:=by
 obtain⟨gm,gp,g1,g2,g3,g4⟩:=g;have ha:na-1<a.size:=by lia
 have hb:nb-1<b.size:=by lia
 have pb:=Mz hb out;rw[show nb-1+1=nb by lia] at pb;unfold Ek;refine Ak (DW hb ?_);obtain⟨m1,m2⟩:=QK gm gp (nb-1) (by lia) g4 pb (fun i h1 h2 y hy=>by
  have e:i=nb-1:=by lia
  subst e;exact hle y hy);by_cases e:nb-1=1
 ·rw[AH (by simpa using e)];exact Aq (h _ (.inl ⟨_,rfl,QB m1 m2 e T.nb T.first⟩))
 ·rw[AG (by simpa using e)];have g':Mh rk a b (out.push (b.getD (nb-1) dK)) na (nb-1):=⟨m1,m2,g1,g2,by lia,by lia⟩;refine Ak (DW ha (Ak (LV hc hk (T.MN _ (getD_mem ha)) T.L7 (by lia) (by lia) (T.ub.part (by lia)) fun k k1 k2 k3=>?_)));simp only[Nat.zero_add] at k2 k3;dsimp only;have rest:∀y∈b.toList.take k,rk y<=kv rk a (na-1):=fun y hy=>by obtain⟨j,_,j2,rfl⟩:=Ib (xs:=b) (m:=0) (n:=k) (by lia) hy;have h1:=k2 j j2;show kv rk b j<=rk (a.getD (na-1) dK);rcases h1 with z|⟨_,z⟩<;>lia
  by_cases k0:nb-1-k>0
  ·rw[AH k0];obtain⟨n1,n2⟩:=QK m1 m2 k k1 (by lia) (Xo (xs:=b) k (nb-1) (out.push (b.getD (nb-1) dK))) (fun i h1 h2 y hy=>by
    have h3:=k3 i h1 h2;have h4:=Ph T.ua (i:=na-1) (by lia) ha y hy;have h5:rk (a.getD (na-1) dK)<=kv rk b i:=by rcases h3 with z|⟨_,z⟩<;>lia
    exact BF h4 h5);by_cases e1:k=1
   ·rw[AH (by simpa using e1)];exact Aq (h _ (.inl ⟨_,rfl,QB n1 n2 e1 T.nb T.first⟩))
   ·rw[AG (by simpa using e1)];by_cases e2:k=0
    ·rw[AH (by simpa using e2)];exact Aq (h _ (.inl ⟨_,rfl,pe n1 n2 e2⟩))
    ·rw[AG (by simpa using e2)];exact Z3 T ⟨n1,n2,g1,g2,by lia,by lia⟩ (by lia) rest h
  ·rw[AG k0];have k00:k=nb-1:=by lia
   subst k00;exact Z3 T g' (by lia) rest h
def Zu(hc:C7 prog w A s κ rk a0)(T:F7 rk a0 a b)(hk:kindOf st=κ){mg:Nat}{N:Nat}(g:Mh rk a b out na nb)(hN:na+nb<=N){Q:ForInStep B6->qk->Prop}
 (h:∀z st',Sm st st'->U1 rk a b N z->Q z st'):wpS (ax prog w) A E s (Fc a b mg ac bc na nb out) Q st:=by
 obtain⟨gm,gp,g1,g2,g3,g4⟩:=id g;have ha:na-1<a.size:=by lia
 have hb:nb-1<b.size:=by lia
 unfold Fc;refine Ak (O9 fun st' sm=>Ak (DW hb (Ak (LV hc (sm.k.trans hk) (T.L7 _ (getD_mem hb)) T.MN (by lia) (by lia) (T.ua.part (by lia)) fun k k1 k2 k3=>?_))));simp only[Nat.zero_add] at k2 k3;dsimp only;have rest:∀y∈a.toList.take k,rk y<=kv rk b (nb-1):=fun y hy=>by obtain⟨j,_,j2,rfl⟩:=Ib (xs:=a) (m:=0) (n:=k) (by lia) hy;have h1:=k2 j j2;show kv rk a j<=rk (b.getD (nb-1) dK);rcases h1 with z|⟨_,z⟩<;>lia
 by_cases k0:na-k>0
 ·rw[AH k0];obtain⟨n1,n2⟩:=QE gm gp k k1 g2 (Xo (xs:=a) k na out) (fun i h1 h2 y hy=>by
   have h3:=k3 i h1 h2;have h4:=Ph T.ub (i:=nb-1) (by lia) hb y hy;have h5:rk (b.getD (nb-1) dK)<=kv rk a i:=by rcases h3 with z|⟨_,z⟩<;>lia
   exact BF h4 h5);by_cases e2:k=0
  ·rw[AH (by simpa using e2)];exact Aq (h _ _ sm (.inl ⟨_,rfl,QG n1 n2 e2⟩))
  ·rw[AG (by simpa using e2)];exact aA hc T (sm.k.trans hk) ⟨n1,n2,by lia,by lia,g3,g4⟩ (by lia) rest fun z hz=>h z _ sm hz
 ·rw[AG k0];have k00:k=na:=by lia
  subst k00;exact aA hc T (sm.k.trans hk) g hN rest fun z hz=>h z _ sm hz
def nG(hc:C7 prog w A s κ rk a0)(T:F7 rk a0 a b)(hk:kindOf st=κ){mg:Nat}{N:Nat}(g:Mh rk a b out na nb)(hN:na+nb<=N){Q:B6->qk->Prop}
 (h:∀z st',Sm st st'->bo rk a b N z->Q z st'):wpS (ax prog w) A E s (K3 a b na nb out mg ac bc) Q st:=by
 unfold K3;refine FA (I:=fun x c st'=>Sm st st'/\Uk rk a b N c) ?_ ?_ ⟨Sm.Jf _,rfl,g,hN⟩
 ·rintro x c st' _ hx ⟨sm,c1,c2,c3⟩;by_cases e3:c.2.2.2.2.1>1
  ·rw[AH e3];refine Zu hc T (sm.k.trans hk) c2 c3 fun z st'' s2 hz=>?_
   cases z with
   |done z=>exact h z _ (sm.trans s2) hz
   |yield z=>exact⟨sm.trans s2,hz⟩
  ·rw[AG e3];refine Zu hc T (sm.k.trans hk) c2 c3 fun z st'' s2 hz=>?_
   cases z with
   |done z=>exact h z _ (sm.trans s2) hz
   |yield z=>exact⟨sm.trans s2,hz⟩
 ·rintro c st' ⟨sm,hz⟩;exact h c st' sm (.inr hz)
def kX(hc:C7 prog w A s κ rk a0)(T:F7 rk a0 a b)(hk:kindOf st=κ){Q:Array cm->qk->Prop}(h:∀r st',Sm st st'->Me rk a b r->Q r st'):wpS (ax prog w) A E s (SQ a b) Q st:=by
 rw[jR];unfold high;have nb:=T.nb;have na:=T.na;have ha:a.size-1<a.size:=by lia
 refine Ak (LW (Ht ⟨rfl,?_⟩));refine Ak (DW ha ?_);have pa:=Mz ha #[];rw[show a.size-1+1=a.size by lia] at pa;have ta:a.toList.take a.size=a.toList:=Fj (by simp);have tb:b.toList.take b.size=b.toList:=Fj (by simp);obtain⟨m1,m2⟩:=QE (rk:=rk) (a:=a) (b:=b) (out:= #[]) (na:=a.size) (nb:=b.size) ⟨by rw[ta];show SL rk (a.toList++[]);rw[Ct];exact P7 T.ua,by rw[tb];show SL rk (b.toList++[]);rw[Ct];exact P7 T.ub⟩
  (by rw[K4 (by simp),K4 (by simp)];exact Oh _) (a.size-1) (by lia) (Ad _) pa (fun i h1 h2 y hy=>by
  have e:i=a.size-1:=by lia
  subst e;exact T.last y (Gv hy));by_cases e1:a.size-1=0
 ·rw[AH (by simpa using e1)];exact Aq (h _ _ (Sm.Jf _) (QG m1 m2 e1))
 ·rw[AG (by simpa using e1)];by_cases e2:b.size=1
  ·rw[AH (by simpa using e2)];exact Aq (h _ _ (Sm.Jf _) (QB m1 m2 e2 T.nb T.first))
  ·rw[AG (by simpa using e2)];refine Ak (Hz (Ak ?_));unfold Qk;refine FA (I:=fun x c st'=>Sm st st'/\∃out na nb mg,c=(none,na,nb,out,mg)/\Mh rk a b out na nb/\na+nb+x+1<=a.size+b.size) ?_ ?_ ⟨Sm.Jf _,_,_,_,_,rfl,⟨m1,m2,by lia,by lia,by lia,Ad _⟩,by lia⟩
   ·rintro x c st' _ hx ⟨sm,out,na,nb,mg,rfl,g,hx2⟩;refine Ak (nE (N:=a.size+b.size-x-1) hc T (sm.k.trans hk) g (by lia) (fun r z hr=>Aq ?_) fun out na nb ac bc g2 hx3=>?_)
    ·exact Aq (h r _ sm hr)
    ·refine Ak (LW (Ht ⟨rfl,?_⟩));refine Ak (nG (N:=a.size+b.size-x-2) hc T (sm.k.trans hk) g2 (by lia) fun z st2 s2 hz=>?_);obtain⟨r,na',nb',o,mg',ac',bc'⟩:=z;rcases hz with⟨r',rfl,hr⟩|⟨rfl,g3,hx4⟩
     ·exact Aq (Aq (h r' _ (sm.trans s2) hr))
     ·have g5:0<na':=g3.ha;have hx5:na'+nb'<=a.size+b.size-x-2:=hx4;exact Ak (O9 fun st3 s3=>Aq ⟨(sm.trans s2).trans s3,o,na',nb',_,rfl,g3,by lia⟩)
   ·rintro c st' ⟨sm,out,na,nb,mg,rfl,g,hx2⟩;exfalso
    lia
end
section
variable(rk:cm->Nat)
def Y7{src d:Nat}(hs:src<xs.size)(hd:d<=src)(k:Nat):kv rk (bubble xs src d) k=if k=src-d then kv rk xs src else if src-d<k/\k<=src then kv rk xs (k-1) else kv rk xs k:=by
 have e:=getElem?_bubble hs d hd k;by_cases h1:k=src-d
 ·rw[AH h1] at e⊢;exact ID rk e
 ·rw[AG h1] at e⊢;by_cases h2:src-d<k/\k<=src
  ·rw[AH h2] at e⊢;exact ID rk e
  ·rw[AG h2] at e⊢;exact ID rk e
end
section
variable{P:Array (Nat×Nat×Nat)}
def iw(hc:C7 prog w A s κ rk a0){n ok:Nat}{Q:Bool->qk->Prop}(hn:lo+n<=a0.size)(h1:1<=ok)(hok:ok<=n)(hB:Ok κ a0 lo P st)(hs:Up rk (dq st) lo (lo+ok))
 (h:∀st',Ok κ a0 lo P st'->Up rk (dq st') lo (lo+n)->Q true st'):wpS (ax prog w) A E s (binarySort' lo n ok) Q st:=by
 rw[binarySort'_eq];refine Ak (sr (FA (I:=fun k c st'=>c=(none,())/\Ok κ a0 lo P st'/\Up rk (dq st') lo (lo+min k n))
  (Q:=fun c st'=>c=(none,())/\Ok κ a0 lo P st'/\Up rk (dq st') lo (lo+n)) ?_ ?_ ⟨rfl,hB,by rw[show min (max ok 1) n=ok by lia];exact hs⟩) ?_)
 ·rintro k c st' hak hkn ⟨rfl,hB',hs'⟩;rw[show min k n=k by lia] at hs';have hk:lo+k<a0.size:=by lia
  refine Ak (sr (FA (I:=fun x c st''=>st''=st'/\∃l r,c=(none,l,r)/\l<=r/\r<=k/\r-l<=k-x/\
   (∀i,i<l->kv rk (dq st') (lo+i)<=kv rk (dq st') (lo+k))/\(∀i,r<=i->i<k->kv rk (dq st') (lo+k)<kv rk (dq st') (lo+i)))
   (Q:=fun c st''=>st''=st'/\∃l r,c=(none,l,r)/\l<=k/\
    (∀i,i<l->kv rk (dq st') (lo+i)<=kv rk (dq st') (lo+k))/\(∀i,l<=i->i<k->kv rk (dq st') (lo+k)<kv rk (dq st') (lo+i))) ?_ ?_ ⟨rfl,0,k,rfl,by lia,by lia,by lia,fun i hi=>by lia,fun i h1 h2=>by lia⟩) ?_)
  ·rintro x c st'' _ hxk ⟨rfl,l,r,rfl,hlr,hrk,hm,hlo,hhi⟩;dsimp only;by_cases hge:l>=r
   ·rw[AH hge];have:l=r:=by lia
    subst this;exact Aq ⟨rfl,l,l,rfl,hrk,hlo,hhi⟩
   ·rw[AG hge];refine Ak (NY hc hB' hk (by lia) ?_);by_cases hl:kv rk (dq st'') (lo+k)<kv rk (dq st'') (lo+(l+r)/2)
    ·simp only[hl,LJ,CH];refine Aq ⟨rfl,l,(l+r)/2,rfl,by lia,by lia,by lia,hlo,fun i a b=>?_⟩;exact C8 hl (hs' _ _ (by lia) (by lia) (by lia))
    ·simp only[hl,LF,DU,Bs];refine Aq ⟨rfl,(l+r)/2+1,r,rfl,by lia,by lia,by lia,fun i a=>?_,hhi⟩;exact BF (hs' (lo+i) (lo+(l+r)/2) (by lia) (by lia) (by lia)) (Ob hl)
  ·rintro c st'' ⟨rfl,l,r,rfl,hlr,hrk,hm,hlo,hhi⟩;have:l=r:=by lia
   subst this;exact⟨rfl,l,l,rfl,hrk,hlo,hhi⟩
  ·rintro c st'' ⟨rfl,l,r,rfl,hlk,hlo,hhi⟩;show wpS _ _ _ _ (moveDown' (lo+k) (lo+l)>>=fun _=>pure (ForInStep.yield (none,()))) _ _;rw[moveDown'_eq];have hks:lo+k<(dq st'').size:=by rw[hB'.size];exact hk
   refine Ak (KD (Aq ⟨rfl,hB'.set (bubble_perm _ _ _) (fun j hj=>?_),?_⟩))
   ·rw[getElem?_bubble hks _ (by lia),AG (by lia),AG (by lia)]
   ·rw[show min (k+1) n=k+1 by lia];intro i j a b c;show kv rk (bubble (dq st'') (lo+k) (lo+k-(lo+l))) i<=kv rk (bubble (dq st'') (lo+k) (lo+k-(lo+l))) j;rw[Y7 rk hks (by lia),Y7 rk hks (by lia),show lo+k-(lo+k-(lo+l))=lo+l by lia];have lo':∀i,lo<=i->i<lo+l->kv rk (dq st'') i<=kv rk (dq st'') (lo+k):=fun i x y=>by
     have:=hlo (i-lo) (by lia)
     rwa [show lo+(i-lo)=i by lia] at this
    have hi':∀i,lo+l<=i->i<lo+k->kv rk (dq st'') (lo+k)<kv rk (dq st'') i:=fun i x y=>by
     have:=hhi (i-lo) (by lia) (by lia)
     rwa [show lo+(i-lo)=i by lia] at this
    repeat' split
    all_goals first
     |(exfalso;lia)
     |exact Ad _
     |exact lo' _ (by lia) (by lia)
     |exact Fm (hi' _ (by lia) (by lia))
     |exact hs' _ _ (by lia) (by lia) (by lia)
 ·rintro c st' ⟨hc',hB',hs'⟩;refine⟨hc',hB',?_⟩
  rwa [show min (max (max ok 1) n) n=n by lia] at hs'
 ·rintro c st' ⟨rfl,hB',hs'⟩;exact Aq (h st' hB' hs')
end
noncomputable def wr(sa:Nat)(xs:Array cm)(l:List (cm×Nat)):Array cm:=l.foldl (fun a x=>match x with|(p,j)=>a.setIfInBounds (sa+j) p) xs
def YK:∀(l:List cm)(n sa:Nat)(xs:Array cm)(p m q:List cm),xs.toList=p++m++q->p.length=sa+n->m.length=l.length->(wr sa xs (l.zipIdx n)).toList=p++l++q
 |[],n,sa,xs,p,m,q,e,hp,hm=>by have:m=[]:=Qo.mp hm;subst this;exact e
 |x::l,n,sa,xs,p,m,q,e,hp,hm=>by
  match m,hm with
  |y::m,hm=>
   have hm':m.length=l.length:=by simpa using hm
   have:=YK l (n+1) sa (xs.setIfInBounds (sa+n) x) (p++[x]) m q (by rw[Array.toList_setIfInBounds,e,<-hp];simp) (by simp;lia) hm';rw[List.zipIdx_cons];show(wr sa (xs.setIfInBounds (sa+n) x) (l.zipIdx (n+1))).toList=_;rw[this];simp
def Sx(i sa na pw sb nb:Nat)(st:qk):SM Bool:=
 set (rW st (((dA st).setIfInBounds i (sa,na+nb,pw)).eraseIdxIfInBounds (i+1)))>>=fun _=>rL (dq st) sb>>=fun y=>JK false y (dq st) sa na 0>>=fun t=>
  match t with
  |some k=>
   if(na-k==0)=true then pure true
   else rL (dq st) (sa+k+(na-k)-1)>>=fun x=>JK true x (dq st) sb nb (nb-1)>>=fun t=>
    match t with
    |some m=>
     if(m==0)=true then pure true
     else if na-k<=m then(SS ((dq st).extract (sa+k) sb) ((dq st).extract sb (sb+m))>>=fun r=>modify (fun z=>setArr z (wr (sa+k) (dq z) r.toList.zipIdx))>>=fun _=>get>>=fun z=>pure (qz z).isNone)
      else(SQ ((dq st).extract (sa+k) sb) ((dq st).extract sb (sb+m))>>=fun r=>modify (fun z=>setArr z (wr (sa+k) (dq z) r.toList.zipIdx))>>=fun _=>get>>=fun z=>pure (qz z).isNone)
    |none=>pure false
  |none=>pure false
def dk{Q:Bool->qk->Prop}{sa pw sb pb:Nat}(h1:(dA st)[i]? =some (sa,na,pw))(h2:(dA st)[i+1]? =some (sb,nb,pb))
 (h:wpS M A E s (Sx i sa na pw sb nb st) Q st):wpS M A E s (tu i) Q st:=by
 have e:tu i=(get>>=fun st:qk=>(match((dA st)[i]?,(dA st)[i+1]?) with
  |(some (sa,na,pw),some (sb,nb,_))=>Sx i sa na pw sb nb st
  |_=>liftM (rN "internal:list.sort.pending" :Sem Bool):SM Bool)):=by
  refine BH rfl fun st=>?_
  cases(dA st)[i]?with
  |none=>rfl
  |some x=>
   cases(dA st)[i+1]?with
   |none=>rfl
   |some y=>
    refine BH rfl fun _=>BH rfl fun _=>BH rfl fun t=>?_
    cases t with
    |none=>rfl
    |some k=>refine DV rfl (fun _=>rfl) fun _=>BH rfl fun _=>BH rfl fun t=>?_;cases t<;>rfl
 rw[e];refine Ak (Hz ?_);rw[h1,h2];exact h
noncomputable def seg(xs:Array cm)(lo hi:Nat):List cm:=(xs.toList.take hi).drop lo
def Tc{hi:Nat}(hh:hi<=xs.size):Up rk xs lo hi↔SL rk (seg xs lo hi):=by
 have hl:xs.toList.length=xs.size:=by simp
 have at_:∀i (h:i<(seg xs lo hi).length),rk (seg xs lo hi)[i]=kv rk xs (lo+i):=fun i h=>by have h':=h;unfold seg at h';rw[C9,Bc] at h';rw[NI (by lia)];congr 1;refine Ai ?_;rw[<-Ap,<-Ap];unfold seg;rw[Jv,OV,AH (by lia)]
 have len:(seg xs lo hi).length=hi-lo:=by unfold seg;rw[C9,Bc];lia
 constructor
 ·intro h;refine OH.mpr fun i j hi' hj' hij=>?_;rw[at_ i hi',at_ j hj'];exact h _ _ (by lia) (by lia) (by lia)
 ·intro h i j a b c;by_cases e:i=j
  ·subst e;exact Ad _
  ·have:=OH.mp h (i-lo) (j-lo) (by lia) (by lia) (by lia);rw[at_ _ (by lia),at_ _ (by lia)] at this
   rwa [show lo+(i-lo)=i by lia,show lo+(j-lo)=j by lia] at this
def PY(xs:Array cm){a b c:Nat}(h1:a<=b)(h2:b<=c)(h3:c<=xs.size):seg xs a c=seg xs a b++seg xs b c:=by
 have hl:xs.toList.length=xs.size:=by simp
 unfold seg;have e:xs.toList.take c=xs.toList.take b++(xs.toList.take c).drop b:=by
  have:=(DQ b (xs.toList.take c)).symm
  rwa [RQ,J1 h2] at this
 conv=>lhs;rw[e]
 rw[Qm (by rw[Bc];lia)]
def So(xs:Array cm){a b:Nat}(h:b<=xs.size):(seg xs a b).length=b-a:=by
 have hl:xs.toList.length=xs.size:=by simp
 unfold seg;rw[C9,Bc]
 lia
def Le(xs:Array cm)(a b:Nat):(xs.extract a b).toList=seg xs a b:=by rw[M9];unfold seg;rw[List.drop_take]
def ZO{a b:Nat}(hb:b<=xs.size)(hi:i<b-a):kv rk (xs.extract a b) i=kv rk xs (a+i):=by refine ID rk ?_;rw[Array.getElem?_extract,AH (by lia)]
structure OF(rk:cm->Nat)(xs ys:Array cm)(lo hi:Nat):Prop where
 pm:ys.Perm xs
 up:Up rk ys lo hi
 out:∀k,k<lo\/hi<=k->ys[k]? =xs[k]?
def lT{ys:Array cm}{p q hi:Nat}{r:List cm}(h1:lo<=p)(h2:p<=q)(h3:q<=hi)(h4:hi<=xs.size)(hr:r.Perm (seg xs p q))(hs:SL rk (seg xs lo p++r++seg xs q hi))(e:ys.toList=xs.toList.take p++r++xs.toList.drop q):
 OF rk xs ys lo hi:=by
 have hl:xs.toList.length=xs.size:=by simp
 have ep:xs.toList.take p=xs.toList.take lo++seg xs lo p:=by
  have:=(DQ lo (xs.toList.take p)).symm
  rwa [RQ,J1 h1] at this
 have eq':xs.toList.drop q=seg xs q hi++xs.toList.drop hi:=by
  have e5:xs.toList=xs.toList.take hi++xs.toList.drop hi:=(DQ _ _).symm;have hl':q<=(xs.toList.take hi).length:=by rw[Bc];lia
  conv=>lhs;rw[e5]
  rw[Qm hl'];rfl
 have rl:r.length=q-p:=by rw[hr.length_eq,So xs (by lia)]
 have pm:ys.Perm xs:=by
  refine MP.mpr ?_;rw[e];have e6:xs.toList=xs.toList.take p++seg xs p q++xs.toList.drop q:=by
   have e7:xs.toList.drop p=seg xs p q++xs.toList.drop q:=by
    have e5:xs.toList=xs.toList.take q++xs.toList.drop q:=(DQ _ _).symm;have hl':p<=(xs.toList.take q).length:=by rw[Bc];lia
    conv=>lhs;rw[e5]
    rw[Qm hl'];rfl
   rw[Bb,<-e7,DQ]
  conv=>rhs;rw[e6]
  exact(hr.append_left _).append_right _
 have sz:ys.size=xs.size:=pm.size_eq;have el:ys.toList=xs.toList.take lo++(seg xs lo p++r++seg xs q hi)++xs.toList.drop hi:=by rw[e,ep,eq'];simp only[Bb]
 have ml:(seg xs lo p++r++seg xs q hi).length=hi-lo:=by
  rw[Au,Au,rl,So xs (by lia),So xs h4]
  lia
 have tl:(xs.toList.take lo).length=lo:=by rw[Bc];lia
 refine⟨pm,(Tc (by lia)).mpr ?_,fun k hk=>?_⟩
 ·have:seg ys lo hi=seg xs lo p++r++seg xs q hi:=by unfold seg;rw[el,Bb,List.take_append,Fj (by lia),List.drop_append,K4 (by lia),RM,tl,EX,Mp];rw[List.take_append,Fj (by lia),ml,EX,K9,Ct];rfl
  rw[this];exact hs
 ·rw[<-GB,<-GB,el];rcases hk with hk|hk
  ·rw[Bb,C4 (by lia),OV,AH hk]
  ·rw[Cj (by rw[Au];lia),Au,tl,ml,Jv];congr 1
   lia
def eB(hc:C7 prog w A s κ rk a0){sa pw pb:Nat}{Q:Bool->qk->Prop}(hk:kindOf st=κ)(hf:qz st=none)(hp:(dq st).Perm a0)
 (h1:(dA st)[i]? =some (sa,na,pw))(h2:(dA st)[i+1]? =some (sa+na,nb,pb))(na0:0<na)(nb0:0<nb)(hz:sa+na+nb<=(dq st).size)(ua:Up rk (dq st) sa (sa+na))(ub:Up rk (dq st) (sa+na) (sa+na+nb))
 (h:∀st':qk,kindOf st'=κ->qz st'=none->dA st'=((dA st).setIfInBounds i (sa,na+nb,pw)).eraseIdxIfInBounds (i+1)->OF rk (dq st) (dq st') sa (sa+na+nb)->Q true st'):
 wpS (ax prog w) A E s (tu i) Q st:=by
 refine dk h1 h2 ?_;unfold Sx;generalize eP:((dA st).setIfInBounds i (sa,na+nb,pw)).eraseIdxIfInBounds (i+1)=P';rw[eP] at h;have inx:∀x∈(dq st).toList,x∈a0.toList:=fun x hx=>(MP.mp hp).mem_iff.mp hx;generalize eX:dq st=xs at*;have hb:sa+na<xs.size:=by lia
 refine Ak (show wpS _ _ _ _ (set (rW st P'):SM PUnit) _ _ from ?_);unfold wpS;rw[StateT.run_set];refine Af ⟨rfl,?_⟩;show wpS _ _ _ _ _ _ (rW st P');have k1:kindOf (rW st P')=κ:=hk;refine Ak (DW hb (Ak (LV hc k1 (inx _ (getD_mem hb)) inx (by lia) na0 ua fun k a1 a2 a3=>?_)));dsimp only;have Ec:OF rk xs xs sa (sa+na+nb)->Q true (rW st P'):=fun g=>h _ k1 hf rfl (by rw[show dq (rW st P')=xs from eX];exact g);have cat:(kv rk xs (sa+na-1)<=kv rk xs (sa+na))->OF rk xs xs sa (sa+na+nb):=fun hle=>⟨Array.Perm.refl _,fun x y b1 b2 b3=>by
  by_cases c1:y<sa+na
  ·exact ua x y b1 b2 c1
  ·by_cases c2:sa+na<=x
   ·exact ub x y c2 b2 b3
   ·exact BF (ua x (sa+na-1) b1 (by lia) (by lia)) (BF hle (ub (sa+na) y (Ad _) (by lia) b3)),fun _ _=>rfl⟩;by_cases e1:na-k=0
 ·rw[AH (by simpa using e1)];refine Aq (Ec (cat ?_));have:=a2 (na-1) (by lia);rw[show sa+(na-1)=sa+na-1 by lia] at this;show kv rk xs (sa+na-1)<=rk (xs.getD (sa+na) dK);rcases this with z|⟨_,z⟩<;>lia
 ·rw[AG (by simpa using e1)];rw[show sa+k+(na-k)-1=sa+na-1 by lia];have hl:sa+na-1<xs.size:=by lia
  refine Ak (DW hl (Ak (LV hc k1 (inx _ (getD_mem hl)) inx hz (by lia) ub fun m b1 b2 b3=>?_)));dsimp only;by_cases e2:m=0
  ·rw[AH (by simpa using e2)];refine Aq (Ec (cat ?_));have:=b3 0 (by lia) nb0;rw[Nat.add_zero] at this;show rk (xs.getD (sa+na-1) dK)<=_;rcases this with z|⟨_,z⟩<;>lia
  ·rw[AG (by simpa using e2)];have sx:(xs.extract (sa+k) (sa+na)).size=na-k:=by rw[Array.size_extract];lia
   have sy:(xs.extract (sa+na) (sa+na+m)).size=m:=by rw[Array.size_extract];lia
   have kx:∀j,j<na-k->kv rk (xs.extract (sa+k) (sa+na)) j=kv rk xs (sa+k+j):=fun j hj=>ZO (by lia) (by lia);have ky:∀j,j<m->kv rk (xs.extract (sa+na) (sa+na+m)) j=kv rk xs (sa+na+j):=fun j hj=>ZO (by lia) (by lia);have T:F7 rk a0 (xs.extract (sa+k) (sa+na)) (xs.extract (sa+na) (sa+na+m)):=by
    refine⟨fun x hx=>inx x ?_,fun x hx=>inx x ?_,fun x y _ c2 c3=>?_,fun x y _ c2 c3=>?_,by lia,by lia,fun y hy=>?_,fun y hy=>?_⟩
    ·rw[Le] at hx;exact Gv (I0 hx)
    ·rw[Le] at hx;exact Gv (I0 hx)
    ·rw[kx x (by lia),kx y (by lia)];exact ua _ _ (by lia) (by lia) (by lia)
    ·rw[ky x (by lia),ky y (by lia)];exact ub _ _ (by lia) (by lia) (by lia)
    ·rw[Le] at hy;obtain⟨j,j1,j2,rfl⟩:=Ib (by lia) hy;rw[ky 0 (by lia),Nat.add_zero];have:=a3 (j-sa) (by lia) (by lia);rw[show sa+(j-sa)=j by lia] at this;show rk (xs.getD (sa+na) dK)<=kv rk xs j;rcases this with z|⟨_,z⟩<;>lia
    ·rw[Le] at hy;obtain⟨j,j1,j2,rfl⟩:=Ib (by lia) hy;rw[sx,kx (na-k-1) (by lia),show sa+k+(na-k-1)=sa+na-1 by lia];have:=b2 (j-(sa+na)) (by lia);rw[show sa+na+(j-(sa+na))=j by lia] at this;show kv rk xs j<=rk (xs.getD (sa+na-1) dK);rcases this with z|⟨_,z⟩<;>lia
   have fin:∀r st',Sm (rW st P') st'->Me rk (xs.extract (sa+k) (sa+na)) (xs.extract (sa+na) (sa+na+m)) r->OF rk xs (wr (sa+k) (dq st') r.toList.zipIdx) sa (sa+na+nb):=fun r st' sm me=>by
    have ea:dq st'=xs:=sm.a.trans eX;have pr:=me.pm;rw[Le,Le,<-PY xs (by lia) (by lia) (by lia)] at pr;have hL:xs.toList.length=xs.size:=by simp
    refine lT (r:=r.toList) (p:=sa+k) (q:=sa+na+m) (by lia) (by lia) (by lia) hz pr ?_ ?_
    ·have cross:∀x∈seg xs sa (sa+k),∀y∈seg xs (sa+na) (sa+na+nb),rk x<=rk y:=fun x hx y hy=>by
      obtain⟨i1,c1,c2,rfl⟩:=Ib (by lia) hx;obtain⟨j1,d1,d2,rfl⟩:=Ib hz hy;have f1:=a2 (i1-sa) (by lia);rw[show sa+(i1-sa)=i1 by lia] at f1;have f2:=ub (sa+na) j1 (Ad _) d1 d2;have f3:kv rk xs i1<=kv rk xs (sa+na):=by show kv rk xs i1<=rk (xs.getD (sa+na) dK);rcases f1 with z|⟨_,z⟩<;>lia
      exact BF f3 f2
     have cross2:∀x∈seg xs sa (sa+na),∀y∈seg xs (sa+na+m) (sa+na+nb),rk x<=rk y:=fun x hx y hy=>by
      obtain⟨i1,c1,c2,rfl⟩:=Ib (by lia) hx;obtain⟨j1,d1,d2,rfl⟩:=Ib hz hy;have f1:=b3 (j1-(sa+na)) (by lia) (by lia);rw[show sa+na+(j1-(sa+na))=j1 by lia] at f1;have f2:=ua i1 (sa+na-1) c1 (by lia) (by lia);have f3:kv rk xs (sa+na-1)<=kv rk xs j1:=by show rk (xs.getD (sa+na-1) dK)<=kv rk xs j1;rcases f1 with z|⟨_,z⟩<;>lia
      exact BF f2 f3
     have sA:=(Tc (rk:=rk) (lo:=sa) (hi:=sa+na) (by lia)).mp ua;have sB:=(Tc (rk:=rk) (lo:=sa+na) (hi:=sa+na+nb) hz).mp ub;have spA:seg xs sa (sa+na)=seg xs sa (sa+k)++seg xs (sa+k) (sa+na):=PY xs (by lia) (by lia) (by lia);have spB:seg xs (sa+na) (sa+na+nb)=seg xs (sa+na) (sa+na+m)++seg xs (sa+na+m) (sa+na+nb):=PY xs (by lia) (by lia) hz;have spM:seg xs (sa+k) (sa+na+m)=seg xs (sa+k) (sa+na)++seg xs (sa+na) (sa+na+m):=PY xs (by lia) (by lia) (by lia);rw[spA] at sA;rw[spB] at sB;obtain⟨u1,u2,u3⟩:=SL.app.mp sA;obtain⟨v1,v2,v3⟩:=SL.app.mp sB;refine SL.app.mpr ⟨SL.app.mpr ⟨u1,me.sl,fun x hx y hy=>?_⟩,v2,fun x hx y hy=>?_⟩
     ·have hy':=pr.mem_iff.mp hy;rw[spM] at hy';rcases Bk.mp hy' with z|z
      ·exact u3 x hx y z
      ·exact cross x hx y (by rw[spB];exact GC _ z)
     ·rcases Bk.mp hx with z|z
      ·exact cross x z y (by rw[spB];exact Dq _ hy)
      ·have hx':=pr.mem_iff.mp z;rw[spM] at hx';rcases Bk.mp hx' with z|z
       ·exact cross2 x (by rw[spA];exact Dq _ z) y hy
       ·exact v3 x z y hy
    ·rw[ea];refine YK r.toList 0 (sa+k) xs (xs.toList.take (sa+k)) (seg xs (sa+k) (sa+na+m)) (xs.toList.drop (sa+na+m)) ?_ ?_ pr.length_eq.symm
     ·have e7:xs.toList.take (sa+na+m)=xs.toList.take (sa+k)++seg xs (sa+k) (sa+na+m):=by
       have:=(DQ (sa+k) (xs.toList.take (sa+na+m))).symm
       rwa [RQ,J1 (by lia)] at this
      rw[<-e7,DQ]
     ·rw[Bc];lia
   by_cases e3:na-k<=m
   ·rw[AH e3];refine Ak (n9 hc T k1 fun r st' sm me=>Ak (KD (Ak (Hz (Aq ?_)))));have ff:qz st'=none:=sm.f.trans hf;show Q (qz st').isNone _;rw[ff];exact h _ (sm.k.trans k1) ff sm.p (fin r st' sm me)
   ·rw[AG e3];refine Ak (kX hc T k1 fun r st' sm me=>Ak (KD (Ak (Hz (Aq ?_)))));have ff:qz st'=none:=sm.f.trans hf;show Q (qz st').isNone _;rw[ff];exact h _ (sm.k.trans k1) ff sm.p (fin r st' sm me)
section
variable(rk:cm->Nat)
def Chain(xs:Array cm):Nat->List (Nat×Nat×Nat)->Nat->Prop
 |b,[],e=>b=e
 |b,(s,n,_)::r,e=>s=b/\0<n/\Up rk xs s (s+n)/\Chain xs (s+n) r e
end
def Chain.le{xs:Array cm}:∀{b e:Nat}{p:List (Nat×Nat×Nat)},Chain rk xs b p e->b+p.length<=e
 |b,e,[],h=>by have h':b=e:=h;simp;lia
 |b,e,(s,n,_)::r,⟨h1,h2,_,h3⟩=>by
  have:=Chain.le h3;simp only[CS]
  lia
def Chain.app{xs:Array cm}{e:Nat}{q:List (Nat×Nat×Nat)}:∀{b:Nat}{p:List (Nat×Nat×Nat)},Chain rk xs b (p++q) e↔∃m,Chain rk xs b p m/\Chain rk xs m q e
 |b,[]=>⟨fun h=>⟨b,rfl,h⟩,fun⟨m,h1,h2⟩=>by have h1':b=m:=h1;subst h1';exact h2⟩
 |b,(s,n,_)::r=>⟨fun⟨h1,h2,h3,h4⟩=>by obtain⟨m,a,c⟩:=Chain.app.mp h4;exact⟨m,⟨h1,h2,h3,a⟩,c⟩,fun⟨m,⟨h1,h2,h3,a⟩,c⟩=>⟨h1,h2,h3,Chain.app.mpr ⟨m,a,c⟩⟩⟩
def Chain.same{xs ys:Array cm}:∀{b e:Nat}{p:List (Nat×Nat×Nat)},(∀k,b<=k->k<e->ys[k]? =xs[k]?)->Chain rk xs b p e->Chain rk ys b p e
 |b,e,[],_,h=>h
 |b,e,(s,n,_)::r,hk,⟨h1,h2,h3,h4⟩=>by have hl:=Chain.le h4;refine⟨h1,h2,fun i j a c d=>?_,Chain.same (fun k a c=>hk k (by lia) c) h4⟩;rw[ID rk (hk i (by lia) (by lia)),ID rk (hk j (by lia) (by lia))];exact h3 i j a c d
def Chain.pw{xs:Array cm}{f:Nat×Nat×Nat->Nat×Nat×Nat}(hf:∀x,(f x).1=x.1/\(f x).2.1=x.2.1):∀{b e:Nat}{p:List (Nat×Nat×Nat)}{i:Nat},Chain rk xs b p e->Chain rk xs b (p.modify i f) e
 |b,e,[],i,h=>by cases i<;>exact h
 |b,e,x::r,0,h=>by obtain⟨s,n,q⟩:=x;obtain⟨e1,e2⟩:=hf (s,n,q);show Chain rk xs b (f (s,n,q)::r) e;generalize f (s,n,q)=y at e1 e2;obtain⟨s',n',q'⟩:=y;dsimp only at e1 e2;subst e1;subst e2;exact h
 |b,e,(s,n,q)::r,i+1,⟨h1,h2,h3,h4⟩=>⟨h1,h2,h3,Chain.pw hf h4⟩
structure RS(κ:SortKind)(rk:cm->Nat)(a0:Array cm)(lo:Nat)(st:qk):Prop where
 kind:kindOf st=κ
 failed:qz st=none
 perm:(dq st).Perm a0
 chain:Chain rk (dq st) 0 (dA st).toList lo
def Z0(hc:C7 prog w A s κ rk a0){Q:Bool->qk->Prop}(R:RS κ rk a0 lo st)(hlo:lo<=a0.size)(hi:i+1<(dA st).size)
 (h:∀st',RS κ rk a0 lo st'->(dA st').size+1=(dA st).size->(∀k,lo<=k->(dq st')[k]? =(dq st)[k]?)->Q true st'):wpS (ax prog w) A E s (tu i) Q st:=by
 have hL:(dA st).toList.length=(dA st).size:=by simp
 have hsz:(dq st).size=a0.size:=R.perm.size_eq;have e1:(dA st).toList=(dA st).toList.take i++((dA st).toList[i]'(by lia)::(dA st).toList[i+1]'(by lia)::(dA st).toList.drop (i+2)):=by rw[<-Jt,<-Jt,DQ]
 generalize ex:(dA st).toList[i]'(by lia)=x at e1;generalize ey:(dA st).toList[i+1]'(by lia)=y at e1;generalize ep:(dA st).toList.take i=p at e1;generalize eq':(dA st).toList.drop (i+2)=q at e1;obtain⟨sa,na,pw⟩:=x;obtain⟨sb,nb,pb⟩:=y;have ch:=R.chain;rw[e1] at ch;obtain⟨m,c1,c2,c3,c4,c5,c6,c7,c8⟩:=Chain.app.mp ch;subst c2;subst c5;have l1:=c1.le;have l2:=c8.le;have g1:(dA st)[i]? =some (sa,na,pw):=by rw[<-GB,Ap (by lia),ex]
 have g2:(dA st)[i+1]? =some (sa+na,nb,pb):=by rw[<-GB,Ap (by lia),ey]
 refine eB hc R.kind R.failed R.perm g1 g2 c3 c6 (by lia) c4 c7 fun st' k1 k2 k3 k4=>?_;have pl:p.length=i:=by rw[<-ep,Bc];lia
 have e2:(dA st').toList=p++((sa,na+nb,pw)::q):=by
  rw[k3,Array.toList_eraseIdxIfInBounds,Array.toList_setIfInBounds,e1,<-pl];simp[List.eraseIdx_append];intro z
  lia
 refine h st' ⟨k1,k2,k4.pm.trans R.perm,?_⟩ ?_ fun k hk=>k4.out k (.inr (by lia))
 ·rw[e2];refine Chain.app.mpr ⟨sa,c1.same fun k _ b=>k4.out k (.inl b),rfl,by lia,?_,?_⟩
  ·rw[show sa+(na+nb)=sa+na+nb by lia];exact k4.up
  ·rw[show sa+(na+nb)=sa+na+nb by lia];exact c8.same fun k a _=>k4.out k (.inr a)
 ·have h1:=BJ List.length e1;have h2:=BJ List.length e2;simp only[Au,CS,En] at h1 h2
  lia
def kh(hc:C7 prog w A s κ rk a0){Q:Unit->qk->Prop}(hk:kindOf st=κ)(hf:qz st=none)(ha:dq st=a0)(hp:dA st= #[])(h2:2<=a0.size)
 (h:∀st':qk,(dq st').Perm a0->qz st'=none->Up rk (dq st') 0 a0.size->Q () st'):wpS (ax prog w) A E s sortRuns' Q st:=by
 rw[sortRuns'_eq];refine Ak (Hz ?_);dsimp only;rw[ha];generalize minRun' a0.size a0.size 0=mr;refine Ak (sr (FA
  (I:=fun x c st'=>∃lo,c=(none,lo)/\x<=lo/\lo<=a0.size/\RS κ rk a0 lo st')
  (Q:=fun c st'=>c=(none,a0.size)/\RS κ rk a0 a0.size st') ?step ?fin ⟨0,rfl,Ad _,CG _,hk,hf,by rw[ha],by rw[hp];rfl⟩) ?post);case fin=>
  rintro c st' ⟨lo,rfl,x1,x2,R⟩;have:lo=a0.size:=by lia
  subst this;exact⟨rfl,R⟩
 case step=>
  rintro x c st' _ hx ⟨lo,rfl,x1,x2,R⟩;dsimp only;by_cases hl:lo>=a0.size
  ·rw[AH hl];have:lo=a0.size:=by lia
   subst this;exact Aq ⟨rfl,R⟩
  ·rw[AG hl];have hsz:(dq st').size=a0.size:=R.perm.size_eq;have hc':C7 prog w A s κ rk (dq st'):=fun x y hx hy C hC=>hc x y ((MP.mp R.perm).mem_iff.mp hx) ((MP.mp R.perm).mem_iff.mp hy) C hC;have B0:Ok κ (dq st') lo (dA st') st':=⟨Array.Perm.refl _,fun _ _=>rfl,R.kind,R.failed,rfl⟩;have rest:∀n st2,Ok κ (dq st') lo (dA st') st2->1<=n->lo+n<=a0.size->Up rk (dq st2) lo (lo+n)->RS κ rk a0 lo st2:=fun n st2 B n1 n2 u=>
    ⟨B.kind,B.failed,B.perm.trans R.perm,by rw[B.pend];exact R.chain.same fun k _ b=>B.fix k b⟩;have tail:∀n (st2:qk),RS κ rk a0 lo st2->1<=n->lo+n<=a0.size->Up rk (dq st2) lo (lo+n)->RS κ rk a0 (lo+n) (rW st2 ((dA st2).push (lo,n,0))):=fun n st2 R2 n1 n2 u=>
    ⟨R2.kind,R2.failed,R2.perm,by show Chain rk (dq st2) 0 ((dA st2).push (lo,n,0)).toList (lo+n);rw[Md];exact Chain.app.mpr ⟨lo,R2.chain,rfl,by lia,u,rfl⟩⟩;refine Ak (j7 (P:=dA st') hc' (by lia) (by lia) B0 fun m st2 B2 m1 m2 u2=>?_);dsimp only;rcases Decidable.em (m<mr) with hm|hm;rw[AH hm];refine Ak (LW (Ht ⟨rfl,?_⟩));refine Ak (iw (P:=dA st') hc' (by lia) m1 (by lia) B2 u2 fun st3 B3 u3=>?_);simp only[RY,DU,Bs];have n2:lo+min (a0.size-lo) mr<=a0.size:=by lia
   have n1:1<=min (a0.size-lo) mr:=by lia
   generalize min (a0.size-lo) mr=n at n1 n2 u3⊢
   rotate_left
   rw[AG hm];have n2:lo+m<=a0.size:=by lia
   have n1:=m1;have B3:=B2;have u3:=u2;generalize st2=st3 at B3 u3⊢;generalize m=n at n1 n2 u3⊢;all_goals
    refine Ak (Hz ?_);have R3:=rest n st3 B3 n1 n2 u3
    cases eb:(dA st3).back? with
    |none=>exact Ak (KD (Aq ⟨_,rfl,by lia,n2,tail n st3 R3 n1 n2 u3⟩))
    |some t=>
     obtain⟨s1,m1',pw1⟩:=t;dsimp only;generalize power' _ _ _ _=pw;refine Ak (sr (FA (I:=fun _ c st4=>c=(none,())/\RS κ rk a0 lo st4/\Up rk (dq st4) lo (lo+n)) (Q:=fun c st4=>c=(none,())/\RS κ rk a0 lo st4/\Up rk (dq st4) lo (lo+n)) ?_ (fun _ _ hh=>hh) ⟨rfl,R3,u3⟩) ?_)
     ·rintro y c st4 _ _ ⟨rfl,R4,u4⟩;refine Ak (Hz ?_);by_cases e:(dA st4).size>1
      ·rw[AH e];have hidx:(dA st4)[(dA st4).size-2]? =some ((dA st4)[(dA st4).size-2]'(by lia)):=GH ..;rw[hidx];generalize(dA st4)[(dA st4).size-2]'(by lia)=o;obtain⟨o1,o2,o3⟩:=o;dsimp only;by_cases eo:o3<=pw
       ·rw[AH eo];exact Aq ⟨rfl,R4,u4⟩
       ·rw[AG eo];refine Ak (Z0 hc R4 x2 (by lia) fun st5 R5 s5 k5=>?_);exact Aq ⟨rfl,R5,fun i j a b c=>by rw[ID rk (k5 i a),ID rk (k5 j (by lia))];exact u4 i j a b c⟩
      ·rw[AG e];exact Aq ⟨rfl,R4,u4⟩
     ·rintro c st4 ⟨rfl,R4,u4⟩;refine Ak (KD (Ak (KD (Aq ⟨_,rfl,by lia,n2,tail n _ ⟨R4.kind,R4.failed,R4.perm,?_⟩ n1 n2 u4⟩))));show Chain rk (dq st4) 0 ((dA st4).modify _ _).toList lo;rw[Array.toList_modify];exact Chain.pw (f:=fun x=>(x.1,x.2.1,pw)) (fun _=>⟨rfl,rfl⟩) R4.chain
 case post=>
  rintro c st' ⟨rfl,R⟩;dsimp only;have fin:∀st2:qk,RS κ rk a0 a0.size st2->(dA st2).size<=1->Q () st2:=fun st2 R2 hs=>by
   refine h st2 R2.perm R2.failed ?_;have ch:=R2.chain;have hL:(dA st2).toList.length=(dA st2).size:=by simp
   generalize(dA st2).toList=p at ch hL
   match p,ch with
   |[],ch=>have z:0=a0.size:=ch;lia
   |[(a,n,_)],ch=>obtain⟨z1,z2,z3,z4⟩:=ch;have z5:a+n=a0.size:=z4;subst z1;rw[<-z5];exact z3
   |_::_::_,ch=>simp at hL;lia
  refine Ak (sr (FA (I:=fun x c st2=>c=(none,())/\RS κ rk a0 a0.size st2/\(dA st2).size<=max 1 (a0.size-x)) (Q:=fun c st2=>c=(none,())/\RS κ rk a0 a0.size st2/\(dA st2).size<=1) ?_ ?_ ⟨rfl,R,?_⟩) ?_)
  ·rintro x c st2 _ hx ⟨rfl,R2,hs⟩;refine Ak (Hz ?_);by_cases e:(dA st2).size<=1
   ·rw[AH e];exact Aq ⟨rfl,R2,e⟩
   ·rw[AG e];have go:∀i,i+1<(dA st2).size->wpS (ax prog w) A E s (tu i) (fun b st3=>b=true/\RS κ rk a0 a0.size st3/\(dA st3).size<=max 1 (a0.size-(x+1))) st2:=fun i hi=>Z0 hc R2 (Ad _) hi fun st3 R3 s3 _=>⟨rfl,R3,by lia⟩;refine Ak (sr (go _ ?_) fun b st3 hb=>?_)
    ·repeat' split
     all_goals lia
    ·obtain⟨rfl,R3,s3⟩:=hb;exact Aq ⟨rfl,R3,s3⟩
  ·rintro c st2 ⟨rfl,R2,hs⟩;exact⟨rfl,R2,by lia⟩
  ·have:=R.chain.le;simp only[En] at this
   lia
  ·rintro c st2 ⟨rfl,R2,hs⟩;exact Aq (fin st2 R2 hs)
end
section
open PySem.Calls PySem.W
noncomputable def DX(w:qu):Bool:=w.params.followText "set-order"
noncomputable def tx:AB->Str
 |.str z _=>z
 |_=>""
def Ee(prog:ql)(w:qu)(h:qp)(a:Ya)(zs:List Str):Prop:=
 ∃o es ep t,h.get? a=some o/\o.ExactSet/\o.data=.set es ep t/\ElemsOf (strKind prog w) es.toList/\(es.toList.map fun e=>tx e.2).Perm zs/\zs.Nodup/\zs.length<rQ/\t.fits es.size=true/\t.led= !DX w/\(es.size=0\/t.plain=false)
def UD{v:AB}(h:(strKind prog w).is z v=true):∃t,v=.str z t:=Value.isStrOf_shape h
def Sv(prog:ql)(w:qu)(z:Str)(t:Tok):(strKind prog w).is z (.str z t)=true:=strKind_is _ _ _ _
def dS(t:SetTable)(es:Array (Int×AB))(h:Int)(x:AB):(layNew t es h x).2.1.led=t.led:=by
 unfold layNew;split
 ·dsimp only;unfold SetTable.orStandIn;split<;>rfl
 ·rfl
end
variable{t:SetTable}
section
open PySem.Calls PySem.W
def gf{m f v:Nat}{l p:Bool}{hs:Array Int}{o:Array Nat}(h:SetTable.laid m f v l p hs=some (t,o)):t.led=l/\t.plain=p:=by
 unfold SetTable.laid at h
 cases e:SetTable.layClean m hs with
 |none=>rw[e] at h;cases h
 |some ow=>rw[e] at h;cases Ai h;exact⟨rfl,rfl⟩
def gH(t:SetTable)(es:Array (Int×AB))(n:Nat):(relayAll t es n).2.1.led=t.led/\(t.plain=false->(relayAll t es n).2.1.plain=false):=by
 unfold relayAll;split
 ·rename_i t' order e;have:=gf e;dsimp only;split
  ·exact⟨this.1,fun hp=>by rw[this.2,hp]⟩
  ·exact⟨rfl,fun _=>rfl⟩
 ·exact⟨rfl,fun _=>rfl⟩
def Y2{es:List (Int×AB)}(hel:ElemsOf (strKind prog w) es)(z:Str):(∃e∈es,(strKind prog w).is z e.2=true)↔z∈es.map fun e=>tx e.2:=by
 constructor
 ·rintro⟨e,he,h⟩;obtain⟨t,ht⟩:=UD h;exact BP.mpr ⟨e,he,by rw[ht];rfl⟩
 ·intro h;obtain⟨e,he,rfl⟩:=BP.mp h;obtain⟨⟨k,hk,_⟩,_⟩:=hel e he;obtain⟨t,ht⟩:=UD hk;refine⟨e,he,?_⟩;rw[ht];exact Sv prog w k t
end
variable{es:Array (Int×AB)}
section
open PySem.Calls PySem.W
def WL(ho:h.get? a=some o)(hd:o.data=.set es ep t)(es':Array (Int×AB))(t':SetTable):
 (h.update a (Obj.putSet es' t')).get? a=some {o with data:=.set es' (ep+1) t'}:=by
 have:=Iz (Obj.putSet es' t') ho (by rw[putSet_of es' t' hd];rfl);rw[putSet_of es' t' hd] at this;exact this
def Ww{g:Bool->Sem Unit}(hg:∀(b:Bool)(s₁:Yf)(Q':Unit->Yf->Prop),Q' () s₁->bt (ax prog w) A (g b) Q' E s₁)
 (ho:s.heap.get? a=some o)(hex:o.ExactSet)(hd:o.data=.set es ep t)
 {es1:Array (Int×AB)}{t2:SetTable}(hel:ElemsOf (strKind prog w) es1.toList)(hm:(es1.toList.map fun e=>tx e.2).Perm zs)(hnd:zs.Nodup)(hb:zs.length<rQ)(hf:t2.fits es1.size=true)(hl:t2.led= !DX w)(hp:t2.plain=false){dm:Bool}{R:Option Bool->Yf->Prop}
 (h:∀h',Heap.SameBut a s.heap h'->Ee prog w h' a zs->R (some true) {s with heap:=h'}):
 bt (ax prog w) A (do
  storeSet a es1 t2
  if(!dm&&t2.tooFull)=true then do
     g (relayAll t2 es1 (SetTable.grown es1.size)).2.2
     storeSet a (relayAll t2 es1 (SetTable.grown es1.size)).1 (relayAll t2 es1 (SetTable.grown es1.size)).2.1
     pure (some true)
   else pure (some true)) R E s:=by
 have hsz:es1.size=zs.length:=by rw[<-hm.length_eq,AK,En]
 refine AL (wpAny_storeSet_of ho hd ?_ (fits_of_scanBound (by lia)));have ho1:=WL ho hd es1 t2;have hsb1:=VX s.heap a (Obj.putSet es1 t2);split
 ·have rp:=relayAll_perm t2 es1 (SetTable.grown es1.size);have rf:=relayAll_fits t2 es1 (SetTable.grown es1.size);have rl:=gH t2 es1 (SetTable.grown es1.size);generalize relayAll t2 es1 (SetTable.grown es1.size)=Rl at rp rf rl⊢;obtain⟨es2,t3,gv⟩:=Rl;dsimp only at rp rf rl⊢;have hz2:es2.size=es1.size:=by rw[<-En,rp.length_eq,En]
  refine AL (hg _ _ _ (AL (wpAny_storeSet_of ho1 rfl ?_ (fits_of_scanBound (by lia)))));have ho2:=WL ho1 rfl es2 t3;refine Af (h _ (hsb1.trans (VX _ a _)) ⟨_,es2,_,t3,ho2,hex,rfl,hel.perm rp,(rp.map _).trans hm,hnd,hb,rf,rl.1.trans hl,.inr (rl.2 hp)⟩)
 ·exact Af (h _ hsb1 ⟨_,es1,_,t2,ho1,hex,rfl,hel,hm,hnd,hb,hf,hl,.inr hp⟩)
noncomputable def E4(zs:List Str)(z:Str):List Str:=if z∈zs then zs else zs++[z]
def oV{tk:Tok}{Q:Bool->Yf->Prop}(hS:Ee prog w s.heap a zs)(hroom:zs.length+1<rQ)
 (h:∀b h',Heap.SameBut a s.heap h'->Ee prog w h' a (E4 zs z)->Q b {s with heap:=h'}):bt (ax prog w) A (setAddHashed a (.str z tk) ((strKind prog w).hash z)) Q E s:=by
 obtain⟨o,es,ep,t,ho,hex,hd,hel,hm,hnd,hb,hf,hl,hp⟩:=hS;have hsz:es.size=zs.length:=by rw[<-hm.length_eq,AK,En]
 have hkey:=Sv prog w z tk;unfold setAddHashed setAddHashedIn;refine GG (AL (Mb ho hd hf ?_));dsimp only;rw[byScan_of (knd:=strKind prog w) rfl (by lia) hel];simp only[↓reduceIte];unfold setAddByScan;refine AL (AL (Ht (AL (wpAny_setScan_of hkey ho hd hf hel ?_))))
 cases hr:List.findIdx? (fun e=>(strKind prog w).is z e.2) es.toList with
 |some j=>
  dsimp only;obtain⟨hj,hpj,_⟩:=List.findIdx?_eq_some_iff_getElem.mp hr;have hz:z∈zs:=hm.mem_iff.mp ((Y2 hel z).mp ⟨_,Fl hj,hpj⟩);have e:s={s with heap:=s.heap}:=by cases s;rfl
  refine Af (Af ?_);rw[e];refine h _ s.heap (Heap.SameBut.refl a s.heap) ?_;unfold E4;rw[AH hz];exact⟨o,es,ep,t,ho,hex,hd,hel,hm,hnd,hb,hf,hl,hp⟩
 |none=>
  dsimp only;have hz:z∉zs:=fun hz=>by obtain⟨e,he,hpe⟩:=(Y2 hel z).mpr (hm.mem_iff.mpr hz);have:=List.findIdx?_eq_none_iff.mp hr e he;rw[hpe] at this;cases this
  have hgw:∀(b:Bool){s₁:Yf}{Q':Unit->Yf->Prop},Q' () s₁->bt (ax prog w) A (match b with|true=>rule "set.scan.the-table-gave-way" |false=>pure ()) Q' E s₁:=
   fun b s₁ Q' hq=>by cases b<;>first|exact Af hq|exact Ht hq
  have lp:=layNew_perm t es ((strKind prog w).hash z) (.str z tk);have lf:=layNew_fits t es ((strKind prog w).hash z) (.str z tk);have ll:=dS t es ((strKind prog w).hash z) (.str z tk);generalize layNew t es ((strKind prog w).hash z) (.str z tk)=L at lp lf ll⊢;obtain⟨es1,t1,dm,gv⟩:=L;dsimp only at lp lf ll⊢;rw[Md] at lp;have hel1:ElemsOf (strKind prog w) es1.toList:=(hel.push hkey rfl).perm lp;have hm1:(es1.toList.map fun e=>tx e.2).Perm (E4 zs z):=by unfold E4;rw[AG hz];refine(lp.map _).trans ?_;rw[A8];exact hm.append_right _
  have hnd1:(E4 zs z).Nodup:=by unfold E4;rw[AG hz];refine OZ.mpr ⟨hnd,by simp,fun x hx y hy=>?_⟩;rw[Bj] at hy;intro e;rw[<-hy,<-e] at hz;exact hz hx
  have hb1:(E4 zs z).length<rQ:=by unfold E4;rw[AG hz,Au];exact hroom
  refine AL (hgw _ ?_);split
  ·refine AL ?_;rw[hashByValue_scannable 8 rfl];refine Af ?_;refine Ww (zs:=E4 zs z) ?_ ho hex hd hel1 hm1 hnd1 hb1 (SetTable.fits_plain_off lf) (ll.trans hl) rfl ?_
   ·intro b s₁ Q' hq;cases b<;>first|exact Af hq|exact Ht hq
   ·intro h' hsb hS';dsimp only;exact Af (h _ h' hsb hS')
  ·rename_i np;refine AL (Af ?_);simp only[↓reduceIte];refine Ww (zs:=E4 zs z) ?_ ho hex hd hel1 hm1 hnd1 hb1 lf (ll.trans hl) (by simpa using np) ?_
   ·intro b s₁ Q' hq;cases b<;>first|exact Af hq|exact Ht hq
   ·intro h' hsb hS';dsimp only;exact Af (h _ h' hsb hS')
def FU:List Str->List Str->List Str
 |σ,[]=>σ
 |σ,z::r=>FU (E4 σ z) r
def Xh(σ:List Str)(z:Str):(E4 σ z).length<=σ.length+1:=by
 unfold E4;split
 ·lia
 ·simp
def Ee.at(x:Ee prog w h a zs)(e:∀o,h.get? a=some o->h'.get? a=some o):Ee prog w h' a zs:=by obtain⟨o,es,ep,t,ho,r⟩:=x;exact⟨o,es,ep,t,e _ ho,r⟩
end
variable{I:Ya}
section
open PySem.Calls PySem.W
def gM{wr:List Ya}{G:Array sW->Array sW->Prop}{n:Nat}{P:Nat->AB->Prop}{St:Nat->Yf->Prop}
 (W:WalksS prog w A.in1 I fp wr G n P St)(S:Ya)(hSf:S∉fp)(ys:List Str)(hy:ys.length=n)(hval:∀i v z,P i v->ys[i]? =some z->∃t,v=.str z t):
 ∀(k i:Nat)(s:Yf)(σ:List Str),n-i=k->i<=n->St i s->σ.length+(n-i)+1<rQ->Ee prog w s.heap S σ->
  (∀s',Moved (S::wr) G s s'->Ee prog w s'.heap S (FU σ (ys.drop i))->R (.ok (.ret .none)) s')->
  rT (ax prog w) A (.builtin "set.update.loop" ⟨[.ref S,.ref I],[]⟩) R s:=by
 have hSw:S∉wr:=fun h=>hSf (W.sub _ h);have hsub:∀b∈wr,b∈S::wr:=fun b hb=>DJ _ hb;intro k
 induction k with
 |zero=>
  intro i s σ hk hi hst hb hS hR;have hin:i=n:=by lia
  subst hin;refine IU F.entry_set_update_loop ?_;rw[MT VE _];show bt _ A.in1 (rS (.ref I)>>=_) _ _ s;refine AL (W.done s _ _ hst fun s' hm=>?_);show bt _ A.in1 (ret Value.none) _ _ s';rw[K4 (by lia)] at hR;exact Af (hR s' (hm.mono hsub) (hS.at fun o e=>hm.heap S o hSw e))
 |succ k ih=>
  intro i s σ hk hi hst hb hS hR;have hlt:i<n:=by lia
  refine IU F.entry_set_update_loop ?_;rw[MT VE _];show bt _ A.in1 (rS (.ref I)>>=_) _ _ s;refine AL (W.item i s _ _ hlt hst fun v s' hP hst' hm=>?_);obtain⟨t,rfl⟩:=hval i v (ys[i]'(by lia)) hP (Ap _);have hd:ys.drop i=ys[i]'(by lia)::ys.drop (i+1):=Jt (by lia);rw[hd] at hR;generalize ys[i]'(by lia)=z at hR⊢;have hS':Ee prog w s'.heap S σ:=hS.at fun o e=>hm.heap S o hSw e;show bt _ A.in1 (sX [Value.str z t] (setAdd S (.str z t))>>=_) _ _ s';refine AL (GG ?_);unfold setAdd;refine GG (AL ((strKind prog w).pyHash (k:=z) (Sv prog w z t) ?_));refine oV (s:={s' with toks:=s'.toks+1}) hS' (by lia) fun b h' hsb hS2=>?_;refine Af ⟨Oj VE _,ih (i+1) _ (E4 σ z) (by lia) hlt (W.frame _ s' _ _ hst' (Ep _) fun b hb o e=>?_) (by have:=Xh σ z;lia) hS2 fun s'' hm'' hS''=>?_⟩
  ·rw[hsb.2 b (fun h:b=S=>hSf (by rw[<-h];exact hb))];exact e
  ·refine hR s'' (Moved.trans W.gtrans ((hm.mono hsub).then_heap (Ep _) fun b o hb e=>?_) hm'') hS'';rw[hsb.2 b (fun h:b=S=>hb (by rw[h];exact DR))];exact e
def sub_tuple_set:isSubtype (.type "tuple") (.type "set")=pure false:=by rw[tw];kernel_rfl
def sub_tuple_frozenset:isSubtype (.type "tuple") (.type "frozenset")=pure false:=by rw[tw];kernel_rfl
def gG(a:AB){Q₁:AB->Yf->Prop}
 (h:Q₁ (.ref s.heap.objs.size) {s with heap:=s.heap.push {cls:=.type "set",dict:=none,data:=.set #[] 0 (.fresh 0 0 (!DX w))}}):
 rT (ax prog w) A (.call (.builtin "set.__new__") ⟨[.type "set",a],[]⟩) (wants Q₁ E) s:=by
 refine tW ?_;show bt _ A.in1 (do checkBuiltinCall "set.__new__" ⟨[.type "set",a],[]⟩;again (.builtin "set.__new__" ⟨[.type "set",a],[]⟩)) _ _ s;refine AL (wpAny_of_eq (PySem.F.newCall_set_1 a) (Af ⟨Oj uR _,IU PySem.F.entry_set_new ?_⟩));rw[MT uR _];unfold Builtin.«set.__new__» Builtin.Frozenset.newClass;have hsub:=sub_set_self;obtain⟨hp,g,d,tk,os⟩:=s;dsimp only
 wp_walk
 refine tL (Af ?_);dsimp only;simp only[newObj];refine AL (wpAny_alloc (Af ?_));exact Af h
set_option maxRecDepth 100000 in
def cZ{l:Ya}{items:Array AB}{ys:List Str}(hh:A.handled=none)(hl:s.heap.IsTuple l items)(hy:ys.length=items.size)(hi:∀(i:Nat)(v:AB) z,items[i]? =some v->ys[i]? =some z->∃t,v=.str z t)(hb:items.size+1<rQ)
 (h:∀(h':qp)(tk:Nat),Ee prog w h' s.heap.objs.size (FU [] ys)->(∀b o,s.heap.get? b=some o->h'.get? b=some o)->Q (.ref s.heap.objs.size) {s with heap:=h',toks:=tk}):
 bt (ax prog w) A (call (.type "set") [.ref l]) Q E s:=by
 obtain⟨c,tl,hmro⟩:=Ju.mro;have hmade:=Ju.made;have hsub:=Ju.sub;refine Mv (tW ?_);show bt _ _ (callAny (.type "set") _) _ _ _;refine Af ⟨OW _ (by left),IU PySem.F.entry_type_call ?_⟩;rw[Around.under_plain (weight_type_call_type "set" [.ref l] []) rfl];have h1:=Ju.notType;have h2:=Ju.canCreate;have hct:=PySem.F.typeCall_set_1 (.ref l);repeat (any_goals (first|assumption|wp_step))
 generalize eO:({cls:=.type "set",dict:=none,data:=.set #[] 0 (.fresh 0 0 (!DX w))}:Obj)=o0;refine LG (gG (.ref l) (E:=E) (Q₁:=fun obj s₁=>obj=.ref s.heap.objs.size/\s₁={s with heap:=s.heap.push o0}) ⟨rfl,by rw[eO]⟩) fun r s₁ hr=>?_
 cases r with
 |error e=>exact hr
 |ok fl=>
  cases fl with
  |ret obj=>
   obtain⟨rfl,rfl⟩:=hr;have hcls:o0.cls=.type "set" :=by rw[<-eO]
   have hS:(s.heap.push o0).get? s.heap.objs.size=some o0:=By _ (by rw[<-eO];rfl);have hT:Shared.TypeIs {s with heap:=s.heap.push o0} (.ref s.heap.objs.size) "set" :=⟨_,hS,hcls⟩;have hli:=Ju.init.lookup;have hbi:=Ju.init.bind (.ref s.heap.objs.size);repeat (any_goals (first|assumption|wp_step))
   refine LG (VN (R:=wants (fun r s₂=>r=.none/\∃h' tk,s₂={s with heap:=h',toks:=tk}/\Ee prog w h' s.heap.objs.size (FU [] ys)/\(∀b o,s.heap.get? b=some o->h'.get? b=some o)) E) Ju.init.plain PySem.F.entry_set_init (check_set_init_1 hT ?_)) fun r₂ s₂ hr₂=>?_
   ·subst eO;obtain⟨ol,hol,hcl,nl,hdl⟩:=hl;obtain⟨ocls,odict,odata,oslots⟩:=ol;simp only at hcl hdl;subst hcl;subst hdl;have hol':=BC {cls:=.type "set",dict:=none,data:=.set #[] 0 (.fresh 0 0 (!DX w))} hol;have hsls:=sub_tuple_set;have hslf:=sub_tuple_frozenset;have hne:(Value.type "tuple" ==Value.type "dict")=false:=by decide
    have hl1:(s.heap.push {cls:=.type "set",dict:=none,data:=.set #[] 0 (.fresh 0 0 (!DX w))}).IsTuple l items:=⟨_,hol',rfl,nl,rfl⟩;unfold Builtin.«set.__init__» noKeywords Builtin.Frozenset.updateFrom;generalize hPI:pyIter=PI
    wp_walk
    subst hPI;refine wpAny_pyIter_tuple hl1 ?_;refine AL (wpAny_runValue ?_);have hlS:l<s.heap.objs.size:=A1 hol;have hh3:A.in1.in1.in1.handled=none:=by simp[hh]
    have hneI:l≠(s.heap.push {cls:=.type "set",dict:=none,data:=.set #[] 0 (.fresh 0 0 (!DX w))}).objs.size:=by rw[Gx];exact BN (OY hlS)
    have hSf:s.heap.objs.size∉[(s.heap.push {cls:=.type "set",dict:=none,data:=.set #[] 0 (.fresh 0 0 (!DX w))}).objs.size,l]:=by rw[Gx];simp only[Be,Bj,JC,KN,not_or];exact⟨BN (Ml _),Eo hlS⟩
    refine gM ((Walks.tuple hh3 _ l hneI items).toS) s.heap.objs.size hSf ys hy hi (items.size-0) 0 _ [] (by lia) (CG _) ⟨⟨_,By _ rfl,rfl,rfl⟩,(hl1.push _)⟩ (by simpa using hb) ?hS0 ?hR;case hS0=>exact⟨_,#[],0,_,BC _ hS,⟨rfl,rfl,rfl⟩,rfl,fun e he=>by simp at he,Oh _,Mo,by unfold rQ;simp,rfl,rfl,.inl rfl⟩
    case hR=>
     intro s' hm hS';obtain⟨h',g',d',tk',os'⟩:=s';have eg:g'=s.gens:=hm.gens;have ed:d'=s.drawn:=hm.drawn;have eo:os'=s.os:=hm.os;subst eg;subst ed;subst eo;refine Af ?_;refine Af ⟨rfl,h',tk',rfl,hS',fun b o e=>?_⟩;have hb:=A1 e;have hb1:b≠s.heap.objs.size:=BN hb;have hb2:b≠(s.heap.push {cls:=.type "set",dict:=none,data:=.set #[] 0 (.fresh 0 0 (!DX w))}).objs.size:=by rw[Gx];exact BN (OY hb)
     exact hm.heap b o (by simp only[Be,Bj,JC,KN,not_or];exact⟨hb1,hb2⟩) (BC _ (BC _ e))
   ·cases r₂ with
    |error e=>exact hr₂
    |ok fl₂=>
     cases fl₂ with
     |ret r=>
      obtain⟨rfl,h',tk,rfl,hS',hk'⟩:=hr₂;repeat (any_goals (first|assumption|wp_step))
      exact h _ _ hS' hk'
     |_=>exact hr₂.elim
  |_=>exact hr.elim
def Ol:Slot "set_iterator" "__next__" "set_iterator.__next__" :=
 .of (owner:="set_iterator") (n:="__next__") (by rw[typeLookup_type,builtinLookup_eq_fast];kernel_rfl) (by left) (by left)
  (by left) (by first|exact .inl (by left)|exact .inr (by left)) (by rw[tw];kernel_rfl)
def cU:entryFor table "set_iterator.__next__" =some Builtin.«set_iterator.__next__»:=entryFor_of_tree (by kernel_rfl)
def iy:Manifest.owners.lookup (String.ofList ['r','o','t','a','r','e','t','i','_','t','e','s'].reverse)=some Manifest.sig_set_iterator:=by kernel_rfl
def cb(a:AB):argsOk "set_iterator.__next__" ⟨[a],[]⟩:=by
 unfold argsOk;rw[signature?_of (id:="set_iterator.__next__") (n:=['_','_','t','x','e','n','_','_']) (o:=['r','o','t','a','r','e','t','i','_','t','e','s']) (by kernel_rfl) iy]
 kernel_rfl
def cT:entryFor table "set.__iter__" =some Builtin.«frozenset.__iter__»:=entryFor_alias (id':="frozenset.__iter__") (by kernel_rfl) rfl (by left) (by kernel_rfl)
section
def PL{Q:Bool->Yf->Prop}(h:Q (DX w) s):bt (ax prog w) A setsByText Q E s:=AL (tL (Af h))
def du{src:Source}{n:Nat}{Q:Nat->Yf->Prop}(hn:n≠0)(h:∀i d,i<n->Q i {s with drawn:=d}):bt (ax prog w) A (choose src n) Q E s:=fun Γ p _=>by show Sem.wp _ Γ (.choose src n .pure) _ _ p s;rw[Sem.wp_choose];refine⟨hn,?_⟩;rw[Sem.wp_pure];exact h _ _ (Nat.mod_lt _ (Nat.pos_of_ne_zero hn))
def Rn{α:Type}:∀(xs:List α)(i:Nat)(h:i<xs.length),(xs[i]::xs.eraseIdx i).Perm xs
 |x::xs,0,_=>Oh _
 |x::xs,i+1,h=>by have ih:=Rn xs i (by simpa using h);show(xs[i]'(by simpa using h)::x::xs.eraseIdx i).Perm (x::xs);exact(List.Perm.swap _ _ _).trans (ih.cons x)
def WW:∀(n:Nat)(xs:List Nat)(s:Yf)(Q:List Nat->Yf->Prop),n=xs.length->(∀ys d,ys.Perm xs->Q ys {s with drawn:=d})->bt (ax prog w) A (drawOrder n xs) Q E s
 |0,xs,s,Q,hn,h=>by have:xs=[]:=Qo.mp hn.symm;subst this;exact Af (h [] s.drawn (Oh _))
 |n+1,[],s,Q,hn,h=>by cases hn
 |n+1,x::xs,s,Q,hn,h=>by unfold drawOrder;refine AL (du (by simp) fun i d hi=>?_);have e:(x::xs)[i]? =some ((x::xs)[i]'hi):=Ap hi;rw[e];refine AL (WW n _ _ _ (by rw[List.length_eraseIdx_of_lt hi];simp at hn⊢;exact hn) fun ys d hp=>Af (h _ d ?_));exact(hp.cons _).trans (Rn _ i hi)
def DF(h:qp)(I:Ya)(first:AB)(i n ep:Nat)(a:Ya):Prop:=h.get? I=some {cls:=.type "set_iterator",dict:=none,data:=.fields #[first,.int i 0,.ref a,.int n 0,.int ep 0],slots:= #[]}
def FY(h:qp)(a:Ya)(o:Obj)(es:Array (Int×AB))(ep:Nat)(t:SetTable):Prop:=h.get? a=some o/\o.ExactSet/\o.data=.set es ep t/\t.fits es.size=true
def DF.typeIs{first:AB}{n:Nat}(it:DF s.heap I first i n ep a):s.TypeIs (.ref I) "set_iterator" :=⟨_,it,rfl⟩
set_option hygiene false in
local macro_rules| `(tactic|trivial)=> `(tactic|(
 unfold rS;refine AL (uF (wpAny_callSpecial?_slot (name:=Str.ofString "__next__") it.typeIs Ol (Oa Ol it.typeIs cU ?_ (cb _))));obtain⟨ho,hex,hd,hf⟩:=sa;unfold Builtin.«set_iterator.__next__» slotArgs;simp only[List.isEmpty_nil,RY,DU,↓reduceIte,bind_assoc,K8,Jw];refine AL (Af ?_);refine AL (wpAny_fieldsOf it rfl ?_);dsimp only;refine AL (wpAny_setEntries_of ho hd hf ?_);simp only[Jw,DU,↓reduceIte]))
def Wj{slot given:Nat}{Q:Option (AB×Nat)->Yf->Prop}(hb:DX w=true)(sa:FY s.heap a o es ep t)
 (h:Q (((pickOrder (w.params.setOrder a ep) es)[given]?).map fun e=>(e.2,slot)) s):bt (ax prog w) A (setNext a slot given ep) Q E s:=by
 obtain⟨ho,hex,hd,hf⟩:=sa;unfold setNext;refine AL (Mb ho hd hf ?_);dsimp only;refine AL (PL ?_);rw[hb];simp only[CH,Jw,DU,Bs];refine AL ?_;unfold setWalk;refine AL (Mb ho hd hf ?_);dsimp only;refine AL (PL ?_);rw[hb];simp only[CH];exact AL (tL (Af (Af h)))
def Xb{slot given:Nat}{Q:Option (AB×Nat)->Yf->Prop}(hb:DX w=false)(sa:FY s.heap a o es ep t)(hn:es.size<=1)(hl:t.led=true)
 (h:Q (match es[SetTable.below t.place slot]?,t.place[SetTable.below t.place slot]?with|some (_,x),some j=>some (x,j+1)|_,_=>none) s):bt (ax prog w) A (setNext a slot given ep) Q E s:=by
 obtain⟨ho,hex,hd,hf⟩:=sa;unfold setNext;refine AL (Mb ho hd hf ?_);dsimp only;refine AL (PL ?_);rw[hb];simp only[DU,Bs];show bt _ _ (if(!t.plain&&decide (es.size>1))=true then _ else _) _ _ _;rw[AG (by simp;lia)];refine AL (show bt _ _ (if(!t.led&& !es.isEmpty)=true then _ else pure ()) _ _ _ from ?_);rw[hl];simp only[RY,Mq,DU,Bs];refine Af (Af ?_);exact h
def S7{first:AB}{n:Nat}{Q:Option AB->Yf->Prop}(hh:A.handled=none)(it:DF s.heap I first i n ep a)(hQ:∀h',Heap.ExtBut I s.heap h'->Q none {s with heap:=h'}):
 bt (ax prog w) A.in1 (do
  setField (.ref I) 2 Value.none
  let __do_lift<-newExc (Value.type "StopIteration") []
  raiseNew __do_lift)
 (fun fin s'=>∃v,fin=Fin.done (Flow.ret v)/\bt (ax prog w) A (pure (some v)) Q E s')
 (fun e s'=>bt (ax prog w) A (do
  let __do_lift<-t9 e (Value.type "StopIteration")
  if __do_lift=true then pure none else throw e) Q E s') s:=by
 refine AL (Og it rfl (by simp) ?_);refine AL ?_;simp only[newExc,newTuple];refine AL (IS ?_ (by size_fits));refine AL (m:=firstArgMember _ _) (wpAny_of_eq (a:=Value.none) (by first|rfl|(simp only[firstArgMember];rfl)) ?_);refine IS ?_ (by size_fits);simp only[raiseNew];refine AL (wpAny_handled ?_);first|rw[show A.in1.handled=none from hh]|rw[hh]
 refine AL (Af (wpAny_throw ?_));refine AL (wpAny_isInstance (T:="StopIteration") (b:=true) ⟨_,By _ rfl,rfl⟩ isSubtype_stop ?_);exact Af (hQ _ (((VX ..).extBut.push _).push _))
def jL{Q:Option AB->Yf->Prop}{x:Int×AB}(hb:DX w=true)(it:DF s.heap I (.int 0 0) i es.size ep a)(sa:FY s.heap a o es ep t)
 (hx:(pickOrder (w.params.setOrder a ep) es)[i]? =some x)(h:∀h',DF h' I (.int 0 0) (i+1) es.size ep a->Heap.SameBut I s.heap h'->Q (some x.2) {s with heap:=h'}):bt (ax prog w) A (rS (.ref I)) Q E s:=by
 have sa0:=sa;trivial;refine AL (Wj hb sa0 ?_);rw[show(i:Int).toNat=i from Ho i,show(ep:Int).toNat=ep from Ho ep,hx];dsimp only[Option.map];refine AL (MW it (by simp) fun h1 i1 b1=>AL (MW i1 (by simp) fun h2 i2 b2=>Af ⟨_,rfl,Af (h h2 ?_ (b1.trans b2))⟩));simpa[DF,rR] using i2
def gu{Q:Option AB->Yf->Prop}(hh:A.handled=none)(hb:DX w=true)(it:DF s.heap I (.int 0 0) i es.size ep a)(sa:FY s.heap a o es ep t)
 (hx:(pickOrder (w.params.setOrder a ep) es)[i]? =none)(h:∀h',Heap.ExtBut I s.heap h'->Q none {s with heap:=h'}):bt (ax prog w) A (rS (.ref I)) Q E s:=by
 have sa0:=sa;trivial;refine AL (Wj hb sa0 ?_);rw[show(i:Int).toNat=i from Ho i,show(ep:Int).toNat=ep from Ho ep,hx];exact S7 hh it h
def ku{sl:Nat}{Q:Option AB->Yf->Prop}{x:Int×AB}(hb:DX w=false)(it:DF s.heap I (.int sl 0) i es.size ep a)(sa:FY s.heap a o es ep t)(hn:es.size<=1)(hl:t.led=true)
 (hx:es[SetTable.below t.place sl]? =some x)(hj:t.place[SetTable.below t.place sl]? =some j)(h:∀h',DF h' I (.int (j+1:Nat) 0) (i+1) es.size ep a->Heap.SameBut I s.heap h'->Q (some x.2) {s with heap:=h'}):bt (ax prog w) A (rS (.ref I)) Q E s:=by
 have sa0:=sa;trivial;refine AL (Xb hb sa0 hn hl ?_);rw[show(sl:Int).toNat=sl from Ho sl,hx,hj];dsimp only;refine AL (MW it (by simp) fun h1 i1 b1=>AL (MW i1 (by simp) fun h2 i2 b2=>Af ⟨_,rfl,Af (h h2 ?_ (b1.trans b2))⟩));simpa[DF,rR] using i2
def jS{sl:Nat}{Q:Option AB->Yf->Prop}(hh:A.handled=none)(hb:DX w=false)(it:DF s.heap I (.int sl 0) i es.size ep a)(sa:FY s.heap a o es ep t)(hn:es.size<=1)(hl:t.led=true)
 (hx:es[SetTable.below t.place sl]? =none)(h:∀h',Heap.ExtBut I s.heap h'->Q none {s with heap:=h'}):bt (ax prog w) A (rS (.ref I)) Q E s:=by
 have sa0:=sa;trivial;refine AL (Xb hb sa0 hn hl ?_);rw[show(sl:Int).toNat=sl from Ho sl,hx];exact S7 hh it h
def kI{T:Ya}{ps:List Nat}{Q:Option AB->Yf->Prop}{x:Int×AB}{p:Nat}(it:DF s.heap I (.ref T) i es.size ep a)(sa:FY s.heap a o es ep t)(hT:s.heap.IsTuple T (ps.map fun p:Nat=>rR p).toArray)
 (hp:ps[i]? =some p)(hx:es[p]? =some x)(h:∀h',DF h' I (.ref T) (i+1) es.size ep a->Heap.SameBut I s.heap h'->Q (some x.2) {s with heap:=h'}):bt (ax prog w) A (rS (.ref I)) Q E s:=by
 have sa0:=sa;trivial;obtain⟨oT,hoT,_,nT,hdT⟩:=hT;refine AL (wpAny_seqItems hoT hdT ?_);have e:((ps.map fun p:Nat=>rR p).toArray)[(i:Int).toNat]? =some (.int p 0):=by rw[Ho,VM,A0,hp];rfl
 dsimp only;rw[e];dsimp only;refine AL ?_;unfold setNextDrawn;refine AL (Mb ho hd hf ?_);dsimp only;simp only[Ho,Jw,DU,Bs];rw[hx];refine Af ?_;refine AL (MW it (by simp) fun h1 i1 b1=>Af ⟨_,rfl,Af (h h1 ?_ b1)⟩);simpa[DF,rR] using i1
def gV{T:Ya}{ps:List Nat}{Q:Option AB->Yf->Prop}(hh:A.handled=none)(it:DF s.heap I (.ref T) i es.size ep a)(sa:FY s.heap a o es ep t)(hT:s.heap.IsTuple T (ps.map fun p:Nat=>rR p).toArray)
 (hp:ps[i]? =none)(h:∀h',Heap.ExtBut I s.heap h'->Q none {s with heap:=h'}):bt (ax prog w) A (rS (.ref I)) Q E s:=by
 have sa0:=sa;trivial;obtain⟨oT,hoT,_,nT,hdT⟩:=hT;refine AL (wpAny_seqItems hoT hdT ?_);have e:((ps.map fun p:Nat=>rR p).toArray)[(i:Int).toNat]? =none:=by rw[Ho,VM,A0,hp];rfl
 dsimp only;rw[e];dsimp only;refine AL (MW it (by simp) fun h1 i1 b1=>?_);have i1':DF h1 I (.int 0 0) i es.size ep a:=by simpa[DF,rR] using i1
 exact S7 (s:={s with heap:=h1}) hh i1' fun h' e'=>h h' (b1.extBut.trans e')
end
def Wn{α:Type}(next:Nat->Nat):∀(f k:Nat)(l:List α)(out:Array α),f=l.length->(pickOrder.go next f k l out).toList.Perm (out.toList++l)
 |0,k,l,out,h=>by have:l=[]:=Qo.mp h.symm;subst this;unfold pickOrder.go;simp
 |f+1,k,l,out,h=>by
  have hi:next k%l.length<l.length:=Nat.mod_lt _ (by lia)
  unfold pickOrder.go;rw[Ap hi];dsimp only;refine(Wn next f (k+1) _ _ (by rw[List.length_eraseIdx_of_lt hi];lia)).trans ?_;rw[Md,Bb];exact ON _ (Rn l _ hi)
def SE(next:Nat->Nat)(xs:Array α):(pickOrder next xs).toList.Perm xs.toList:=by
 have:=Wn next xs.size 0 xs.toList #[] (by simp)
 simpa[pickOrder] using this
def TH(j:Nat):SetTable.below #[j] 0=0/\SetTable.below #[j] (j+1)=1:=by
 constructor
 ·simp[SetTable.below,SetTable.below.go]
 ·simp[SetTable.below,SetTable.below.go]
def DF.keep{f:AB}{n:Nat}(x:DF h I f i n ep a)(e:∀o,h.get? I=some o->h'.get? I=some o):DF h' I f i n ep a:=e _ x
def FY.keep(x:FY h a o es ep t)(e:∀o,h.get? a=some o->h'.get? a=some o):FY h' a o es ep t:=⟨e _ x.1,x.2⟩
structure Np(prog:ql)(w:qu)(A:rV)(I:Ya)(fp:List Ya)(vs:List AB)(St:Nat->qp->Prop):Prop where
 Qc:I∈fp
 frame:∀i h h',St i h->(∀b∈fp,∀o,h.get? b=some o->h'.get? b=some o)->St i h'
 item:∀i (s:Yf)(Q:Option AB->Yf->Prop)(E:AB->Yf->Prop) v,vs[i]? =some v->St i s.heap->(∀h',St (i+1) h'->(∀b o,b≠I->s.heap.get? b=some o->h'.get? b=some o)->Q (some v) {s with heap:=h'})->bt (ax prog w) A (rS (.ref I)) Q E s
 done:∀(s:Yf)(Q:Option AB->Yf->Prop)(E:AB->Yf->Prop),St vs.length s.heap->(∀h',(∀b o,b≠I->s.heap.get? b=some o->h'.get? b=some o)->Q none {s with heap:=h'})->bt (ax prog w) A (rS (.ref I)) Q E s
def fu(hh:A.handled=none)(hb:DX w=true)(I a:Ya)(hne:a≠I)(o:Obj)(es:Array (Int×AB))(ep:Nat)(t:SetTable):
 Np prog w A I [I,a] ((pickOrder (w.params.setOrder a ep) es).toList.map (·.2)) (fun i h=>DF h I (.int 0 0) i es.size ep a/\FY h a o es ep t) where
 Qc:=by simp
 frame:=fun i h h' st hk=>⟨st.1.keep fun o e=>hk I (by simp) o e,st.2.keep fun o e=>hk a (by simp) o e⟩
 item:=fun i s Q E v hv st hQ=>by
  rw[A0,GB] at hv
  cases e:(pickOrder (w.params.setOrder a ep) es)[i]?with
  |none=>rw[e] at hv;cases hv
  |some x=>rw[e] at hv;cases Ai hv;exact jL hb st.1 st.2 e fun h' i' b'=>hQ h' ⟨i',st.2.keep fun o e=>b'.extBut a o hne e⟩ fun b o hn e=>b'.extBut b o hn e
 done:=fun s Q E st hQ=>by
  have hl:((pickOrder (w.params.setOrder a ep) es).toList.map (·.2)).length=es.size:=by rw[AK,(SE _ es).length_eq,En]
  rw[hl] at st;refine gu hh hb st.1 st.2 ?_ fun h' e'=>hQ h' fun b o hn e=>e' b o hn e;rw[<-GB];exact Em (by rw[(SE _ es).length_eq,En];exact Ad _)
def iR(hh:A.handled=none)(hb:DX w=false)(I a:Ya)(hne:a≠I)(o:Obj)(es:Array (Int×AB))(ep:Nat)(t:SetTable)(hn:es.size<=1)(hl:t.led=true)(hf:t.fits es.size=true):
 Np prog w A I [I,a] (es.toList.map (·.2)) (fun i h=>DF h I (.int (if i=0 then 0 else t.place.getD 0 0+1:Nat) 0) i es.size ep a/\FY h a o es ep t) where
 Qc:=by simp
 frame:=fun i h h' st hk=>⟨st.1.keep fun o e=>hk I (by simp) o e,st.2.keep fun o e=>hk a (by simp) o e⟩
 item:=fun i s Q E v hv st hQ=>by
  have hps:t.place.size=es.size:=by simp only[SetTable.fits,D6,FE] at hf;exact hf.1
  have hi:i=0/\es.size=1:=by
   have:=(BZ.mp hv).1;simp at this
   lia
  obtain⟨rfl,h1⟩:=hi;obtain⟨j,hj⟩:∃j,t.place= #[j]:=by obtain⟨j,hj⟩:=List.length_eq_one_iff.mp (show t.place.toList.length=1 by simp;lia);exact⟨j,J0.mp (by rw[hj])⟩
  have hx:es[0]? =some (es[0]'(by lia)):=GH .. ;have hv':v=(es[0]'(by lia)).2:=by rw[A0,GB,hx] at hv;exact(Ai hv).symm
  subst hv';have st1:=st.1;rw[AH rfl] at st1;refine ku (sl:=0) (j:=j) hb st1 st.2 hn hl (by rw[hj,(TH j).1];exact hx) (by rw[hj,(TH j).1];rfl) fun h' i' b'=>hQ h' ⟨?_,st.2.keep fun o e=>b'.extBut a o hne e⟩ fun b o hn e=>b'.extBut b o hn e;rw[AG (by lia),hj];exact i'
 done:=fun s Q E st hQ=>by
  have hps:t.place.size=es.size:=by simp only[SetTable.fits,D6,FE] at hf;exact hf.1
  rw[AK,En] at st;refine jS hh hb st.1 st.2 hn hl ?_ fun h' e'=>hQ h' fun b o hn e=>e' b o hn e;by_cases h0:es.size=0
  ·exact getElem?_neg es _ (by lia)
  ·obtain⟨j,hj⟩:∃j,t.place= #[j]:=by obtain⟨j,hj⟩:=List.length_eq_one_iff.mp (show t.place.toList.length=1 by simp;lia);exact⟨j,J0.mp (by rw[hj])⟩
   rw[AG h0,hj];show es[SetTable.below #[j] (j+1)]? =none;rw[(TH j).2];exact getElem?_neg es _ (by lia)
def fV(hh:A.handled=none)(I a T:Ya)(hne:a≠I)(hnT:T≠I)(o:Obj)(es:Array (Int×AB))(ep:Nat)(t:SetTable)(ps:List Nat)(hp:ps.Perm (List.range es.size)):
 Np prog w A I [I,a,T] (ps.map fun p=>(es.getD p (0,Value.none)).2) (fun i h=>DF h I (.ref T) i es.size ep a/\FY h a o es ep t/\h.IsTuple T (ps.map fun p:Nat=>rR p).toArray) where
 Qc:=by simp
 frame:=fun i h h' st hk=>⟨st.1.keep fun o e=>hk I (by simp) o e,st.2.1.keep fun o e=>hk a (by simp) o e,by obtain⟨oT,x,r⟩:=st.2.2;exact⟨oT,hk T (by simp) _ x,r⟩⟩
 item:=fun i s Q E v hv st hQ=>by
  rw[A0] at hv
  cases e:ps[i]?with
  |none=>rw[e] at hv;cases hv
  |some p=>
   rw[e] at hv;cases Ai hv;have hlt:p<es.size:=LA.mp (hp.mem_iff.mp (CF e));have ex:es[p]? =some (es.getD p (0,Value.none)):=by rw[Gu,GH es p hlt];rfl
   refine kI st.1 st.2.1 st.2.2 e ex fun h' i' b'=>hQ h' ⟨i',st.2.1.keep fun o e=>b'.extBut a o hne e,?_⟩ fun b o hn e=>b'.extBut b o hn e;exact st.2.2.extBut b'.extBut hnT
 done:=fun s Q E st hQ=>by rw[AK] at st;exact gV hh st.1 st.2.1 st.2.2 (Em (Ad _)) fun h' e'=>hQ h' fun b o hn e=>e' b o hn e
def kT(hh:A.handled=none)(hS:Ee prog w s.heap a zs)
 (h:∀(I:Ya)(fp:List Ya)(vs:List AB)(St:Nat->qp->Prop) h' d,(∀(B:rV),B.handled=none->Np prog w B I fp vs St)->St 0 h'->(∀b o,s.heap.get? b=some o->h'.get? b=some o)->(∀b∈fp,b=a\/s.heap.objs.size<=b)->(∀v∈vs,∃z t,v=.str z t)->(vs.map tx).Perm zs->vs.length<=4096->
  s.heap.objs.size<=I->Q (.ref I) {s with heap:=h',drawn:=d}):bt (ax prog w) A (pyIter (.ref a)) Q E s:=by
 obtain⟨o,es,ep,t,ho,hex,hd,hel,hm,hnd,hb,hf,hl,hp⟩:=hS;have hT:s.TypeIs (.ref a) "set" :=⟨o,ho,hex.1⟩;have hlt:=A1 ho;have hsz:es.size=zs.length:=by rw[<-hm.length_eq,AK,En]
 have Dc:∀e∈es.toList,∃z t,e.2=.str z t:=fun e he=>by obtain⟨⟨k,hk,_⟩,_⟩:=hel e he;obtain⟨t,ht⟩:=UD hk;exact⟨k,t,ht⟩
 refine wpAny_pyIter_slot hT uS (Oa uS hT cT ?_ (PySem.F.args_set_iter_1 _));unfold Builtin.«frozenset.__iter__» Builtin.Frozenset.slot0 slotArgs;simp only[List.isEmpty_nil,RY,DU,↓reduceIte,bind_assoc,K8,Jw];unfold Builtin.Frozenset.addrOf Builtin.Frozenset.sizeOf;refine AL (Af ?_);try dsimp only
 refine AL (Af ?_);refine AL (AL (wpAny_setEntries_of ho hd hf (Af ?_)));unfold setDrawn;refine AL (AL (Mb ho hd hf ?_));dsimp only;refine AL (PL (Af ?_));show bt _ _ (if(!DX w&&(!t.plain&&decide (es.size>1)))=true then _ else _) _ _ _;have h4:es.size<=4096:=by have:rQ=4096:=rfl;lia
 by_cases c:(!DX w&&(!t.plain&&decide (es.size>1)))=true
 ·rw[AH c];refine AL (WW _ _ _ _ (by simp) fun ps d pp=>?_);have lp:ps.length=es.size:=by rw[pp.length_eq,Q9]
  refine AL (wpAny_newTuple ?_ (by rw[AK,Aw];lia));have ho1:=BC {cls:=.type "tuple",data:=.seq (List.map (fun i:Nat=>rR i) ps).toArray} ho;refine AL (wpAny_setEpoch_of (s:={s with heap:=s.heap.push _,drawn:=d}) ho1 hd hf ?_);have z1:(s.heap.push {cls:=.type "tuple",data:=.seq (List.map (fun i:Nat=>rR i) ps).toArray}).objs.size=s.heap.objs.size+1:=by rw[Gx]
  refine AL (IS (Af ⟨_,rfl,"set_iterator",_,⟨_,By _ rfl,rfl⟩,Ol.lookup,?_⟩));have ev:(es.toList.map (·.2))=(List.range es.size).map fun p=>(es.getD p (0,Value.none)).2:=by
   apply Jx;intro k;rw[A0,A0,GB];by_cases hk:k<es.size
   ·rw[VU hk,GH es k hk];simp[Gu,hk]
   ·rw[getElem?_neg es k hk,Em (by simp;lia)];rfl
  have pv:(ps.map fun p=>(es.getD p (0,Value.none)).2).Perm (es.toList.map (·.2)):=by rw[ev];exact pp.map _
  refine h _ [_,a,s.heap.objs.size] (ps.map fun p=>(es.getD p (0,Value.none)).2) _ _ d (fun B hB=>fV hB _ a s.heap.objs.size (by rw[z1];exact BN (OY hlt)) (by rw[z1];exact BN (Ml _)) o es ep t ps pp)
   ⟨By _ rfl,⟨BC _ ho1,hex,hd,hf⟩,⟨_,BC _ (By _ rfl),rfl,0,rfl⟩⟩
   (fun b o e=>BC _ (BC _ e)) (fun b hb=>?_) (fun v hv=>?_) ?_ (by rw[AK];lia) (by rw[z1];exact Ep _)
  ·rcases Be.mp hb with e|hb
   ·exact .inr (by rw[e,z1];exact Ep _)
   ·rcases Be.mp hb with e|hb
    ·exact .inl e
    ·exact .inr (by rw[Bj.mp hb];exact Ad _)
  ·obtain⟨e,he,rfl⟩:=BP.mp (pv.mem_iff.mp hv);exact Dc e he
  ·refine(pv.map tx).trans ?_;rw[Bf];exact hm
 ·rw[AG c];refine AL (Af (AL (wpAny_setEpoch_of ho hd hf ?_)));refine AL (IS (Af ⟨_,rfl,"set_iterator",_,⟨_,By _ rfl,rfl⟩,Ol.lookup,?_⟩));have ne:a≠s.heap.objs.size:=BN hlt;have fpo:∀b∈[s.heap.objs.size,a],b=a\/s.heap.objs.size<=b:=fun b hb=>by
   rcases Be.mp hb with e|hb
   ·exact .inr (by rw[e];exact Ad _)
   ·exact .inl (Bj.mp hb)
  have es0:s={s with heap:=s.heap}:=by cases s;rfl
  cases eb:DX w with
  |true=>
   have pv:((pickOrder (w.params.setOrder a ep) es).toList.map (·.2)).Perm (es.toList.map (·.2)):=(SE _ es).map _;refine h _ [s.heap.objs.size,a] _ _ _ s.drawn (fun B hB=>fu hB eb _ a ne o es ep t) ⟨By _ rfl,BC _ ho,hex,hd,hf⟩ (fun b o e=>BC _ e) fpo (fun v hv=>?_) ?_ (by rw[pv.length_eq,AK];simp;exact h4) (Ad _)
   ·obtain⟨e,he,rfl⟩:=BP.mp (pv.mem_iff.mp hv);exact Dc e he
   ·refine(pv.map tx).trans ?_;rw[Bf];exact hm
  |false=>
   have Cg:es.size<=1:=by
    rw[eb] at c;rcases hp with z|z
    ·lia
    ·rw[z] at c;simp at c
     lia
   rw[eb] at hl;refine h _ [s.heap.objs.size,a] _ _ _ s.drawn (fun B hB=>iR hB eb _ a ne o es ep t Cg hl hf) ⟨By _ rfl,BC _ ho,hex,hd,hf⟩ (fun b o e=>BC _ e) fpo (fun v hv=>?_) ?_ (by rw[AK];simp;exact h4) (Ad _)
   ·obtain⟨e,he,rfl⟩:=BP.mp hv;exact Dc e he
   ·rw[Bf];exact hm
def iK{vs:List AB}{St:Nat->qp->Prop}(W:Np prog w A.in1 I fp vs St)(hn:vs.length<=sizeLine)(S:Ya)(hSf:S∉fp)(res:AB):
 ∀(k i:Nat)(s:Yf)(acc:Array AB)(c:Nat),vs.length-i=k->i<=vs.length->St i s.heap->s.heap.get? S=some {cls:=.type "list",dict:=none,data:=.seq acc c,slots:= #[]}->acc.toList=vs.take i->
 (∀h' c',(∀b o,b≠S->b≠I->s.heap.get? b=some o->h'.get? b=some o)->h'.get? S=some {cls:=.type "list",dict:=none,data:=.seq vs.toArray c',slots:= #[]}->R (.ok (.ret res)) {s with heap:=h'})->
 rT (ax prog w) A (.builtin "list.extend.loop" ⟨[.ref S,.ref I,res],[]⟩) R s:=by
 have hSI:S≠I:=fun e=>hSf (e▸W.Qc);intro k
 induction k with
 |zero=>
  intro i s acc c hk hi hst hS hacc hR;have hin:i=vs.length:=by lia
  subst hin;refine IU uT ?_;rw[MT OG _];show bt _ A.in1 (rS (.ref I)>>=_) _ _ s;refine AL (W.done s _ _ hst fun h' hm=>?_);have ea:acc=vs.toArray:=J0.mp (by rw[hacc,Cy]);exact Af (hR h' c (fun b o _ hb e=>hm b o hb e) (by rw[<-ea];exact hm S _ hSI hS))
 |succ k ih=>
  intro i s acc c hk hi hst hS hacc hR;have hlt:i<vs.length:=by lia
  have hsz:acc.size=i:=by rw[<-En,hacc,Bc];lia
  refine IU uT ?_;rw[MT OG _];show bt _ A.in1 (rS (.ref I)>>=_) _ _ s;refine AL (W.item i s _ _ _ (Ap hlt) hst fun h' hst' hm=>?_);have hS':=hm S _ hSI hS;show bt _ A.in1 (updateSeq S (·.push (vs[i]'hlt))>>=_) _ _ _;refine AL ?_;refine tS (s:={s with heap:=h'}) hS' rfl (Af ⟨Oj OG _,ih (i+1) _ (acc.push (vs[i]'hlt)) _ (by lia) hlt (W.frame _ h' _ hst' fun b hb o e=>?_) (Iz _ hS' rfl) ?_ fun h2 c' hm'' hS''=>?_⟩)
   (by rw[hsz];lia) (by show(acc.push (vs[i]'hlt)).size<=sizeLine+1;rw[Array.size_push,hsz];lia)
  ·exact(EE _ _ (fun h:S=b=>hSf (by rw[h];exact hb))).trans e
  ·rw[Md,hacc,List.take_succ,Ap hlt];rfl
  ·exact hR h2 c' (fun b o hb1 hb2 e=>hm'' b o hb1 hb2 ((EE _ _ (DL hb1)).trans (hm b o hb2 e))) hS''
def iQ{r:Ya}{Q:Bool->Yf->Prop}(hT:s.TypeIs (.ref r) "set")(h:Q false s):bt (ax prog w) A (Builtin.List.listLengthHint (.ref r)) Q E s:=by
 unfold Builtin.List.listLengthHint;refine AL (wpAny_specialOf hT PySem.F.slot_set_len.lookup ?_);generalize hid:("set.__len__" :String)=id0
 wp_delta
 rw[show splitId id0=some ("set","__len__") from by subst hid;decide+kernel];subst hid;refine AL (wpAny_isInstance (T:="set") (b:=true) hT sub_set_self ?_);refine tU (fun hab=>absurd hab (by decide)) (fun _=>?_);refine tU (fun _=>?_) (fun hab=>absurd (by left) hab);refine AL (tD hT ?_);exact Af h
def eQ{Q:List AB->Yf->Prop}(hh:A.handled=none)(hS:Ee prog w s.heap a zs)
 (h:∀vs h' d,(∀v∈vs,∃z t,v=.str z t)->(vs.map tx).Perm zs->(∀b o,s.heap.get? b=some o->h'.get? b=some o)->s.heap.objs.size<h'.objs.size->Q vs {s with heap:=h',drawn:=d}):bt (ax prog w) A (tZ (.ref a)) Q E s:=by
 have hT:∀(x:Yf),(∀b o,s.heap.get? b=some o->x.heap.get? b=some o)->x.TypeIs (.ref a) "set" :=fun x e=>by obtain⟨o,es,ep,t,ho,hex,_⟩:=hS;exact⟨o,e _ _ ho,hex.1⟩
 have hlt:a<s.heap.objs.size:=by obtain⟨o,es,ep,t,ho,_⟩:=hS;exact A1 ho
 unfold tZ;refine AL (wpAny_runValue (IU entry_proto_collect' ?_));show bt _ _ (do again (.builtin "list.__iadd__" ⟨[<-newList [],.ref a],[]⟩)) _ _ s;refine AL (RX (Af ⟨OW _ (by left),IU entry_list_iadd' ?_⟩));show bt _ _ (Builtin.List.listExtendWith (.ref s.heap.objs.size) (.ref a) (.ref s.heap.objs.size)) _ _ {s with heap:=s.heap.push (rA "list" #[] 0)};generalize e0:s.heap.push (rA "list" #[] 0)=h0;have hS0:h0.get? s.heap.objs.size=some (rA "list" #[] 0):=by rw[<-e0];exact By _ rfl
 have k0:∀b o,s.heap.get? b=some o->h0.get? b=some o:=fun b o e=>by rw[<-e0];exact BC _ e
 have z0:s.heap.objs.size<h0.objs.size:=A1 hS0;unfold Builtin.List.listExtendWith;refine AL (tD (T:="set") (hT {s with heap:=h0} k0) ?_);have h1:Builtin.List.listSameRef (.ref s.heap.objs.size) (.ref a)=false:=by simp[Builtin.List.listSameRef,Eo hlt]
 have t1:(Value.type "set" ==Value.type "list")=false:=by decide
 have t2:(Value.type "set" ==Value.type "tuple")=false:=by decide
 simp only[h1,t1,t2,Bool.or_false,DU,Bs];refine AL (kT (s:={s with heap:=h0}) (zs:=zs) hh (hS.at fun o e=>k0 a o e) fun I fp vs St h' d W st keep hfp Dc pm h4 hI=>?_);have hSf:s.heap.objs.size∉fp:=fun hm=>by
  rcases hfp _ hm with e|e
  ·exact absurd e (Eo hlt)
  ·exact absurd z0 (Oz.mpr e)
 have hS1:=keep _ _ hS0;have done:∀h2 c',(∀b o,b≠s.heap.objs.size->b≠I->h'.get? b=some o->h2.get? b=some o)->h2.get? s.heap.objs.size=some {cls:=.type "list",dict:=none,data:=.seq vs.toArray c',slots:= #[]}->
  bt (ax prog w) A (do
   let o<-load s.heap.objs.size
   match o.data with
   |.seq xs _=>pure xs.toList
   |_=>rN "internal:collect") Q E {s with heap:=h2,drawn:=d}:=fun h2 c' k2 hS2=>by
  refine AL (wpAny_load hS2 (Af ?_));refine h _ h2 d (by simpa using Dc) (by simpa using pm) (fun b o e=>?_) (A1 hS2);have hb:=A1 e;exact k2 b o (BN hb) (fun z=>absurd (z▸hb) (Oz.mpr (Fm (C8 z0 hI)))) (keep b o (k0 b o e))
 have n4:vs.length<=sizeLine:=by rw[Aw];lia
 refine AL (GG (iQ (hT {s with heap:=h',drawn:=d} fun b o e=>keep b o (k0 b o e)) ?_));have key:∀(h1:qp)(c1:Nat),St 0 h1->(∀b o,b≠s.heap.objs.size->h'.get? b=some o->h1.get? b=some o)->h1.get? s.heap.objs.size=some {cls:=.type "list",data:=.seq #[] c1}->
  rT (ax prog w) A (.builtin "list.extend.loop" ⟨[.ref s.heap.objs.size,.ref I,.ref s.heap.objs.size],[]⟩) (wants (fun v s'=>bt (ax prog w) A (match v with
   |.ref a=>do
    let o<-load a
    match o.data with
    |.seq xs _=>pure xs.toList
    |_=>rN "internal:collect"
   |_=>rN "internal:collect") Q E s') E) {s with heap:=h1,drawn:=d}:=fun h1 c1 st1 k1 hS1=>
  iK (W A.in1 hh) n4 _ hSf _ vs.length 0 _ #[] c1 (by lia) (CG _) st1 hS1 (by simp) fun h2 c' k2 hS2=>done h2 c' (fun b o b1 b2 e=>k2 b o b1 b2 (k1 b o b1 e)) hS2;refine tU (fun _=>?_) (fun _=>Af ⟨Oj OG _,key _ 0 st (fun b o _ e=>e) hS1⟩);refine AL (Ht ?_);refine AL ?_;show bt _ _ (updateSeq s.heap.objs.size (·.push .none)>>=fun _=>updateSeq s.heap.objs.size (·.pop)) _ _ _;refine AL (tS (s:={s with heap:=h',drawn:=d}) hS1 rfl ?_);have hS2:=Iz (Obj.mapSeq (·.push Value.none)) hS1 rfl;refine tS (hz:=by seq_fits) hS2 rfl ?_;have hS3:=Iz (Obj.mapSeq (·.pop)) hS2 rfl;refine Af ⟨Oj OG _,key _ _ ?_ (fun b o hb e=>?_) hS3⟩
 ·refine(W A hh).frame 0 _ _ st fun b hb o e=>?_;have hbS:b≠s.heap.objs.size:=fun h=>hSf (h▸hb);exact(EE _ _ (DL hbS)).trans ((EE _ _ (DL hbS)).trans e)
 ·exact(EE _ _ (DL hb)).trans ((EE _ _ (DL hb)).trans e)
end
section
open PySem.W
def gZ{f:α->β}{a b:List β}(h:a.Perm b):∀l:List α,b=l.map f->∃l':List α,l'.Perm l/\a=l'.map f:=by
 induction h with
 |nil=>intro l e;exact⟨[],by rw[OS.mp e.symm],rfl⟩
 |cons x _ ih=>
  intro l e
  match l,e with
  |y::l,e=>obtain⟨e1,e2⟩:=Gy e;obtain⟨l',p,q⟩:=ih l e2;exact⟨y::l',p.cons y,by rw[Ay,<-q,<-e1]⟩
 |swap x y t=>
  intro l e
  match l,e with
  |u::v::l,e=>obtain⟨e1,e2⟩:=Gy e;obtain⟨e3,e4⟩:=Gy e2;exact⟨v::u::l,List.Perm.swap ..,by rw[Ay,Ay,<-e1,<-e3,<-e4]⟩
 |trans _ _ ih1 ih2=>intro l e;obtain⟨l1,p1,q1⟩:=ih2 l e;obtain⟨l2,p2,q2⟩:=ih1 l1 q1;exact⟨l2,p2.trans p1,q2⟩
def gS(vs:List AB):vs=(List.range vs.length).map fun i=>vs.getD i Value.none:=by
 apply Jx;intro k;rw[A0];by_cases hk:k<vs.length
 ·rw[VU hk,Ap hk];simp[hk]
 ·rw[Em (by lia),Em (by simp;lia)];rfl
open Classical in
noncomputable def N1(vs:List AB)(r:Nat->Nat)(x:cm):Nat:=if h:∃i,i<vs.length/\vs.getD i Value.none=x.1 then r (Classical.choose h) else 0
def Sd{vs:List AB}{r:Nat->Nat}(hr:∀i j,i<vs.length->j<vs.length->vs.getD i Value.none=vs.getD j Value.none->r i=r j){x:cm}(hi:i<vs.length)(e:vs.getD i Value.none=x.1):N1 vs r x=r i:=by have h:∃i,i<vs.length/\vs.getD i Value.none=x.1:=⟨i,hi,e⟩;unfold N1;rw[dif_pos h];have:=Classical.choose_spec h;exact hr _ _ this.1 hi (this.2.trans e.symm)
def SX{vs:List AB}{x:cm}(h:x∈(vs.toArray.zip vs.toArray).toList):∃i,i<vs.length/\vs.getD i Value.none=x.1/\x.1=x.2:=by
 have h':x∈vs.zip vs:=by simpa using h
 obtain⟨i,hi,e⟩:=IQ.mp h';have hl:i<vs.length:=by simpa using hi
 rw[List.getElem_zip] at e;refine⟨i,hl,?_,by rw[<-e]⟩;rw[Cs,Ap hl,<-e];rfl
def gL{vs:List AB}{n:Nat}{P:PySem.Fin->Yf->Prop}(r:Nat->Nat)(ho:s.heap.get? a=some (rA "list" vs.toArray n))(hle:vs.length<=sizeLine)
 (hr:∀i j,i<vs.length->j<vs.length->vs.getD i Value.none=vs.getD j Value.none->r i=r j)
 (hk:2<=vs.length->Nv prog w A vs r {s with heap:=LZ s.heap a vs})
 (h:∀p:List Nat,p.Perm (List.range vs.length)->(∀i j,i<=j->j<vs.length->r (p.getD i 0)<=r (p.getD j 0))->P (.done (.ret .none)) {s with heap:=sortedHeap s.heap a vs (Fx vs p).toArray}):
 bt (ax prog w) A (Builtin.«list.sort» ⟨[.ref a],[]⟩) P E s:=by
 have lta:a<s.heap.objs.size:=A1 ho;rw[list_sort_plain];refine AL (listItems_at ho rfl (AL (uH ho rfl ?_ (by rw[Cc];lia) (CG _))));obtain⟨e1,h1⟩:∃e1,(s.heap.update a (Obj.mapSeq fun _=>(#[]:Array AB))).get? a=some (rA "list" #[] e1):=⟨_,tV ho fun _=> #[]⟩;refine AL (seqEpoch_at h1 rfl (AL (wpAny_newTuple (AL (RX (GG ?_) (CG _))) (by show vs.length<=_;lia))));have h6:(LZ s.heap a vs).get? a=some (rA "list" #[] e1):=by unfold LZ;rw[Heap.get?_push_ne _ _ _ (by rw[tm,RH];exact BN (OY lta)),Heap.get?_push_ne _ _ _ (by rw[RH];exact BN lta)];exact h1
 show bt (ax prog w) A _ P E {s with heap:=LZ s.heap a vs};dsimp only;by_cases h2:vs.toArray.size<2
 ·rw[AH h2,AH h2];refine AL (Af ?_);rw[StateT.run_pure];refine AL (Af ?_);dsimp only;have hn:vs.length<2:=by simpa using h2
  have e0:Array.map (·.2) (dq (SortSt.mk' general' (vs.toArray.zip vs.toArray) #[] 7 none))=(Fx vs (List.range vs.length)).toArray:=by show Array.map (·.2) (vs.toArray.zip vs.toArray)=_;exact mw (C:=fun vs:List AB=>Array.map (·.2) (vs.toArray.zip vs.toArray)=(Fx vs (List.range vs.length)).toArray) (by simp[Fx]) (fun _=>by apply J0.mp;simp[Fx]) hn
  rw[e0];refine AL (seqEpoch_at h6 rfl (AL (uH h6 rfl ?_ (CG _) (by unfold Fx;simp;lia))));simp only[Jw,DU,Bs];exact Af (h (List.range vs.length) (.refl _) fun i j hij hj=>by
   have e:i=j:=by lia
   rw[e];exact Ad _)
 ·have h2':2<=vs.length:=by
   have:¬vs.length<2:=by simpa using h2
   lia
  rw[AG h2,AG h2];refine AL (DC (hk h2') (fun κ s' hκ=>?_) fun _ _ x=>x.elim);obtain⟨es,ask⟩:=hκ;subst es;have hzz:(vs.toArray.zip vs.toArray).size=vs.length:=by simp
  have hc:C7 prog w A {s with heap:=LZ s.heap a vs} κ (N1 vs r) (vs.toArray.zip vs.toArray):=fun x y hx hy C hC=>by
   obtain⟨i,hi,ei,_⟩:=SX hx;obtain⟨j,hj,ej,_⟩:=SX hy;have:=ask i j C hi hj (by unfold QZ;rw[<-Sd hr hi ei,<-Sd hr hj ej];exact hC);unfold kas_ask at this;rw[ei,ej] at this;exact this
  refine AL (DC (kh (st:=SortSt.mk' κ (vs.toArray.zip vs.toArray) #[] 7 none) (Q:=fun _ st'=>(dq st').Perm (vs.toArray.zip vs.toArray)/\qz st'=none/\Up (N1 vs r) (dq st') 0 (vs.toArray.zip vs.toArray).size) hc rfl rfl rfl rfl (by lia) fun st' a1 a2 a3=>⟨a1,a2,a3⟩) ?_ fun _ _ e=>e);rintro⟨⟨⟩,st'⟩ s' ⟨rfl,pm,hf,up⟩;dsimp only at pm hf up⊢;have pl:=MP.mp pm;have inx:∀x∈(dq st').toList,∃i,i<vs.length/\vs.getD i Value.none=x.1/\x.1=x.2:=fun x hx=>SX (pl.mem_iff.mp hx);have po:((dq st').toList.map (·.2)).Perm vs:=by
   refine(pl.map _).trans ?_;have e:((vs.toArray.zip vs.toArray).toList.map (·.2))=vs:=by
    have e1:(vs.toArray.zip vs.toArray).toList=vs.zip vs:=by simp
    rw[e1];exact List.map_snd_zip (Ad _)
   rw[e]
  obtain⟨p,pp,ep⟩:=gZ po (List.range vs.length) (gS vs);have eo:(dq st').map (·.2)=(Fx vs p).toArray:=by apply J0.mp;rw[Array.toList_map,ep];rfl
  have plen:p.length=vs.length:=by rw[pp.length_eq,Q9]
  rw[eo];refine AL (seqEpoch_at h6 rfl (AL (uH h6 rfl ?_ (CG _) (by unfold Fx;simp;lia))));rw[hf];simp only[Jw,DU,Bs];refine Af (h p pp fun i j hij hj=>?_);have sz:(dq st').size=vs.length:=by rw[pm.size_eq,hzz]
  have at_:∀k,k<vs.length->kv (N1 vs r) (dq st') k=r (p.getD k 0):=fun k hk'=>by
   have hk1:k<(dq st').size:=by lia
   have hm:=getD_mem (arr:=dq st') hk1;obtain⟨i0,hi0,ei0,e12⟩:=inx _ hm;have hpk:p.getD k 0<vs.length:=by rw[Cs,Ap (by lia)];exact LA.mp (pp.mem_iff.mp (Fl _))
   refine Sd hr hpk ?_;have:((dq st').toList.map (·.2))[k]? =some ((dq st').getD k dK).2:=by rw[A0,GB,GH _ k hk1,Gu,GH _ k hk1];rfl
   rw[ep,A0] at this;rw[Ap (by lia)] at this;have t2:=Ai this;rw[e12,<-t2,Cs (l:=p),Ap (by lia)];rfl
  have:=up i j (CG _) hij (by lia);rw[at_ i (by lia),at_ j hj] at this;exact this
def Vm{x:AB}
 (hcol:bt (ax prog w) A.in1 (tZ x) (fun vs s1=>vs.length<=1000000/\∃r:Nat->Nat,(∀i j,i<vs.length->j<vs.length->vs.getD i Value.none=vs.getD j Value.none->r i=r j)/\
  (2<=vs.length->∀h':qp,(∀b o,s1.heap.get? b=some o->h'.get? b=some o)->Nv prog w A.in1.in1 vs r {s1 with heap:=h'})/\
  ∀(p:List Nat) h2 e,p.Perm (List.range vs.length)->(∀i j,i<=j->j<vs.length->r (p.getD i 0)<=r (p.getD j 0))->(∀b o,s1.heap.get? b=some o->h2.get? b=some o)->h2.get? s1.heap.objs.size=some (rA "list" (Fx vs p).toArray e)->Q (.ref s1.heap.objs.size) {s1 with heap:=h2}) E s):
 bt (ax prog w) A (call (.builtin "sorted") [x]) Q E s:=by
 refine Calls.call_function_entry kind_sorted plain_sorted entry_sorted (args_sorted1 _) ?_;unfold Builtin.«sorted»;refine AL (m:=checkCount "sorted" 1 1 _) (Af (AL (DC hcol (fun vs s1 hs=>?_) fun _ _ z=>z)));obtain⟨hl,r,hr,hk,h⟩:=hs;have hle:vs.length<=sizeLine:=by rw[Aw];lia
 refine AL (RX ?_ hle);have ho:(s1.heap.push (rA "list" vs.toArray 0)).get? s1.heap.objs.size=some (rA "list" vs.toArray 0):=By _ rfl;have z:(s1.heap.push (rA "list" vs.toArray 0)).objs.size=s1.heap.objs.size+1:=tm ..;show bt _ _ _ _ _ {s1 with heap:=s1.heap.push (rA "list" vs.toArray 0)};refine AL (GG (Oa slot_list_sort ⟨_,ho,rfl⟩ entry_list_sort (gL r ho hle hr (fun h2=>?_) fun p a1 a2=>⟨_,rfl,?_⟩) (args_list_sort _)))
 ·refine hk h2 _ fun b o q=>?_;have lt:=A1 q;unfold LZ;refine BC _ (BC _ ?_);rw[MV _ _ _ _ (BN lt)];exact BC _ q
 ·unfold sortedHeap;obtain⟨e1,h1⟩:∃e1,((s1.heap.push (rA "list" vs.toArray 0)).update s1.heap.objs.size (Obj.mapSeq fun _=>(#[]:Array AB))).get? s1.heap.objs.size=some (rA "list" #[] e1):=⟨_,tV ho fun _=> #[]⟩;have h2:=BC (rA "list" #[] 0) (BC (rA "tuple" vs.toArray 0) h1);refine Af ⟨_,rfl,h p _ _ a1 a2 (fun b o q=>?_) (tV h2 fun _=>_)⟩;have lt:=A1 q;rw[MV _ _ _ _ (BN lt)];refine BC _ (BC _ ?_);rw[MV _ _ _ _ (BN lt)];exact BC _ q
def fG{r:Ya}{n:Nat}{P:Nat->AB->Prop}{OK:qp->Prop}{Q:List AB->Yf->Prop}(K:KdlSrc prog w T r d n P OK)(hh:A.handled=none)(hok:OK s.heap)(hn:n<=sizeLine)
 (h:∀vs h' tk,vs.length=n->(∀(j:Nat) v,vs[j]? =some v->P j v)->(∀b o,s.heap.get? b=some o->h'.get? b=some o)->s.heap.objs.size<h'.objs.size->Q vs {s with heap:=h',toks:=tk}):bt (ax prog w) A (tZ (.ref r)) Q E s:=by
 have hlt:=K.there _ hok;unfold tZ;refine AL (wpAny_runValue (IU entry_proto_collect' ?_));show bt _ _ (do again (.builtin "list.__iadd__" ⟨[<-newList [],.ref r],[]⟩)) _ _ s;refine AL (RX (Af ⟨OW _ (by left),IU entry_list_iadd' ?_⟩));rw[MT (show plainId "list.__iadd__" =true from by left) _];refine kdl_extend (A:=A) (R:=wants (fun v s'=>bt (ax prog w) A (match v with
  |.ref a=>do
   let o<-load a
   match o.data with
   |.seq xs _=>pure xs.toList
   |_=>rN "internal:collect"
  |_=>rN "internal:collect") Q E s') E) (s:={s with heap:=s.heap.push (rA "list" #[] 0)}) K hh (K.keep _ _ hok fun b _ o e=>BC _ e) s.heap.objs.size (Eo hlt.1) (Eo hlt.2) (.ref s.heap.objs.size) 0 (By _ rfl) (fun h' tk acc' c' keep hS hacc=>?_) hn;refine AL (wpAny_load hS (Af (h _ h' tk (by rw[En];exact hacc.1) (fun j v e=>hacc.2 j v (by rw[<-GB];exact e)) (fun b o e=>keep b o (BN (A1 e)) (BC _ e)) (A1 hS))))
def d9(I:Inv X pins σ H s)(d:Drawn):Inv X pins σ H {s with drawn:=d}:=
 ⟨I.ok,I.os,I.bare,I.base,I.loc,I.cell,I.free,I.DM,I.pin,I.hok,I.len⟩
def Zj(zs:List α)(d:α):(List.range zs.length).map (fun i=>zs.getD i d)=zs:=by
 apply Jx;intro k;rw[A0];by_cases hk:k<zs.length
 ·rw[VU hk,Ap hk];simp[hk]
 ·rw[Em (by simp;lia),Em (by lia)];rfl
def sorted_strs{Q:VK}{x:AB}{zs0:List Str}(I:Inv X pins σ H s)(hz:zs0.length<=1000000)
 (hcol:∀Q':List AB->Yf->Prop,(∀(vs:List AB)(zs:List Str) h' tk d,Vals (zs.map V.str) vs->zs.Perm zs0->(∀b o,s.heap.get? b=some o->h'.get? b=some o)->s.heap.objs.size<=h'.objs.size->Q' vs {s with heap:=h',toks:=tk,drawn:=d})->bt (ax X.prog X.w) X.A.in1 (tZ x) Q' X.xe s)
 (q:∀(D:Ya)(ys:List Str),H D=none->ys.Perm zs0->ys.Pairwise (fun a b=>L8 b a=false)->Q (.ref D) (upd H D (.lst (ys.map V.str)))):
 bt (ax X.prog X.w) X.A (call (.builtin "sorted") [x]) (EP X pins σ Q) X.xe s:=by
 refine Vm (hcol _ fun vs zs h' tk d rv pz kp sz=>?_);have hl:zs.length=vs.length:=by rw[<-rv.length,AK]
 have hlz:zs.length=zs0.length:=pz.length_eq;refine⟨by lia,MC zs,fun i j hi hj e=>?_,fun h2 h2' kp2=>iF rv h2,fun p h2 e pp hp2 kp2 hD=>?_⟩
 ·obtain⟨t1,e1⟩:=Li rv (k:=i) (by lia);obtain⟨t2,e2⟩:=Li rv (k:=j) (by lia);rw[e1,e2] at e;unfold MC;rw[(Value.str.inj e).1]
 ·rw[<-hl] at pp hp2;have pin:∀i∈p,i<zs.length:=fun i hi=>LA.mp (pp.mem_iff.mp hi);have plen:p.length=zs.length:=by rw[pp.length_eq,Q9]
  have hvals:Vals ((p.map fun i=>zs.getD i "").map V.str) (Fx vs p):=by
   unfold Fx;refine NN (by simp) fun i x u h1 h2=>?_;rw[Bf,A0] at h1;rw[A0] at h2
   cases e:p[i]?with
   |none=>rw[e] at h1;cases h1
   |some k=>
   rw[e] at h1 h2;cases Ai h1;cases Ai h2;obtain⟨t,et⟩:=Li rv (pin k (CF e));exact⟨t,et⟩
  have I1:=I.laid (t':=tk) (h':=h2) (a:=h'.objs.size) (o:=.lst ((p.map fun i=>zs.getD i "").map V.str)) (fun b ob z=>kp2 b ob (kp b ob z)) sz
   ⟨by rw[AK,AK,plen,Aw];lia,_,e,hvals,hD⟩;refine⟨.ref h'.objs.size,_,d9 I1 d,rfl,q _ _ (I.hok.fresh sz) ?_ ?_⟩
  ·have:=pp.map fun i=>zs.getD i "";rw[Zj] at this;exact this.trans pz
  ·rw[Mc,OH];intro i j hi hj hij;have h1:=hp2 i j (by lia) (by lia);rw[Cs,Ap hi,Cs,Ap hj] at h1;have e3:=PV Gg zs (a:=zs.getD p[j] "") (b:=zs.getD p[i] "") (XZ (pin _ (Fl hj)));have e5:L8 (zs.getD p[j] "") (zs.getD p[i] "")=decide (MC zs p[j]<MC zs p[i]):=e3;rw[e5];exact BO (by simpa using h1)
def Vy:DO X (.builtin "sorted") (kW X.K):=by
 intro pins s σ H xs us Q I r h;obtain⟨l,zs,rfl,hq,h64,q⟩:=h;obtain⟨u,rfl,rx⟩:=vals1 r;cases rx;obtain⟨AO,rv,pl,hz⟩:=I.list hq;have hl:zs.length=AO.length:=by rw[<-rv.length,AK]
 refine sorted_strs I (zs0:=zs) (by lia) (fun Q' hQ=>collect_list (A:=X.A.in1) pl.isList (hQ AO zs _ s.toks s.drawn rv (.refl _) (fun b ob z=>?_) ?_) (by rw[Aw];lia)) q
 ·show((s.heap.push (rA "list" #[] 0)).update s.heap.objs.size _).get? b=some ob;rw[MV _ _ _ _ (BN (A1 z))];exact BC _ z
 ·rw[RH,tm];exact Ep _
def lF:List V->Hp->VK->Prop:=fun xs H Q=>∃(d:Ya)(AA:List (Key×V))(zs:List Str),xs=[.ref d]/\H d=some (.dK AA)/\AA.map (·.1)=zs.map Sum.inr/\zs.length<=1000000/\
 ∀(D:Ya)(ys:List Str),H D=none->ys.Perm zs->ys.Pairwise (fun a b=>L8 b a=false)->Q (.ref D) (upd H D (.lst (ys.map V.str)))
def dE(hc:X.calm=true):DO X (.builtin "sorted") lF:=by
 intro pins s σ H xs us Q I r h;obtain⟨d,AA,zs,rfl,hd,hk,hz,q⟩:=h;obtain⟨u,rfl,rx⟩:=vals1 r;cases rx;obtain⟨z,hm,ws,rel,dd⟩:=Jd I.hok hd;obtain⟨ep,da⟩:=dd.dictAt;have hh:X.A.handled=none:=I.ok.hd hc;have hlen:=rel.length;have hlk:AA.length=zs.length:=by have:=BJ List.length hk;simpa using this
 refine sorted_strs I hz (fun Q' hQ=>fG (A:=X.A.in1) (kdl_dict hm) hh da (by lia) fun vs h' tk hl hi kp sz=>hQ vs zs h' tk s.drawn (NN (by rw[AK];lia) fun i x u h1 h2=>?_) (.refl _) kp ?_) q
 ·obtain⟨k,y,ek,is⟩:=hi i u h2;have hk2:(AA.map (·.1))[i]? =some k:=by rw[rel.keys,A0,ek];rfl
  rw[hk,A0] at hk2;rw[A0] at h1
  cases e:zs[i]?with
  |none=>rw[e] at h1;cases h1
  |some zz=>
   rw[e] at h1 hk2;cases Ai h1;cases Ai hk2;have is':JX (Sum.inr zz) u=true:=is;rcases GJ is' with⟨i,t,e1,_⟩|⟨z,t,e1,rfl⟩
   ·cases e1
   ·cases e1;exact⟨t,rfl⟩
 ·exact Fm sz
noncomputable def ME(P:ql)(w:qu)(D:Ya)(zs:List Str):HO:=.ext fun h=>Ee P w h D zs
def oH(P:ql)(w:qu)(K:uJ):List V->Hp->VK->Prop:=fun xs H Q=>∃(a:Ya)(ys:List Str),xs=[.ref a]/\AX K H a (ys.map V.str)/\ys.length<=1000/\∀D,H D=none->Q (.ref D) (upd H D (ME P w D (FU [] ys)))
def gJ(hP:X.prog=P)(hw:X.w=w)(hK:X.K=K)(hc:X.calm=true):DO X (.type "set") (oH P w K):=by
 subst hP;subst hw;subst hK;intro pins s σ H xs us Q I r h;obtain⟨a,ys,rfl,ha,hz,q⟩:=h;obtain⟨u,rfl,rx⟩:=vals1 r;cases rx;obtain⟨AO,rv,pl,_⟩:=I.tuple ha;have hh:X.A.handled=none:=I.ok.hd hc;have hl:ys.length=AO.length:=by rw[<-rv.length,AK]
 refine cZ (items:=AO.toArray) (ys:=ys) hh pl (by simpa using hl) (fun i v z h1 h2=>?_) (by unfold rQ;simp;lia) fun h' tk hS kp=>?_
 ·have e:(ys.map V.str)[i]? =some (V.str z):=by rw[A0,h2];rfl
  obtain⟨u,hu,t,ht⟩:=rv.get e;rw[VM,hu] at h1;cases Ai h1;exact⟨t,ht⟩
 ·have hS0:=hS;obtain⟨o,es,ep,t,ho,_⟩:=hS;have I1:=I.laid (t':=tk) (h':=h') (a:=s.heap.objs.size) (o:=.ext fun h=>Ee X.prog X.w h s.heap.objs.size (FU [] ys)) kp (Ad _)
   ⟨hS0,⟨o,ho⟩,fun h1 h2 x e=>x.at e⟩;exact⟨.ref s.heap.objs.size,_,I1,rfl,q _ (I.hok.fresh (Ad _))⟩
def lU(P:ql)(w:qu):List V->Hp->VK->Prop:=fun xs H Q=>∃(a:Ya)(zs:List Str),xs=[.ref a]/\H a=some (ME P w a zs)/\
 ∀(D:Ya)(ys:List Str),H D=none->ys.Perm zs->ys.Pairwise (fun a b=>L8 b a=false)->Q (.ref D) (upd H D (.lst (ys.map V.str)))
def di(hP:X.prog=P)(hw:X.w=w)(hc:X.calm=true):DO X (.builtin "sorted") (lU P w):=by
 subst hP;subst hw;intro pins s σ H xs us Q I r h;obtain⟨a,zs,rfl,ha,q⟩:=h;obtain⟨u,rfl,rx⟩:=vals1 r;cases rx;have hh:X.A.handled=none:=I.ok.hd hc;have hS:Ee X.prog X.w s.heap a zs:=(I.hok a _ ha).1;have hz:zs.length<=1000000:=by
  obtain⟨o,es,ep,t,_,_,_,_,_,_,hb,_⟩:=hS;have:rQ=4096:=rfl
  lia
 refine sorted_strs I hz (fun Q' hQ=>eQ (A:=X.A.in1) hh hS fun vs h' d tv pm kp sz=>hQ vs (vs.map L2.tx) h' s.toks d (NN (by simp) fun i x u h1 h2=>?_) pm kp (Fm sz)) q;rw[Bf,A0,h2] at h1;cases Ai h1;obtain⟨z,t,rfl⟩:=tv u (CF h2);exact⟨t,rfl⟩
def kl(K:uJ):List V->Hp->VK->Prop:=fun xs H Q=>∃(l:Ya)(ps:List (Ya×List Key))(sh:List Bool),xs=[.ref l]/\AJ K H l (ps.map fun p=>V.ref p.1)/\sh≠[]/\(∀p∈ps,H p.1=some (.tup (p.2.map kV))/\p.2.map kd=sh)/\ps.length<=1000000/\
 ∀(D:Ya)(qs:List (Ya×List Key)),H D=none->qs.Perm ps->qs.Pairwise (fun a b=>DY b.2 a.2=false)->Q (.ref D) (upd H D (.lst (qs.map fun p=>V.ref p.1)))
def Oy:DO X (.builtin "sorted") (kl X.K):=by
 intro pins s σ H xs us Q I r h;obtain⟨l,ps,sh,rfl,hq,hne,hp,hz,q⟩:=h;obtain⟨u,rfl,rx⟩:=vals1 r;cases rx;obtain⟨AO,rv,pl,_⟩:=I.list hq;have ei:=V7 rv;subst ei;have hl:(ps.map fun p=>Value.ref p.1).length=ps.length:=AK ..;have gi:∀k,k<ps.length->(ps.map fun p=>Value.ref p.1).getD k Value.none=Value.ref (ps.getD k (0,[])).1:=fun k hk=>by rw[Cs,A0,Ap hk,Cs,Ap hk];rfl
 have mi:∀k,k<ps.length->ps.getD k (0,[])∈ps:=fun k hk=>by rw[Cs,Ap hk];exact Fl hk
 refine Vm (collect_list (A:=X.A.in1) pl.isList ⟨by lia,Kt ps,fun i j hi hj e=>?_,fun h2 h' kp=>?_,fun p h2 e pp hp2 kp2 hD=>?_⟩ (by rw[Aw];lia))
 ·rw[hl] at hi hj;rw[gi i hi,gi j hj] at e;have e1:=(hp _ (mi i hi)).1;rw[Value.ref.inj e,(hp _ (mi j hj)).1] at e1;have e2:=YN (HO.tup.inj (Ai e1));unfold Kt FT;rw[e2]
 ·refine iG (sh:=sh) (fun x hx=>?_) (fun x hx=>(hp x hx).2) hne (by lia);obtain⟨_,us,ru,o,h1,h2,n,h3⟩:=(show BR X.prog X.w H s.heap x.1 (.tup (x.2.map kV)) from I.hok x.1 _ (hp x hx).1);refine⟨us,ru,o,kp _ _ ?_,h2,n,h3⟩;show((s.heap.push (rA "list" #[] 0)).update s.heap.objs.size _).get? x.1=some o;rw[MV _ _ _ _ (BN (A1 h1))];exact BC _ h1
 ·rw[hl] at pp hp2;have pin:∀i∈p,i<ps.length:=fun i hi=>LA.mp (pp.mem_iff.mp hi);have plen:p.length=ps.length:=by rw[pp.length_eq,Q9]
  have eo:Fx (ps.map fun p=>Value.ref p.1) p=(p.map fun i=>ps.getD i (0,[])).map fun p=>Value.ref p.1:=by unfold Fx;rw[Bf];exact EF fun i hi=>gi i (pin i hi)
  rw[eo] at hD;have z:((s.heap.push (rA "list" #[] 0)).update s.heap.objs.size (Obj.mapSeq (·++(ps.map fun p=>Value.ref p.1).toArray))).objs.size=s.heap.objs.size+1:=by rw[RH,tm]
  have I1:=I.laid (t':=s.toks) (h':=h2) (a:=s.heap.objs.size+1) (o:=.lst ((p.map fun i=>ps.getD i (0,[])).map fun p=>V.ref p.1)) (fun b ob q=>kp2 b ob (by show((s.heap.push (rA "list" #[] 0)).update s.heap.objs.size _).get? b=some ob;rw[MV _ _ _ _ (BN (A1 q))];exact BC _ q)) (Ep _)
   ⟨by rw[AK,AK,plen,Aw];lia,_,e,Vz _,by rw[<-z];exact hD⟩;show EP X pins σ Q _ _;dsimp only;rw[z];refine⟨.ref (s.heap.objs.size+1),_,I1,rfl,q _ _ (I.hok.fresh (Ep _)) ?_ ?_⟩
  ·have:=pp.map fun i=>ps.getD i (0,[]);rw[Zj] at this;exact this
  ·rw[Mc,OH];intro i j hi hj hij;have h1:=hp2 i j (by lia) (by lia);rw[Cs,Ap hi,Cs,Ap hj] at h1;have e3:=PV lexOrd (ps.map (·.2)) (a:=FT ps p[j]) (b:=FT ps p[i]) (Wa (pin _ (Fl hj)));have e5:DY (FT ps p[j]) (FT ps p[i])=decide (Kt ps p[j]<Kt ps p[i]):=e3;show DY (FT ps p[j]) (FT ps p[i])=false;rw[e5];exact BO (by simpa using h1)
end
abbrev OE:hX:=Wf
abbrev bp:hX:=Vr
abbrev bV:hX:=Vv
noncomputable def E9(c:Nat):Bool:=(!decide (([c]:List Nat)<("a" :Str).cps.toList))&&(!decide (("z" :Str).cps.toList<[c]))
def isNm(w:Str):Bool:=(!decide (w=""))&&w.cps.toList.all E9
noncomputable def Hl(w:Str):Str:=Txt.slice w (some 1) (some (-1))
def ET(w:Str):Bool:=Txt.startswith w "[" &&(Txt.endswith w "]" &&isNm (Hl w))
def C6(w:Str):Str×Str:=if ET w=true then("to",Hl w) else("word",w)
noncomputable def CY(t:Str):List Str:=(Txt.split t " ").filter fun p=> !decide (p="")
def Ur(w:Str):Dt:=.tup [.str (C6 w).1,.str (C6 w).2]
def QJ:Sp:=fun vs H Q _=>∃w:Str,vs=[.str w]/\w.length<=100000/\∀H',AQ H H'->Q (.bl (isNm w)) H'
def aK:Sp:=fun vs H Q _=>∃w:Str,vs=[.str w]/\w.length<=100000/\∀p H',AQ H H'->H p=none->H' p=some (.tup [.str (C6 w).1,.str (C6 w).2])->Q (.ref p) H'
def aL:Sp:=fun vs H Q _=>∃t:Str,vs=[.str t]/\t.length<=10000/\∀D H',AQ H H'->Rep H' (.lst ((CY t).map Ur)) (.ref D)->Q (.ref D) H'
def pE:Az ["word"] ["word"] (Ao OE):=by left
def Tu(F:Aj K "is_name" "is_name" OE f fd)(hall:mg "all" =none):AW P w K mg base Ah 1 f fd ["word"] QJ:=by
 refine F.ok pE ?_ ?_
 ·rintro _ _ _ _ ⟨_,rfl,_⟩;rfl
 ·rintro _ A _ s H _ Q E hr ⟨x,rfl,hx,k⟩;refine⟨_,AU (An (Po (Ic Fw (pv 0) AZ (Ar _))
   (Pu (BY (i7 rfl) rfl hall boot_all (AE (Eu (ts:=["sign"]) (cap:=[]) (ix:=[]) (cl:=[]) (KJ rfl rfl (by left) (by left)) (Yu (pv 0))
    (fun _ _ _ _ _=>Bh (i:=0) Ei rfl (Aa rfl) (Cv rfl)) (fun _ _ _ _ _=>Ga) (fun _ _ _ _ _=>i3 Wk Wk AZ (pv 0) AZ)) AI))))),?_⟩;refine⟨_,rfl,rfl,_,rfl,?_⟩;by_cases e:x=""
  ·refine ER (by rw[e]) ?_;have:isNm x=false:=by unfold isNm;rw[BW e];rfl
   have q:=k H (AQ.refl H);rw[this] at q;exact q
  ·refine Gh (fun z=>e (V.str.inj z)) ?_;have en:isNm x=x.cps.toList.all E9:=by unfold isNm;rw[BO e];rfl
   have el:x.cps.toList.length<=100000:=by simpa[Str.length] using hx
   refine⟨_,rfl,x,rfl,fun D hD=>W6 (fun i H'=>i<=x.cps.toList.length/\H'=upd H D (.lst ((x.cps.toList.take i).map fun c=>.bl (E9 c)))) ⟨CG _,rfl⟩ ?_ ?_⟩
   ·rintro i c H' hc ⟨hi,rfl⟩;have hlt:i<x.cps.toList.length:=(BZ.mp hc).1;refine⟨FV,_,rfl,_,_,rfl,rfl,_,rfl,?_⟩;have fin:∀b:Bool,b=E9 c->∃ys,(upd H D (.lst ((x.cps.toList.take i).map fun c=>.bl (E9 c)))) D=some (.lst ys)/\ys.length<sizeLine/\
     i+1<=x.cps.toList.length/\upd (upd H D (.lst ((x.cps.toList.take i).map fun c=>.bl (E9 c)))) D (.lst (ys++[V.bl b]))=upd H D (.lst ((x.cps.toList.take (i+1)).map fun c=>.bl (E9 c))):=by
     rintro b rfl;refine⟨_,AM,?_,hlt,?_⟩
     ·rw[AK,Bc,Aw]
      lia
     ·rw[KO,EW,hc,A8];rfl
    by_cases h1:([c]:List Nat)<("a" :Str).cps.toList
    ·refine ER h1 ?_;exact fin false (by unfold E9;rw[BW h1];rfl)
    ·refine Gh h1 ?_;refine⟨_,_,rfl,rfl,?_⟩;exact fin _ (by unfold E9;rw[BO h1];rfl)
   ·rintro H' ⟨_,rfl⟩;refine⟨D,x.cps.toList.map E9,rfl,AJ.of ?_,?_⟩
    ·rw[AM,Cy,Bf];rfl
    ·have q:=k _ (AY (o:=.lst ((x.cps.toList.take x.cps.toList.length).map fun c=>.bl (E9 c))) hD);rw[en] at q;have ea:(x.cps.toList.map E9).all id=x.cps.toList.all E9:=by rw[List.all_map];rfl
     rw[ea];exact q
def bE:Az ["word","inner"] ["word"] (Ao bp):=by left
variable{fdI:qo}
def nF(F:Aj K "read_word" "read_word" bp f fd)(FI:Aj K "is_name" "is_name" OE fI fdI)(bI:Binds K fdI ["word"] [])(mI:mg "is_name" =some (.ref fI))(hall:mg "all" =none):
 AW P w K mg base Ah 2 f fd ["word"] aK:=by
 have GI:AW P w K mg base Ah 1 fI fdI ["word"] QJ:=Tu FI hall;refine F.ok bE ?_ ?_
 ·rintro _ _ _ _ ⟨_,rfl,_⟩;rfl
 ·rintro _ A _ s H _ Q E hr ⟨x,rfl,hx,k⟩;have hsz:x.length<=sizeLine:=by rw[Aw];lia
  have hin:(Hl x).length<=100000:=BF (Oo x _ _) hx;refine⟨_,AS (Av (i:=1) bE.nd rfl (Aa rfl) (Dr Ln (pv 0) (C0 Ac) (C0 (Eb Ea Ac))))
   (AS (A7 (PW.pt (FN (EN (JV Iy PySem.F.slot_str_startswith PySem.F.type_str_startswith eI (pv 0) (AE AZ AI)))
    (FN (EN (JV Iy PySem.F.slot_str_endswith PySem.F.type_str_endswith kC (pv 0) (AE AZ AI)))
    (HH (EN (CL GI hr rfl mI FI.kp bI .nil A3 (AE (pv 1) AI)))))))
    (AU (An (CJ (AE AZ (AE (pv 1) AI))))) BG)
   (AU (An (CJ (AE AZ (AE (pv 0) AI)))))),?_⟩;refine⟨_,rfl,_,rfl,_,rfl,_,rfl,x,rfl,hsz,?_⟩;have plain:ET x=false->∀H1,AQ H H1->∀p,H1 p=none->Q (.ref p) (upd H1 p (.tup [.str "word",.str x])):=fun e H1 s1 p hp=>by
   have er:C6 x=(("word" :Str),x):=by unfold C6;rw[e];rfl
   refine k p _ (s1.upd (s1.free hp)) (s1.free hp) ?_;rw[AM,er]
  refine⟨_,rfl,rfl,_,_,rfl,rfl,_,rfl,?_⟩
  cases e1:Txt.startswith x "[" with
  |false=>refine BK (BK ⟨_,rfl,by show 2<=sizeLine;decide,plain (by unfold ET;rw[e1];rfl) H (AQ.refl H)⟩)
  |true=>
   refine Bo ⟨_,rfl,rfl,_,_,rfl,rfl,_,rfl,?_⟩
   cases e2:Txt.endswith x "]" with
   |false=>refine BK (BK ⟨_,rfl,by show 2<=sizeLine;decide,plain (by unfold ET;rw[e1,e2];rfl) H (AQ.refl H)⟩)
   |true=>
    refine Bo ⟨_,rfl,Hl x,rfl,hin,fun H1 s1=>⟨_,rfl,?_⟩⟩
    cases e3:isNm (Hl x) with
    |false=>refine BK ⟨_,rfl,by show 2<=sizeLine;decide,plain (by unfold ET;rw[e1,e2,e3];rfl) H1 s1⟩
    |true=>
     refine Bo ⟨_,rfl,by show 2<=sizeLine;decide,fun p hp=>?_⟩;have er:C6 x=(("to" :Str),Hl x):=by unfold C6 ET;rw[e1,e2,e3];rfl
     refine k p _ (s1.upd (s1.free hp)) (s1.free hp) ?_;rw[AM,er];rfl
def Ve(t p:Str)(h:p∈Txt.split t " "):p.length<=t.length:=by
 have hw:=Ms t " " (by decide);have h2:p.length<=((Txt.split t " ").map (·.length)).sum:=by
  generalize Txt.split t " " =L at h
  induction L with
  |nil=>cases h
  |cons a r ih=>
   rw[Ay,Bz];rcases Be.mp h with e|e
   ·subst e;lia
   ·have:=ih e;lia
 have h3:1<=(Txt.split t " ").length:=VF h
 lia
def pj:Az ["text"] ["text"] (Ao bV):=by left
def oE(F:Aj K "split_up" "split_up" bV f fd)(HR:Hv P w K mg base "read_word" 2 ["word"] aK):
 AW P w K mg base Ah 3 f fd ["text"] aL:=by
 refine F.ok pj ?_ ?_
 ·rintro _ _ _ _ ⟨_,rfl,_⟩;rfl
 ·rintro _ A _ s H _ Q E hr ⟨x,rfl,hx,k⟩;refine⟨_,AU (An (Eu (ts:=["piece"]) (cap:=[]) (ix:=[]) (cl:=[]) (KJ rfl rfl (by left) (by left))
   (GX (JV Iy Qq Qp PH (pv 0) (AE AZ AI)))
   (fun _ _ _ _ _=>Bh (i:=0) Ei rfl (Aa rfl) (Cv rfl)) (fun _ _ _ _ _=>NM (Ax Fw (pv 0) AZ (Ar _)))
   (fun _ _ _ _ _=>Cb HR hr rfl A3 (AE (pv 0) AI)))),?_⟩;have hlen:(Txt.split x " ").length<=10001:=by
   have:=Ms x " " (by decide)
   lia
  refine⟨_,rfl,rfl,x,_,rfl,rfl,by left,by rw[Aw];lia,fun D0 hD0=>?_⟩;refine⟨D0,rfl,⟨_,AJ.of AM⟩,fun D hD=>?_⟩;have hne:D0≠D:=A9 AM hD;have hDn:H D=none:=(AY hD0).free hD;refine GK (xs:=(Txt.split x " ").map V.str) (fun i H'=>AQ H H'/\H' D0=some (.lst ((Txt.split x " ").map V.str))/\∃ys,H' D=some (.lst ys)/\ys.length<=i/\
   Ab (Ex H' D) ((((Txt.split x " ").take i).filter fun p:Str=> !decide (p="")).map Ur) ys) ?_ ?_ ?_ ?_
  ·refine⟨((AQ.refl H).upd hD0).upd hDn,?_,[],AM,Ad _,Ab.nil⟩;rw[AR hne,AM]
  ·rintro i H' _ ⟨_,h0,_⟩;exact AJ.of h0
  ·rintro i v H' hv ⟨sm,h0,ys,hy,hyl,rp⟩;rw[A0] at hv
   cases ep:(Txt.split x " ")[i]?with
   |none=>rw[ep] at hv;cases hv
   |some pc=>
    rw[ep] at hv;obtain rfl:V.str pc=v:=Ai hv;have hi:i<(Txt.split x " ").length:=(BZ.mp ep).1;have hpl:pc.length<=100000:=by
     have:=Ve x pc (CF ep)
     lia
    refine⟨FV,⟨_,rfl,rfl,_,rfl,?_⟩⟩;by_cases e:pc=""
    ·refine ER (by rw[e]) ⟨sm,h0,ys,hy,by lia,?_⟩;rw[EW,ep,I9];have:(Option.toList (some pc)).filter (fun p:Str=> !decide (p=""))=[]:=by rw[e];rfl
     rw[this,Ct];exact rp
    ·refine Gh (fun z=>e (V.str.inj z)) ⟨_,rfl,pc,rfl,hpl,fun p H2 s2 hp hp2=>?_⟩;have hpD:p≠D:=(A9 hy hp).symm;have hyy:H2 D=some (.lst ys):=s2 _ _ hy;refine⟨ys,hyy,by rw[Aw];lia,(sm.trans s2).upd hDn,by rw[AR hne];exact s2 _ _ h0,ys++[.ref p],AM,by rw[Au,CK];lia,?_⟩;rw[EW,ep,I9];have:(Option.toList (some pc)).filter (fun p:Str=> !decide (p=""))=[pc]:=by show List.filter (fun p:Str=> !decide (p="")) [pc]=[pc];rw[Fi (by simpa using e)];rfl
     rw[this,A8,Ex.upd];refine(rp.same (Ex.mono s2)).snoc ?_;refine Rep.K0 (Ex.at hp2 hpD) ?_;exact(Ab.snoc (Ab.snoc Ab.nil (Rep.str _)) (Rep.str _))
  ·rintro H' ⟨sm,_,ys,hy,_,rp⟩;rw[AK,Cy] at rp;exact k D H' sm (Rep.Fd hy (rp.same Ex.sub))
structure Il(K:uJ)(mg:Str->Option AB)(cR fR:Ya):Prop where
 mR:mg "Refusal" =some (.ref cR)
 rd:readsIn K cR (.type "type")=true
 fi:findCls K (.ref cR) (.type "type") "__init__" =some (.val (.ref fR))
 sp:tN K (.ref cR) "__getattribute__" =some (some (.builtin "type.__getattribute__"))
 kp:rM K (.ref fR)=true
 cat:UJ K cR
def Ik(K:uJ):Sp:=fun vs H Q _=>∃e C ws msg,vs=[.ref e,.str msg]/\H e=some (xO e C none ws)/\Dg K C "answer" /\∀D,H D=none->D≠e->Q .BB (upd (upd H D (.xd [("answer",.str msg)])) e (xO e C (some D) ws))
def oG:Az ["self","answer"] ["self","answer"] (Ao J2):=by left
def kS(F:Aj K "__init__" "Refusal.__init__" J2 f fd):AW P w K mg base Ah 1 f fd ["self","answer"] (Ik K):=by
 refine F.ok oG ?_ ?_
 ·rintro _ _ _ _ ⟨_,_,_,_,rfl,_⟩;rfl
 ·rintro _ A _ s H _ Q E hr ⟨e,C,ws,msg,rfl,he,xa,q⟩;refine⟨_,(AU (jd (pv 0) (pv 1) rfl)),?_⟩;exact⟨_,rfl,_,rfl,e,C,ws,rfl,he,xa,fun d hd ne=>q d hd ne⟩
variable{fR cR:Ya}{fdR:qo}
def Lq{st:hX}{p1 p2 p3 p4 p5 p6:Pos}(F:Aj K "__init__" qual st f fd)(S:Az ["self"] ["self"] (Ao st))
 (hb:Ft st=[.Expr (.Call (.Attribute (.Name "Refusal" p1) "__init__" p2) [.Name "self" p3,.Constant (.str msg) k p4] [] p5) p6])(hg:(Ao st).names.lookup ("Refusal" :Str)=some .globalImplicit)(hs:(Ao st).names.lookup ("self" :Str)=some .local)
 (T:Il K mg cR fR)(G:AW P w K mg base Ah 1 fR fdR ["self","answer"] (Ik K))(bR:Binds K fdR ["self","answer"] [])(xa:Dg K C "answer")
 (ht:∀env:Env,∃pl:Sem Bool,qr (.Call (.Attribute (.Name "Refusal" p1) "__init__" p2) [.Name "self" p3,.Constant (.str msg) k p4] [] p5) env=(do
  let ov<-qr (.Name "Refusal" p1) env
  tX p2.atName
  let(f,first)<-sX [ov] (sj ov "__init__" pl)
  callWith p5 f first (q5 p5 (dy [.Name "self" p3,.Constant (.str msg) k p4] env)) (rq p5 (rJ [] env)))):AW P w K mg base Ah 2 f fd ["self"] (Fv C "answer" msg):=by
 refine F.ok S (fun vs H Q E h=>?_) (fun cdv A outer s H vs Q E hr h=>?_)
 ·obtain⟨e,ws,rfl,_⟩:=h;rfl
 ·obtain⟨e,ws,rfl,he,q⟩:=h;rw[hb];obtain⟨pl,hpl⟩:=ht (Jh Ah P w K mg base ["self"] qual (Ao st) f cdv A outer s H E).env;refine⟨_,(AU (Bp (ip (pl:=pl) hg T.mR T.rd T.fi T.sp T.kp G hr bR .nil A3 (AE (pv 0 (hv:=Aa hs)) (AE AZ AI)) (ht:=hpl)))),?_⟩;exact⟨_,rfl,e,C,ws,msg,rfl,he,xa,fun D hD ne=>q D hD ne⟩
structure Rz(P:ql)(w:qu)(K:uJ)(mg:Str->Option AB)(base:qp)(cR:Ya)(x msg:Str):Prop where
 ex:∃C fI fd bm,mg x=some (.ref C)/\U3 K C fI bm/\AW P w K mg base Ah 2 fI fd ["self"] (Fv C "answer" msg)/\Binds K fd ["self"] []/\UK K C cR/\Dg K C "answer"
def Xw(K:uJ)(cR:Ya)(E:XK)(H:Hp)(msg:Str):Prop:=∀C D H',UK K C cR->Dg K C "answer" ->AQ H H'->H' D=some (.xd [("answer",.str msg)])->E (.ref C) (some D) H'
def Xw.mono{E:XK}(h:Xw K cR E H msg)(s:AQ H H1):Xw K cR E H1 msg:=fun C D H' a b c d=>h C D H' a b (s.trans c) d
def Ke{E:XK}{np:Pos}(R:Rz P w K mg base cR x msg)
 (hr:Bl (k+3) (Gq P w K mg base N qual scope f cd A outer s H E).A)(hg:Gl (Gq P w K mg base N qual scope f cd A outer s H E) x)(hdb:(x==("__debug__" :Str))=false:=by decide):
 PS (Gq P w K mg base N qual scope f cd A outer s H E) (.Raise (some (.Call (.Name x np) [] [] cpos)) none pos) (fun _ _ H=>Xw K cR E H msg):=by
 obtain⟨C,fI,fd,bm,hm,M,F,hb,xs,xa⟩:=R.ex;have hr3:Bl (2+1) (Gq P w K mg base N qual scope f cd A outer s H E).A:=hr.mono (by lia);intro pins s1 σ H1 D I h;refine iS M F hr3 hg hm hb hdb pins s1 σ H1 D I fun e D' ws he hD ne=>h C D' _ xs xa ?_ ?_
 ·exact AQ.trans (AY hD) (AY (by rw[AR (DL ne)];exact he))
 ·rw[AR ne,AM]
def hU:Az ["self"] ["self"] (Ao RV):=by left
def eV(F:Aj K "__init__" "NoPage.__init__" RV f fd)(T:Il K mg cR fR)(G:AW P w K mg base Ah 1 fR fdR ["self","answer"] (Ik K))(bR:Binds K fdR ["self","answer"] [])(xa:Dg K C "answer"):
 AW P w K mg base Ah 2 f fd ["self"] (Fv C "answer" "no page"):=Lq F hU rfl rfl rfl T G bR xa (fun _=>⟨_,rfl⟩)
def iX:Az ["self"] ["self"] (Ao RT):=by left
def gK(F:Aj K "__init__" "NoName.__init__" RT f fd)(T:Il K mg cR fR)(G:AW P w K mg base Ah 1 fR fdR ["self","answer"] (Ik K))(bR:Binds K fdR ["self","answer"] [])(xa:Dg K C "answer"):
 AW P w K mg base Ah 2 f fd ["self"] (Fv C "answer" "no name"):=Lq F iX rfl rfl rfl T G bR xa (fun _=>⟨_,rfl⟩)
def dX:Az ["self"] ["self"] (Ao RJ):=by left
def cn(F:Aj K "__init__" "SamePage.__init__" RJ f fd)(T:Il K mg cR fR)(G:AW P w K mg base Ah 1 fR fdR ["self","answer"] (Ik K))(bR:Binds K fdR ["self","answer"] [])(xa:Dg K C "answer"):
 AW P w K mg base Ah 2 f fd ["self"] (Fv C "answer" "same page"):=Lq F dX rfl rfl rfl T G bR xa (fun _=>⟨_,rfl⟩)
def kH:Az ["self"] ["self"] (Ao Rg):=by left
def jA(F:Aj K "__init__" "Taken.__init__" Rg f fd)(T:Il K mg cR fR)(G:AW P w K mg base Ah 1 fR fdR ["self","answer"] (Ik K))(bR:Binds K fdR ["self","answer"] [])(xa:Dg K C "answer"):
 AW P w K mg base Ah 2 f fd ["self"] (Fv C "answer" "taken"):=Lq F kH rfl rfl rfl T G bR xa (fun _=>⟨_,rfl⟩)
def eL:Az ["self"] ["self"] (Ao RO):=by left
def de(F:Aj K "__init__" "NoPlace.__init__" RO f fd)(T:Il K mg cR fR)(G:AW P w K mg base Ah 1 fR fdR ["self","answer"] (Ik K))(bR:Binds K fdR ["self","answer"] [])(xa:Dg K C "answer"):
 AW P w K mg base Ah 2 f fd ["self"] (Fv C "answer" "no place"):=Lq F eL rfl rfl rfl T G bR xa (fun _=>⟨_,rfl⟩)
def eU:Az ["self"] ["self"] (Ao RN):=by left
def dP(F:Aj K "__init__" "NoWords.__init__" RN f fd)(T:Il K mg cR fR)(G:AW P w K mg base Ah 1 fR fdR ["self","answer"] (Ik K))(bR:Binds K fdR ["self","answer"] [])(xa:Dg K C "answer"):
 AW P w K mg base Ah 2 f fd ["self"] (Fv C "answer" "no words"):=Lq F eU rfl rfl rfl T G bR xa (fun _=>⟨_,rfl⟩)
def Dk(ws:List PR):Dt:=.lst (ws.map Di)
noncomputable def MK(ws:List PR):List Str:=(ws.filter fun p=>decide (p.1=("to" :Str))).map (·.2)
noncomputable def CO(ws:List PR)(a b:Str):List PR:=ws.map fun p=>if p=(("to" :Str),a) then(("to" :Str),b) else p
def aO:Sp:=fun vs H Q _=>∃v ws a b,vs=[v,.str a,.str b]/\Rep H (Dk ws) v/\ws.length<=100000/\∀u H',AQ H H'->Rep H' (Dk (CO ws a b)) u->Q u H'
def pf:Az ["words","name","fresh"] ["words","name","fresh"] (Ao Mu):=by left
def nR(F:Aj K "point_on" "point_on" Mu f fd):AW P w K mg base Ah 1 f fd ["words","name","fresh"] aO:=by
 refine F.ok pf ?_ ?_
 ·rintro _ _ _ _ ⟨_,_,_,_,rfl,_⟩;rfl
 ·rintro cdv A _ s H _ Q E hr ⟨v,ws,a,b,rfl,rp,hz,q⟩;have hu1:=Ck hr;have hu:(A.deeper (rm "point_on" (Ao Mu) s.heap.objs.size f cdv)).units<rC:=by lia
  refine⟨_,(AU (An (Eu (ts:=["word"]) (cap:=["name","fresh"]) (ix:=[1,2]) (gk rfl rfl (by left) (by left) rfl (by left) rfl rfl rfl rfl rfl rfl rfl rfl) (GX (pv 0))
   (fun _ _ _ _ _=>Bh (i:=0) (qQ (by left) (by left) (by left)) rfl (Aa rfl) (Cv rfl)) (fun _ _ _ _ _=>Ga)
   (fun _ _ _ _ _=>gh (Ax (XD hu) (pv 0) (CJ (AE AZ (AE (pv 1) AI))) (Ar _)) (CJ (AE AZ (AE (pv 2) AI))) (pv 0))))),?_⟩;obtain⟨l,xs,rfl,hl,rr⟩:=Ew rp;refine⟨_,rfl,l,rfl,⟨_,AJ.of hl⟩,fun D hD=>GK (xs:=xs) (fun i H'=>CI H D ((CO (ws.take i) a b).map Di) H') ?_ (fun i H' _ c=>AJ.of (c.same _ _ hl)) (fun i x H' ex c=>?_) fun H' c=>?_⟩
  ·exact CI.start hD
  ·obtain⟨p,ep,rx⟩:=Hw rr ex;obtain⟨ad,rfl,ha⟩:=Ng rx;have ha':=c.same _ _ ha;refine⟨FV,_,rfl,_,rfl,(by show 2<=sizeLine;decide),fun t ht=>?_⟩;have c2:=c.ext (AY (o:=.tup [.str "to",.str a]) ht);refine⟨ad,t,p,(("to" :Str),a),rfl,rfl,by rw[AR (A9 ha' ht)];exact ha',AM,_,rfl,?_⟩;have hlen:((CO (ws.take i) a b).map Di).length<=200000:=by
    have h2:=Hn i ws;unfold CO;rw[AK,AK]
    lia
   have es:CO (ws.take (i+1)) a b=CO (ws.take i) a b++[if p=(("to" :Str),a) then(("to" :Str),b) else p]:=JE ep;rw[es,A8];by_cases z:p=(("to" :Str),a)
   ·rw[BW z,AH z];refine Bo ⟨_,rfl,(by show 2<=sizeLine;decide),fun t2 ht2=>?_⟩;have c3:=c2.ext (AY (o:=.tup [.str "to",.str b]) ht2);obtain⟨ys,hys,_⟩:=c2.lst;refine c3.push (Ta (Ex.at AM ?_)) hlen;intro zz;rw[zz,hys] at ht2;cases ht2
   ·rw[BO z,AG z];refine BK ⟨_,rfl,?_⟩;refine c2.push (Ta (Ex.at ?_ ?_)) hlen
    ·rw[AR (A9 ha' ht)];exact ha'
    ·intro zz;rw[zz,hD] at ha;cases ha
  ·have e:xs.length=ws.length:=by have:=rr.1;rw[AK] at this;lia
   rw[e,Cy] at c;exact q _ _ c.same c.done
structure Hc(mg:Str->Option AB):Prop where
 sum:mg "sum" =none
 so:mg "sorted" =none
 set:mg "set" =none
 len:mg "len" =none
 en:mg "enumerate" =none
 lst:mg "list" =none
 all:mg "all" =none
 mn:mg "min" =none
abbrev Pg:=Str×List PR
def As(AA:List (Str×V)):List (Key×V):=HZ Sum.inr id AA
structure De(H:Hp)(AA:List (Str×V))(AD:List Pg):Prop where
 len:AA.length=AD.length
 row:∀(i:Nat) kv p,AA[i]? =some kv->AD[i]? =some p->kv.1=p.1/\Rep H (Dk p.2) kv.2
def De.same{H H':Hp}{AA:List (Str×V)}{AD:List Pg}(g:De H AA AD)(s:AQ H H'):De H' AA AD:=⟨g.len,fun i kv p a b=>⟨(g.row i kv p a b).1,(g.row i kv p a b).2.same s⟩⟩
variable{AD:List Pg}{kk:List (Key×V)}
def De.ex{AA:List (Str×V)}(g:De H AA AD)(hd:H d=some (.dK kk)):De (Ex H d) AA AD:=⟨g.len,fun i kv p a b=>⟨(g.row i kv p a b).1,Mt hd (g.row i kv p a b).2⟩⟩
structure MF(AD:List Pg):Prop where
 Cg:AD.length<=1000
 short:∀p∈AD,p.2.length<=100000
def Lp{o:HO}:AQ (Ex H d) (upd H d o):=fun b u e=>by
 unfold Ex at e;by_cases z:b=d
 ·rw[AH z] at e;cases e
 ·rw[AG z] at e;rw[AR z];exact e
def WV{o:HO}(hd:H d=some (.dK kk))(s:AQ (upd H d o) H2):AQ H (upd H2 d (.dK kk)):=fun b u e=>by
 by_cases z:b=d
 ·subst z;rw[hd] at e;cases e;exact AM
 ·rw[AR z];exact s b u (by rw[AR z];exact e)
def Pp{AA:List (Str×V)}{k:Key}{x:V}(h:(As AA)[i]? =some (k,x)):∃n,AA[i]? =some (n,x)/\k=Sum.inr n:=by
 have h':(AA.map fun p=>((Sum.inr p.1:Key),p.2))[i]? =some (k,x):=h;rw[A0] at h'
 cases e:AA[i]?with
 |none=>rw[e] at h';cases h'
 |some kv=>rw[e] at h';have:=Ai h';cases this;exact⟨kv.1,rfl,rfl⟩
noncomputable def He(ws:List PR)(a:Str):Int:=((ws.countP fun q=>decide (q=(("to" :Str),a)):Nat):Int)
def cnt(AD:List Pg)(a:Str):Int:=(AD.map fun p=>He p.2 a).sum
def Zf:Sp:=fun vs H Q _=>∃d a AA AD,vs=[.ref d,.str a]/\H d=some (.dK (As AA))/\De H AA AD/\MF AD/\∀H',AQ H H'->Q (.int (cnt AD a)) H'
noncomputable def Hg(AD:List Pg)(a:Str):List Str:=(AD.filter fun p=>p.2.any fun q=>decide (q=(("to" :Str),a))).map (·.1)
def nL:Az ["pages","name"] ["pages","name"] (Ao RE):=by left
def Rx(r:Ab H (ns.map Dt.int) ys):ys=ns.map V.int:=by
 apply Jx;intro i;rw[A0]
 cases e:ys[i]?with
 |none=>have h1:=OI.mp e;have h2:=r.1;rw[AK] at h2;rw[Em (by lia)];rfl
 |some y=>obtain⟨n,hn,rn⟩:=Hw r e;rw[hn];cases rn;rfl
def lC(F:Aj K "count_pointers" "count_pointers" RE f fd)(O:Hc mg):AW P w K mg base Ah 1 f fd ["pages","name"] Zf:=by
 refine F.ok nL ?_ ?_
 ·rintro _ _ _ _ ⟨_,_,_,_,rfl,_⟩;rfl
 ·rintro _ A _ s H _ Q E hr ⟨d,a,AA,AD,rfl,hd,g,sm,q⟩;have hu1:=Ck hr;refine⟨_,(AU (An (BY (WC rfl) rfl O.sum uU (AE (Yc (Eu (ts:=["words"]) (cap:=["name"]) (ix:=[1]) (Ia rfl rfl (by left) (by left) rfl rfl rfl rfl rfl)
   (jX (Nd MQ U9 uV WY (pv 0))) (fun _ _ _ _ _=>Bh (i:=0) (D5 (by left)) rfl (Aa rfl) (Cv rfl)) (fun _ _ _ _ _=>Ga)
   (fun _ _ _ _ _=>ko K rfl ED uW uX (cy hu1) (pv 0) (AE (CJ (AE AZ (AE (pv 1) AI))) AI)))) AI)))),?_⟩;refine⟨d,As AA,hd,_,rfl,.inr (.inr (.inl ⟨rfl,.inl ⟨_,hd⟩⟩)),d,_,rfl,rfl,hd,fun p hp=>⟨p,d,As AA,rfl,AM,by rw[AR (A9 hd hp)];exact hd,fun o D hD=>?_⟩⟩;have s1:AQ H (upd H p (HY p d)):=AY hp;have hd1:(upd H p (HY p d)) d=some (.dK (As AA)):=s1 _ _ hd;have g1:=(g.same s1).ex hd1;generalize upd H p (HY p d)=H1 at s1 hd1 g1 hD;have g2:=g1.same (Lp (o:=.BU o (.dK (As AA))));have hz2:(upd H1 d (.BU o (.dK (As AA)))) d=some (.BU o (.dK (As AA))):=AM;refine fm (fun i H'=>CI (upd H1 d (.BU o (.dK (As AA)))) D (((AD.take i).map fun p=>He p.2 a).map Dt.int) H') (CI.start hD) (fun i H' c=>c.same _ _ hz2) (fun i k x H' ex c=>?_) fun H' c=>?_
  ·obtain⟨n,ekv,rfl⟩:=Pp ex;have hi:i<AD.length:=by rw[<-g.len];exact(BZ.mp ekv).1
   have ep:AD[i]? =some AD[i]:=Ap hi;obtain⟨_,rw_⟩:=g2.row i _ _ ekv ep;obtain⟨l,xs,rfl,hl,rr⟩:=Ew (rw_.same c.same);refine⟨FV,_,rfl,.inl ⟨rfl,_,AJ.of hl⟩,_,rfl,(by show 2<=sizeLine;decide),fun t ht=>?_⟩;have st:=AY (o:=.tup [.str "to",.str a]) ht;have c2:=c.ext st;refine⟨t,l,(("to" :Str),a),AD[i].2,xs,rfl,rfl,AM,st _ _ hl,rr.same st,?_⟩;rw[JE (f:=fun p:Pg=>He p.2 a) ep,A8];refine c2.push (.int _) ?_;have h1:=Hn i AD;have h2:=sm.Cg;rw[AK,AK]
   lia
  ·have e:(As AA).length=AD.length:=by show(AA.map _).length=_;rw[AK];exact g.len
   rw[e,Cy] at c;obtain⟨ys,hy,ry⟩:=c.lst;have nd:D≠d:=fun z=>by rw[z,AM] at hD;cases hD
   refine⟨o,c.same _ _ hz2,D,(AD.map fun p:Pg=>He p.2 a),rfl,AJ.of ?_,q _ (s1.trans (WV hd1 c.same))⟩;rw[AR nd,hy,Rx ry]
def lS:((["page","words"]:List Str)++(["name"]:List Str)).Nodup:=by left
def Zo:Sp:=fun vs H Q _=>∃d a AA AD,vs=[.ref d,.str a]/\H d=some (.dK (As AA))/\De H AA AD/\MF AD/\AD.length<64/\∀u H',AQ H H'->Rep H' (.lst ((Kl (Hg AD a)).map Dt.str)) u->Q u H'
def LQ{ns:List Str}(r:Ab H (ns.map Dt.str) ys):ys=ns.map V.str:=by
 apply Jx;intro i;rw[A0]
 cases e:ys[i]?with
 |none=>have h1:=OI.mp e;have h2:=r.1;rw[AK] at h2;rw[Em (by lia)];rfl
 |some y=>obtain⟨n,hn,rn⟩:=Hw r e;rw[hn];cases rn;rfl
def ni:Az ["pages","name"] ["pages","name"] (Ao RG):=by left
def lZ(F:Aj K "pages_pointing" "pages_pointing" RG f fd)(O:Hc mg):AW P w K mg base Ah 1 f fd ["pages","name"] Zo:=by
 refine F.ok ni ?_ ?_
 ·rintro _ _ _ _ ⟨_,_,_,_,rfl,_⟩;rfl
 ·rintro _ A _ s H _ Q E hr ⟨d,a,AA,AD,rfl,hd,g,sm,h64,q⟩;have hu1:=Ck hr;refine⟨_,(AU (An (BY Vy rfl O.so KA (AE (Yc (Eu (ts:=["page","words"]) (cap:=["name"]) (ix:=[1]) (Ia rfl rfl (by left) (by left) rfl rfl rfl rfl rfl)
   (XY (Nd MQ VB uY W5 (pv 0))) (fun _ _ _ _ _=>X0 (K:=K) (i:=0) (j:=1) rfl rfl lS rfl (Aa rfl) (Cv rfl) rfl (Aa rfl) (Cv rfl))
   (fun _ _ _ _ _=>NM (Ax (i5 hu1) (CJ (AE AZ (AE (pv 2) AI))) (pv 1) rfl)) (fun _ _ _ _ _=>pv 0))) AI)))),?_⟩;refine⟨d,As AA,hd,_,rfl,.inr (.inr (.inl ⟨rfl,.inl ⟨_,hd⟩⟩)),d,_,rfl,rfl,hd,fun p hp=>⟨p,d,As AA,rfl,AM,by rw[AR (A9 hd hp)];exact hd,fun o D hD=>?_⟩⟩;have s1:AQ H (upd H p (IB p d)):=AY hp;have hd1:(upd H p (IB p d)) d=some (.dK (As AA)):=s1 _ _ hd;have g1:=(g.same s1).ex hd1;generalize upd H p (IB p d)=H1 at s1 hd1 g1 hD;have g2:=g1.same (Lp (o:=.BU o (.dK (As AA))));have hz2:(upd H1 d (.BU o (.dK (As AA)))) d=some (.BU o (.dK (As AA))):=AM;refine dG (fun i H'=>CI (upd H1 d (.BU o (.dK (As AA)))) D ((Hg (AD.take i) a).map Dt.str) H') (CI.start hD) (fun i H' c=>c.same _ _ hz2) (fun i k x pr H' ex hpr c=>?_) fun H' c=>?_
  ·obtain⟨n,ekv,rfl⟩:=Pp ex;have hi:i<AD.length:=by rw[<-g.len];exact(BZ.mp ekv).1
   have ep:AD[i]? =some AD[i]:=Ap hi;obtain⟨en,rw_⟩:=g2.row i _ _ ekv ep;have en:n=AD[i].1:=en;obtain⟨l,xs,rfl,hl,rr⟩:=Ew (rw_.same c.same);have s2:=AY (o:=.tup [kV (Sum.inr n),.ref l]) hpr;have c2:=c.ext s2;have hl2:=s2 _ _ hl;have rr2:=rr.same s2;refine⟨pr,_,rfl,AX.of AM,rfl,_,_,rfl,_,_,rfl,rfl,aS,_,rfl,(by show 2<=sizeLine;decide),fun t ht=>?_⟩;have st:=AY (o:=.tup [.str "to",.str a]) ht;have c3:=c2.ext st;refine⟨_,rfl,t,l,(("to" :Str),a),AD[i].2,xs,rfl,rfl,AM,st _ _ hl2,rr2.same st,_,rfl,?_⟩;have es:Hg (AD.take (i+1)) a=Hg (AD.take i) a++(if(AD[i].2.any fun q=>decide (q=(("to" :Str),a)))=true then[AD[i].1] else[]):=by unfold Hg;rw[take_succ_filter ep,A8];congr 1;split<;>rfl
   rw[es,A8];by_cases z:(AD[i].2.any fun q=>decide (q=(("to" :Str),a)))=true
   ·rw[z,AH rfl];refine Bo ⟨_,rfl,?_⟩;have e2:kV (Sum.inr n)=V.str AD[i].1:=by rw[<-en];rfl
    refine c3.push (d:=.str AD[i].1) (y:=kV (Sum.inr n)) (by rw[e2];exact .str _) ?_;have h1:=Hn i AD;have h2:=sm.Cg;have h3:=F9 (fun p:Pg=>p.2.any fun q=>decide (q=(("to" :Str),a))) (AD.take i);unfold Hg;rw[AK,AK]
    lia
   ·have z':(AD[i].2.any fun q=>decide (q=(("to" :Str),a)))=false:=(Bool.not_eq_true _).mp z;rw[z',AG CZ,LH,Ct];exact BK c3
  ·have e:(As AA).length=AD.length:=by show(AA.map _).length=_;rw[AK];exact g.len
   rw[e,Cy] at c;obtain⟨ys,hy,ry⟩:=c.lst;have nd:D≠d:=fun z=>by rw[z,AM] at hD;cases hD
   have s3:=s1.trans (WV hd1 c.same);refine⟨o,c.same _ _ hz2,D,Hg AD a,rfl,AJ.of (by rw[AR nd,hy,LQ ry]),?_,fun D2 ys2 hD2 hp2 hs2=>?_⟩
   ·have h3:=F9 (fun p:Pg=>p.2.any fun q=>decide (q=(("to" :Str),a))) AD;unfold Hg;rw[AK]
    lia
   ·refine q _ _ (s3.trans (AY hD2)) ?_;show Rep _ (.lst ((Kn Gg (Hg AD a)).map Dt.str)) _;rw[<-TK Gg hp2 hs2];exact Rep.Fd AM (XJ ys2)
def lH:((["place","word"]:List Str)++(["plain"]:List Str)).Nodup:=by left
noncomputable def Eg(z:Str):Nat->List PR->List Int
 |_,[]=>[]
 |k,p::ws=>(if p=(("word" :Str),z) then[(k:Int)] else[])++Eg z (k+1) ws
def Wl(z:Str)(p:PR):∀(ws:List PR)(k:Nat),Eg z k (ws++[p])=Eg z k ws++(if p=(("word" :Str),z) then[((k+ws.length:Nat):Int)] else[])
 |[],k=>by simp[Eg]
 |q::ws,k=>by rw[Mm,Eg,Eg,Wl z p ws (k+1),Bb,CS];rw[show k+1+ws.length=k+(ws.length+1) by lia]
def SG(z:Str):∀(ws:List PR)(k:Nat),(Eg z k ws).length<=ws.length
 |[],k=>by simp[Eg]
 |q::ws,k=>by have:=SG z ws (k+1);rw[Eg,Au,CS];split<;>simp<;>lia
def Zm:Sp:=fun vs H Q _=>∃v ws z,vs=[v,.str z]/\Rep H (Dk ws) v/\ws.length<=100000/\∀u H',AQ H H'->Rep H' (.lst ((Eg z 0 ws).map Dt.int)) u->Q u H'
noncomputable def BE(p:PR):Str:=if p.1=("to" :Str) then "[" ++p.2++ "]" else p.2
def BQ(ws:List PR):Str:=IK " " (ws.map BE)
def aY:Sp:=fun vs H Q _=>∃v p,vs=[v]/\Rep H (Di p) v/\p.2.length<=4000000/\Q (.str (BE p)) H
def nN:Az ["words","plain"] ["words","plain"] (Ao Ov):=by left
def lA(F:Aj K "places_of" "places_of" Ov f fd)(O:Hc mg):AW P w K mg base Ah 1 f fd ["words","plain"] Zm:=by
 refine F.ok nN ?_ ?_
 ·rintro _ _ _ _ ⟨_,_,_,rfl,_⟩;rfl
 ·rintro cdv A _ s H _ Q E hr ⟨v,ws,z,rfl,rp,hz,q⟩;have hu1:=Ck hr;have hu:(A.deeper (rm "places_of" (Ao Ov) s.heap.objs.size f cdv)).units<rC:=by lia
  refine⟨_,(AU (An (Eu (ts:=["place","word"]) (cap:=["plain"]) (ix:=[1]) (Ia rfl rfl (by left) (by left) rfl rfl rfl rfl rfl) (YB rfl O.en (AE (pv 0) AI))
   (fun _ _ _ _ _=>X0 (K:=K) (i:=0) (j:=1) rfl rfl lH rfl (Aa rfl) (Cv rfl) rfl (Aa rfl) (Cv rfl))
   (fun _ _ _ _ _=>NM (Ax (XD hu) (pv 1) (CJ (AE AZ (AE (pv 2) AI))) (Ar _))) (fun _ _ _ _ _=>pv 0)))),?_⟩;obtain⟨l,xs,rfl,hl,rr⟩:=Ew rp;refine⟨_,rfl,l,rfl,⟨_,AJ.of hl⟩,fun D hD=>fA (xs:=xs) (fun i H'=>CI H D ((Eg z 0 (ws.take i)).map Dt.int) H') (CI.start hD) (fun i H' _ c=>AJ.of (c.same _ _ hl)) (fun i x pr H' ex hpr c=>?_) fun H' c=>?_⟩
  ·obtain⟨p,ep,rx⟩:=Hw rr ex;obtain⟨ad,rfl,ha⟩:=Ng rx;have s2:=AY (o:=.tup [.int i,.ref ad]) hpr;have c2:=c.ext s2;have ha2:=c2.same _ _ ha;refine⟨pr,_,rfl,AX.of AM,rfl,_,_,rfl,_,_,rfl,rfl,aS,_,rfl,_,rfl,(by show 2<=sizeLine;decide),fun t ht=>?_⟩;have st:=AY (o:=.tup [.str "word",.str z]) ht;have c3:=c2.ext st;refine⟨ad,t,p,(("word" :Str),z),rfl,rfl,st _ _ ha2,AM,_,rfl,?_⟩;have hi:i<ws.length:=(BZ.mp ep).1;have es:Eg z 0 (ws.take (i+1))=Eg z 0 (ws.take i)++(if p=(("word" :Str),z) then[(i:Int)] else[]):=by rw[EW,ep];show Eg z 0 (ws.take i++[p])=_;rw[Wl,Bc,J1 (by lia),Nat.zero_add]
   rw[es,A8];by_cases y:p=(("word" :Str),z)
   ·rw[BW y,AH y];refine Bo ⟨_,rfl,?_⟩;refine c3.push (.int _) ?_;have h1:=SG z (ws.take i) 0;have h2:=Hn i ws;rw[AK]
    lia
   ·rw[BO y,AG y,LH,Ct];exact BK c3
  ·have e:xs.length=ws.length:=by have:=rr.1;rw[AK] at this;lia
   rw[e,Cy] at c;exact q _ _ c.same c.done
def ah:Az ["word","inner"] ["word"] (Ao Ou):=by left
def mx(F:Aj K "tell_word" "tell_word" Ou f fd):AW P w K mg base Ah 1 f fd ["word"] aY:=by
 refine F.ok ah ?_ ?_
 ·rintro _ _ _ _ ⟨_,_,rfl,_⟩;rfl
 ·rintro _ A _ s H _ Q E hr ⟨v,p,rfl,rp,hz,q⟩;refine⟨_,(AS (Av (i:=1) ah.nd rfl (Aa rfl) (BA (pv 0))) (AS (A7 (Ax Ba (BA (pv 0)) AZ (Ar _)) (AU (An (jc (pv 1) (by left) (by left)))) BG) (AU (An (pv 1))))),?_⟩;obtain⟨a,rfl,ha⟩:=Ng rp;refine⟨_,rfl,a,_,_,_,rfl,rfl,AX.of ha,Bt (j:=1) rfl,?_⟩;refine⟨_,rfl,a,_,_,_,rfl,rfl,AX.of ha,Bt (j:=0) rfl,rfl,_,rfl,?_⟩;unfold BE at q;by_cases y:p.1=("to" :Str)
  ·rw[AH y] at q;refine F1 (fun _=>⟨_,rfl,p.2,rfl,hz,q⟩) (fun n=>absurd (BW (show V.str p.1=V.str "to" by rw[y])) n)
  ·rw[AG y] at q;refine F1 (fun n=>absurd (V.str.inj (IT n)) y) (fun _=>⟨_,rfl,q⟩)
noncomputable def wt(p:PR):Nat:=max 40 p.2.length+3
def wsum(ws:List PR):Nat:=(ws.map wt).sum
def KI:∀ws:List PR,ws.length*43<=wsum ws
 |[]=>by simp[wsum]
 |p::ws=>by
  have h:=KI ws;unfold wsum at h⊢;rw[Ay,Bz,CS,Nat.succ_mul];have:43<=wt p:=by unfold wt;lia
  lia
def JI(a b:List PR):wsum (a++b)=wsum a+wsum b:=by unfold wsum;rw[A8,Oe]
def Wv:∀{ws:List PR}{p:PR},p∈ws->wt p<=wsum ws
 |q::ws,p,h=>by
  unfold wsum;rw[Ay,Bz];rcases Be.mp h with e|e
  ·rw[e];lia
  ·have:=Wv e;unfold wsum at this
   lia
def O6(p:PR):(BE p).length<=p.2.length+2:=by
 unfold BE;split
 ·rw[Hs,Hs];have e1:("[" :Str).length=1:=by left
  have e2:("]" :Str).length=1:=by left
  lia
 ·lia
def PF(k:Nat)(hk:k<=1):∀(ws:List PR)(acc:Nat),(ws.map BE).foldl (·+·.length+k) acc<=acc+wsum ws
 |[],acc=>by simp[wsum]
 |p::ws,acc=>by
  rw[Ay,List.foldl_cons];have h1:=PF k hk ws (acc+(BE p).length+k);have h2:=O6 p;unfold wsum at h1⊢;rw[Ay,Bz];have:p.2.length+3<=wt p:=by unfold wt;lia
  lia
def Xa(g:Str)(hg:g.length<=1):∀(ws:List PR)(acc:Array Nat),((ws.map BE).foldl (fun acc p=>acc++g.cps++p.cps) acc).size<=acc.size+wsum ws
 |[],acc=>by simp[wsum]
 |p::ws,acc=>by
  rw[Ay,List.foldl_cons];have h1:=Xa g hg ws (acc++g.cps++(BE p).cps);rw[Array.size_append,Array.size_append] at h1;have h2:=O6 p;have h3:g.cps.size=g.length:=rfl;have h4:(BE p).cps.size=(BE p).length:=rfl;unfold wsum at h1⊢;rw[Ay,Bz];have:p.2.length+3<=wt p:=by unfold wt;lia
  lia
def NP{g:Str}(hg:g.length<=1):∀ws:List PR,(IK g (ws.map BE)).length<=wsum ws
 |[]=>CG _
 |[p]=>by
  have:=O6 p;have h:p.2.length+3<=wt p:=by unfold wt;lia
  show(BE p).length<=(List.map wt [p]).sum;rw[Ay,Bz]
  lia
 |p::q::r=>by
  have h1:=Xa g hg (q::r) (BE p).cps;have h2:=O6 p;have h:p.2.length+3<=wt p:=by unfold wt;lia
  have h4:(BE p).cps.size=(BE p).length:=rfl;show(((q::r).map BE).foldl (fun acc p=>acc++g.cps++p.cps) (BE p).cps).size<=_;unfold wsum at h1⊢;rw[show List.map wt (p::q::r)=wt p::List.map wt (q::r) from rfl,Bz]
  lia
def aU:Sp:=fun vs H Q _=>∃v ws,vs=[v]/\Rep H (Dk ws) v/\wsum ws<=4000000/\∀H',AQ H H'->Q (.str (BQ ws)) H'
def pT:Az ["words"] ["words"] (Ao Ri):=by left
def Ze{fW:Ya}{fdW:qo}(F:Aj K "tell_text" "tell_text" Ri f fd)(FW:Aj K "tell_word" "tell_word" Ou fW fdW)(bW:Binds K fdW ["word"] [])(mW:mg "tell_word" =some (.ref fW)):AW P w K mg base Ah 2 f fd ["words"] aU:=by
 have GW:AW P w K mg base Ah 1 fW fdW ["word"] aY:=mx FW;refine F.ok pT ?_ ?_
 ·rintro _ _ _ _ ⟨_,_,rfl,_⟩;rfl
 ·rintro _ A _ s H _ Q E hr ⟨v,ws,rfl,rp,tl,q⟩;refine⟨_,(AU (An (JV Iy VJ VI S4 AZ (AE (Eu (ts:=["word"]) (cap:=[]) (ix:=[]) (KJ rfl rfl (by left) (by left)) (GX (pv 0))
   (fun _ _ _ _ _=>Bh (i:=0) Ei rfl (Aa rfl) (Cv rfl)) (fun _ _ _ _ _=>Ga) (fun _ _ _ _ _=>CL GW hr rfl mW FW.kp bW .nil A3 (AE (pv 0) AI))) AI)))),?_⟩;obtain⟨l,xs,rfl,hl,rr⟩:=Ew rp;refine⟨rfl,_,rfl,l,rfl,⟨_,AJ.of hl⟩,fun D hD=>GK (xs:=xs) (fun i H'=>CI H D (((ws.take i).map BE).map Dt.str) H') (CI.start hD) (fun i H' _ c=>AJ.of (c.same _ _ hl)) (fun i x H' ex c=>?_) fun H' c=>?_⟩
  ·obtain⟨p,ep,rx⟩:=Hw rr ex;refine⟨FV,_,rfl,x,p,rfl,rx.same c.same,?_,?_⟩
   ·have:=Wv (CF ep);have h:p.2.length+3<=wt p:=by unfold wt;lia
    lia
   rw[JE ep,A8];refine c.push (.str _) ?_;have h2:=Hn i ws;have h3:=KI ws;rw[AK,AK]
   lia
  ·have e:xs.length=ws.length:=by have:=rr.1;rw[AK] at this;lia
   rw[e,Cy] at c;obtain⟨ys,hy,ry⟩:=c.lst;have lb:(" " :Str).length=1:=by left
   refine⟨" ",D,ws.map BE,rfl,rfl,AJ.of (by rw[hy,LQ ry]),?_,?_,q _ c.same⟩
   ·have:=PF (" " :Str).length (by lia) ws 0;rw[Aw]
    lia
   ·have:=NP (g:=" ") (by lia) ws;rw[Aw]
    lia
def mY{α γ:Type}[DecidableEq α]{R:(α×β)->(α×γ)->Prop}(hR:∀t p,R t p->t.1=p.1){k:α}{u:β}{v:γ}(hn:R (k,u) (k,v))(l:List (α×β))(m:List (α×γ))(hl:l.length=m.length)(h:∀(i:Nat) t p,l[i]? =some t->m[i]? =some p->R t p):
 (AV l k u).length=(AV m k v).length/\∀(i:Nat) t p,(AV l k u)[i]? =some t->(AV m k v)[i]? =some p->R t p:=by
 have ek:∀(l:List (α×β))(m:List (α×γ)),l.length=m.length->(∀(i:Nat) t p,l[i]? =some t->m[i]? =some p->R t p)->(l.any fun p=>decide (p.1=k))=(m.any fun p=>decide (p.1=k)):=by
  intro l
  induction l with
  |nil=>intro m hl _;cases m with|nil=>rfl|cons _ _=>cases hl
  |cons t l ih=>
   intro m hl h
   cases m with
   |nil=>cases hl
   |cons p m=>rw[IY,IY,ih m (by simpa using hl) fun i t p a b=>h (i+1) t p (by simpa using a) (by simpa using b),hR t p (h 0 t p rfl rfl)]
 have e:=ek l m hl h;unfold AV;rw[<-e];by_cases c:(l.any fun p=>decide (p.1=k))=true
 ·rw[AH c,AH c];refine⟨by rw[AK,AK,hl],fun i t p a b=>?_⟩;rw[A0] at a b
  cases e1:l[i]?with
  |none=>rw[e1] at a;cases a
  |some t0=>
   cases e2:m[i]?with
   |none=>rw[e2] at b;cases b
   |some p0=>
    rw[e1] at a;rw[e2] at b;have h0:=h i t0 p0 e1 e2;have hk:=hR _ _ h0;have a':(if t0.1=k then(t0.1,u) else t0)=t:=Ai a;have b':(if p0.1=k then(p0.1,v) else p0)=p:=Ai b;by_cases z:t0.1=k
    ·rw[AH z] at a';rw[AH (hk▸z)] at b';rw[<-a',<-b',<-hk,z];exact hn
    ·rw[AG z] at a';rw[AG (hk▸z)] at b';rw[<-a',<-b'];exact h0
 ·rw[AG c,AG c];refine⟨by rw[Au,Au,hl];rfl,fun i t p a b=>?_⟩;by_cases hi:i<l.length
  ·rw[C4 hi] at a;rw[C4 (by lia)] at b;exact h i t p a b
  ·rw[Cj (by lia)] at a;rw[Cj (by lia),<-hl] at b
   cases ez:i-l.length with
   |zero=>
    rw[ez] at a b;have a':(k,u)=t:=by simpa using a
    have b':(k,v)=p:=by simpa using b
    rw[<-a',<-b'];exact hn
   |succ j=>rw[ez] at a;simp at a
def ZY{α β γ:Type}[DecidableEq α]{R:(α×β)->(α×γ)->Prop}(hR:∀t p,R t p->t.1=p.1)(k:α):∀(l:List (α×β))(m:List (α×γ)),l.length=m.length->(∀(i:Nat) t p,l[i]? =some t->m[i]? =some p->R t p)->
 (AF l k=none/\AF m k=none)\/∃u v,AF l k=some u/\AF m k=some v/\R (k,u) (k,v)
 |[],[],_,_=>.inl ⟨rfl,rfl⟩
 |t::l,p::m,hl,h=>by
  have h0:=h 0 t p rfl rfl;have hk:=hR _ _ h0;unfold AF;rw[DA,DA,<-hk];by_cases z:t.1=k
  ·rw[BW z];refine .inr ⟨t.2,p.2,rfl,rfl,?_⟩;rw[<-z];have e:(t.1,p.2)=p:=by rw[hk]
   rw[e];exact h0
  ·rw[BO z];exact ZY hR k l m (by simpa using hl) fun i t p a b=>h (i+1) t p (by simpa using a) (by simpa using b)
 |[],_::_,hl,_=>by cases hl
 |_::_,[],hl,_=>by cases hl
def De.get{AA:List (Str×V)}(g:De H AA AD)(n:Str):(AF AA n=none/\AF AD n=none)\/∃v ws,AF AA n=some v/\AF AD n=some ws/\Rep H (Dk ws) v:=by
 rcases ZY (R:=fun t p=>t.1=p.1/\Rep H (Dk p.2) t.2) (fun _ _ r=>r.1) n AA AD g.len g.row with z|⟨u,v,a,b,c⟩
 ·exact .inl z
 ·exact .inr ⟨u,v,a,b,c.2⟩
variable{ws:List PR}
def De.put{AA:List (Str×V)}(g:De H AA AD)(n:Str)(r:Rep H (Dk ws) v):De H (AV AA n v) (AV AD n ws):=
 let⟨a,b⟩:=mY (R:=fun t p=>t.1=p.1/\Rep H (Dk p.2) t.2) (fun _ _ r=>r.1) (k:=n) (u:=v) (v:=ws) ⟨rfl,r⟩ AA AD g.len g.row
 ⟨a,b⟩
def De.drop{AA:List (Str×V)}(g:De H AA AD)(n:Str):De H (AN AA n) (AN AD n):=
 let⟨a,b⟩:=S1 (R:=fun t p=>t.1=p.1/\Rep H (Dk p.2) t.2) (fun _ _ r=>r.1) n AA AD g.len g.row
 ⟨a,b⟩
def HQ(AA:List (Str×V))(n:Str):Bn (As AA) (.inr n)=AF AA n:=by unfold As;rw[Et Fp];cases AF AA n<;>rfl
def Lf(AA:List (Str×V))(n:Str)(v:V):putK (As AA) (.inr n) v=As (AV AA n v):=KL (g:=id) Fp n v AA
def Sn(AA:List (Str×V))(n:Str):Ja (As AA) (.inr n)=As (AN AA n):=LP (g:=id) Fp n AA
structure CV(cN:Ya)(H:Hp)(a d:Ya)(AA:List (Str×V))(AD:List Pg):Prop where
 ins:∃dx,H a=some (.ins cN dx [("pages",.ref d)])
 Bq:H d=some (.dK (As AA))
 AD:De H AA AD
def CV.same{cN:Ya}{H H':Hp}{a d:Ya}{AA:List (Str×V)}{AD:List Pg}(g:CV cN H a d AA AD)(s:AQ H H'):CV cN H' a d AA AD:=
 let⟨dx,h⟩:=g.ins
 ⟨⟨dx,s _ _ h⟩,s _ _ g.Bq,g.AD.same s⟩
variable{cN:Ya}
def CV.upd{AA kvs':List (Str×V)}{pgs':List Pg}(g:CV cN H a d AA AD)(g':De H kvs' pgs'):CV cN (upd H d (.dK (As kvs'))) a d kvs' pgs':=by
 obtain⟨dx,h⟩:=g.ins;refine⟨⟨dx,?_⟩,AM,?_⟩
 ·rw[AR (Ca h g.Bq (by intro z;cases z))];exact h
 ·exact(g'.ex g.Bq).same Lp
structure Ej(K:uJ)(cN:Ya):Prop where
 cl:Hj K cN
 nf:KW K cN "pages"
noncomputable def keys(AD:List Pg):List Str:=AD.map (·.1)
def ZK(K:uJ)(cN cR:Ya):Sp:=fun vs H Q E=>∃a d n AA AD,vs=[.ref a,.str n]/\CV cN H a d AA AD/\(∀ws,AF AD n=some ws->∀H',AQ H H'->Q .BB H')/\(AF AD n=none->Xw K cR E H "no page")
def ZE(K:uJ)(cN cR:Ya):Sp:=fun vs H Q E=>∃a d n AA AD,vs=[.ref a,.str n]/\CV cN H a d AA AD/\n.length<=100000/\(isNm n=false->Xw K cR E H "no name")/\(∀ws,isNm n=true->AF AD n=some ws->Xw K cR E H "taken")/\(isNm n=true->AF AD n=none->∀H',AQ H H'->Q .BB H')
def lE:Az ["self","name"] ["self","name"] (Ao RB):=by left
def jW(F:Aj K "need_page" "Nook.need_page" RB f fd)(C:Ej K cN)(R:Rz P w K mg base cR "NoPage" "no page"):AW P w K mg base (Ci P w) 4 f fd ["self","name"] (ZK K cN cR):=by
 refine II F lE ?_ ?_
 ·rintro _ _ _ _ ⟨_,_,_,_,_,rfl,_⟩;rfl
 ·rintro _ A _ s H _ Q E hr ⟨a,d,n,AA,AD,rfl,g,q1,q2⟩;have hu1:=Ck hr;refine⟨_,(AU (A7 (JT (O2 hu1 (pv 1) (C5 (pv 0) rfl))) (AU (Ke (k:=0) R hr rfl)) BG)),?_⟩;obtain⟨dx,hi⟩:=g.ins;refine⟨_,rfl,_,rfl,a,cN,dx,_,_,rfl,hi,C.cl,C.nf,rfl,d,_,rfl,BS.kq (k:=.inr n) g.Bq,_,rfl,?_⟩;rw[HQ];rcases g.AD.get n with⟨e1,e2⟩|⟨v,ws,e1,e2,_⟩
  ·rw[e1];exact Bo (q2 e2)
  ·rw[e1];exact BK (q1 ws e2 H (AQ.refl H))
def lG:Az ["self","name"] ["self","name"] (Ao Qs):=by left
def jC(F:Aj K "need_free_name" "Nook.need_free_name" Qs f fd)(C:Ej K cN)(R1:Rz P w K mg base cR "NoName" "no name")(R2:Rz P w K mg base cR "Taken" "taken")
 (FI:Aj K "is_name" "is_name" OE fI fdI)(bI:Binds K fdI ["word"] [])(mI:mg "is_name" =some (.ref fI))(O:Hc mg):AW P w K mg base (Ci P w) 4 f fd ["self","name"] (ZE K cN cR):=by
 have GI:AW P w K mg base Ah 1 fI fdI ["word"] QJ:=Tu FI O.all;refine II F lG ?_ ?_
 ·rintro _ _ _ _ ⟨_,_,_,_,_,rfl,_⟩;rfl
 ·rintro _ A _ s H _ Q E hr ⟨a,d,n,AA,AD,rfl,g,hz,q1,q2,q3⟩;have hu1:=Ck hr;refine⟨_,(AS (A7 (IA (EN (CL GI hr.mn rfl mI FI.kp bI .nil A3 (AE (pv 1) AI)))) (AU (Ke (k:=0) R1 hr rfl)) BG) (AU (A7 (JT (Yv hu1 (pv 1) (C5 (pv 0) rfl))) (AU (Ke (k:=0) R2 hr rfl)) BG))),?_⟩;refine⟨_,rfl,n,rfl,hz,fun H1 s1=>⟨_,rfl,?_⟩⟩
  cases en:isNm n with
  |false=>exact Bo ((q1 en).mono s1)
  |true=>
   refine BK ?_;have g1:=g.same s1;obtain⟨dx,hi⟩:=g1.ins;refine⟨_,rfl,_,rfl,a,cN,dx,_,_,rfl,hi,C.cl,C.nf,rfl,d,_,rfl,BS.kq (k:=.inr n) g1.Bq,_,rfl,?_⟩;rw[HQ];rcases g1.AD.get n with⟨e1,e2⟩|⟨v,ws,e1,e2,_⟩
   ·rw[e1];exact BK (q3 en e2 H1 s1)
   ·rw[e1];exact Bo ((q2 ws en e2).mono s1)
def LU{α β:Type}[DecidableEq α]{k:α}{v w:β}:∀{l:List (α×β)}{i:Nat},(l.map (·.1)).Nodup->l[i]? =some (k,w)->AV l k v=l.set i (k,v)
 |[],i,_,h=>by simp at h
 |p::l,0,nd,h=>by
  have e:p=(k,w):=by simpa using h
  subst e;have nd':=IV.mp nd;have hmap:l.map (fun p=>if p.1=k then(p.1,v) else p)=l:=by
   conv=>rhs;rw[<-KC l]
   refine EF fun q hq=>?_;have:q.1≠k:=fun z=>nd'.1 (by rw[<-z];exact BP.mpr ⟨q,hq,rfl⟩);rw[AG this];rfl
  unfold AV;rw[AH (by rw[IY];simp),Ay,hmap];simp
 |p::l,i+1,nd,h=>by
  have h':l[i]? =some (k,w):=by simpa using h
  have nd':=IV.mp nd;have ih:=LU (v:=v) nd'.2 h';have ne:p.1≠k:=fun z=>nd'.1 (by show p.1∈_;rw[z];exact BP.mpr ⟨_,CF h',rfl⟩);have any:(l.any fun q=>decide (q.1=k))=true:=Jz.mpr ⟨_,CF h',BW rfl⟩;unfold AV at ih⊢;rw[AH any] at ih;rw[AH (by rw[IY,any,Bool.or_true]),Ay,ih,AG ne];rfl
def DE(AD:List Pg)(n m:Str):List Pg:=AD.map fun p=>(p.1,CO p.2 n m)
def FQ(AD:List Pg)(n m:Str)(i:Nat):List Pg:=DE (AD.take i) n m++AD.drop i
def Vl(AD:List Pg)(n m:Str)(i:Nat):(FQ AD n m i).map (·.1)=AD.map (·.1):=by unfold FQ DE;rw[A8,Bf];show(AD.take i).map (·.1)++_=_;rw[<-A8,DQ]
def fk{n:Str}{p:Pg}(h:AD[i]? =some p):(FQ AD n m i)[i]? =some p:=by have hi:=(BZ.mp h).1;unfold FQ DE;rw[Cj (by rw[AK,Bc];lia),AK,Bc,J1 (by lia),EX,Jv,Nat.add_zero];exact h
def dD{n:Str}{p:Pg}(h:AD[i]? =some p):(FQ AD n m i).set i (p.1,CO p.2 n m)=FQ AD n m (i+1):=by
 have hi:=(BZ.mp h).1;unfold FQ DE;have hl:((AD.take i).map fun p:Pg=>(p.1,CO p.2 n m)).length=i:=by rw[AK,Bc];lia
 rw[List.set_append_right _ _ (by lia),hl,EX,EW,h,A8,Bb];congr 1;rw[Jt hi,List.set_cons_zero];rfl
def BI(AD:List Pg):Nat:=(AD.map fun p=>wsum p.2).sum
def JO:∀{AD:List Pg}{p:Pg},p∈AD->wsum p.2<=BI AD
 |q::AD,p,h=>by
  unfold BI;rw[Ay,Bz];rcases Be.mp h with e|e
  ·rw[e];lia
  ·have:=JO e;unfold BI at this
   lia
structure DG(AD:List Pg):Prop where
 nd:(AD.map (·.1)).Nodup
 Cg:AD.length<=900
 BI:BI AD<=3900000
def DG.EB(n:DG AD):MF AD:=⟨BF n.Cg (by lia),fun p hp=>by
 have h1:=JO hp;have h2:=KI p.2;have h3:=n.BI
 lia⟩
def Wx(ws:List PR)(n m:Str):(CO ws n m).length=ws.length:=by unfold CO;rw[AK]
def X3(cN:Ya):Sp:=fun vs H Q _=>∃a d n m AA AD,vs=[.ref a,.str n,.str m]/\CV cN H a d AA AD/\DG AD/\∀H' kvs',AQ (Ex H d) H'->CV cN H' a d kvs' (DE AD n m)->Q .BB H'
def Yd:Az ["self","name","fresh","page"] ["self","name","fresh"] (Ao Qt):=by left
def iZ{fP:Ya}{fdP:qo}(F:Aj K "point_all_on" "Nook.point_all_on" Qt f fd)(C:Ej K cN)(O:Hc mg)(FP:Aj K "point_on" "point_on" Mu fP fdP)(bP:Binds K fdP ["words","name","fresh"] [])(mP:mg "point_on" =some (.ref fP)):
 AW P w K mg base Ah 2 f fd ["self","name","fresh"] (X3 cN):=by
 have GP:AW P w K mg base Ah 1 fP fdP ["words","name","fresh"] aO:=nR FP;refine F.ok Yd ?_ ?_
 ·rintro _ _ _ _ ⟨_,_,_,_,_,_,rfl,_⟩;rfl
 ·rintro _ A _ s H _ Q E hr ⟨a,d,n,m,AA,AD,rfl,g,nc,q⟩;have hu1:=Ck hr;refine⟨_,(AU (EJ EG rfl (GX (Er (LL rfl) rfl O.lst Fs (AE (C5 (pv 0) rfl) AI))) (Bh (i:=3) Yd.nd rfl (Aa rfl))
   (AU (FH hu1 (C5 (pv 0) rfl) (pv 3) (CL GP hr rfl mP FP.kp bP .nil A3 (AE (Dx hu1 (C5 (pv 0) rfl) (pv 3) (fun _ _=>rfl)) (AE (pv 1) (AE (pv 2) AI)))) rfl)))),?_⟩;obtain⟨dx,hi⟩:=g.ins;refine⟨_,rfl,a,cN,dx,_,_,rfl,hi,C.cl,C.nf,rfl,d,_,rfl,g.Bq,fun L hL=>⟨L,rfl,⟨_,AJ.of AM⟩,?_⟩⟩;have s1:=AY (o:=.lst ((As AA).map fun kv=>kV kv.1)) hL;have g1:=g.same s1;have hL1:(upd H L (.lst ((As AA).map fun kv=>kV kv.1))) L=some (.lst ((As AA).map fun kv=>kV kv.1)):=AM;have hd0:=g.Bq;generalize upd H L (.lst ((As AA).map fun kv=>kV kv.1))=H1 at s1 g1 hL1;have hlen:(As AA).length=AD.length:=by show(AA.map _).length=_;rw[AK];exact g.AD.len
  refine JH (xs:=(As AA).map fun kv=>kV kv.1) (fun i σ H'=>σ[0]? =some (some (.ref a))/\σ[1]? =some (some (.str n))/\σ[2]? =some (some (.str m))/\3<σ.length/\AQ (Ex H1 d) H'/\H' L=some (.lst ((As AA).map fun kv=>kV kv.1))/\∃kvs',CV cN H' a d kvs' (FQ AD n m i))
   ⟨rfl,rfl,rfl,by show 3<4;decide,Ex.sub,hL1,AA,g1⟩ (fun i σ H' _ c=>AJ.of c.2.2.2.2.2.1) (fun i x σ H' ex c=>?_) (fun σ H' c=>?_)
  ·obtain⟨e0,e1,e2,e3,sm,hL',kvs',g'⟩:=c;have ek:x=kV (Sum.inr (AA.map (·.1))[i]!):=by
    rw[A0] at ex
    cases e:(As AA)[i]?with
    |none=>rw[e] at ex;cases ex
    |some kv=>rw[e] at ex;obtain⟨nm,e5,e6⟩:=Pp (k:=kv.1) (x:=kv.2) e;have:kV kv.1=x:=Ai ex;rw[<-this,e6];congr 2;rw[List.getElem!_eq_getElem?_getD,A0,e5];rfl
   have hi':i<AD.length:=by have:=(BZ.mp ex).1;rw[AK,hlen] at this;exact this
   have ep:AD[i]? =some AD[i]:=Ap hi';have hk:i<AA.length:=by rw[g.AD.len];exact hi'
   have en:(AA.map (·.1))[i]! =AD[i].1:=by rw[List.getElem!_eq_getElem?_getD,A0,Ap hk];exact(g.AD.row i _ _ (Ap hk) ep).1
   rw[en] at ek;subst ek;have CW:((FQ AD n m i).map (·.1)).Nodup:=by rw[Vl];exact nc.nd
   have at':=fk (n:=n) (m:=m) ep;have gt:AF (FQ AD n m i) AD[i].1=some AD[i].2:=JM CW at';obtain⟨dx',Fc⟩:=g'.ins;rcases g'.AD.get AD[i].1 with⟨_,z⟩|⟨v,ws,v1,v2,rw_⟩
   ·rw[gt] at z;cases z
   ·rw[gt] at v2;cases v2;have p0:(σ.set 3 (some (kV (Sum.inr AD[i].1))))[0]? =some (some (.ref a)):=by rw[OQ (by decide)];exact e0
    have p1:(σ.set 3 (some (kV (Sum.inr AD[i].1))))[1]? =some (some (.str n)):=by rw[OQ (by decide)];exact e1
    have p2:(σ.set 3 (some (kV (Sum.inr AD[i].1))))[2]? =some (some (.str m)):=by rw[OQ (by decide)];exact e2
    have p3:(σ.set 3 (some (kV (Sum.inr AD[i].1))))[3]? =some (some (kV (Sum.inr AD[i].1))):=OL e3;have dg:BS H' d (kV (Sum.inr AD[i].1)) (some v):=by have:=BS.kq (k:=.inr AD[i].1) g'.Bq;rw[HQ,v1] at this;exact this
    have hsz:AD[i].2.length<=100000:=nc.EB.short _ (Fl hi');refine⟨_,p0,a,cN,dx',_,_,rfl,Fc,C.cl,C.nf,rfl,_,p3,d,_,rfl,dg,_,p1,_,p2,v,_,n,m,rfl,rw_,hsz,fun u H2 s2 ru=>?_⟩;have g2:=g'.same s2;obtain⟨dx2,Ek⟩:=g2.ins;have hl2:(As kvs').length<sizeLine:=by
     show(kvs'.map _).length<_;rw[AK,g'.AD.len,Aw];have:=BJ List.length (Vl AD n m i);rw[AK,AK] at this;have:=nc.Cg
     lia
    have dp:=Dh.kq (k:=.inr AD[i].1) (v:=u) g2.Bq hl2;rw[Lf] at dp;refine⟨_,p0,a,cN,dx2,_,_,rfl,Ek,C.cl,C.nf,rfl,_,p3,d,_,rfl,dp,?_⟩;have g3:=g2.upd (g2.AD.put AD[i].1 ru);have es:AV (FQ AD n m i) AD[i].1 (CO AD[i].2 n m)=FQ AD n m (i+1):=(LU (k:=AD[i].1) (w:=AD[i].2) CW at').trans (dD ep);rw[es] at g3;have hLd:L≠d:=fun z=>by rw[z,hd0] at hL;cases hL
    refine⟨p0,p1,p2,by rw[List.length_set];exact e3,?_,by rw[AR hLd];exact s2 _ _ hL',_,g3⟩;have n1:(Ex H1 d) d=none:=by unfold Ex;rw[AH rfl]
    exact(sm.trans s2).upd n1
  ·obtain⟨_,_,_,_,sm,_,kvs',g'⟩:=c;have e:FQ AD n m ((As AA).map fun kv=>kV kv.1).length=DE AD n m:=by rw[AK,hlen];unfold FQ;rw[Cy,List.drop_length,Ct]
   rw[e] at g';exact q H' kvs' ((Ex.mono s1).trans sm) g'
def Cu{α:Type}[DecidableEq α]{k j:α}{v:β}:∀l:List (α×β),AF (AV l k v) j=if j=k then some v else AF l j:=fun l=>by
 have hm:∀l:List (α×β),AF (l.map fun p=>if p.1=k then(p.1,v) else p) j=if j=k then(if(l.any fun p=>decide (p.1=k))=true then some v else none) else AF l j:=by
  intro l
  induction l with
  |nil=>simp[AF]
  |cons p l ih=>
   unfold AF at ih⊢;rw[Ay,DA,DA,IY];by_cases z:p.1=k
   ·rw[AH z];by_cases y:j=k
    ·rw[AH y,BW (show(p.1,v).1=j by rw[y];exact z),BW z,Bool.true_or,AH rfl];rfl
    ·rw[AG y,BO (show¬(p.1,v).1=j from fun x=>y (x.symm.trans z))];rw[AG y] at ih;exact ih
   ·rw[AG z];by_cases y:j=k
    ·rw[AH y,BO z,RZ,BO (show¬p.1=j from fun x=>z (x.trans y))];rw[AH y] at ih;exact ih
    ·rw[AG y];rw[AG y] at ih
     cases decide (p.1=j) with
     |true=>rfl
     |false=>exact ih
 unfold AV;by_cases c:(l.any fun p=>decide (p.1=k))=true
 ·rw[AH c,hm l];by_cases y:j=k
  ·rw[AH y,AH y,AH c]
  ·rw[AG y,AG y]
 ·rw[AG c];have hn:∀p∈l,¬p.1=k:=fun p hp z=>c (Jz.mpr ⟨p,hp,BW z⟩);unfold AF;rw[RA];by_cases y:j=k
  ·rw[AH y,Va.mpr (fun p hp=>by rw[y];simp[hn p hp])];rw[DA,BW (show(k,v).1=j from y.symm)];rfl
  ·rw[AG y,DA,BO (show¬(k,v).1=j from fun x=>y x.symm)];cases List.find? (fun p=>decide (p.1=j)) l<;>rfl
inductive Rs where
 |no (msg:Str)|ok (r:Dt) (AD:List Pg)|un (AD:List Pg)
def Out(K:uJ)(cN cR:Ya)(H:Hp)(a d:Ya)(Q:VK)(E:XK):Rs->Prop
 |.no msg=>Xw K cR E H msg
 |.ok r pgs'=>∀H' kvs' u,AQ (Ex H d) H'->CV cN H' a d kvs' pgs'->Rep H' r u->Q u H'
 |.un pgs'=>∀H' kvs' u,AQ (Ex H d) H'->CV cN H' a d kvs' pgs'->Q u H'
def EI(t:Str):List PR:=(CY t).map C6
def GY(AD:List Pg)(n t:Str):Rs:=if isNm n=true then .ok (.int (EI t).length) (AV AD n (EI t)) else .no "no name"
def renamed(AD:List Pg)(n m:Str)(ws:List PR):List Pg:=DE (AV (AN AD n) m ws) n m
def GQ(AD:List Pg)(n m:Str):Rs:=match AF AD n with
 |none=>.no "no page"
 |some ws=>if isNm m=true then(match AF AD m with
  |some _=>.no "taken"
  |none=>.ok (.int (cnt (renamed AD n m ws) m)) (renamed AD n m ws)) else .no "no name"
def joined(AD:List Pg)(n o:Str)(w1 w2:List PR):List Pg:=DE (AV (AN AD o) n (w1++w2)) o n
def EK(AD:List Pg)(n o:Str):Rs:=match AF AD n with
 |none=>.no "no page"
 |some w1=>match AF AD o with
  |none=>.no "no page"
  |some w2=>if n=o then .no "same page" else .ok (.int (cnt (joined AD n o w1 w2) n)) (joined AD n o w1 w2)
def cutAt(AD:List Pg)(n m:Str)(ws:List PR)(k:Nat):List Pg:=AV (AV AD m (ws.drop k)) n (ws.take k++[(("to" :Str),m)])
def FR(AD:List Pg)(n:Str)(pl:Int)(m:Str):Rs:=match AF AD n with
 |none=>.no "no page"
 |some ws=>if isNm m=true then(match AF AD m with
  |some _=>.no "taken"
  |none=>if pl<0\/(ws.length:Int)<pl then .no "no place" else .ok (.int ((ws.drop pl.toNat).length:Nat)) (cutAt AD n m ws pl.toNat)) else .no "no name"
def Gf(AD:List Pg)(n:Str):Rs:=match AF AD n with
 |none=>.no "no page"
 |some _=>.ok (.int (cnt AD n)) (AN AD n)
def Fu(AD:List Pg)(n:Str):Rs:=match AF AD n with
 |none=>.no "no page"
 |some ws=>.ok (.str (BQ ws)) AD
def ki(AD:List Pg)(n:Str):Rs:=.ok (.lst ((Kl (Hg AD n)).map Dt.str)) AD
def Gb:(Ex H d) d=none:=by unfold Ex;rw[AH rfl]
def M4{AA:List (Str×V)}(g:De H AA AD)(h:AD.length<=1000):(As AA).length<sizeLine:=by
 show(AA.map _).length<_;rw[AK,g.len,Aw]
 lia
def Xz(K:uJ)(cN cR:Ya):Sp:=fun vs H Q E=>∃a d n t AA AD,vs=[.ref a,.str n,.str t]/\CV cN H a d AA AD/\DG AD/\n.length<=100000/\t.length<=10000/\Out K cN cR H a d Q E (GY AD n t)
def jo:Az ["self","name","text"] ["self","name","text"] (Ao Q4):=by left
def ic(F:Aj K "write_page" "Nook.write_page" Q4 f fd)(C:Ej K cN)(O:Hc mg)(R1:Rz P w K mg base cR "NoName" "no name")
 (FI:Aj K "is_name" "is_name" OE fI fdI)(bI:Binds K fdI ["word"] [])(mI:mg "is_name" =some (.ref fI))(HS:Hv P w K mg base "split_up" 3 ["text"] aL):
 AW P w K mg base (Ci P w) 4 f fd ["self","name","text"] (Xz K cN cR):=by
 have GI:AW P w K mg base Ah 1 fI fdI ["word"] QJ:=Tu FI O.all;refine II F jo ?_ ?_
 ·rintro _ _ _ _ ⟨_,_,_,_,_,_,rfl,_⟩;rfl
 ·rintro _ A _ s H _ Q E hr ⟨a,d,n,t,AA,AD,rfl,g,nc,hz,hz2,q⟩;have hu1:=Ck hr;refine⟨_,(AS (A7 (IA (EN (CL GI hr.mn rfl mI FI.kp bI .nil A3 (AE (pv 1) AI)))) (AU (Ke (k:=0) R1 hr rfl)) BG)
   (AS (FH hu1 (C5 (pv 0) rfl) (pv 1) (Cb HS hr rfl A3 (AE (pv 2) AI)) rfl)
   (AU (An (BY IZ rfl O.len DB (AE (Dx hu1 (C5 (pv 0) rfl) (pv 1) (fun _ _=>rfl)) AI)))))),?_⟩;refine⟨_,rfl,n,rfl,hz,fun H1 s1=>⟨_,rfl,?_⟩⟩;unfold GY at q
  cases en:isNm n with
  |false=>rw[en,AG CZ] at q;exact Bo (Xw.mono q s1)
  |true=>
   rw[en,AH rfl] at q;refine BK ?_;refine⟨_,rfl,t,rfl,hz2,fun D H2 s2 rD=>?_⟩;have g2:=(g.same s1).same s2;obtain⟨dx,hi⟩:=g2.ins;have rD':Rep H2 (Dk (EI t)) (.ref D):=by
    have e:Dk (EI t)=.lst ((CY t).map Ur):=by unfold Dk EI;rw[Bf];rfl
    rw[e];exact rD
   have dp:=Dh.kq (k:=.inr n) (v:=.ref D) g2.Bq (M4 g2.AD (BF nc.Cg (by lia)));rw[Lf] at dp;refine⟨_,rfl,a,cN,dx,_,_,rfl,hi,C.cl,C.nf,rfl,_,rfl,d,_,rfl,dp,?_⟩;have g3:=g2.upd (g2.AD.put n rD');have s3:AQ (Ex H d) (upd H2 d (.dK (As (AV AA n (.ref D))))):=((Ex.sub.trans s1).trans s2).upd Gb;generalize upd H2 d (.dK (As (AV AA n (.ref D))))=H3 at g3 s3;obtain⟨dx3,Ek⟩:=g3.ins;rcases g3.AD.get n with⟨_,z⟩|⟨v,ws,v1,v2,rw_⟩
   ·rw[Cu,AH rfl] at z;cases z
   ·have ev:ws=EI t:=by rw[Cu,AH rfl] at v2;exact(Ai v2).symm
    subst ev;have dg:BS H3 d (.str n) (some v):=by have:=BS.kq (k:=.inr n) g3.Bq;rw[HQ,v1] at this;exact this
    obtain⟨l,xs,rfl,hl,rr⟩:=Ew rw_;refine⟨_,rfl,a,cN,dx3,_,_,rfl,Ek,C.cl,C.nf,rfl,_,rfl,d,_,rfl,dg,l,xs,rfl,.inl (AJ.of hl),?_⟩;have el:xs.length=(EI t).length:=by have:=rr.1;rw[AK] at this;exact this.symm
    rw[el];exact q _ _ _ s3 g3 (.int _)
def HK{α:Type}[DecidableEq α](l:List (α×β))(k:α)(v:β):(AV l k v).length<=l.length+1:=by
 unfold AV;split
 ·rw[AK];lia
 ·rw[Au];exact Ad _
def NC{α β:Type}[DecidableEq α]{k:α}{v:β}:∀{l:List (α×β)},AF l k=some v->(AN l k).length+1<=l.length
 |[],h=>by cases h
 |p::l,h=>by
  by_cases c:p.1=k
  ·have d1:AN (p::l) k=AN l k:=by unfold AN;rw[F8];simp[c]
   rw[d1,CS];have:=F9 (fun p:α×β=>decide (p.1≠k)) l;show(l.filter _).length+1<=_
   lia
  ·have d1:AN (p::l) k=p::AN l k:=by unfold AN;rw[Fi];simp[c]
   have h':AF l k=some v:=by unfold AF at h⊢;rw[DA,BO c] at h;exact h
   have:=NC h';rw[d1,CS,CS]
   lia
def EL{α:Type}[DecidableEq α]{l:List (α×β)}{k:α}{v:β}(h:(l.map (·.1)).Nodup):((AV l k v).map (·.1)).Nodup:=by
 unfold AV;by_cases c:(l.any fun p=>decide (p.1=k))=true
 ·rw[AH c,Bf];have e:(l.map ((fun x:α×β=>x.1)∘fun p=>if p.1=k then(p.1,v) else p))=l.map (·.1):=EF fun p _=>by show(if p.1=k then(p.1,v) else p).1=p.1;split<;>rfl
  rw[e];exact h
 ·rw[AG c,A8];refine OZ.mpr ⟨h,by simp,fun x hx y hy=>?_⟩;intro z;have hy':y=k:=by simpa using hy
  obtain⟨p,hp,e⟩:=BP.mp hx;exact c (Jz.mpr ⟨p,hp,BW (e.trans (z.trans hy'))⟩)
def PU(AD:List Pg)(n:Str)(ws:List PR)(nd:(AD.map (·.1)).Nodup):BI (AV AD n ws)<=BI AD+wsum ws:=by
 cases h:AF AD n with
 |none=>
  unfold AV;rw[AG (by
   intro c;obtain⟨p,hp,e⟩:=Jz.mp c;have e':=IT e;unfold AF at h
   cases f:AD.find? (fun p=>decide (p.1=n)) with
   |none=>exact absurd e' (by simpa using Va.mp f p hp)
   |some q=>rw[f] at h;cases h)];unfold BI;rw[A8,Oe];simp
 |some w0=>
  obtain⟨i,hi⟩:=GZ h;rw[LU nd hi];unfold BI;have hl:=(BZ.mp hi).1;have:∀(l:List Nat)(i x:Nat),(l.set i x).sum<=l.sum+x:=by
   intro l
   induction l with
   |nil=>intro i x;simp
   |cons y l ih=>
    intro i x
    cases i with
    |zero=>simp;lia
    |succ i=>rw[VZ,Bz,Bz];have:=ih i x;lia
  rw[List.map_set];exact this _ _ _
def M7{n:Str}{ws:List PR}:∀{AD:List Pg},AF AD n=some ws->BI (AN AD n)+wsum ws<=BI AD
 |[],h=>by cases h
 |p::AD,h=>by
  by_cases c:p.1=n
  ·have d1:AN (p::AD) n=AN AD n:=by unfold AN;rw[F8];simp[c]
   have e:p.2=ws:=by unfold AF at h;rw[DA,BW c] at h;exact Ai h
   have:∀l:List Pg,BI (AN l n)<=BI l:=by
    intro l
    induction l with
    |nil=>exact Ad _
    |cons q l ih=>
     by_cases z:q.1=n
     ·have d2:AN (q::l) n=AN l n:=by unfold AN;rw[F8];simp[z]
      rw[d2];unfold BI at ih⊢;rw[Ay,Bz]
      lia
     ·have d2:AN (q::l) n=q::AN l n:=by unfold AN;rw[Fi];simp[z]
      rw[d2];unfold BI at ih⊢;rw[Ay,Bz,Ay,Bz]
      lia
   have:=this AD;rw[d1,<-e];unfold BI at this⊢;rw[Ay,Bz]
   lia
  ·have d1:AN (p::AD) n=p::AN AD n:=by unfold AN;rw[Fi];simp[c]
   have h':AF AD n=some ws:=by unfold AF at h⊢;rw[DA,BO c] at h;exact h
   have:=M7 h';rw[d1];unfold BI at this⊢;rw[Ay,Bz,Ay,Bz]
   lia
def DG.moved{n:Str}(nc:DG AD)(h:AF AD n=some ws):DG (AV (AN AD n) m ws):=by
 refine⟨EL (DK nc.nd),?_,?_⟩
 ·have h1:=HK (AN AD n) m ws;have h2:=NC h;have h3:=nc.Cg
  lia
 ·have h1:=PU (AN AD n) m ws (DK nc.nd);have h2:=M7 h;have h3:=nc.BI
  lia
def WX{n:Str}(s:MF AD):MF (DE AD n m):=by refine⟨by unfold DE;rw[AK];exact s.Cg,fun p hp=>?_⟩;obtain⟨q,hq,rfl⟩:=BP.mp hp;show(CO q.2 n m).length<=_;rw[Wx];exact s.short q hq
def Xi(K:uJ)(cN cR:Ya):Sp:=fun vs H Q E=>∃a d n m AA AD,vs=[.ref a,.str n,.str m]/\CV cN H a d AA AD/\DG AD/\m.length<=100000/\Out K cN cR H a d Q E (GQ AD n m)
structure MJ(P:ql)(w:qu)(K:uJ)(mg:Str->Option AB)(base:qp)(cN cR:Ya):Prop where
 need:∃f fd,Meth K cN "need_page" f/\AW P w K mg base (Ci P w) 4 f fd ["self","name"] (ZK K cN cR)/\Binds K fd ["self","name"] []
 free:∃f fd,Meth K cN "need_free_name" f/\AW P w K mg base (Ci P w) 4 f fd ["self","name"] (ZE K cN cR)/\Binds K fd ["self","name"] []
 DE:∃f fd,Meth K cN "point_all_on" f/\AW P w K mg base Ah 2 f fd ["self","name","fresh"] (X3 cN)/\Binds K fd ["self","name","fresh"] []
 cnt:∃f fd,mg "count_pointers" =some (.ref f)/\rM K (.ref f)=true/\AW P w K mg base Ah 1 f fd ["pages","name"] Zf/\Binds K fd ["pages","name"] []
def hV:Az ["self","name","fresh"] ["self","name","fresh"] (Ao Qx):=by left
def eK(F:Aj K "rename_page" "Nook.rename_page" Qx f fd)(C:Ej K cN)(M:MJ P w K mg base cN cR):AW P w K mg base (Ci P w) 5 f fd ["self","name","fresh"] (Xi K cN cR):=by
 obtain⟨f1,fd1,m1,G1,b1⟩:=M.need;obtain⟨f2,fd2,m2,G2,b2⟩:=M.free;obtain⟨f3,fd3,m3,G3,b3⟩:=M.DE;obtain⟨f4,fd4,m4,k4,G4,b4⟩:=M.cnt;refine II F hV ?_ ?_
 ·rintro _ _ _ _ ⟨_,_,_,_,_,_,rfl,_⟩;rfl
 ·rintro _ A _ s H _ Q E hr ⟨a,d,n,m,AA,AD,rfl,g,nc,hz,q⟩;have hu1:=Ck hr;refine⟨_,(AS (Bp (Dv (pv 0) C.cl m1 G1 hr b1 .nil E2 (AE (pv 1) AI))) (AS (Bp (Dv (pv 0) C.cl m2 G2 hr b2 .nil E2 (AE (pv 2) AI)))
   (AS (FH hu1 (C5 (pv 0) rfl) (pv 2) (JJ (C5 (pv 0) rfl) (pv 1) ⟨rfl,rfl,rfl,rfl⟩) rfl)
   (AS (Bp (Dv (pv 0) C.cl m3 G3 hr.mn b3 .nil A3 (AE (pv 1) (AE (pv 2) AI))))
   (AU (An (CL G4 hr.mn rfl m4 k4 b4 .nil A3 (AE (C5 (pv 0) rfl) (AE (pv 2) AI))))))))),?_⟩;obtain⟨dx,hi⟩:=g.ins;unfold GQ at q;refine⟨_,rfl,a,dx,_,rfl,hi,rfl,_,rfl,a,d,n,AA,AD,rfl,g,fun ws hw H1 s1=>?_,fun hw=>by rw[hw] at q;exact q⟩;rw[hw] at q;have g1:=g.same s1;obtain⟨dx1,DI⟩:=g1.ins;refine⟨_,rfl,a,dx1,_,rfl,DI,rfl,_,rfl,a,d,m,AA,AD,rfl,g1,hz,fun en=>?_,fun w2 en hm=>?_,fun en hm H2 s2=>?_⟩
  ·dsimp only at q;rw[en,AG CZ] at q;exact Xw.mono q s1
  ·dsimp only at q;rw[en,AH rfl,hm] at q;exact Xw.mono q s1
  ·dsimp only at q;rw[en,AH rfl,hm] at q;have g2:=g1.same s2;obtain⟨dx2,Fc⟩:=g2.ins;rcases g2.AD.get n with⟨_,z⟩|⟨v,ws',v1,v2,rw_⟩
   ·rw[hw] at z;cases z
   have ev:ws'=ws:=by rw[hw] at v2;exact(Ai v2).symm
   subst ev;have vv:Bn (As AA) (.inr n)=some v:=by rw[HQ];exact v1
   refine⟨_,rfl,a,cN,dx2,_,_,rfl,Fc,C.cl,C.nf,rfl,d,rfl,.inl ⟨_,.inl g2.Bq⟩,_,rfl,_,.inr n,_,g2.Bq,rfl,vv,?_⟩;rw[Sn];have g3:=g2.upd (g2.AD.drop n);have r3:Rep (upd H2 d (.dK (As (AN AA n)))) (Dk ws') v:=(Mt g2.Bq rw_).same Lp;have s3:AQ (Ex H d) (upd H2 d (.dK (As (AN AA n)))):=((Ex.sub.trans s1).trans s2).upd Gb;generalize upd H2 d (.dK (As (AN AA n)))=H3 at g3 s3 r3;obtain⟨dx3,Ek⟩:=g3.ins;have dp:=Dh.kq (k:=.inr m) (v:=v) g3.Bq (M4 g3.AD (by have:=NC hw;have:=nc.Cg;lia));rw[Lf] at dp;refine⟨_,rfl,a,cN,dx3,_,_,rfl,Ek,C.cl,C.nf,rfl,_,rfl,d,_,rfl,dp,?_⟩;have g4:=g3.upd (g3.AD.put m r3);have s4:=s3.upd (o:=.dK (As (AV (AN AA n) m v))) Gb;generalize upd H3 d (.dK (As (AV (AN AA n) m v)))=H4 at g4 s4;obtain⟨dx4,Jp⟩:=g4.ins;have nc4:DG (AV (AN AD n) m ws'):=nc.moved hw;refine⟨_,rfl,a,dx4,_,rfl,Jp,rfl,_,rfl,_,rfl,a,d,n,m,_,_,rfl,g4,nc4,fun H5 kvs5 s5 g5=>?_⟩;obtain⟨dx5,K3⟩:=g5.ins;have s45:AQ (Ex H d) H5:=by have:AQ (Ex H d) (Ex H4 d):=Ex.of_none s4 Gb;exact this.trans s5
   refine⟨_,rfl,a,cN,dx5,_,_,rfl,K3,C.cl,C.nf,rfl,_,rfl,d,m,kvs5,_,rfl,g5.Bq,g5.AD,WX nc4.EB,fun H6 s6=>?_⟩;exact q H6 kvs5 _ (s45.trans s6) (g5.same s6) (.int _)
def Yk{l:Ya}{xs:List V}{w1 w2:List PR}(h:H l=some (.lst (xs++ys)))(r1:Ab H (w1.map Di) xs)(r2:Ab H (w2.map Di) ys):Rep H (Dk (w1++w2)) (.ref l):=by
 refine Rep.Fd h ⟨?_,fun i d x h1 h2=>?_⟩
 ·rw[A8,Au,Au,r1.1,r2.1]
 ·rw[A8] at h1;by_cases hi:i<xs.length
  ·rw[C4 hi] at h2;rw[C4 (by rw[r1.1];exact hi)] at h1;exact r1.2 i d x h1 h2
  ·rw[Cj (by lia)] at h2;rw[Cj (by rw[r1.1];lia),r1.1] at h1;exact r2.2 _ d x h1 h2
def DG.join{n o:Str}{w1 w2:List PR}(nc:DG AD)(hno:n≠o)(h1:AF AD n=some w1)(h2:AF AD o=some w2):DG (AV (AN AD o) n (w1++w2)):=by
 have h1':AF (AN AD o) n=some w1:=by rw[EH hno];exact h1
 refine⟨EL (DK nc.nd),?_,?_⟩
 ·have a1:=HK (AN AD o) n (w1++w2);have a2:=NC h2;have a3:=nc.Cg
  lia
 ·
  obtain⟨i,hi⟩:=GZ h1';rw[LU (DK nc.nd) hi];have a2:=M7 h2;have a3:=nc.BI;have key:∀(l:List Nat)(i x y:Nat),l[i]? =some y->(l.set i x).sum+y=l.sum+x:=by
   intro l
   induction l with
   |nil=>intro i x y h;simp at h
   |cons z l ih=>
    intro i x y h
    cases i with
    |zero=>
     have:z=y:=by simpa using h
     subst this;simp
     lia
    |succ i=>
     rw[VZ,Bz,Bz];have:=ih i x y (by simpa using h)
     lia
  have k1:=key ((AN AD o).map fun p:Pg=>wsum p.2) i (wsum (w1++w2)) (wsum w1) (by rw[A0,hi];rfl);have k2:=JI w1 w2;have e2:((AN AD o).set i (n,w1++w2)).map (fun p:Pg=>wsum p.2)=((AN AD o).map fun p:Pg=>wsum p.2).set i (wsum (w1++w2)):=by rw[List.map_set]
  unfold L2.BI at a2 a3⊢;rw[e2]
  lia
def ZA(K:uJ)(cN cR:Ya):Sp:=fun vs H Q E=>∃a d n m AA AD,vs=[.ref a,.str n,.str m]/\CV cN H a d AA AD/\DG AD/\Out K cN cR H a d Q E (EK AD n m)
def Y0(K:uJ)(cN cR:Ya):Sp:=fun vs H Q E=>∃a d n AA AD,vs=[.ref a,.str n]/\CV cN H a d AA AD/\DG AD/\Out K cN cR H a d Q E (Gf AD n)
def TQ(K:uJ)(cN cR:Ya):Sp:=fun vs H Q E=>∃a d n AA AD,vs=[.ref a,.str n]/\CV cN H a d AA AD/\DG AD/\(∀ws,AF AD n=some ws->∀H',AQ H H'->Q (.str (BQ ws)) H')/\(AF AD n=none->Xw K cR E H "no page")
def Y8(cN:Ya):Sp:=fun vs H Q _=>∃a d n AA AD,vs=[.ref a,.str n]/\CV cN H a d AA AD/\DG AD/\AD.length<64/\∀u H',AQ H H'->Rep H' (.lst ((Kl (Hg AD n)).map Dt.str)) u->Q u H'
def ZX:Az ["self","name","other","behind"] ["self","name","other"] (Ao Q6):=by left
def j9(F:Aj K "join_pages" "Nook.join_pages" Q6 f fd)(C:Ej K cN)(M:MJ P w K mg base cN cR)(R:Rz P w K mg base cR "SamePage" "same page"):AW P w K mg base (Ci P w) 5 f fd ["self","name","other"] (ZA K cN cR):=by
 obtain⟨f1,fd1,m1,G1,b1⟩:=M.need;obtain⟨f3,fd3,m3,G3,b3⟩:=M.DE;obtain⟨f4,fd4,m4,k4,G4,b4⟩:=M.cnt;refine II F ZX ?_ ?_
 ·rintro _ _ _ _ ⟨_,_,_,_,_,_,rfl,_⟩;rfl
 ·rintro _ A _ s H _ Q E hr ⟨a,d,n,m,AA,AD,rfl,g,nc,q⟩;have hu1:=Ck hr;refine⟨_,(AS (Bp (Dv (pv 0) C.cl m1 G1 hr b1 .nil E2 (AE (pv 1) AI))) (AS (Bp (Dv (pv 0) C.cl m1 G1 hr b1 .nil E2 (AE (pv 2) AI)))
   (AS (A7 (Ax Ba (pv 1) (pv 2) (Ar _)) (AU (Ke (k:=1) R hr rfl)) BG)
   (AS (Av (i:=3) ZX.nd rfl (Aa rfl) (JJ (C5 (pv 0) rfl) (pv 2) ⟨rfl,rfl,rfl,rfl⟩))
   (AS (FH hu1 (C5 (pv 0) rfl) (pv 1) (Ag FK (Dx hu1 (C5 (pv 0) rfl) (pv 1) (fun _ _=>rfl)) (pv 3)) rfl)
   (AS (Bp (Dv (pv 0) C.cl m3 G3 hr.mn b3 .nil A3 (AE (pv 2) (AE (pv 1) AI))))
   (AU (An (CL G4 hr.mn rfl m4 k4 b4 .nil A3 (AE (C5 (pv 0) rfl) (AE (pv 1) AI))))))))))),?_⟩;obtain⟨dx,hi⟩:=g.ins;unfold EK at q;refine⟨_,rfl,a,dx,_,rfl,hi,rfl,_,rfl,a,d,n,AA,AD,rfl,g,fun w1 hw1 H1 s1=>?_,fun hw=>by rw[hw] at q;exact q⟩;rw[hw1] at q;have g1:=g.same s1;obtain⟨dx1,DI⟩:=g1.ins;refine⟨_,rfl,a,dx1,_,rfl,DI,rfl,_,rfl,a,d,m,AA,AD,rfl,g1,fun w2 hw2 H2 s2=>?_,fun hw=>by dsimp only at q;rw[hw] at q;exact Xw.mono q s1⟩;dsimp only at q;rw[hw2] at q;refine⟨_,rfl,_,rfl,rfl,_,rfl,?_⟩;have hce:(H:Hp)->AQ (Ex H d) H:=fun _=>Ex.sub;by_cases hnm:n=m
  ·dsimp only at q;rw[AH hnm] at q;refine CD (by rw[hnm]) (Xw.mono q (s1.trans s2))
  ·dsimp only at q;rw[AG hnm] at q;refine CT (fun z=>hnm (V.str.inj z)) ?_;have g2:=g1.same s2;obtain⟨dx2,Fc⟩:=g2.ins;rcases g2.AD.get m with⟨_,z⟩|⟨v,ws',v1,v2,rw_⟩
   ·rw[hw2] at z;cases z
   have ev:ws'=w2:=by rw[hw2] at v2;exact(Ai v2).symm
   subst ev;have vv:Bn (As AA) (.inr m)=some v:=by rw[HQ];exact v1
   refine⟨_,rfl,a,cN,dx2,_,_,rfl,Fc,C.cl,C.nf,rfl,d,rfl,.inl ⟨_,.inl g2.Bq⟩,_,rfl,_,.inr m,_,g2.Bq,rfl,vv,?_⟩;rw[Sn];have g3:=g2.upd (g2.AD.drop m);have r3:Rep (upd H2 d (.dK (As (AN AA m)))) (Dk ws') v:=(Mt g2.Bq rw_).same Lp;have s3:AQ (Ex H d) (upd H2 d (.dK (As (AN AA m)))):=((Ex.sub.trans s1).trans s2).upd Gb;generalize upd H2 d (.dK (As (AN AA m)))=H3 at g3 s3 r3;obtain⟨dx3,Ek⟩:=g3.ins;have hw1':AF (AN AD m) n=some w1:=by rw[EH hnm];exact hw1
   rcases g3.AD.get n with⟨_,z⟩|⟨u,ws1,u1,u2,ru⟩
   ·rw[hw1'] at z;cases z
   have ev1:ws1=w1:=by rw[hw1'] at u2;exact(Ai u2).symm
   subst ev1;have dg:BS H3 d (.str n) (some u):=by have:=BS.kq (k:=.inr n) g3.Bq;rw[HQ,u1] at this;exact this
   obtain⟨l1,xs1,rfl,hl1,rr1⟩:=Ew ru;obtain⟨l2,xs2,rfl,hl2,rr2⟩:=Ew r3;have z1:xs1.length<=100000:=by have h1:=rr1.1;rw[AK] at h1;have h2:ws1.length<=100000:=nc.EB.short (n,ws1) (by obtain⟨i,hi⟩:=GZ hw1;exact CF hi);lia
   have z2:xs2.length<=100000:=by have h1:=rr2.1;rw[AK] at h1;have h2:ws'.length<=100000:=nc.EB.short (m,ws') (by obtain⟨i,hi⟩:=GZ hw2;exact CF hi);lia
   refine⟨_,rfl,a,cN,dx3,_,_,rfl,Ek,C.cl,C.nf,rfl,_,rfl,d,_,rfl,dg,_,rfl,l1,l2,_,_,rfl,rfl,hl1,hl2,by rw[Aw];lia,fun l hl=>?_⟩;have s4:=AY (o:=.lst (xs1++xs2)) hl;have g4:=g3.same s4;have r4:Rep (upd H3 l (.lst (xs1++xs2))) (Dk (ws1++ws')) (.ref l):=Yk AM (rr1.same s4) (rr2.same s4);have s4':=s3.trans s4;generalize upd H3 l (.lst (xs1++xs2))=H4 at g4 r4 s4';obtain⟨dx4,Jp⟩:=g4.ins;have dp:=Dh.kq (k:=.inr n) (v:=.ref l) g4.Bq (M4 g4.AD (by have:=NC hw2;have:=nc.Cg;lia));rw[Lf] at dp;refine⟨_,rfl,a,cN,dx4,_,_,rfl,Jp,C.cl,C.nf,rfl,_,rfl,d,_,rfl,dp,?_⟩;have g5:=g4.upd (g4.AD.put n r4);have s5:=s4'.upd (o:=.dK (As (AV (AN AA m) n (.ref l)))) Gb;generalize upd H4 d (.dK (As (AV (AN AA m) n (.ref l))))=H5 at g5 s5;obtain⟨dx5,K3⟩:=g5.ins;have nc5:DG (AV (AN AD m) n (ws1++ws')):=nc.join hnm hw1 hw2;refine⟨_,rfl,a,dx5,_,rfl,K3,rfl,_,rfl,_,rfl,a,d,m,n,_,_,rfl,g5,nc5,fun H6 kvs6 s6 g6=>?_⟩;obtain⟨dx6,Ui⟩:=g6.ins;have s56:AQ (Ex H d) H6:=(Ex.of_none s5 Gb).trans s6;refine⟨_,rfl,a,cN,dx6,_,_,rfl,Ui,C.cl,C.nf,rfl,_,rfl,d,n,kvs6,_,rfl,g6.Bq,g6.AD,WX nc5.EB,fun H7 s7=>?_⟩;exact q H7 kvs6 _ (s56.trans s7) (g6.same s7) (.int _)
def Yw:Az ["self","name","led"] ["self","name"] (Ao RD):=by left
def jg(F:Aj K "drop_page" "Nook.drop_page" RD f fd)(C:Ej K cN)(M:MJ P w K mg base cN cR):AW P w K mg base (Ci P w) 5 f fd ["self","name"] (Y0 K cN cR):=by
 obtain⟨f1,fd1,m1,G1,b1⟩:=M.need;obtain⟨f4,fd4,m4,k4,G4,b4⟩:=M.cnt;refine II F Yw ?_ ?_
 ·rintro _ _ _ _ ⟨_,_,_,_,_,rfl,_⟩;rfl
 ·rintro _ A _ s H _ Q E hr ⟨a,d,n,AA,AD,rfl,g,nc,q⟩;have hu1:=Ck hr;refine⟨_,(AS (Bp (Dv (pv 0) C.cl m1 G1 hr b1 .nil E2 (AE (pv 1) AI))) (AS (Av (i:=2) Yw.nd rfl (Aa rfl) (CL G4 hr.mn rfl m4 k4 b4 .nil A3 (AE (C5 (pv 0) rfl) (AE (pv 1) AI))))
   (AS (Bp (JJ (C5 (pv 0) rfl) (pv 1) ⟨rfl,rfl,rfl,rfl⟩)) (AU (An (pv 2)))))),?_⟩;obtain⟨dx,hi⟩:=g.ins;unfold Gf at q;refine⟨_,rfl,a,dx,_,rfl,hi,rfl,_,rfl,a,d,n,AA,AD,rfl,g,fun ws hw H1 s1=>?_,fun hw=>by rw[hw] at q;exact q⟩;rw[hw] at q;have g1:=g.same s1;obtain⟨dx1,DI⟩:=g1.ins;refine⟨_,rfl,a,cN,dx1,_,_,rfl,DI,C.cl,C.nf,rfl,_,rfl,d,n,AA,_,rfl,g1.Bq,g1.AD,nc.EB,fun H2 s2=>?_⟩;have g2:=g1.same s2;obtain⟨dx2,Fc⟩:=g2.ins;rcases g2.AD.get n with⟨_,z⟩|⟨v,ws',v1,v2,rw_⟩
  ·rw[hw] at z;cases z
  have vv:Bn (As AA) (.inr n)=some v:=by rw[HQ];exact v1
  refine⟨_,rfl,a,cN,dx2,_,_,rfl,Fc,C.cl,C.nf,rfl,d,rfl,.inl ⟨_,.inl g2.Bq⟩,_,rfl,_,.inr n,_,g2.Bq,rfl,vv,?_⟩;rw[Sn];have g3:=g2.upd (g2.AD.drop n);have s3:AQ (Ex H d) (upd H2 d (.dK (As (AN AA n)))):=((Ex.sub.trans s1).trans s2).upd Gb;exact⟨_,rfl,q _ _ _ s3 g3 (.int _)⟩
def lz:Az ["self","name"] ["self","name"] (Ao RP):=by left
def X1(F:Aj K "text_of" "Nook.text_of" RP f fd)(C:Ej K cN)(M:MJ P w K mg base cN cR)(HT:Hv P w K mg base "tell_text" 2 ["words"] aU):
 AW P w K mg base (Ci P w) 5 f fd ["self","name"] (TQ K cN cR):=by
 obtain⟨f1,fd1,m1,G1,b1⟩:=M.need;refine II F lz ?_ ?_
 ·rintro _ _ _ _ ⟨_,_,_,_,_,rfl,_⟩;rfl
 ·rintro _ A _ s H _ Q E hr ⟨a,d,n,AA,AD,rfl,g,nc,q,qx⟩;have hu1:=Ck hr;refine⟨_,(AS (Bp (Dv (pv 0) C.cl m1 G1 hr b1 .nil E2 (AE (pv 1) AI))) (AU (An (Cb HT hr.mn rfl A3 (AE (Dx hu1 (C5 (pv 0) rfl) (pv 1) (fun _ _=>rfl)) AI))))),?_⟩;obtain⟨dx,hi⟩:=g.ins;refine⟨_,rfl,a,dx,_,rfl,hi,rfl,_,rfl,a,d,n,AA,AD,rfl,g,fun ws hw H1 s1=>?_,qx⟩;have g1:=g.same s1;obtain⟨dx1,DI⟩:=g1.ins;rcases g1.AD.get n with⟨_,z⟩|⟨v,ws',v1,v2,rw_⟩
  ·rw[hw] at z;cases z
  have ev:ws'=ws:=by rw[hw] at v2;exact(Ai v2).symm
  subst ev;have dg:BS H1 d (.str n) (some v):=by have:=BS.kq (k:=.inr n) g1.Bq;rw[HQ,v1] at this;exact this
  refine⟨_,rfl,a,cN,dx1,_,_,rfl,DI,C.cl,C.nf,rfl,_,rfl,d,_,rfl,dg,v,ws',rfl,rw_,?_,fun H2 s2=>q ws' hw H2 (s1.trans s2)⟩;have h1:=nc.BI;obtain⟨i,hi⟩:=GZ hw;have h2:=JO (CF hi);show wsum ws'<=_;have h3:wsum ws'<=BI AD:=h2
  lia
def mV:Az ["self","name"] ["self","name"] (Ao RC):=by left
def jO(F:Aj K "back_from" "Nook.back_from" RC f fd)(C:Ej K cN)(HT:Hv P w K mg base "pages_pointing" 1 ["pages","name"] Zo):
 AW P w K mg base Ah 2 f fd ["self","name"] (Y8 cN):=by
 refine F.ok mV ?_ ?_
 ·rintro _ _ _ _ ⟨_,_,_,_,_,rfl,_⟩;rfl
 ·rintro _ A _ s H _ Q E hr ⟨a,d,n,AA,AD,rfl,g,nc,h64,q⟩;refine⟨_,(AU (An (Cb HT hr rfl A3 (AE (C5 (pv 0) rfl) (AE (pv 1) AI))))),?_⟩;obtain⟨dx,hi⟩:=g.ins;exact⟨_,rfl,a,cN,dx,_,_,rfl,hi,C.cl,C.nf,rfl,_,rfl,d,n,AA,_,rfl,g.Bq,g.AD,nc.EB,h64,fun u H1 s1 r=>q u H1 s1 r⟩
def XB{xs:List V}{pl:Int}(h0:0<=pl)(h1:pl<=xs.length):Cn xs (some pl) none=xs.drop pl.toNat:=by
 unfold Cn;have e1:BD xs.length 0 (some pl)=pl.toNat:=by
  show(if pl<0 then _ else min pl.toNat xs.length)=_;rw[AG (by lia)]
  lia
 rw[e1];show(xs.drop pl.toNat).take (xs.length-pl.toNat)=_;rw[Fj (by rw[C9];exact Ad _)]
def ZN{xs:List V}{pl:Int}(h0:0<=pl)(h1:pl<=xs.length):Cn xs none (some pl)=xs.take pl.toNat:=by
 unfold Cn;have e1:BD xs.length xs.length (some pl)=pl.toNat:=by
  show(if pl<0 then _ else min pl.toNat xs.length)=_;rw[AG (by lia)]
  lia
 rw[e1];show(xs.drop 0).take (pl.toNat-0)=_;rw[Mp,Nat.sub_zero]
def fY{xs:List V}(r:Ab H (ws.map Di) xs)(k:Nat):Ab H ((ws.drop k).map Di) (xs.drop k):=by
 refine⟨?_,fun i d x h1 h2=>?_⟩
 ·have:=r.1;rw[AK] at this;rw[AK,C9,C9,this]
 ·rw[J8,Jv] at h1;rw[Jv] at h2;exact r.2 _ d x h1 h2
def fg{xs:List V}(r:Ab H (ws.map Di) xs)(k:Nat):Ab H ((ws.take k).map Di) (xs.take k):=by
 refine⟨?_,fun i d x h1 h2=>?_⟩
 ·have:=r.1;rw[AK] at this;rw[AK,Bc,Bc,this]
 ·rw[J7] at h1;by_cases hi:i<k
  ·rw[List.getElem?_take_of_lt hi] at h1 h2;exact r.2 _ d x h1 h2
  ·rw[OV,AG hi] at h2;cases h2
def iu{p:PR}{t:Ya}(h:H t=some (.tup (F2 p))):Ab H ([p].map Di) [.ref t]:=by
 refine⟨rfl,fun i d x h1 h2=>?_⟩
 match i with
 |0=>cases h1;cases h2;exact Ta h
 |i+1=>simp at h1
def Z2(K:uJ)(cN cR:Ya):Sp:=fun vs H Q E=>∃a d n pl m AA AD,vs=[.ref a,.str n,.int pl,.str m]/\CV cN H a d AA AD/\DG AD/\m.length<=100000/\Out K cN cR H a d Q E (FR AD n pl m)
def Sr(cN:Ya):Sp:=fun vs H Q _=>∃a dx,vs=[.ref a]/\H a=some (.ins cN dx [])/\∀H' d,H d=none->d≠a->AQ (Ex H a) H'->CV cN H' a d [] []->Q .BB H'
def Zp:Az ["self","name","place","fresh","words"] ["self","name","place","fresh"] (Ao RK):=by left
def kQ(F:Aj K "cut_page" "Nook.cut_page" RK f fd)(C:Ej K cN)(M:MJ P w K mg base cN cR)(R:Rz P w K mg base cR "NoPlace" "no place")(O:Hc mg):AW P w K mg base (Ci P w) 5 f fd ["self","name","place","fresh"] (Z2 K cN cR):=by
 obtain⟨f1,fd1,m1,G1,b1⟩:=M.need;obtain⟨f2,fd2,m2,G2,b2⟩:=M.free;refine II F Zp ?_ ?_
 ·rintro _ _ _ _ ⟨_,_,_,_,_,_,_,rfl,_⟩;rfl
 ·rintro _ A _ s H _ Q E hr ⟨a,d,n,pl,m,AA,AD,rfl,g,nc,hz,q⟩;have hu1:=Ck hr;refine⟨_,(AS (Bp (Dv (pv 0) C.cl m1 G1 hr b1 .nil E2 (AE (pv 1) AI))) (AS (Bp (Dv (pv 0) C.cl m2 G2 hr b2 .nil E2 (AE (pv 3) AI)))
   (AS (Av (i:=4) Zp.nd rfl (Aa rfl) (Dx hu1 (C5 (pv 0) rfl) (pv 1) (fun _ _=>rfl)))
   (AS (A7 (PW.pt (Je (Ax JY (pv 2) Ac (Ar _)) (JU (Ax Ts (pv 2) (BY IZ rfl O.len DB (AE (pv 4) AI)) (Ar _))))) (AU (Ke (k:=1) R hr rfl)) BG)
   (AS (FH hu1 (C5 (pv 0) rfl) (pv 3) (Dr Pb (pv 4) (C0 (pv 2)) Fo) rfl)
   (AS (FH hu1 (C5 (pv 0) rfl) (pv 1) (Ag FK (Dr Pb (pv 4) Fo (C0 (pv 2))) (Bu (AE (CJ (AE AZ (AE (pv 3) AI))) AI))) rfl)
   (AU (An (BY IZ rfl O.len DB (AE (Dx hu1 (C5 (pv 0) rfl) (pv 3) (fun _ _=>rfl)) AI)))))))))),?_⟩;obtain⟨dx,hi⟩:=g.ins;unfold FR at q;refine⟨_,rfl,a,dx,_,rfl,hi,rfl,_,rfl,a,d,n,AA,AD,rfl,g,fun ws hw H1 s1=>?_,fun hw=>by rw[hw] at q;exact q⟩;rw[hw] at q;have g1:=g.same s1;obtain⟨dx1,DI⟩:=g1.ins;refine⟨_,rfl,a,dx1,_,rfl,DI,rfl,_,rfl,a,d,m,AA,AD,rfl,g1,hz,fun en=>?_,fun w2 en hm=>?_,fun en hm H2 s2=>?_⟩
  ·dsimp only at q;rw[en,AG CZ] at q;exact Xw.mono q s1
  ·dsimp only at q;rw[en,AH rfl,hm] at q;exact Xw.mono q s1
  ·dsimp only at q;rw[en,AH rfl,hm] at q;dsimp only at q;have g2:=g1.same s2;obtain⟨dx2,Fc⟩:=g2.ins;rcases g2.AD.get n with⟨_,z⟩|⟨v,ws',v1,v2,rw_⟩
   ·rw[hw] at z;cases z
   have ev:ws'=ws:=by rw[hw] at v2;exact(Ai v2).symm
   subst ev;have dg:BS H2 d (.str n) (some v):=by have:=BS.kq (k:=.inr n) g2.Bq;rw[HQ,v1] at this;exact this
   obtain⟨l,xs,rfl,hl,rr⟩:=Ew rw_;have el:xs.length=ws'.length:=by have:=rr.1;rw[AK] at this;exact this.symm
   have zl:xs.length<=100000:=by have h2:ws'.length<=100000:=nc.EB.short (n,ws') (by obtain⟨i,hi⟩:=GZ hw;exact CF hi);lia
   refine⟨_,rfl,a,cN,dx2,_,_,rfl,Fc,C.cl,C.nf,rfl,_,rfl,d,_,rfl,dg,?_⟩;refine⟨_,rfl,_,_,rfl,rfl,_,rfl,?_⟩;by_cases c1:pl<0
   ·rw[AH (.inl c1)] at q;refine CD c1 ?_;exact Bo (Xw.mono q (s1.trans s2))
   refine CT c1 ⟨_,rfl,_,rfl,l,xs,rfl,.inl (AJ.of hl),_,_,rfl,rfl,_,rfl,?_⟩;by_cases c2:(xs.length:Int)<pl
   ·rw[AH (.inr (by rw[<-el];exact c2))] at q;exact CD c2 (Xw.mono q (s1.trans s2))
   refine CT c2 ?_;rw[AG (by rw[<-el];exact fun z=>z.elim c1 c2)] at q;have p0:0<=pl:=by lia
   have p1:pl<=xs.length:=by lia
   refine⟨_,rfl,_,rfl,_,rfl,l,xs,rfl,AJ.of hl,fun l3 hl3=>?_⟩;rw[XB p0 p1];have s3:=AY (o:=.lst (xs.drop pl.toNat)) hl3;have g3:=g2.same s3;have r3:Rep (upd H2 l3 (.lst (xs.drop pl.toNat))) (Dk (ws'.drop pl.toNat)) (.ref l3):=Rep.Fd AM ((fY rr _).same s3);have s3':AQ (Ex H d) (upd H2 l3 (.lst (xs.drop pl.toNat))):=((Ex.sub.trans s1).trans s2).trans s3;have hl':=s3 _ _ hl;have rr':=rr.same s3;generalize upd H2 l3 (.lst (xs.drop pl.toNat))=H3 at g3 r3 s3' hl' rr';obtain⟨dx3,Ek⟩:=g3.ins;have dp:=Dh.kq (k:=.inr m) (v:=.ref l3) g3.Bq (M4 g3.AD (BF nc.Cg (by lia)));rw[Lf] at dp;refine⟨_,rfl,a,cN,dx3,_,_,rfl,Ek,C.cl,C.nf,rfl,_,rfl,d,_,rfl,dp,?_⟩;have g4:=g3.upd (g3.AD.put m r3);have s4:=s3'.upd (o:=.dK (As (AV AA m (.ref l3)))) Gb;have hl4:(upd H3 d (.dK (As (AV AA m (.ref l3))))) l=some (.lst xs):=by rw[AR (Ca hl' g3.Bq (by intro z;cases z))];exact hl'
   have rr4:Ab (upd H3 d (.dK (As (AV AA m (.ref l3))))) (ws'.map Di) xs:=by obtain⟨l0,xs0,e0,h0,r0⟩:=Ew ((Mt g3.Bq (Rep.Fd hl' rr')).same (Lp (o:=.dK (As (AV AA m (.ref l3))))));cases e0;rw[hl4] at h0;cases h0;exact r0
   generalize upd H3 d (.dK (As (AV AA m (.ref l3))))=H4 at g4 s4 hl4 rr4;refine⟨_,rfl,_,rfl,_,rfl,l,xs,rfl,AJ.of hl4,fun l5 hl5=>⟨_,rfl,(by show 2<=sizeLine;decide),fun t ht=>⟨(by show 1<=sizeLine;decide),fun l6 hl6=>?_⟩⟩⟩;rw[ZN p0 p1] at ht hl6⊢;have s5:=AY (o:=.lst (xs.take pl.toNat)) hl5;have s6:=AY (o:=.tup [.str "to",.str m]) ht;have s7:=AY (o:=.lst [.ref t]) hl6;have s57:=s5.trans (s6.trans s7);have h5:=(s6.trans s7) _ _ (AM (H:=H4) (a:=l5) (o:=.lst (xs.take pl.toNat)));have h6:=s7 _ _ (AM (a:=t) (o:=.tup [.str "to",.str m]) (H:=upd H4 l5 (.lst (xs.take pl.toNat))));have h7:=AM (a:=l6) (o:=.lst [V.ref t]) (H:=upd (upd H4 l5 (.lst (xs.take pl.toNat))) t (.tup [.str "to",.str m]));have g7:=g4.same s57;have rr7:=rr4.same s57;have s7':=s4.trans s57;generalize upd (upd (upd H4 l5 (.lst (xs.take pl.toNat))) t (.tup [.str "to",.str m])) l6 (.lst [V.ref t])=H7 at h5 h6 h7 g7 rr7 s7';refine⟨l5,l6,_,_,rfl,rfl,h5,h7,by rw[Bc,Aw,CK];lia,fun l8 hl8=>?_⟩;have s8:=AY (o:=.lst (xs.take pl.toNat++[.ref t])) hl8;have g8:=g7.same s8;have r8:Rep (upd H7 l8 (.lst (xs.take pl.toNat++[.ref t]))) (Dk (ws'.take pl.toNat++[(("to" :Str),m)])) (.ref l8):=Yk AM ((fg rr7 _).same s8) (iu (s8 _ _ h6));have s8':=s7'.trans s8;generalize upd H7 l8 (.lst (xs.take pl.toNat++[.ref t]))=H8 at g8 r8 s8';obtain⟨dx8,Qk⟩:=g8.ins;have dp8:=Dh.kq (k:=.inr n) (v:=.ref l8) g8.Bq (M4 g8.AD (by have:=HK AD m (ws'.drop pl.toNat);have:=nc.Cg;lia));rw[Lf] at dp8;refine⟨_,rfl,a,cN,dx8,_,_,rfl,Qk,C.cl,C.nf,rfl,_,rfl,d,_,rfl,dp8,?_⟩;have g9:=g8.upd (g8.AD.put n r8);have s9:=s8'.upd (o:=.dK (As (AV (AV AA m (.ref l3)) n (.ref l8)))) Gb;generalize upd H8 d (.dK (As (AV (AV AA m (.ref l3)) n (.ref l8))))=H9 at g9 s9;obtain⟨dx9,OD⟩:=g9.ins;have hmn:m≠n:=fun z=>by rw[z,hw] at hm;cases hm
   rcases g9.AD.get m with⟨_,z⟩|⟨u,wu,u1,u2,ru⟩
   ·rw[Cu,AG hmn,Cu,AH rfl] at z;cases z
   have eu:wu=ws'.drop pl.toNat:=by rw[Cu,AG hmn,Cu,AH rfl] at u2;exact(Ai u2).symm
   subst eu;have dg9:BS H9 d (.str m) (some u):=by have:=BS.kq (k:=.inr m) g9.Bq;rw[HQ,u1] at this;exact this
   obtain⟨lu,xu,rfl,hlu,rru⟩:=Ew ru;refine⟨_,rfl,a,cN,dx9,_,_,rfl,OD,C.cl,C.nf,rfl,_,rfl,d,_,rfl,dg9,lu,xu,rfl,.inl (AJ.of hlu),?_⟩;have elu:xu.length=(ws'.drop pl.toNat).length:=by have:=rru.1;rw[AK] at this;exact this.symm
   rw[elu];exact q _ _ _ s9 g9 (.int _)
def jV:Az ["self"] ["self"] (Ao Rh):=by left
def W4(F:Aj K "__init__" "Nook.__init__" Rh f fd)(C:Ej K cN):AW P w K mg base Ah 1 f fd ["self"] (Sr cN):=by
 refine F.ok jV ?_ ?_
 ·rintro _ _ _ _ ⟨_,_,rfl,_⟩;rfl
 ·rintro _ A _ s H _ Q E hr ⟨a,dx,rfl,hi,q⟩;refine⟨_,(AU (md (pv 0) PD rfl)),fun d hd=>?_⟩;have s1:=AY (o:=.dK []) hd;have nd:d≠a:=fun z=>by rw[z,hi] at hd;cases hd
  have DI:=s1 _ _ hi;refine⟨_,rfl,a,cN,dx,_,rfl,DI,C.cl,C.nf,(by show 0<1000;decide),?_⟩;refine q _ d hd nd ?_ ⟨⟨dx,AM⟩,by rw[AR nd];exact AM,⟨rfl,fun i kv p e=>by simp at e⟩⟩;exact(Ex.sub.trans s1).upd (by unfold Ex;rw[AH rfl])
def D8(AD:List Pg):Am->Rs
 |.write n t=>GY AD n t
 |.rename n m=>GQ AD n m
 |.join n o=>EK AD n o
 |.cut n p m=>FR AD n p m
 |.drop n=>Gf AD n
 |.text n=>Fu AD n
 |.back n=>ki AD n
 |.find ws far=>if ws=[] then .no "no words" else .un AD
def Yy(K:uJ)(cN cR:Ya):Sp:=fun vs H Q E=>∃a d v ws far AA AD,vs=[.ref a,v,.int far]/\CV cN H a d AA AD/\DG AD/\AD.length<64/\Rep H (.tup (ws.map Dt.str)) v/\ws.length<=9/\Out K cN cR H a d Q E (if ws=[] then .no "no words" else .un AD)
def UM(K:uJ)(cN cR:Ya):Sp:=fun vs H Q E=>∃a d v x AA AD,vs=[.ref a,v]/\CV cN H a d AA AD/\DG AD/\AD.length<64/\Rep H (Am.dt x) v/\x.Good/\Out K cN cR H a d Q E (D8 AD x)
structure bH(P:ql)(w:qu)(K:uJ)(mg:Str->Option AB)(base:qp)(cN cR:Ya):Prop where
 write:∃f fd,Meth K cN "write_page" f/\AW P w K mg base (Ci P w) 4 f fd ["self","name","text"] (Xz K cN cR)/\Binds K fd ["self","name","text"] []
 rename:∃f fd,Meth K cN "rename_page" f/\AW P w K mg base (Ci P w) 5 f fd ["self","name","fresh"] (Xi K cN cR)/\Binds K fd ["self","name","fresh"] []
 join:∃f fd,Meth K cN "join_pages" f/\AW P w K mg base (Ci P w) 5 f fd ["self","name","other"] (ZA K cN cR)/\Binds K fd ["self","name","other"] []
 cut:∃f fd,Meth K cN "cut_page" f/\AW P w K mg base (Ci P w) 5 f fd ["self","name","place","fresh"] (Z2 K cN cR)/\Binds K fd ["self","name","place","fresh"] []
 drop:∃f fd,Meth K cN "drop_page" f/\AW P w K mg base (Ci P w) 5 f fd ["self","name"] (Y0 K cN cR)/\Binds K fd ["self","name"] []
 text:∃f fd,Meth K cN "text_of" f/\AW P w K mg base (Ci P w) 5 f fd ["self","name"] (TQ K cN cR)/\Binds K fd ["self","name"] []
 back:∃f fd,Meth K cN "back_from" f/\AW P w K mg base Ah 2 f fd ["self","name"] (Y8 cN)/\Binds K fd ["self","name"] []
 find:∃f fd,Meth K cN "find_pages" f/\AW P w K mg base (Ci P w) 5 f fd ["self","wanted","near"] (Yy K cN cR)/\Binds K fd ["self","wanted","near"] []
def az:Az ["nook","deed","kind"] ["nook","deed"] (Ao Rr):=by left
def nA(F:Aj K "do_deed" "do_deed" Rr f fd)(C:Ej K cN)(M:bH P w K mg base cN cR):AW P w K mg base (Ci P w) 6 f fd ["nook","deed"] (UM K cN cR):=by
 obtain⟨f1,fd1,m1,G1,b1⟩:=M.write;obtain⟨f2,fd2,m2,G2,b2⟩:=M.rename;obtain⟨f3,fd3,m3,G3,b3⟩:=M.join;obtain⟨f4,fd4,m4,G4,b4⟩:=M.cut;obtain⟨f5,fd5,m5,G5,b5⟩:=M.drop;obtain⟨f6,fd6,m6,G6,b6⟩:=M.text;obtain⟨f7,fd7,m7,G7,b7⟩:=M.back;obtain⟨f8,fd8,m8,G8,b8⟩:=M.find;refine II F az ?_ ?_
 ·rintro _ _ _ _ ⟨_,_,_,_,_,_,rfl,_⟩;rfl
 ·rintro _ A _ s H _ Q E hr ⟨a,d,v,x,AA,AD,rfl,g,nc,h64,rx,good,q⟩;refine⟨_,(AS (Av (i:=2) az.nd rfl (Aa rfl) (BA (pv 1)))
   (AS (A7 (Ax Ba (pv 2) AZ (Ar _)) (AU (An (Dv (pv 0) C.cl m1 G1 hr.mn b1 .nil E2 (AE (BA (pv 1)) (AE (BA (pv 1)) AI))))) BG)
   (AS (A7 (Ax Ba (pv 2) AZ (Ar _)) (AU (An (Dv (pv 0) C.cl m2 G2 hr b2 .nil E2 (AE (BA (pv 1)) (AE (BA (pv 1)) AI))))) BG)
   (AS (A7 (Ax Ba (pv 2) AZ (Ar _)) (AU (An (Dv (pv 0) C.cl m3 G3 hr b3 .nil E2 (AE (BA (pv 1)) (AE (BA (pv 1)) AI))))) BG)
   (AS (A7 (Ax Ba (pv 2) AZ (Ar _)) (AU (An (Dv (pv 0) C.cl m4 G4 hr b4 .nil E2 (AE (BA (pv 1)) (AE (BA (pv 1)) (AE (BA (pv 1)) AI)))))) BG)
   (AS (A7 (Ax Ba (pv 2) AZ (Ar _)) (AU (An (Dv (pv 0) C.cl m5 G5 hr b5 .nil E2 (AE (BA (pv 1)) AI)))) BG)
   (AS (A7 (Ax Ba (pv 2) AZ (Ar _)) (AU (An (Dv (pv 0) C.cl m6 G6 hr b6 .nil E2 (AE (BA (pv 1)) AI)))) BG)
   (AS (A7 (Ax Ba (pv 2) AZ (Ar _)) (AU (An (Dv (pv 0) C.cl m7 G7 hr.mn b7 .nil A3 (AE (BA (pv 1)) AI)))) BG)
   (AU (An (Dv (pv 0) C.cl m8 G8 hr b8 .nil E2 (AE (BA (pv 1)) (AE (BA (pv 1)) AI))))))))))))),?_⟩;obtain⟨dx,hi⟩:=g.ins
  cases x with
  |write n t=>obtain⟨ad,xs,rfl,had,rr⟩:=B1 rx;obtain⟨u1,u2,u3,rfl,r1,r2,r3⟩:=Ey rr;cases r1;cases r2;cases r3;refine⟨_,rfl,ad,_,_,_,rfl,rfl,AX.of had,Bt (j:=0) rfl,?_⟩;refine Jj rfl ?_;exact⟨_,rfl,a,dx,_,rfl,hi,rfl,_,rfl,ad,_,_,_,rfl,rfl,AX.of had,Bt (j:=1) rfl,_,rfl,ad,_,_,_,rfl,rfl,AX.of had,Bt (j:=2) rfl,a,d,n,t,AA,AD,rfl,g,nc,BF good.1 (by lia),BF good.2 (by lia),q⟩
  |rename n m=>obtain⟨ad,xs,rfl,had,rr⟩:=B1 rx;obtain⟨u1,u2,u3,rfl,r1,r2,r3⟩:=Ey rr;cases r1;cases r2;cases r3;refine⟨_,rfl,ad,_,_,_,rfl,rfl,AX.of had,Bt (j:=0) rfl,?_⟩;refine Bi rfl (by left) ?_;refine Jj rfl ?_;exact⟨_,rfl,a,dx,_,rfl,hi,rfl,_,rfl,ad,_,_,_,rfl,rfl,AX.of had,Bt (j:=1) rfl,_,rfl,ad,_,_,_,rfl,rfl,AX.of had,Bt (j:=2) rfl,a,d,n,m,AA,AD,rfl,g,nc,BF good.2 (by lia),q⟩
  |join n m=>obtain⟨ad,xs,rfl,had,rr⟩:=B1 rx;obtain⟨u1,u2,u3,rfl,r1,r2,r3⟩:=Ey rr;cases r1;cases r2;cases r3;refine⟨_,rfl,ad,_,_,_,rfl,rfl,AX.of had,Bt (j:=0) rfl,?_⟩;refine Bi rfl (by left) ?_;refine Bi rfl (by left) ?_;refine Jj rfl ?_;exact⟨_,rfl,a,dx,_,rfl,hi,rfl,_,rfl,ad,_,_,_,rfl,rfl,AX.of had,Bt (j:=1) rfl,_,rfl,ad,_,_,_,rfl,rfl,AX.of had,Bt (j:=2) rfl,a,d,n,m,AA,AD,rfl,g,nc,q⟩
  |cut n pl m=>obtain⟨ad,xs,rfl,had,rr⟩:=B1 rx;obtain⟨u1,u2,u3,u4,rfl,r1,r2,r3,r4⟩:=Py rr;cases r1;cases r2;cases r3;cases r4;refine⟨_,rfl,ad,_,_,_,rfl,rfl,AX.of had,Bt (j:=0) rfl,?_⟩;refine Bi rfl (by left) ?_;refine Bi rfl (by left) ?_;refine Bi rfl (by left) ?_;refine Jj rfl ?_;exact⟨_,rfl,a,dx,_,rfl,hi,rfl,_,rfl,ad,_,_,_,rfl,rfl,AX.of had,Bt (j:=1) rfl,_,rfl,ad,_,_,_,rfl,rfl,AX.of had,Bt (j:=2) rfl,_,rfl,ad,_,_,_,rfl,rfl,AX.of had,Bt (j:=3) rfl,a,d,n,pl,m,AA,AD,rfl,g,nc,BF good.2 (by lia),q⟩
  |drop n=>obtain⟨ad,xs,rfl,had,rr⟩:=B1 rx;obtain⟨u1,u2,rfl,r1,r2⟩:=HW rr;cases r1;cases r2;refine⟨_,rfl,ad,_,_,_,rfl,rfl,AX.of had,Bt (j:=0) rfl,?_⟩;refine Bi rfl (by left) ?_;refine Bi rfl (by left) ?_;refine Bi rfl (by left) ?_;refine Bi rfl (by left) ?_;refine Jj rfl ?_;exact⟨_,rfl,a,dx,_,rfl,hi,rfl,_,rfl,ad,_,_,_,rfl,rfl,AX.of had,Bt (j:=1) rfl,a,d,n,AA,AD,rfl,g,nc,q⟩
  |text n=>
   obtain⟨ad,xs,rfl,had,rr⟩:=B1 rx;obtain⟨u1,u2,rfl,r1,r2⟩:=HW rr;cases r1;cases r2;refine⟨_,rfl,ad,_,_,_,rfl,rfl,AX.of had,Bt (j:=0) rfl,?_⟩;refine Bi rfl (by left) ?_;refine Bi rfl (by left) ?_;refine Bi rfl (by left) ?_;refine Bi rfl (by left) ?_;refine Bi rfl (by left) ?_;refine Jj rfl ?_;refine⟨_,rfl,a,dx,_,rfl,hi,rfl,_,rfl,ad,_,_,_,rfl,rfl,AX.of had,Bt (j:=1) rfl,a,d,n,AA,AD,rfl,g,nc,fun ws hw H' s'=>?_,fun hw=>?_⟩
   ·have q':Out K cN cR H a d Q E (Fu AD n):=q;unfold Fu at q';rw[hw] at q';exact q' H' AA _ (Ex.sub.trans s') (g.same s') (.str _)
   ·have q':Out K cN cR H a d Q E (Fu AD n):=q;unfold Fu at q';rw[hw] at q';exact q'
  |back n=>obtain⟨ad,xs,rfl,had,rr⟩:=B1 rx;obtain⟨u1,u2,rfl,r1,r2⟩:=HW rr;cases r1;cases r2;refine⟨_,rfl,ad,_,_,_,rfl,rfl,AX.of had,Bt (j:=0) rfl,?_⟩;refine Bi rfl (by left) ?_;refine Bi rfl (by left) ?_;refine Bi rfl (by left) ?_;refine Bi rfl (by left) ?_;refine Bi rfl (by left) ?_;refine Bi rfl (by left) ?_;refine Jj rfl ?_;exact⟨_,rfl,a,dx,_,rfl,hi,rfl,_,rfl,ad,_,_,_,rfl,rfl,AX.of had,Bt (j:=1) rfl,a,d,n,AA,AD,rfl,g,nc,h64,fun u H' s' r=>q H' AA u (Ex.sub.trans s') (g.same s') r⟩
  |find ws far=>obtain⟨ad,xs,rfl,had,rr⟩:=B1 rx;obtain⟨u1,u2,u3,rfl,r1,r2,r3⟩:=Ey rr;cases r1;cases r3;refine⟨_,rfl,ad,_,_,_,rfl,rfl,AX.of had,Bt (j:=0) rfl,?_⟩;refine Bi rfl (by left) ?_;refine Bi rfl (by left) ?_;refine Bi rfl (by left) ?_;refine Bi rfl (by left) ?_;refine Bi rfl (by left) ?_;refine Bi rfl (by left) ?_;refine Bi rfl (by left) ?_;exact⟨_,rfl,a,dx,_,rfl,hi,rfl,_,rfl,ad,_,_,_,rfl,rfl,AX.of had,Bt (j:=1) rfl,_,rfl,ad,_,_,_,rfl,rfl,AX.of had,Bt (j:=2) rfl,a,d,u2,ws,far,AA,AD,rfl,g,nc,h64,r2,good.1,q⟩
noncomputable def Rs.next(AD:List Pg):Rs->List Pg
 |.no _=>AD
 |.ok _ p=>p
 |.un p=>p
noncomputable def Rs.Qi:Rs->Option Dt
 |.no m=>some (.str m)
 |.ok r _=>some r
 |.un _=>none
def aC(cN:Ya):Sp:=fun vs H Q _=>∃a d v x AA AD,vs=[.ref a,v]/\CV cN H a d AA AD/\DG AD/\AD.length<64/\Rep H (Am.dt x) v/\x.Good/\
 ∀H' kvs' u,AQ (Ex H d) H'->CV cN H' a d kvs' ((D8 AD x).next AD)->(∀r,(D8 AD x).Qi=some r->Rep H' r u)->Q u H'
def CU:List Pg->List Am->List Pg
 |AD,[]=>AD
 |AD,x::xs=>CU ((D8 AD x).next AD) xs
def Rm(x:Am):∀(xs:List Am)(AD:List Pg),CU AD (xs++[x])=(D8 (CU AD xs) x).next (CU AD xs)
 |[],AD=>rfl
 |y::ys,AD=>Rm x ys _
def Small(AD:List Pg)(xs:List Am):Prop:=∀k,k<=xs.length->DG (CU AD (xs.take k))/\(CU AD (xs.take k)).length<64
def Told(AD:List Pg)(xs:List Am)(H:Hp)(zs:List V):Prop:=∀(k:Nat)(x:Am)(v:V)(r:Dt),xs[k]? =some x->zs[k]? =some v->(D8 (CU AD (xs.take k)) x).Qi=some r->Rep H r v
def Tv(cN:Ya):Sp:=fun vs H Q _=>∃a d v xs AA AD,vs=[.ref a,v]/\CV cN H a d AA AD/\Rep H (.lst (xs.map Am.dt)) v/\(∀x∈xs,x.Good)/\xs.length<=1000/\Small AD xs/\
 ∀H' kvs' l zs,AQ (Ex H d) H'->CV cN H' a d kvs' (CU AD xs)->H' l=some (.lst zs)->zs.length=xs.length->Told AD xs H' zs->Q (.ref l) H'
def Xl(hd:H d=some (.dK kk))(s:AQ (Ex H d) H'){x:Dt}(r:Rep H x v):Rep H' x v:=(Mt hd r).same s
def Z5:Az ["nook","deed","refusal"] ["nook","deed"] (Ao RR):=by left
def ma{fD:Ya}{fdD:qo}(F:Aj K "answer_deed" "answer_deed" RR f fd)(T:Il K mg cR fR)(GD:AW P w K mg base (Ci P w) 6 fD fdD ["nook","deed"] (UM K cN cR))(bD:Binds K fdD ["nook","deed"] [])(mD:mg "do_deed" =some (.ref fD))(kD:rM K (.ref fD)=true):
 AW P w K mg base Ah 7 f fd ["nook","deed"] (aC cN):=by
 refine F.ok Z5 ?_ ?_
 ·rintro _ _ _ _ ⟨_,_,_,_,_,_,rfl,_⟩;rfl
 ·rintro _ A _ s H _ Q E hr ⟨a,d,v,x,AA,AD,rfl,g,nc,h64,rx,good,q⟩;refine⟨_,(AU (lL (tb:=fun E=>ar (Ni (UM K cN cR) [] E (Nj (Ed 0) (Nj (Ed 1) Kg)))) (i:=2) (Rc:=cR) Z5.nd rfl rfl (fun pins W E hp=>AU (An (CL GD hr rfl mD kD bD .nil hp (AE (pv 0) (AE (pv 1) AI))))) rfl T.mR T.cat ⟨rfl,rfl⟩)),?_⟩;refine⟨_,rfl,_,rfl,a,d,v,x,AA,AD,rfl,g,nc,h64,rx,good,?_⟩
  cases e:D8 AD x with
  |no msg=>rw[e] at q;exact fun C D H' xs xa s' hD=>⟨C,D,msg,rfl,rfl,xs,xa,hD,q H' AA _ (Ex.sub.trans s') (g.same s') fun r er=>by cases er;exact .str _⟩
  |ok r p=>rw[e] at q;exact fun H' kvs' u s' g' rr=>q H' kvs' u s' g' fun r er=>by cases er;exact rr
  |un p=>rw[e] at q;exact fun H' kvs' u s' g'=>q H' kvs' u s' g' fun r er=>by cases er
def oB:Az ["nook","deeds"] ["nook","deeds"] (Ao Rb):=by left
def mE(F:Aj K "answer_all" "answer_all" Rb f fd)(HA:Hv P w K mg base "answer_deed" 7 ["nook","deed"] (aC cN)):
 AW P w K mg base Ah 8 f fd ["nook","deeds"] (Tv cN):=by
 refine F.ok oB ?_ ?_
 ·rintro _ _ _ _ ⟨_,_,_,_,_,_,rfl,_⟩;rfl
 ·rintro _ A _ s H _ Q E hr ⟨a,d,v,xs,AA,AD,rfl,g,rx,good,hz,EB,q⟩;refine⟨_,(AU (An (Eu (ts:=["deed"]) (cap:=["nook"]) (ix:=[0]) (Ia rfl rfl (by left) (by left) rfl rfl rfl rfl rfl) (GX (pv 1)) (fun _ _ _ _ _=>Bh (i:=0) (D5 (by left)) rfl (Aa rfl) (Cv rfl))
   (fun _ _ _ _ _=>Ga) (fun _ _ _ _ _=>XW (Cb HA hr rfl A3 (AE (pv 1) (AE (pv 0) AI))))))),?_⟩;obtain⟨l,ys,rfl,hl,rr⟩:=Ew rx;have hdc:=g.Bq;have nld:l≠d:=Ca hl hdc (by intro z;cases z);have nD:∀D,H D=none->(Ex H d) D=none:=fun D hD=>by
   by_cases z:D=d
   ·rw[z];exact Gb
   ·unfold Ex;rw[AG z];exact hD
  refine⟨_,rfl,l,rfl,⟨_,AJ.of hl⟩,fun D hD=>GK (xs:=ys) (fun i H'=>∃H0 zs kvs',H'=upd H0 D (.lst zs)/\H0 D=none/\AQ (Ex H d) H0/\CV cN H0 a d kvs' (CU AD (xs.take i))/\zs.length=i/\Told AD xs H0 zs) ?_ (fun i H' _ c=>?_) (fun i x H' ex c=>?_) fun H' c=>?_⟩
  ·exact⟨H,[],AA,rfl,hD,Ex.sub,g,rfl,fun k x v r _ ev=>by cases ev⟩
  ·obtain⟨H0,zs,kvs',rfl,h0,s0,_⟩:=c;have e:=s0 _ _ (Ex.at hl nld);exact AJ.of (by rw[AR (A9 e h0)];exact e)
  ·obtain⟨H0,zs,kvs',rfl,h0,s0,g',rz,tl⟩:=c;obtain⟨x0,ex0,rx0⟩:=Hw rr ex;have hi:i<xs.length:=(BZ.mp ex0).1;obtain⟨nc,h64⟩:=EB i (by lia);have eE:Ex (upd H0 D (.lst zs)) D=H0:=by
    rw[Ex.upd];funext b;by_cases z:b=D
    ·rw[z,Ex.self,h0]
    ·rw[Ex.ne z]
   refine⟨FV,D,zs,AM,?_⟩;rw[eE];refine⟨_,rfl,_,rfl,a,d,x,x0,kvs',_,rfl,g',nc,h64,Xl hdc s0 rx0,good x0 (CF ex0),fun H2 kvs2 u s2 g2 r2 h2=>?_⟩;have e2:xs.take (i+1)=xs.take i++[x0]:=by rw[EW,ex0];rfl
   refine⟨zs,AM,?_,H2,zs++[u],kvs2,by rw[KO],h2,(Ex.of_none s0 Gb).trans s2,by rw[e2,Rm];exact g2,?_,?_⟩
   ·rw[Aw]
    lia
   ·rw[Au,CK,rz]
   ·intro k y v r ey ev er;by_cases hk:k<zs.length
    ·rw[C4 hk] at ev;exact Xl g'.Bq s2 (tl k y v r ey ev er)
    ·rw[Cj (by lia)] at ev;have hk2:k=i:=by
      have:=(BZ.mp ev).1;rw[CK] at this
      lia
     subst hk2;rw[rz,EX] at ev;cases ev;rw[ex0] at ey;cases ey;exact r2 r er
  ·obtain⟨H0,zs,kvs',rfl,h0,s0,g',rz,tl⟩:=c;have e:ys.length=xs.length:=by have:=rr.1;rw[AK] at this;lia
   rw[e,Cy] at g';have su:=AY (o:=.lst zs) h0;exact q _ kvs' _ zs (s0.trans su) (g'.same su) AM (by lia) fun k x v r ex ev er=>(tl k x v r ex ev er).same su
abbrev bq:hX:=Vd
abbrev cJ:hX:=V6
def Lk(H:Hp)(as:List Ya)(rows:List (List Int)):Prop:=as.length=rows.length/\∀(i:Nat) a row,as[i]? =some a->rows[i]? =some row->H a=some (.lst (row.map V.int))
variable{rows:List (List Int)}
def Lk.same{as:List Ya}(s:AQ H H')(h:Lk H as rows):Lk H' as rows:=⟨h.1,fun i a row h1 h2=>s _ _ (h.2 i a row h1 h2)⟩
noncomputable def keysOf(q:Int×Nat):List Key:=[Sum.inl q.1,Sum.inl (q.2:Int)]
def JN(H:Hp)(l:List (Ya×Int×Nat)):Prop:=∀p∈l,H p.1=some (.tup [.int p.2.1,.int (p.2.2:Int)])
def JN.same{l:List (Ya×Int×Nat)}(s:AQ H H')(h:JN H l):JN H' l:=fun p hp=>s _ _ (h p hp)
def bb(rows:List (List Int)):Prop:=rows.length<=9/\∀row∈rows,row.length<=100000
def ag:Sp:=fun vs H Q _=>∃(a:Ya)(as:List Ya)(rows:List (List Int)),vs=[.ref a]/\H a=some (.lst (as.map V.ref))/\Lk H as rows/\bb rows/\
 ∀(D:Ya)(l:List (Ya×Int×Nat))(H':Hp),AQ H H'->H' D=some (.lst (l.map fun p=>V.ref p.1))->JN H' l->l.length<=900000->Q (.ref D) H'
noncomputable def L9:List Key->Int×Nat
 |[.inl a,.inl b]=>(a,b.toNat)
 |_=>(0,0)
def i9(q:Int×Nat):L9 (keysOf q)=q:=by show(q.1,(q.2:Int).toNat)=q;rw[Ho]
def QM:Az ["rows","marks","number","row"] ["rows"] (Ao bq):=by left
def oQ(F:Aj K "places_in_order" "places_in_order" bq f fd)(hen:mg "enumerate" =none)(hso:mg "sorted" =none):AW P w K mg base Ah 1 f fd ["rows"] ag:=by
 refine F.ok QM ?_ ?_
 ·rintro _ _ _ _ ⟨_,_,_,rfl,_⟩;rfl
 ·rintro _ A _ s H _ Q E hr ⟨a,as,rows,rfl,ha,hrows,Cg,k⟩;refine⟨_,AS (Av (i:=1) QM.nd rfl (Aa rfl) (Bu AI))
   (AS (EJ EG rfl (YB rfl hen (AE (pv 0) AI)) (Lj rfl (Fn (Bh (i:=2) QM.nd rfl (Cv rfl)) (Fn (Bh (i:=3) QM.nd rfl (Aa rfl)) LY)))
    (AU (Bp (JV ED PySem.F.slot_list_extend PySem.F.type_list_extend fK (pv 1)
     (AE (Eu (ts:=["place"]) (cap:=["number"]) (ix:=[2]) (Ia rfl rfl (by left) (by left) rfl rfl rfl rfl rfl) (GX (pv 3))
      (fun _ _ _ _ _=>Bh (i:=0) (D5 (by left)) rfl (Aa rfl) (Cv rfl)) (fun _ _ _ _ _=>Ga) (fun _ _ _ _ _=>CJ (AE (pv 0) (AE (pv 1) AI)))) AI)))))
   (AU (An (BY Oy rfl hso KA (AE (pv 1) AI))))),?_⟩;refine⟨by show 0<=sizeLine;decide,fun mr hmr=>?_⟩;have nam:a≠mr:=A9 ha hmr;refine⟨_,rfl,a,rfl,⟨_,AJ.of (by rw[AR nam];exact ha)⟩,?_⟩;refine i4 (K:=K) (a:=a) (xs:=as.map V.ref) (fun i σ H'=>∃(v2 v3:Option V)(l:List (Ya×Int×Nat)),σ=[some (.ref a),some (.ref mr),v2,v3]/\AQ H H'/\H' mr=some (.lst (l.map fun p=>V.ref p.1))/\JN H' l/\l.length<=i*100000)
   ⟨none,none,[],rfl,(AQ.refl H).upd hmr,AM,fun p hp=>(by cases hp),CG _⟩ (fun i σ H' _ ⟨_,_,_,_,sm,_⟩=>AJ.of (sm _ _ ha)) ?_ ?_
  ·rintro i x p σ H' hx hp ⟨v2,v3,l,rfl,sm,hm,pl,el⟩;rw[A0] at hx
   cases ea:as[i]?with
   |none=>rw[ea] at hx;cases hx
   |some ai=>
   rw[ea] at hx;obtain rfl:V.ref ai=x:=Ai hx;have hi:i<rows.length:=by rw[<-hrows.1];exact(BZ.mp ea).1
   have er:rows[i]? =some rows[i]:=Ap hi;generalize rows[i]=row at er;have hai:H ai=some (.lst (row.map V.int)):=hrows.2 i ai row ea er;have s1:AQ H' (upd H' p (.tup [.int (i:Int),.ref ai])):=AY hp;have hl1:=Cg.2 _ (CF er);have OD:=Cg.1;refine⟨p,_,rfl,AX.of AM,rfl,_,_,rfl,_,_,rfl,rfl,?_⟩;have hm1:=s1 _ _ hm;refine⟨_,rfl,.inl ⟨rfl,_,AJ.of hm1⟩,_,rfl,ai,rfl,⟨_,AJ.of ((sm.trans s1) _ _ hai)⟩,fun D hD=>?_⟩;have nmD:mr≠D:=A9 hm1 hD;refine GK (K:=K) (xs:=row.map V.int) (fun j H2=>∃t:List (Ya×Int×Nat),AQ (upd H' p (.tup [.int (i:Int),.ref ai])) H2/\H2 D=some (.lst (t.map fun p=>V.ref p.1))/\JN H2 t/\t.length<=j)
    ⟨[],AY hD,AM,fun p hp=>(by cases hp),CG _⟩ (fun j H2 _ ⟨_,s2,_⟩=>AJ.of (s2 _ _ ((sm.trans s1) _ _ hai))) ?_ ?_
   ·rintro j y H2 hy ⟨t,s2,hD2,pt,et⟩;rw[A0] at hy
    cases ey:row[j]?with
    |none=>rw[ey] at hy;cases hy
    |some z=>
    rw[ey] at hy;obtain rfl:V.int z=y:=Ai hy;have hj:j<row.length:=(BZ.mp ey).1;refine⟨FV,_,rfl,_,rfl,by show 2<=sizeLine;decide,fun tp htp=>⟨t.map fun p=>V.ref p.1,(AY htp) _ _ hD2,by rw[AK,Aw];lia,t++[(tp,z,i)],(s2.upd (s2.free htp)).upd hD,?_,fun q hq=>?_,?_⟩⟩
    ·rw[AM,A8];rfl
    ·have htD:tp≠D:=(A9 hD2 htp).symm;rcases Bk.mp hq with e|e
     ·have h1:=pt q e;rw[AR (Ca h1 hD2 (by intro zz;cases zz)),AR (A9 h1 htp)];exact h1
     ·rw[Bj.mp e,AR htD,AM]
    ·rw[Au,CK]
     lia
   ·rintro H2 ⟨t,s2,hD2,pt,et⟩;rw[AK] at et;have hm2:=s2 _ _ hm1;refine⟨mr,D,_,_,rfl,rfl,hm2,hD2,by rw[AK,AK,Aw];lia,some (.int (i:Int)),some (.ref ai),l++t,rfl,(sm.trans (s1.trans s2)).upd hmr,?_,fun q hq=>?_,?_⟩
    ·rw[AM,A8]
    ·have h1:H2 q.1=some (.tup [.int q.2.1,.int (q.2.2:Int)]):=by
      rcases Bk.mp hq with e|e
      ·exact(s1.trans s2) _ _ (pl q e)
      ·exact pt q e
     rw[AR (Ca h1 hm2 (by intro zz;cases zz))];exact h1
    ·rw[Au,Nat.succ_mul]
     lia
  ·rintro σ H' ⟨v2,v3,l,rfl,sm,hm,pl,el⟩;rw[AK,hrows.1] at el;have OD:=Cg.1;refine⟨_,rfl,mr,l.map (fun p=>(p.1,keysOf p.2)),[true,true],rfl,AJ.of (by rw[hm,Bf];rfl),by simp,fun q hq=>?_,by rw[AK];lia,fun D qs hD hperm hsort=>?_⟩
   ·obtain⟨p,hp,e⟩:=BP.mp hq;rw[<-e];exact⟨pl p hp,rfl⟩
   ·have p2:(qs.map fun q=>(q.1,L9 q.2)).Perm l:=by
     have:=hperm.map fun q=>(q.1,L9 q.2);rw[Bf] at this;have e3:l.map ((fun q:Ya×List Key=>(q.1,L9 q.2))∘fun p:Ya×Int×Nat=>(p.1,keysOf p.2))=l:=by
      conv=>rhs;rw[<-KC l]
      refine EF fun p hp=>?_;show(p.1,L9 (keysOf p.2))=p;rw[i9]
     rw[e3] at this;exact this
    refine k D (qs.map fun q=>(q.1,L9 q.2)) _ (sm.upd (sm.free hD)) ?_ (fun q hq=>?_) ?_
    ·rw[AM,Bf];rfl
    ·have h1:=pl q (p2.mem_iff.mp hq);rw[AR (A9 h1 hD)];exact h1
    ·rw[p2.length_eq]
     lia
noncomputable def aZ:Option Int->V
 |none=>.BB
 |some m=>.int m
def ae:Sp:=fun vs H Q _=>∃(a:Ya)(as:List Ya)(rows:List (List Int)),vs=[.ref a]/\H a=some (.lst (as.map V.ref))/\Lk H as rows/\bb rows/\
 ∀(b:Option Int)(H':Hp),AQ H H'->Q (aZ b) H'
def gb(h:∀q∈AA,∃n,q.2=V.int n)(k:Key)(p:Int):∀q∈putK AA k (V.int p),∃n,q.2=V.int n:=fun q hq=>by
 unfold putK at hq;split at hq
 ·obtain⟨z,hz,e⟩:=BP.mp hq;split at e
  ·exact⟨p,by rw[<-e]⟩
  ·rw[<-e];exact h z hz
 ·rcases Bk.mp hq with e|e
  ·exact h q e
  ·exact⟨p,by rw[Bj.mp e]⟩
def iB(AA:List (Key×V))(k:Key)(v:V):putK AA k v≠[]:=fun z=>by have:=i8 AA k k v;rw[z,AH rfl] at this;cases this
def YF:∀{AA:List (Key×V)},(∀q∈AA,∃n,q.2=V.int n)->∃ns:List Int,AA.map (·.2)=ns.map V.int
 |[],_=>⟨[],rfl⟩
 |q::AA,h=>by obtain⟨ns,e⟩:=YF fun z hz=>h z (DJ _ hz);obtain⟨n,en⟩:=h q DR;exact⟨n::ns,by rw[Ay,e,en];rfl⟩
def Km:Az ["rows","latest","best","place","number","length"] ["rows"] (Ao cJ):=by left
def dJ:DO X (.builtin "len") (fun xs H Q=>∃a AA,xs=[V.ref a]/\H a=some (.dK AA)/\Q (.int AA.length) H):=by intro pins s σ H xs us Q I r h;obtain⟨a,AA,rfl,ha,q⟩:=h;obtain⟨u,rfl,ru⟩:=vals1 r;cases ru;exact oq I (.inl ha) fun t s' I'=>⟨.int AA.length,H,I',⟨t,rfl⟩,q⟩
def mz(F:Aj K "shortest" "shortest" cJ f fd)(HP:Hv P w K mg base "places_in_order" 1 ["rows"] ag)
 (hlen:mg "len" =none)(hmin:mg "min" =none):AW P w K mg base Ah 2 f fd ["rows"] ae:=by
 refine F.ok Km ?_ ?_
 ·rintro _ _ _ _ ⟨_,_,_,rfl,_⟩;rfl
 ·rintro _ A _ s H _ Q E hr ⟨a,as,rows,rfl,ha,hrows,Cg,k⟩;have hu:=Ck hr;refine⟨_,AS (Av (i:=1) Km.nd rfl (Aa rfl) PD)
   (AS (Av (i:=2) Km.nd rfl (Aa rfl) lI)
   (AS (EJ EG rfl (GX (Cb HP hr rfl A3 (AE (pv 0) AI))) (Lj rfl (Fn (Bh (i:=3) Km.nd rfl (Aa rfl)) (Fn (Bh (i:=4) Km.nd rfl (Aa rfl)) LY)))
    (AS (FH hu (pv 1) (pv 4) (pv 3) rfl)
    (AU (A7 (Ax Ba (BY dJ rfl hlen DB (AE (pv 1) AI)) (BY IZ rfl hlen DB (AE (pv 0) AI)) (Ar _))
     (AS (Av (i:=5) Km.nd rfl (Aa rfl) (Ag DD (Ag Pq (pv 3) (BY (gD rfl) rfl hmin boot_min (AE (Nd MQ U9 uV WY (pv 1)) AI))) Ac))
     (AU (A7 (PW.pt (Je (JT (lP (pv 2))) (JU (Ax JY (pv 5) (pv 2) (Ar _))))) (AU (Av (i:=2) Km.nd rfl (Aa rfl) (pv 5))) BG)))
     BG))))
   (AU (An (pv 2))))),?_⟩;intro d hd;have nad:a≠d:=A9 ha hd;have s0:AQ H (upd H d (.dK [])):=AY hd;refine⟨_,rfl,a,as,rows,rfl,s0 _ _ ha,hrows.same s0,Cg,fun D l H1 s1 hD pl hll=>?_⟩;have hd1:H1 d=some (.dK []):=s1 _ _ AM;refine⟨D,rfl,⟨_,AJ.of hD⟩,?_⟩;refine JH (K:=K) (a:=D) (xs:=l.map fun p=>V.ref p.1) (fun i σ H'=>∃(b:Option Int)(v3 v4 v5:Option V)(AA:List (Key×V)),σ=[some (.ref a),some (.ref d),some (aZ b),v3,v4,v5]/\AQ H H'/\H' D=some (.lst (l.map fun p=>V.ref p.1))/\JN H' l/\H' d=some (.dK AA)/\
   (∀q∈AA,∃n,q.2=V.int n)/\AA.length<=i) ⟨none,none,none,none,[],rfl,s0.trans s1,hD,pl,hd1,fun q hq=>(by cases hq),Ad 0⟩ (fun i σ H' _ ⟨_,_,_,_,_,_,_,h,_⟩=>AJ.of h) ?_ ?_
  ·rintro i x σ H' hx ⟨b,v3,v4,v5,AA,rfl,sm,hD2,pl2,hd2,iz,hkl⟩;rw[A0] at hx
   cases el:l[i]?with
   |none=>rw[el] at hx;cases hx
   |some q=>
   rw[el] at hx;obtain rfl:V.ref q.1=x:=Ai hx;have hi:i<l.length:=(BZ.mp el).1;obtain⟨ad,p,r⟩:=q;have hq:=pl2 _ (CF el);have iz':=gb iz (Sum.inl (r:Int)) p;have hkl':=Ot AA (Sum.inl (r:Int)) (V.int p);have hne:=iB AA (Sum.inl (r:Int)) (V.int p);refine⟨ad,_,rfl,AX.of hq,rfl,_,_,rfl,_,_,rfl,rfl,?_⟩;refine⟨_,rfl,_,rfl,_,rfl,d,_,rfl,Dh.kq (k:=Sum.inl (r:Int)) hd2 (by rw[Aw];lia),?_⟩;generalize ekv:putK AA (Sum.inl (r:Int)) (V.int p)=kvs' at iz' hkl' hne;have hdd:(upd H' d (.dK kvs')) d=some (.dK kvs'):=AM;have hka:∀b o,H' b=some o->(∀z,o≠.dK z)->(upd H' d (.dK kvs')) b=some o:=fun b o h hz=>by rw[AR (Ca h hd2 (hz AA))];exact h
   have sm':AQ H (upd H' d (.dK kvs')):=sm.upd hd;have hD3:=hka D _ hD2 (by intro z zz;cases zz);have pl3:JN (upd H' d (.dK kvs')) l:=fun y hy=>hka _ _ (pl2 y hy) (by intro z zz;cases zz);generalize upd H' d (.dK kvs')=H2 at hdd sm' hD3 pl3;refine⟨_,rfl,d,kvs',rfl,hdd,_,rfl,a,_,rfl,.inl (AJ.of (sm' _ _ ha)),rfl,_,rfl,?_⟩;have eln:((as.map V.ref).length:Nat)=rows.length:=by rw[AK];exact hrows.1
   by_cases hfull:kvs'.length=rows.length
   ·refine CD (by rw[eln,hfull]) ?_;obtain⟨ns,hv⟩:=YF iz';have hne:ns≠[]:=by rintro rfl;exact hne (OS.mp hv)
    refine⟨_,rfl,_,rfl,.inr (.inr (.inl ⟨rfl,.inl ⟨_,hdd⟩⟩)),d,kvs',rfl,rfl,hdd,fun vp hvp=>⟨vp,d,kvs',ns,rfl,AM,(AY hvp) _ _ hdd,hv,hne,fun mn hmn hle=>⟨_,_,rfl,rfl,_,_,rfl,rfl,?_⟩⟩⟩;have sv:AQ H2 (upd H2 vp (HY vp d)):=AY hvp;generalize upd H2 vp (HY vp d)=H3 at sv
    cases b with
    |none=>refine⟨_,rfl,_,rfl,CD rfl (Bo ⟨_,rfl,?_⟩)⟩;exact⟨some (p-mn+1),_,_,_,kvs',rfl,sm'.trans sv,sv _ _ hD3,pl3.same sv,sv _ _ hdd,iz',by lia⟩
    |some b0=>
     refine⟨_,rfl,_,rfl,CT (by intro z;cases z) ⟨_,rfl,_,rfl,_,_,rfl,rfl,_,rfl,?_⟩⟩;by_cases hlt:p-mn+1<b0
     ·refine CD hlt ⟨_,rfl,?_⟩;exact⟨some (p-mn+1),_,_,_,kvs',rfl,sm'.trans sv,sv _ _ hD3,pl3.same sv,sv _ _ hdd,iz',by lia⟩
     ·refine CT hlt ?_;exact⟨some b0,_,_,_,kvs',rfl,sm'.trans sv,sv _ _ hD3,pl3.same sv,sv _ _ hdd,iz',by lia⟩
   ·refine CT (by rw[eln];intro z;exact hfull (by have:=V.int.inj z;lia)) ?_;exact⟨b,_,_,_,kvs',rfl,sm',hD3,pl3,hdd,iz',by lia⟩
  ·rintro σ H' ⟨b,v3,v4,v5,AA,rfl,sm,hD2,pl2,hd2,iz,hkl⟩;exact⟨_,rfl,k b H' sm⟩
def rowsOf(ws:List PR)(pl:List Str):List (List Int):=pl.map fun z=>Eg z 0 ws
def XH:∀(ws σ:List Str),(FU σ ws).length<=σ.length+ws.length
 |[],σ=>by simp[FU]
 |z::ws,σ=>by
  have h1:=XH ws (E4 σ z);have h2:=Xh σ z;rw[FU,CS]
  lia
def jK{zs:List V}(r:Ab H (rows.map fun r=>Dt.lst (r.map Dt.int)) zs):∃as,zs=as.map V.ref/\Lk H as rows:=by
 have each:∀(i:Nat) v,zs[i]? =some v->∃a row,v=.ref a/\rows[i]? =some row/\H a=some (.lst (row.map V.int)):=fun i v e=>by obtain⟨row,er,rd⟩:=Hw r e;obtain⟨a,xs,rfl,ha,rr⟩:=Ew rd;rw[Rx rr] at ha;exact⟨a,row,rfl,er,ha⟩
 refine⟨zs.map fun v=>match v with|.ref a=>a|_=>0,?_,?_,fun i a row h1 h2=>?_⟩
 ·rw[Bf];conv=>lhs;rw[<-KC zs]
  refine EF fun v hv=>?_;obtain⟨i,hi⟩:=VO hv;obtain⟨a,_,rfl,_⟩:=each i v hi;rfl
 ·have:=r.1;rw[AK] at this;rw[AK,this]
 ·rw[A0] at h1
  cases e:zs[i]?with
  |none=>rw[e] at h1;cases h1
  |some v=>rw[e] at h1;obtain⟨b,row',rfl,e2,hb⟩:=each i v e;rw[h2] at e2;cases Ai e2;cases Ai h1;exact hb
def dO(hK:X.K=K):DO X (.builtin "len") (fun xs H Q=>∃p ys,xs=[.ref p]/\(AJ K H p ys\/AX K H p ys)/\Q (.int ys.length) H):=by subst hK;exact IZ
def ZM:Sp:=fun vs H Q _=>∃d v near AA AD,∃ws:List Str,vs=[.ref d,v,.int near]/\H d=some (.dK (As AA))/\De H AA AD/\MF AD/\Rep H (.tup (ws.map Dt.str)) v/\ws.length<=9/\∀H' u,AQ H H'->Q u H'
def lR{o:HO}(s:AQ H H'):AQ (Ex H d) (upd H' d o):=fun b u e=>by
 by_cases z:b=d
 ·rw[z,Ex.self] at e;cases e
 ·rw[Ex.ne z] at e;rw[AR z];exact s _ _ e
def pP{y:Str}{a b c:V}:Ir [x,y,z] [] σ [some a,some b,some c]:=⟨[some a,some b,some c],rfl,rfl⟩
def JQ:Az ["pages","wanted","near","plains","found","page","words","rows","length","places"] ["pages","wanted","near"] (Ao Ra):=by left
def kj:qw "set" =some (.type "set"):=by left
def mH:((["length","places","page"]:List Str)++([]:List Str)).Nodup:=by left
def jJ(F:Aj K "pages_near" "pages_near" Ra f fd)(O:Hc mg)
 (HP:Hv P w K mg base "places_of" 1 ["words","plain"] Zm)
 (HS:Hv P w K mg base "shortest" 2 ["rows"] ae):AW P w K mg base Ah 3 f fd ["pages","wanted","near"] ZM:=by
 obtain⟨_,_,GP,bP,mP,kP⟩:=HP.ex;refine F.ok JQ ?_ ?_
 ·rintro _ _ _ _ ⟨_,_,_,_,_,_,rfl,_⟩;rfl
 ·rintro _ A _ s H _ Q E hr ⟨d,v,near,AA,AD,ws,rfl,hd,g,sm0,rv,hws,q⟩;have hu1:=Ck hr;refine⟨_,(AS (Av (i:=3) JQ.nd rfl (Aa rfl) (BY (di (P:=P) (w:=w) rfl rfl rfl) rfl O.so KA (AE (Er (gJ (P:=P) (w:=w) (K:=K) rfl rfl rfl rfl) rfl O.set kj (AE (pv 1) AI)) AI)))
   (AS (Av (i:=4) JQ.nd rfl (Aa rfl) (Bu AI))
   (AS (j3 (EJ EG rfl (XY (Nd MQ VB uY W5 (pv 0))) (Lj rfl (Fn (Bh (i:=5) JQ.nd rfl (Aa rfl)) (Fn (Bh (i:=6) JQ.nd rfl (Cv rfl)) LY)))
    (AS (YL (i:=7) (ts:=["plain"]) (cap:=["words"]) (ix:=[6]) (Ia rfl rfl (by left) (by left) rfl rfl rfl rfl rfl) JQ.nd rfl rfl (GX (pv 3))
     (fun _ _ _ _ _=>Bh (i:=0) (D5 (by left)) rfl (Aa rfl) (Cv rfl)) (fun _ _ _ _ _=>Ga) (fun _ _ _ _ _=>XW (CL (GP.mono (by decide:1<=2)) hr rfl mP kP bP .nil A3 (AE (pv 1) (AE (pv 0) AI)))))
    (AS (Av (i:=8) JQ.nd rfl (Aa rfl) (Cb HS hr rfl A3 (AE (pv 7) AI)))
    (AU (A7 (PW.pt (FN (JT (jZ (pv 8))) (HH (Ax oJ (pv 8) (pv 2) (Ar _)))))
     (AS (Av (i:=9) JQ.nd rfl (Aa rfl) (BY (WC rfl) rfl O.sum uU (AE (Eu (ts:=["row"]) (cap:=[]) (ix:=[]) (cl:=[]) (KJ rfl rfl (by left) (by left)) (GX (pv 7))
      (fun _ _ _ _ _=>Bh (i:=0) Ei rfl (Aa rfl) (Cv rfl)) (fun _ _ _ _ _=>Ga) (fun _ _ _ _ _=>BY (dO (K:=K) rfl) rfl O.len DB (AE (pv 0) AI))) AI)))
     (AU (Bp (JV ED Fh Fg Es (pv 4) (AE (CJ (AE (pv 8) (AE (Eb Ea (pv 9)) (AE (pv 5) AI)))) AI))))) BG))))))
   (AU (An (Eu (ts:=["length","places","page"]) (cap:=[]) (ix:=[]) (cl:=[]) (KJ rfl rfl (by left) (by left)) (GX (BY Oy rfl O.so KA (AE (pv 4) AI)))
    (fun _ _ _ _ _=>jw (K:=K) (i:=0) (j:=1) (l:=2) rfl rfl mH rfl (Aa rfl) (Cv rfl) rfl (Aa rfl) (Cv rfl) rfl (Aa rfl) (Cv rfl)) (fun _ _ _ _ _=>Ga) (fun _ _ _ _ _=>CJ (AE (pv 2) (AE (pv 0) AI))))))))),?_⟩;obtain⟨av,xs,rfl,ha,rr⟩:=B1 rv;rw[LQ rr] at ha;refine⟨_,rfl,av,ws,rfl,AX.of ha,by lia,fun Dz hz=>⟨Dz,FU [] ws,rfl,AM,fun Dp ys hDp pz sz=>?_⟩⟩;have ylen:=XH ws [];rw[<-pz.length_eq,K8,Nat.zero_add] at ylen;have s1:AQ H (upd (upd H Dz (ME P w Dz (FU [] ws))) Dp (.lst (ys.map V.str))):=(AY hz).trans (AY hDp);have hp1:(upd (upd H Dz (ME P w Dz (FU [] ws))) Dp (.lst (ys.map V.str))) Dp=some (.lst (ys.map V.str)):=AM;refine⟨by show 0<=sizeLine;decide,fun fo hfo=>?_⟩;have s2:=s1.trans (AY (o:=.lst []) hfo);have hp2:=(AY (o:=.lst []) hfo) _ _ hp1;have hf2:(upd (upd (upd H Dz (ME P w Dz (FU [] ws))) Dp (.lst (ys.map V.str))) fo (.lst [])) fo=some (.lst []):=AM;have hfH:H fo=none:=s1.free hfo;have nDf:Dp≠fo:=A9 hp1 hfo;generalize upd (upd (upd H Dz (ME P w Dz (FU [] ws))) Dp (.lst (ys.map V.str))) fo (.lst [])=H2 at s2 hp2 hf2;have hd2:=s2 _ _ hd;refine⟨d,As AA,hd2,_,rfl,.inr (.inr (.inl ⟨rfl,.inl ⟨_,hd2⟩⟩)),d,_,rfl,rfl,hd2,fun p hp=>⟨p,d,As AA,rfl,AM,by rw[AR (A9 hd2 hp)];exact hd2,fun o=>?_⟩⟩;have gE:=g.ex hd;have sE:AQ (Ex H d) (upd (upd H2 p (IB p d)) d (.BU o (.dK (As AA)))):=lR (s2.trans (AY hp));have npd:Dp≠d:=Ca hp2 hd2 (by intro z;cases z);have nfd:fo≠d:=Ca hf2 hd2 (by intro z;cases z);have hpA:(upd (upd H2 p (IB p d)) d (.BU o (.dK (As AA)))) Dp=some (.lst (ys.map V.str)):=by rw[AR npd];exact(AY hp) _ _ hp2
  have hfA:(upd (upd H2 p (IB p d)) d (.BU o (.dK (As AA)))) fo=some (.lst []):=by rw[AR nfd];exact(AY hp) _ _ hf2
  refine fQ (fun i σ H'=>∃(v5 v6 v7 v8 v9:Option V)(l:List (Ya×List Key)),σ=[some (.ref d),some (.ref av),some (.int near),some (.ref Dp),some (.ref fo),v5,v6,v7,v8,v9]/\AQ (Ex H d) H'/\H' d=some (.BU o (.dK (As AA)))/\H' Dp=some (.lst (ys.map V.str))/\
   H' fo=some (.lst (l.map fun p=>V.ref p.1))/\(∀q∈l,H' q.1=some (.tup (q.2.map kV))/\∃m c n,q.2=[.inl m,.inl c,.inr n])/\l.length<=i) ⟨none,none,none,none,none,[],rfl,sE,AM,hpA,hfA,fun q hq=>(by cases hq),Ad 0⟩ (fun i σ H' ⟨_,_,_,_,_,_,_,_,h,_⟩=>h) ?_ ?_
  ·rintro i k x pr σ H' ex hpr ⟨v5,v6,v7,v8,v9,l,rfl,sm,hdz,hpl,hfl,hl,el⟩;obtain⟨n,ekv,rfl⟩:=Pp ex;have hi:i<AD.length:=by rw[<-g.len];exact(BZ.mp ekv).1
   have ep:AD[i]? =some AD[i]:=Ap hi;obtain⟨en,rw_⟩:=gE.row i _ _ ekv ep;have en:n=AD[i].1:=en;have rw_:Rep (Ex H d) (Dk AD[i].2) x:=rw_;have wl:AD[i].2.length<=100000:=sm0.short _ (Fl hi);generalize AD[i]=pg at ep en rw_ wl;have s3:AQ H' (upd H' pr (.tup [kV (Sum.inr n),x])):=AY hpr;refine⟨pr,_,rfl,AX.of AM,rfl,_,_,rfl,_,_,rfl,rfl,?_⟩;generalize upd H' pr (.tup [kV (Sum.inr n),x])=H3 at s3;have sm3:=sm.trans s3;have hpl3:=s3 _ _ hpl;refine⟨_,rfl,Dp,rfl,⟨_,AJ.of hpl3⟩,fun D hD=>GK (xs:=ys.map V.str) (fun j H4=>∃H0 zs,H4=upd H0 D (.lst zs)/\H0 D=none/\AQ H3 H0/\Ab H0 ((rowsOf pg.2 (ys.take j)).map fun r=>Dt.lst (r.map Dt.int)) zs) ?_ (fun j H4 _ c=>?_) (fun j y H4 ey' c=>?_) fun H4 c=>?_⟩
   ·exact⟨H3,[],rfl,hD,AQ.refl _,Ab.nil⟩
   ·obtain⟨H0,zs,rfl,h0,s0,_⟩:=c;have e:=s0 _ _ hpl3;exact AJ.of (by rw[AR (A9 e h0)];exact e)
   ·obtain⟨H0,zs,rfl,h0,s0,rz⟩:=c;rw[A0] at ey'
    cases ez:ys[j]?with
    |none=>rw[ez] at ey';cases ey'
    |some z=>
    rw[ez] at ey';obtain rfl:V.str z=y:=Ai ey';have eE:Ex (upd H0 D (.lst zs)) D=H0:=by
     rw[Ex.upd];funext b;by_cases c:b=D
     ·rw[c,Ex.self,h0]
     ·rw[Ex.ne c]
    refine⟨FV,D,zs,AM,?_⟩;rw[eE];refine⟨_,rfl,_,rfl,x,pg.2,z,rfl,rw_.same (sm3.trans s0),wl,fun u H5 s5 ru h5=>?_⟩;refine⟨zs,AM,?_,H5,zs++[u],by rw[KO],h5,s0.trans s5,?_⟩
    ·have h1:=rz.1;unfold rowsOf at h1;rw[AK,AK] at h1;have h2:=Hn j ys;rw[Aw]
     lia
    ·have e2:rowsOf pg.2 (ys.take (j+1))=rowsOf pg.2 (ys.take j)++[Eg z 0 pg.2]:=by unfold rowsOf;rw[EW,ez,A8];rfl
     rw[e2,A8];exact(rz.same s5).snoc ru
   ·obtain⟨H0,zs,rfl,h0,s0,rz⟩:=c;rw[AK,Cy] at rz;obtain⟨as,rfl,ra⟩:=jK rz;have s4:AQ H0 (upd H0 D (.lst (as.map V.ref))):=AY h0;have hD4:(upd H0 D (.lst (as.map V.ref))) D=some (.lst (as.map V.ref)):=AM;have ra4:=ra.same s4;have s34:=s0.trans s4;generalize upd H0 D (.lst (as.map V.ref))=H4 at s4 hD4 ra4 s34;have rl:(rowsOf pg.2 ys).length=ys.length:=by unfold rowsOf;rw[AK]
    have rsm:∀row∈rowsOf pg.2 ys,row.length<=100000:=fun row hr'=>by obtain⟨z,_,rfl⟩:=BP.mp hr';exact BF (SG z pg.2 0) wl
    generalize rowsOf pg.2 ys=rows at ra4 rl rsm rz ra;refine⟨_,rfl,D,as,rows,rfl,hD4,ra4,⟨by lia,rsm⟩,fun bst H5 s5=>?_⟩;have s35:=s34.trans s5;have hdz5:=(s3.trans s35) _ _ hdz;have hpl5:=s35 _ _ hpl3;have hfl5:=(s3.trans s35) _ _ hfl;have hl5:∀q∈l,H5 q.1=some (.tup (q.2.map kV))/\∃m c n,q.2=[.inl m,.inl c,.inr n]:=fun q hq=>⟨(s3.trans s35) _ _ (hl q hq).1,(hl q hq).2⟩;have sm5:=sm3.trans s35
    cases bst with
    |none=>refine⟨_,rfl,_,rfl,ER rfl ?_⟩;exact⟨_,_,_,_,_,l,rfl,sm5,hdz5,hpl5,hfl5,hl5,by lia⟩
    |some m=>
     refine⟨_,rfl,_,rfl,Gh (by intro z;cases z) ⟨_,rfl,_,rfl,_,_,rfl,rfl,_,rfl,?_⟩⟩;by_cases hmn:m<=near
     ·refine CD hmn ?_;have hD5:=s5 _ _ hD4;have ra5:=ra4.same s5;refine⟨_,rfl,D,rfl,⟨_,AJ.of hD5⟩,fun D2 hD2=>GK (xs:=as.map V.ref) (fun j H6=>CI H5 D2 (((rows.take j).map fun r=>(r.length:Int)).map Dt.int) H6) (CI.start hD2) (fun j H6 _ c=>AJ.of (c.same _ _ hD5)) (fun j y H6 ey' c=>?_) fun H6 c=>?_⟩
      ·rw[A0] at ey'
       cases ea:as[j]?with
       |none=>rw[ea] at ey';cases ey'
       |some aj=>
       rw[ea] at ey';obtain rfl:V.ref aj=y:=Ai ey';have hj:j<rows.length:=by rw[<-ra5.1];exact(BZ.mp ea).1
       have erj:rows[j]? =some rows[j]:=Ap hj;have haj:=c.same _ _ (ra5.2 j aj _ ea erj);refine⟨FV,_,rfl,aj,_,rfl,.inl (AJ.of haj),?_⟩;rw[JE (f:=fun r:List Int=>(r.length:Int)) erj,A8,AK];refine c.push (.int _) ?_;rw[AK,AK];have:=Hn j rows
       lia
      ·rw[AK,ra5.1,Cy] at c;obtain⟨z2,hz2,rz2⟩:=c.lst;rw[Rx rz2] at hz2;have s6:=c.same;have hfl6:=s6 _ _ hfl5;have h4:=sm0.Cg;refine⟨D2,_,rfl,AJ.of hz2,_,rfl,.inl ⟨rfl,_,AJ.of hfl6⟩,_,rfl,_,rfl,_,rfl,_,rfl,by show 3<=sizeLine;decide,fun tp htp=>?_⟩;have st:=AY (o:=.tup [.int m,.int (-(((rows.map fun r=>(r.length:Int))).sum)),kV (Sum.inr n)]) htp;have hfl7:=st _ _ hfl6;have s7:=s6.trans st;have hE:(Ex H d) fo=none:=by rw[Ex.ne nfd];exact hfH
       have ntf:tp≠fo:=(A9 hfl6 htp).symm;refine⟨fo,_,_,rfl,rfl,hfl7,by rw[AK,Aw];lia,?_⟩;refine⟨_,_,_,_,_,l++[(tp,[.inl m,.inl (-((rows.map fun r=>(r.length:Int)).sum)),.inr pg.1])],rfl,(sm5.trans s7).upd hE,by rw[AR nfd.symm];exact s7 _ _ hdz5,by rw[AR nDf];exact s7 _ _ hpl5,?_,fun q hq=>?_,?_⟩
       ·rw[AM,A8];rfl
       ·rcases Bk.mp hq with e|e
        ·have h1:=s7 _ _ (hl5 q e).1;rw[AR (Ca h1 hfl7 (by intro z;cases z))];exact⟨h1,(hl5 q e).2⟩
        ·rw[Bj.mp e,AR ntf,AM,en];exact⟨rfl,_,_,_,rfl⟩
       ·rw[Au,CK]
        lia
     ·refine CT hmn ?_;exact⟨_,_,_,_,_,l,rfl,sm5,hdz5,hpl5,hfl5,hl5,by lia⟩
  ·rintro σ H' ⟨v5,v6,v7,v8,v9,l,rfl,sm,hdz,hpl,hfl,hl,el⟩;have e0:(As AA).length=AD.length:=by show(AA.map _).length=_;rw[AK];exact g.len
   rw[e0] at el;refine⟨o,hdz,?_⟩;have sH:AQ H (upd H' d (.dK (As AA))):=fun b u e=>by
    by_cases z:b=d
    ·subst z;rw[hd] at e;cases e;exact AM
    ·rw[AR z];exact sm b u (Ex.at e z)
   have hflA:(upd H' d (.dK (As AA))) fo=some (.lst (l.map fun p=>V.ref p.1)):=by rw[AR nfd];exact hfl
   have hlA:∀q∈l,(upd H' d (.dK (As AA))) q.1=some (.tup (q.2.map kV)):=fun q hq=>by have h1:=(hl q hq).1;rw[AR (Ca h1 hdz (by intro z;cases z))];exact h1
   generalize upd H' d (.dK (As AA))=HA at sH hflA hlA;have shp:=fun q hq=>(hl q hq).2;have h4:=sm0.Cg;refine⟨_,rfl,fo,l,[true,true,false],rfl,AJ.of hflA,by simp,fun q hq=>⟨hlA q hq,?_⟩,by lia,fun Ds qs hDs hperm hsort=>?_⟩
   ·obtain⟨m,c,n,e⟩:=shp q hq;rw[e];rfl
   have sB:=AY (o:=.lst (qs.map fun p=>V.ref p.1)) hDs;have hDB:(upd HA Ds (.lst (qs.map fun p=>V.ref p.1))) Ds=some (.lst (qs.map fun p=>V.ref p.1)):=AM;generalize upd HA Ds (.lst (qs.map fun p=>V.ref p.1))=HB at sB hDB;have sHB:=sH.trans sB;refine⟨Ds,rfl,⟨_,AJ.of hDB⟩,fun D3 hD3=>GK (xs:=qs.map fun p=>V.ref p.1) (fun j H6=>∃ds:List Dt,CI HB D3 ds H6/\ds.length<=j) ⟨[],CI.start hD3,Ad 0⟩ (fun j H6 _ ⟨_,c,_⟩=>AJ.of (c.same _ _ hDB)) (fun j y H6 ey' ⟨ds,c,hds⟩=>?_) fun H6 ⟨ds,c,_⟩=>q _ _ (sHB.trans c.same)⟩
   ·rw[A0] at ey';have hjq:j<qs.length:=by
     by_cases z:j<qs.length
     ·exact z
     ·rw[Em (by lia)] at ey';cases ey'
    cases ea:qs[j]?with
    |none=>rw[ea] at ey';cases ey'
    |some qq=>
    rw[ea] at ey';obtain rfl:V.ref qq.1=y:=Ai ey';have hq:qq∈l:=hperm.mem_iff.mp (CF ea);obtain⟨m,c',n,e⟩:=shp qq hq;have hqq:=(sB.trans c.same) _ _ (hlA qq hq);rw[e] at hqq;refine⟨qq.1,_,rfl,AX.of hqq,rfl,_,_,rfl,_,_,rfl,_,_,rfl,rfl,pP,_,rfl,_,rfl,by show 2<=sizeLine;decide,fun tp htp=>?_⟩;have st:=AY (o:=.tup [kV (Sum.inr n),kV (Sum.inl m)]) htp;have c2:=c.ext st;have nt:tp≠D3:=by obtain⟨zz,hz,_⟩:=c.lst;exact(A9 hz htp).symm
    obtain⟨ys',h1,h2,h3⟩:=c2.push (d:=.tup [.str n,.int m]) (Rep.K0 (Ex.at AM nt) (Ab.snoc (Ab.snoc Ab.nil (.str n)) (.int m))) (by have h2:=hperm.length_eq;lia);exact⟨ys',h1,h2,_,h3,by rw[Au,CK];lia⟩
def gX{AA:List (Str×V)}(g:De H AA AD):(As AA).map (·.1)=(keys AD).map Sum.inr:=by
 apply Jx;intro i;have e1:(As AA).map (·.1)=AA.map fun p=>(Sum.inr p.1:Key):=by show(AA.map _).map _=_;rw[Bf];rfl
 rw[e1];unfold keys;rw[Bf,A0,A0];by_cases hi:i<AA.length
 ·have hj:i<AD.length:=by rw[<-g.len];exact hi
  rw[Ap hi,Ap hj];have:=(g.row i _ _ (Ap hi) (Ap hj)).1;show some (Sum.inr AA[i].1)=some (Sum.inr AD[i].1);rw[this]
 ·rw[Em (by lia),Em (by rw[<-g.len];lia)];rfl
def kG{n:Str}(h:AF AD n=none):n∉keys AD:=NB h
def gU{d1 d2:List Dt}{x1 x2:List V}(r1:Ab H d1 x1)(r2:Ab H d2 x2):Ab H (d1++d2) (x1++x2):=by
 have l1:=r1.1;refine⟨by rw[Au,Au,l1,r2.1],fun i d x h1 h2=>?_⟩;by_cases hi:i<d1.length
 ·rw[C4 hi] at h1;rw[C4 (by lia)] at h2;exact r1.2 i d x h1 h2
 ·rw[Cj (by lia)] at h1;rw[Cj (by lia),<-l1] at h2;exact r2.2 _ d x h1 h2
def lJ:Az ["self","wanted","near"] ["self","wanted","near"] (Ao Q5):=by left
def ji(F:Aj K "find_pages" "Nook.find_pages" Q5 f fd)(C:Ej K cN)(R:Rz P w K mg base cR "NoWords" "no words")(O:Hc mg)(HT:Hv P w K mg base "pages_near" 3 ["pages","wanted","near"] ZM):
 AW P w K mg base (Ci P w) 4 f fd ["self","wanted","near"] (Yy K cN cR):=by
 refine II F lJ ?_ ?_
 ·rintro _ _ _ _ ⟨_,_,_,_,_,_,_,rfl,_⟩;rfl
 ·rintro _ A _ s H _ Q E hr ⟨a,d,v,ws,far,AA,AD,rfl,g,nc,h64,rv,hws,q⟩;have hu1:=Ck hr;refine⟨_,(AS (A7 (Ax Ba (BY IZ rfl O.len DB (AE (pv 1) AI)) Ac (Ar _)) (AU (Ke (k:=0) R hr rfl)) BG) (AU (An (Cb HT hr rfl A3 (AE (C5 (pv 0) rfl) (AE (pv 1) (AE (pv 2) AI))))))),?_⟩;have rv0:=rv;obtain⟨av,xs,rfl,ha,rr⟩:=B1 rv;rw[LQ rr] at ha;refine⟨_,rfl,av,_,rfl,.inr (AX.of ha),rfl,_,rfl,?_⟩;by_cases e:ws=[]
  ·rw[AH e] at q;subst e;exact CD rfl q
  ·rw[AG e] at q;refine CT (fun z=>e ?_) ?_
   ·have:=V.int.inj z;rw[AK] at this;exact Qo.mp (by lia)
   ·obtain⟨dx,hi⟩:=g.ins;exact⟨_,rfl,a,cN,dx,_,_,rfl,hi,C.cl,C.nf,rfl,_,rfl,_,rfl,d,.ref av,far,AA,AD,ws,rfl,g.Bq,g.AD,nc.EB,rv0,hws,fun H1 u s1=>q H1 AA u (Ex.sub.trans s1) (g.same s1)⟩
abbrev Tx:=Str×Str
noncomputable def DP(x:Tx):Dt:=.tup [.str x.1,.str x.2]
def HV(AD:List Pg)(n:Str):Tx:=(n,BQ ((AF AD n).getD []))
def Cw(AD:List Pg):List Tx:=(Kl (keys AD)).map (HV AD)
def Yx(cN:Ya):Sp:=fun vs H Q _=>∃a d AA AD,vs=[.ref a]/\CV cN H a d AA AD/\DG AD/\AD.length<64/\∀H' u,AQ H H'->Rep H' (.lst ((Cw AD).map DP)) u->Q u H'
def Ll{x:Tx}{t:Ya}(h:H t=some (.tup [.str x.1,.str x.2])):Rep H (DP x) (.ref t):=Rep.K0 h (Ab.snoc (Ab.snoc Ab.nil (.str _)) (.str _))
def l7:Az ["self"] ["self"] (Ao RF):=by left
def jh{fT:Ya}{fdT:qo}(F:Aj K "all_texts" "Nook.all_texts" RF f fd)(C:Ej K cN)(O:Hc mg)(mT:Meth K cN "text_of" fT)(GT:AW P w K mg base (Ci P w) 5 fT fdT ["self","name"] (TQ K cN cR))(bT:Binds K fdT ["self","name"] []):
 AW P w K mg base Ah 6 f fd ["self"] (Yx cN):=by
 refine F.ok l7 ?_ ?_
 ·rintro _ _ _ _ ⟨_,_,_,_,rfl,_⟩;rfl
 ·rintro _ A _ s H _ Q E hr ⟨a,d,AA,AD,rfl,g,nc,h64,q⟩;refine⟨_,AU (An (Eu (ts:=["name"]) (cap:=["self"]) (ix:=[0]) (Ia rfl rfl (by left) (by left) rfl rfl rfl rfl rfl) (GX (BY (dE rfl) rfl O.so KA (AE (C5 (pv 0) rfl) AI)))
   (fun _ _ _ _ _=>Bh (i:=0) (D5 (by left)) rfl (Aa rfl) (Cv rfl)) (fun _ _ _ _ _=>Ga) (fun _ _ _ _ _=>CJ (AE (pv 0) (AE (Dv (pv 1) C.cl mT GT hr bT .nil mv (AE (pv 0) AI)) AI))))),?_⟩;obtain⟨dx,hi⟩:=g.ins;have hkey:(As AA).map (·.1)=(keys AD).map Sum.inr:=gX g.AD;refine⟨_,rfl,a,cN,dx,_,_,rfl,hi,C.cl,C.nf,rfl,d,As AA,keys AD,rfl,g.Bq,hkey,?_,fun Ds ys hDs hp hs=>?_⟩
  ·unfold keys;rw[AK];have:=nc.Cg
   lia
  have ey:ys=Kl (keys AD):=TK Gg hp hs;have sB:=AY (o:=.lst (ys.map V.str)) hDs;have hDB:(upd H Ds (.lst (ys.map V.str))) Ds=some (.lst (ys.map V.str)):=AM;generalize upd H Ds (.lst (ys.map V.str))=H2 at sB hDB;have g2:=g.same sB;refine⟨Ds,rfl,⟨_,AJ.of hDB⟩,fun D hD=>GK (xs:=ys.map V.str) (fun i H'=>CI H2 D (((ys.take i).map (HV AD)).map DP) H') (CI.start hD) (fun i H' _ c=>AJ.of (c.same _ _ hDB)) (fun i y H' ey' c=>?_) fun H' c=>?_⟩
  ·rw[A0] at ey'
   cases ez:ys[i]?with
   |none=>rw[ez] at ey';cases ey'
   |some z=>
   rw[ez] at ey';obtain rfl:V.str z=y:=Ai ey';have g3:=g2.same c.same;obtain⟨dx3,Ek⟩:=g3.ins;have zk:z∈keys AD:=hp.mem_iff.mp (CF ez);refine⟨FV,_,rfl,_,rfl,a,dx3,_,rfl,Ek,rfl,_,rfl,a,d,z,AA,AD,rfl,g3,nc,fun ws hw H4 s4=>?_,fun zz=>absurd zk (kG zz)⟩;refine⟨by show 2<=sizeLine;decide,fun tp htp=>?_⟩;have st:=AY (o:=.tup [.str z,.str (BQ ws)]) htp;have c5:=(c.ext s4).ext st;have nt:tp≠D:=by obtain⟨z5,hz5,_⟩:=(c.ext s4).lst;exact(A9 hz5 htp).symm
   have et:HV AD z=(z,BQ ws):=by unfold HV;rw[hw];rfl
   rw[JE (f:=HV AD) ez,A8];refine c5.push (d:=DP (HV AD z)) (by rw[et];exact Ll (Ex.at AM nt)) ?_;rw[AK,AK];have f1:=Hn i ys;have f3:=hp.length_eq;unfold keys at f3;rw[AK] at f3
   lia
  ·rw[AK,Cy] at c;have:=c.done;rw[ey] at this;exact q _ _ (sB.trans c.same) this
def Xf(cN:Ya):Sp:=fun vs H Q _=>∃v xs,vs=[v]/\Rep H (.lst (xs.map Am.dt)) v/\(∀x∈xs,x.Good)/\xs.length<=1000/\Small [] xs/\∀H' a d AA,AQ H H'->CV cN H' a d AA (CU [] xs)->Q (.ref a) H'
def Wc:Sp:=fun vs H Q _=>∃v xs,vs=[v]/\Rep H (.lst (xs.map Am.dt)) v/\(∀x∈xs,x.Good)/\xs.length<=1000/\Small [] xs/\∀H' l zs,AQ H H'->H' l=some (.lst zs)->zs.length=xs.length->Told [] xs H' zs->Q (.ref l) H'
def ZZ{o p:HO}(ha:H a=none)(hdx:H dx=none)(hd:(upd (upd H dx o) a p) d=none)(hda:d≠a)(s1:AQ (Ex (upd (upd H dx o) a p) a) H1):AQ H H1/\H d=none:=by
 refine⟨fun b u e=>?_,?_⟩
 ·refine s1 b u ?_;have n1:b≠a:=A9 e ha;have n2:b≠dx:=A9 e hdx;rw[Ex.at (by rw[AR n1,AR n2];exact e) n1]
 ·rw[AR hda] at hd;by_cases n2:d=dx
  ·rw[n2,AM] at hd;cases hd
  ·rw[AR n2] at hd;exact hd
def Xk:Az ["deeds","nook"] ["deeds"] (Ao RU):=by left
def eF(F:Aj K "nook_behind" "nook_behind" RU f fd)(M:Mk K cN fI)(GI:AW P w K mg base Ah 1 fI fdI ["self"] (Sr cN))(bI:Binds K fdI ["self"] [])(mN:mg "Nook" =some (.ref cN))
 (HA:Hv P w K mg base "answer_all" 8 ["nook","deeds"] (Tv cN)):AW P w K mg base Ah 9 f fd ["deeds"] (Xf cN):=by
 refine F.ok Xk ?_ ?_
 ·rintro _ _ _ _ ⟨_,_,rfl,_⟩;rfl
 ·rintro _ A _ s H _ Q E hr ⟨v,xs,rfl,rv,good,hl,EB,q⟩;refine⟨_,(AS (Av (i:=1) Xk.nd rfl (Aa rfl) (XF M GI hr.mn rfl mN bI .nil A3))
   (AS (Bp (Cb HA hr rfl A3 (AE (pv 1) (AE (pv 0) AI)))) (AU (An (pv 1))))),?_⟩;intro a dx ha hdx hne;refine⟨a,dx,rfl,AM,fun H1 d hd hda s1 g=>⟨rfl,?_⟩⟩;obtain⟨sH,hdH⟩:=ZZ ha hdx hd hda s1;exact⟨_,rfl,_,rfl,a,d,v,xs,[],[],rfl,g,rv.same sH,good,hl,EB,fun H2 kvs' _ _ s2 g2 _ _ _=>⟨_,rfl,q H2 a d kvs' (fun b z e=>s2 b z (Ex.at (sH _ _ e) (A9 e hdH))) g2⟩⟩
def fL:Az ["deeds"] ["deeds"] (Ao R7):=by left
def d7(F:Aj K "answers" "answers" R7 f fd)(M:Mk K cN fI)(GI:AW P w K mg base Ah 1 fI fdI ["self"] (Sr cN))(bI:Binds K fdI ["self"] [])(mN:mg "Nook" =some (.ref cN))
 (HA:Hv P w K mg base "answer_all" 8 ["nook","deeds"] (Tv cN)):AW P w K mg base Ah 9 f fd ["deeds"] Wc:=by
 refine F.ok fL ?_ ?_
 ·rintro _ _ _ _ ⟨_,_,rfl,_⟩;rfl
 ·rintro _ A _ s H _ Q E hr ⟨v,xs,rfl,rv,good,hl,EB,q⟩;refine⟨_,(AU (An (Cb HA hr rfl A3 (AE (XF M GI hr.mn rfl mN bI .nil A3) (AE (pv 0) AI))))),?_⟩;intro a dx ha hdx hne;refine⟨a,dx,rfl,AM,fun H1 d hd hda s1 g=>⟨rfl,?_⟩⟩;obtain⟨sH,hdH⟩:=ZZ ha hdx hd hda s1;exact⟨_,rfl,a,d,v,xs,[],[],rfl,g,rv.same sH,good,hl,EB,fun H2 kvs' l zs s2 g2 hz hzl t=>q H2 l zs (fun b z e=>s2 b z (Ex.at (sH _ _ e) (A9 e hdH))) hz hzl t⟩
def Xr:Sp:=fun vs H Q _=>∃v xs,vs=[v]/\Rep H (.lst (xs.map Am.dt)) v/\(∀x∈xs,x.Good)/\xs.length<=1000/\Small [] xs/\∀H' u,AQ H H'->Rep H' (.lst ((Cw (CU [] xs)).map DP)) u->Q u H'
def iq:Az ["deeds"] ["deeds"] (Ao S2):=by left
def fB{fP:Ya}{fdP:qo}(F:Aj K "texts" "texts" S2 f fd)(C:Ej K cN)(HB:Hv P w K mg base "nook_behind" 9 ["deeds"] (Xf cN))
 (hP:Meth K cN "all_texts" fP)(GP:AW P w K mg base Ah 6 fP fdP ["self"] (Yx cN))(bP:Binds K fdP ["self"] []):AW P w K mg base Ah 10 f fd ["deeds"] Xr:=by
 refine F.ok iq ?_ ?_
 ·rintro _ _ _ _ ⟨_,_,rfl,_⟩;rfl
 ·rintro _ A _ s H _ Q E hr ⟨v,xs,rfl,rv,good,hl,EB,q⟩;refine⟨_,(AU (An (iJ (Cb HB hr rfl A3 (AE (pv 0) AI)) C.cl hP GP hr.mn bP .nil A3))),?_⟩;have se:xs.take xs.length=xs:=Cy;obtain⟨nc,h64⟩:=EB xs.length (Ad _);rw[se] at nc h64;refine⟨_,rfl,v,xs,rfl,rv,good,hl,EB,fun H1 a d AA s1 g=>?_⟩;obtain⟨dx,hi⟩:=g.ins;exact⟨a,dx,_,rfl,hi,rfl,a,d,AA,_,rfl,g,nc,h64,fun H2 u s2 r=>q H2 u (s1.trans s2) r⟩
def YJ:∀{l:List Pg}{i:Nat}{p q:Pg},l[i]? =some p->BI (l.set i q)+wsum p.2=BI l+wsum q.2
 |x::l,0,p,q,h=>by
  cases Ai h;unfold BI;rw[List.set_cons_zero,Ay,Bz,Ay,Bz]
  lia
 |x::l,i+1,p,q,h=>by
  have ih:=YJ (l:=l) (i:=i) (p:=p) (q:=q) (by simpa using h);unfold BI at ih⊢;rw[VZ,Ay,Bz,Ay,Bz]
  lia
def Yo{l:List Pg}{n:Str}{w0:List PR}(nd:(l.map (·.1)).Nodup)(h:AF l n=some w0):BI (AV l n ws)+wsum w0=BI l+wsum ws:=by obtain⟨i,hi⟩:=GZ h;rw[LU nd hi];exact YJ hi
def jH(ws:List PR)(n m:Str)(hm:m.length<=40):wsum (CO ws n m)<=wsum ws:=by
 unfold CO wsum
 induction ws with
 |nil=>simp
 |cons p ws ih=>
  rw[Ay,Ay,Bz,Ay,Bz];have:wt (if p=(("to" :Str),n) then(("to" :Str),m) else p)<=wt p:=by
   split
   ·show max 40 m.length+3<=wt p;unfold wt
    lia
   ·exact Ad _
  lia
def ZQ(AD:List Pg)(n m:Str)(hm:m.length<=40):BI (DE AD n m)<=BI AD:=by
 unfold DE BI
 induction AD with
 |nil=>simp
 |cons p AD ih=>
  rw[Ay,Ay,Bz,Ay,Bz];have:=jH p.2 n m hm;show wsum (CO p.2 n m)+_<=_
  lia
def PN(AD:List Pg)(n m:Str):(DE AD n m).map (·.1)=AD.map (·.1):=by unfold DE;rw[Bf];rfl
def jD(x:Str):(C6 x).2.length<=x.length:=by
 unfold C6;split
 ·exact Oo x _ _
 ·exact Ad _
def dW(t:Str):wsum (EI t)<=44*(t.length+1):=by
 have h:=Ms t " " (by decide);unfold EI CY;generalize Txt.split t " " =L at h;have:∀L:List Str,wsum ((L.filter fun p:Str=> !decide (p=("" :Str))).map C6)<=43*L.length+(L.map (·.length)).sum:=by
  intro L
  induction L with
  |nil=>simp[wsum]
  |cons x L ih=>
   rw[Ay,Bz,CS];by_cases e:x=("" :Str)
   ·rw[F8 (by simp[e])]
    lia
   ·rw[Fi (by simp[e])];unfold wsum at ih⊢;rw[Ay,Ay,Bz];have:wt (C6 x)<=43+x.length:=by
     have:=jD x;unfold wt
     lia
    lia
 have h2:=this L;have h3:43*L.length<=43*(t.length+1):=Qv _ (by lia)
 lia
structure Sz(k:Nat)(AD:List Pg):Prop where
 nd:(AD.map (·.1)).Nodup
 len:AD.length<=k
 BI:BI AD<=50000*k
def Sz.more(s:Sz k AD):Sz (k+1) AD:=⟨s.nd,Nat.le_succ_of_le s.len,by have:=s.BI;lia⟩
def S5(AD:List Pg)(n:Str):(AN AD n).length<=AD.length:=F9 _ _
def fZ(AD:List Pg)(n:Str):L2.BI (AN AD n)<=L2.BI AD:=by
 unfold AN L2.BI
 induction AD with
 |nil=>simp
 |cons p AD ih=>
  rw[Ay,Bz];by_cases e:p.1=n
  ·rw[F8 (by simp[e])];lia
  ·rw[Fi (by simp[e]),Ay,Bz];lia
def Sz.next{k:Nat}{AD:List Pg}(s:Sz k AD){x:Am}(g:x.Good):Sz (k+1) ((D8 AD x).next AD):=by
 have s':=s.more;have st:=s.BI;have sl:=s.len
 cases x with
 |write n t=>
  show Sz (k+1) ((GY AD n t).next AD);unfold GY;split
  ·refine⟨EL s.nd,BF (HK _ _ _) (by lia),?_⟩;have h1:=PU AD n (EI t) s.nd;have h2:=dW t;have h3:t.length<=1000:=g.2;show L2.BI (AV AD n (EI t))<=_
   lia
  ·exact s'
 |rename n m=>
  show Sz (k+1) ((GQ AD n m).next AD);unfold GQ
  cases e:AF AD n with
  |none=>exact s'
  |some ws=>
   dsimp only;split
   ·cases e2:AF AD m with
    |some _=>exact s'
    |none=>
     show Sz (k+1) (renamed AD n m ws);unfold renamed;refine⟨by rw[PN];exact EL (DK s.nd),?_,?_⟩
     ·have h1:=HK (AN AD n) m ws;have h2:=S5 AD n;show(List.map _ _).length<=_;rw[AK]
      lia
     ·have h1:=ZQ (AV (AN AD n) m ws) n m g.2;have h2:=PU (AN AD n) m ws (DK s.nd);have h3:=M7 e
      lia
   ·exact s'
 |join n o=>
  show Sz (k+1) ((EK AD n o).next AD);unfold EK
  cases e:AF AD n with
  |none=>exact s'
  |some w1=>
   dsimp only
   cases e2:AF AD o with
   |none=>exact s'
   |some w2=>
    dsimp only;split
    ·exact s'
    ·rename_i hne;show Sz (k+1) (joined AD n o w1 w2);unfold joined;refine⟨by rw[PN];exact EL (DK s.nd),?_,?_⟩
     ·have h1:=HK (AN AD o) n (w1++w2);have h2:=S5 AD o;show(List.map _ _).length<=_;rw[AK]
      lia
     ·have h1:=ZQ (AV (AN AD o) n (w1++w2)) o n g.1;have h2:=Yo (ws:=w1++w2) (DK (k:=o) s.nd) (show AF (AN AD o) n=some w1 by rw[EH hne];exact e);have h3:=M7 e2;rw[JI] at h2
      lia
 |cut n pl m=>
  show Sz (k+1) ((FR AD n pl m).next AD);unfold FR
  cases e:AF AD n with
  |none=>exact s'
  |some ws=>
   dsimp only;split
   ·cases e2:AF AD m with
    |some _=>exact s'
    |none=>
     dsimp only;split
     ·exact s'
     ·show Sz (k+1) (cutAt AD n m ws pl.toNat);unfold cutAt;have e3:AF (AV AD m (ws.drop pl.toNat)) n=some ws:=by rw[Cu];rw[AG (fun z=>by rw[z,e2] at e;cases e)];exact e
      have D5:((AV AD m (ws.drop pl.toNat)).map (·.1)).Nodup:=EL s.nd;refine⟨EL D5,?_,?_⟩
      ·obtain⟨i,hi⟩:=GZ e3;rw[LU D5 hi,List.length_set];have:=HK AD m (ws.drop pl.toNat)
       lia
      ·have h1:=Yo (ws:=ws.take pl.toNat++[(("to" :Str),m)]) D5 e3;have h2:=PU AD m (ws.drop pl.toNat) s.nd;have h3:wsum (ws.take pl.toNat)+wsum (ws.drop pl.toNat)=wsum ws:=by rw[<-JI,DQ]
       rw[JI] at h1;have h4:wsum [(("to" :Str),m)]=43:=by
        have:m.length<=40:=g.2;show(max 40 m.length+3)+0=43
        lia
       lia
   ·exact s'
 |drop n=>
  show Sz (k+1) ((Gf AD n).next AD);unfold Gf
  cases e:AF AD n with
  |none=>exact s'
  |some ws=>
   refine⟨DK s.nd,BF (S5 _ _) (by lia),?_⟩;have:=fZ AD n;show L2.BI (AN AD n)<=_
   lia
 |text n=>
  show Sz (k+1) ((Fu AD n).next AD);unfold Fu
  cases e:AF AD n with
  |none=>exact s'
  |some ws=>exact s'
 |back n=>exact s'
 |find ws far=>
  show Sz (k+1) (Rs.next AD (if ws=[] then .no "no words" else .un AD));split
  ·exact s'
  ·exact s'
def Lh:∀(xs:List Am)(k:Nat)(AD:List Pg),Sz k AD->(∀x∈xs,x.Good)->Sz (k+xs.length) (CU AD xs)
 |[],k,AD,s,_=>s
 |x::xs,k,AD,s,g=>by have:=Lh xs (k+1) _ (s.next (g x DR)) fun y hy=>g y (DJ _ hy);rw[CS,show k+(xs.length+1)=k+1+xs.length by lia];exact this
def NU:Sz 0 []:=⟨Mo,Ad _,Ad _⟩
def R9{xs:List Am}(g:∀x∈xs,x.Good)(hl:xs.length<=63):Small [] xs:=fun k hk=>by
 have s:=Lh (xs.take k) 0 [] NU fun x hx=>g x (Gv hx);have hk2:(xs.take k).length<=63:=by rw[Bc];lia
 have h1:=s.len;have h2:=s.BI;refine⟨⟨s.nd,by lia,?_⟩,by lia⟩;have:50000*(0+(xs.take k).length)<=50000*63:=Qv _ (by lia)
 lia
section
variable[DecidableEq α]
def BL{l:List (α×β)}{k:α}{v:β}(h:AF l k=some v):(k,v)∈l:=by obtain⟨i,hi⟩:=GZ h;exact CF hi
def FF{l:List (α×β)}{k:α}{v:β}(nd:(l.map (·.1)).Nodup)(h:(k,v)∈l):AF l k=some v:=by obtain⟨i,hi⟩:=VO h;exact JM nd hi
def SI{l:List (α×β)}{k:α}(h:k∈l.map (·.1)):∃v,AF l k=some v:=by
 cases e:AF l k with
 |some v=>exact⟨v,rfl⟩
 |none=>exact absurd h (NB e)
def S9{l:List (α×β)}{k:α}{v:β}(h:AF l k=some v):k∈l.map (·.1):=BP.mpr ⟨_,BL h,rfl⟩
def M3{l m:List (α×β)}(hk:l.map (·.1)=m.map (·.1))(nd:(l.map (·.1)).Nodup)(h:∀k,k∈l.map (·.1)->AF l k=AF m k):l=m:=by
 have hlen:l.length=m.length:=by have:=BJ List.length hk;simpa using this
 refine Jx fun i=>?_;by_cases hi:i<l.length
 ·have hj:i<m.length:=by lia
  have e1:l[i]? =some l[i]:=Ap hi;have e2:m[i]? =some m[i]:=Ap hj;have ek:l[i].1=m[i].1:=by have:=BJ (fun x=>x[i]?) hk;rw[A0,A0,e1,e2] at this;exact Ai this
  have g1:=JM nd e1;have g2:=JM (hk▸nd) e2;have:=h l[i].1 (BP.mpr ⟨_,Fl hi,rfl⟩);rw[g1,ek,g2] at this;rw[e1,e2];exact BJ some (Prod.ext ek (Ai this))
 ·rw[Em (by lia),Em (by lia)]
def KH(l:List (α×β))(k:α)(v:β):(AV l k v).map (·.1)=if k∈l.map (·.1) then l.map (·.1) else l.map (·.1)++[k]:=by
 by_cases h:k∈l.map (·.1)
 ·obtain⟨w,hw⟩:=SI h;rw[AH h];have hm:=BL hw;unfold AV;rw[AH (Jz.mpr ⟨_,hm,by simp⟩),Bf];refine EF fun p _=>?_;show(if p.1=k then(p.1,v) else p).1=p.1;split<;>rfl
 ·rw[AG h];have hn:AF l k=none:=by
   cases e:AF l k with
   |none=>rfl
   |some w=>exact absurd (S9 e) h
  rw[G0 hn,A8];rfl
def LO(l:List (α×β))(k:α):(AN l k).map (·.1)=(l.map (·.1)).filter fun x=>decide (x≠k):=by unfold AN;rw[List.filter_map];rfl
def JD(l:List (α×β))(k:α):AF (AN l k) k=none:=by
 cases e:AF (AN l k) k with
 |none=>rfl
 |some v=>have:=BL e;unfold AN at this;have:=(IW.mp this).2;simp at this
def Ie{l:List (α×β)}{k:α}{v:β}{p:α×β}(h:p∈AV l k v):p∈l\/p=(k,v):=by
 unfold AV at h;split at h
 ·obtain⟨q,hq,e⟩:=BP.mp h;split at e
  ·rename_i e1;rw[<-e,e1];exact .inr rfl
  ·rw[<-e];exact .inl hq
 ·rcases Bk.mp h with z|z
  ·exact .inl z
  ·exact .inr (Bj.mp z)
def Du{l:List (α×β)}{k:α}{p:α×β}(h:p∈AN l k):p∈l/\p.1≠k:=by unfold AN at h;have:=IW.mp h;exact⟨this.1,by simpa using this.2⟩
def G9{l:List (α×β)}{k:α}{p:α×β}(h:p∈l)(hk:p.1≠k):p∈AN l k:=IW.mpr ⟨h,by simpa using hk⟩
end
def sh(names:List (Str×Int))(w:Wd):PR:=if w.to=true then(("to" :Str),if w.no= -1 then w.nm else nameOf names w.no) else(("word" :Str),w.nm)
def Al(n:Nk)(no:Int):List PR:=((AF n.texts no).getD []).map (sh n.names)
def vw(n:Nk):List Pg:=n.names.map fun p=>(p.1,Al n p.2)
def El(names:List (Str×Int))(w:Wd):Prop:=w.to=true->(w.no= -1/\AF names w.nm=none)\/∃nm,(nm,w.no)∈names
structure Br(n:Nk):Prop where
 CW:(n.names.map (·.1)).Nodup
 inj:(n.names.map (·.2)).Nodup
 Cf:(n.texts.map (·.1)).Nodup
 tx:∀p∈n.names,∃ws,AF n.texts p.2=some ws
 own:∀p∈n.texts,∃nm,(nm,p.1)∈n.names
 lt:∀p∈n.texts,0<=p.1/\p.1<n.made
 wd:∀p∈n.texts,∀w∈p.2,El n.names w
variable{l:List (Str×Int)}
def KS(inj:(l.map (·.2)).Nodup){a b:Str}(ha:(a,no)∈l)(hb:(b,no)∈l):a=b:=by
 induction l with
 |nil=>cases ha
 |cons p l ih=>
  rw[Ay,IV] at inj;rcases Be.mp ha with e1|e1
  ·rcases Be.mp hb with e2|e2
   ·rw[<-e1] at e2;exact(LK e2).1.symm
   ·exact absurd (BP.mpr ⟨_,e2,by rw[<-e1]⟩) inj.1
  ·rcases Be.mp hb with e2|e2
   ·exact absurd (BP.mpr ⟨_,e1,by rw[<-e2]⟩) inj.1
   ·exact ih inj.2 e1 e2
def WU(inj:(l.map (·.2)).Nodup){a:Str}(h:(a,no)∈l):nameOf l no=a:=by
 unfold nameOf
 cases e:l.find? fun p=>decide (p.2=no) with
 |none=>have:=Va.mp e _ h;simp at this
 |some p=>
  have h1:=List.mem_of_find?_eq_some e;have h2:p.2=no:=by simpa using List.find?_some e
  show p.1=a;exact KS inj (show(p.1,no)∈l by rw[<-h2];exact h1) h
def Br.Ff(b:Br n){nm:Str}(h:(nm,no)∈n.names):0<=no/\no<n.made:=by obtain⟨ws,hw⟩:=b.tx _ h;exact b.lt _ (BL hw)
def D7(n:Nk):(vw n).map (·.1)=n.names.map (·.1):=by unfold vw;rw[Bf];rfl
def FJ(n:Nk)(k:Str):AF (vw n) k=(AF n.names k).map (Al n):=by
 unfold vw AF;generalize n.names=l
 induction l with
 |nil=>rfl
 |cons p l ih=>
  rw[Ay];by_cases e:p.1=k
  ·rw[MR (by simpa using e),MR (by simpa using e)];rfl
  ·rw[MS (by simpa using e),MS (by simpa using e)];exact ih
def Ti(l:List Pg)(a b k:Str):AF (DE l a b) k=(AF l k).map fun ws=>CO ws a b:=by
 unfold DE AF
 induction l with
 |nil=>rfl
 |cons p l ih=>
  rw[Ay];by_cases e:p.1=k
  ·rw[MR (by simpa using e),MR (by simpa using e)];rfl
  ·rw[MS (by simpa using e),MS (by simpa using e)];exact ih
def NS(n:Nk)(g:Wd->Wd)(no:Int):AF (n.Ip g).texts no=(AF n.texts no).map (List.map g):=by
 show AF (n.texts.map fun p=>(p.1,p.2.map g)) no=_;unfold AF;generalize n.texts=l
 induction l with
 |nil=>rfl
 |cons p l ih=>
  rw[Ay];by_cases e:p.1=no
  ·rw[MR (by simpa using e),MR (by simpa using e)];rfl
  ·rw[MS (by simpa using e),MS (by simpa using e)];exact ih
def Br.same(b:Br n){a k:Str}{no':Int}(ha:AF n.names a=some no)(hk:AF n.names k=some no'):no'=no↔k=a:=by
 constructor
 ·intro e;rw[e] at hk;exact KS b.inj (BL hk) (BL ha)
 ·intro e;rw[e,ha] at hk;exact(Ai hk).symm
def Br.text(b:Br n){a:Str}(ha:AF n.names a=some no):∃ws,AF n.texts no=some ws/\∀w∈ws,El n.names w:=by obtain⟨ws,hw⟩:=b.tx _ (BL ha);exact⟨ws,hw,b.wd _ (BL hw)⟩
noncomputable def Jl(a b:Str)(p:PR):PR:=if p=(("to" :Str),a) then(("to" :Str),b) else p
def Sb(ws:List PR)(a b:Str):CO ws a b=ws.map (Jl a b):=rfl
def nu{a:Str}:((("word" :Str),x):PR)≠(("to" :Str),a):=by intro z;have:("word" :Str)="to" :=(LK z).1;exact absurd this (by left)
def Yj(a b x:Str):Jl a b (("word" :Str),x)=(("word" :Str),x):=AG nu
def Z1(a b:Str):Jl a b (("to" :Str),a)=(("to" :Str),b):=AH rfl
def PB{a b:Str}(h:x≠a):Jl a b (("to" :Str),x)=(("to" :Str),x):=AG fun z=>h (LK z).2
def Hy{w:Wd}(h:w.to=false):sh names w=(("word" :Str),w.nm):=by unfold sh;rw[h];rfl
def GU{w:Wd}(h:w.to=true)(hn:w.no= -1):sh names w=(("to" :Str),w.nm):=by unfold sh;rw[AH h,AH hn]
def i6{w:Wd}(h:w.to=true)(hn:w.no≠-1):sh names w=(("to" :Str),nameOf names w.no):=by unfold sh;rw[AH h,AG hn]
def Ez(inj:(names.map (·.2)).Nodup){w:Wd}(h:w.to=true)(hn:w.no≠-1)(hx:(x,w.no)∈names):sh names w=(("to" :Str),x):=by rw[i6 h hn,WU inj hx]
def TR{n':Nk}{g:Wd->Wd}{h:PR->PR}{ws:List Wd}(e1:AF n.texts no=some ws)(e2:AF n'.texts no=some (ws.map g))(hw:∀w∈ws,sh n'.names (g w)=h (sh n.names w)):Al n' no=(Al n no).map h:=by unfold Al;rw[e1,e2];show(ws.map g).map _=(ws.map _).map h;rw[Bf,Bf];exact EF fun w hw'=>hw w hw'
def S3{k:Str}{v:Int}(inj:(l.map (·.2)).Nodup)(hk:AF l k=none)(hv:v∉l.map (·.2)):((AV l k v).map (·.2)).Nodup:=by
 rw[G0 hk,A8];refine OZ.mpr ⟨inj,by simp,fun a ha b hb e=>?_⟩;have:b=v:=by simpa using hb
 rw[<-e] at this;exact hv (this▸ha)
def ND{k:Str}(inj:(l.map (·.2)).Nodup):((AN l k).map (·.2)).Nodup:=by unfold AN;exact List.Nodup.sublist ((List.filter_sublist).map _) inj
section
variable{o:Str}
def Oq(ho:AF n.names o=none):(n.added o).names=n.names++[(o,n.made)]:=G0 ho
def O3(no:Int):AF (n.added o).texts no=((if no=n.made then some [] else AF n.texts no):Option (List Wd)).map (List.map (CN o n.made)):=by show AF (Nk.Ip _ (CN o n.made)).texts no=_;rw[NS];show(AF (AV n.texts n.made []) no).map _=_;rw[Cu]
def Br.fresh(b:Br n):n.made∉n.names.map (·.2):=fun h=>by
 obtain⟨p,hp,e⟩:=BP.mp h;have:=(b.Ff (nm:=p.1) (no:=p.2) hp).2
 lia
def V3(b:Br n)(h0:0<=n.made)(ho:AF n.names o=none){w:Wd}(ok:El n.names w):sh (n.added o).names (CN o n.made w)=sh n.names w/\El (n.added o).names (CN o n.made w):=by
 have inj':((n.added o).names.map (·.2)).Nodup:=S3 b.inj ho b.fresh;rw[Oq ho] at inj'⊢;unfold CN
 cases ht:w.to with
 |false=>rw[AG (fun z=>by cases z.1)];exact⟨by rw[Hy ht,Hy ht],fun z=>by rw[ht] at z;cases z⟩
 |true=>
  rcases ok ht with⟨hl,hnm⟩|⟨x,hx⟩
  ·by_cases e:w.nm=o
   ·rw[AH ⟨rfl,hl,e⟩];have hin:(o,n.made)∈n.names++[(o,n.made)]:=Dq _ (Bj.mpr rfl);refine⟨?_,fun _=>.inr ⟨o,hin⟩⟩;rw[GU ht hl,e];exact Ez inj' (w:=⟨true,o,n.made⟩) rfl (by show n.made≠-1;lia) hin
   ·rw[AG (fun z=>e z.2.2)];refine⟨by rw[GU ht hl,GU ht hl],fun _=>.inl ⟨hl,?_⟩⟩;rw[<-G0 ho,Cu,AG e];exact hnm
  ·have hp:=b.Ff hx;have hn:w.no≠-1:=by lia
   rw[AG (fun z=>hn z.2.1)];have hx':(x,w.no)∈n.names++[(o,n.made)]:=GC _ hx;exact⟨by rw[Ez inj' ht hn hx',Ez b.inj ht hn hx],fun _=>.inr ⟨x,hx'⟩⟩
def Br.added(b:Br n)(h0:0<=n.made)(ho:AF n.names o=none):Br (n.added o):=by
 have hnm:=Oq ho;have tn:AF n.texts n.made=none:=by
  cases e:AF n.texts n.made with
  |none=>rfl
  |some ws=>have:=(b.lt _ (BL e)).2;dsimp only at this;lia
 have etx:(n.added o).texts=(AV n.texts n.made []).map fun p=>(p.1,p.2.map (CN o n.made)):=rfl;have kt:(n.added o).texts.map (·.1)=n.texts.map (·.1)++[n.made]:=by rw[etx,Bf];show(AV n.texts n.made []).map (·.1)=_;rw[G0 tn,A8];rfl
 have ndt':((n.added o).texts.map (·.1)).Nodup:=by rw[etx,Bf];exact EL b.Cf
 have mem_t:∀p∈(n.added o).texts,∃q∈AV n.texts n.made [],p=(q.1,q.2.map (CN o n.made)):=fun p hp=>by rw[etx] at hp;obtain⟨q,hq,e⟩:=BP.mp hp;exact⟨q,hq,e.symm⟩
 refine⟨EL b.CW,S3 b.inj ho b.fresh,ndt',fun p hp=>?_,fun p hp=>?_,fun p hp=>?_,fun p hp w hw=>?_⟩
 ·rw[O3];rw[hnm] at hp;rcases Bk.mp hp with e|e
  ·obtain⟨ws,hw⟩:=b.tx p e;by_cases z:p.2=n.made
   ·rw[AH z];exact⟨_,rfl⟩
   ·rw[AG z,hw];exact⟨_,rfl⟩
  ·rw[Bj.mp e,AH rfl];exact⟨_,rfl⟩
 ·obtain⟨q,hq,rfl⟩:=mem_t p hp;rw[hnm];rcases Ie hq with e|e
  ·obtain⟨nm,h⟩:=b.own q e;exact⟨nm,GC _ h⟩
  ·rw[e];exact⟨o,Dq _ (Bj.mpr rfl)⟩
 ·obtain⟨q,hq,rfl⟩:=mem_t p hp;show 0<=q.1/\q.1<n.made+1;rcases Ie hq with e|e
  ·have:=b.lt q e
   lia
  ·rw[e];show 0<=n.made/\n.made<n.made+1
   lia
 ·obtain⟨q,hq,rfl⟩:=mem_t p hp;obtain⟨w0,h0',rfl⟩:=BP.mp hw;rcases Ie hq with e|e
  ·exact(V3 b h0 ho (b.wd q e w0 h0')).2
  ·rw[e] at h0';cases h0'
def XX(b:Br n)(h0:0<=n.made)(ho:AF n.names o=none){ws:List Wd}(hw:AF n.texts no=some ws):Al (n.added o) no=Al n no:=by
 have hne:no≠n.made:=by have:=(b.lt _ (BL hw)).2;dsimp only at this;lia
 have e2:AF (n.added o).texts no=some (ws.map (CN o n.made)):=by rw[O3,AG hne,hw];rfl
 have:=TR (h:=id) hw e2 fun w hw'=>(V3 b h0 ho (b.wd _ (BL hw) w hw')).1;rw[this,KC]
def Wz(b:Br n)(h0:0<=n.made)(ho:AF n.names o=none):vw (n.added o)=AV (vw n) o []:=by
 have hv:AF (vw n) o=none:=by rw[FJ,ho];rfl
 rw[G0 hv];unfold vw;rw[Oq ho,A8];congr 1
 ·refine EF fun p hp=>?_;obtain⟨ws,hw⟩:=b.tx p hp;show(p.1,Al (n.added o) p.2)=_;rw[XX b h0 ho hw]
 ·show[(o,Al (n.added o) n.made)]=_;unfold Al;rw[O3,AH rfl];rfl
end
section
variable{a:Str}{ws:List Wd}
def Nk.Cm(n:Nk)(no:Int)(ws:List Wd):Nk:={n with texts:=AV n.texts no ws}
def Br.Cm(b:Br n)(ha:AF n.names a=some no)(ok:∀w∈ws,El n.names w):Br (n.Cm no ws):=by
 refine⟨b.CW,b.inj,EL b.Cf,fun p hp=>?_,fun p hp=>?_,fun p hp=>?_,fun p hp w hw=>?_⟩
 ·show∃x,AF (AV n.texts no ws) p.2=some x;rw[Cu];by_cases z:p.2=no
  ·rw[AH z];exact⟨_,rfl⟩
  ·rw[AG z];exact b.tx p hp
 ·rcases Ie hp with e|e
  ·exact b.own p e
  ·rw[e];exact⟨a,BL ha⟩
 ·rcases Ie hp with e|e
  ·exact b.lt p e
  ·rw[e];exact b.Ff (BL ha)
 ·rcases Ie hp with e|e
  ·exact b.wd p e w hw
  ·rw[e] at hw;exact ok w hw
def Pj(b:Br n)(ha:AF n.names a=some no):vw (n.Cm no ws)=AV (vw n) a (ws.map (sh n.names)):=by
 have hin:a∈(vw n).map (·.1):=by rw[D7];exact S9 ha
 refine M3 ?_ (by rw[D7];exact b.CW) fun k hk=>?_
 ·rw[KH,AH hin,D7,D7];rfl
 ·rw[FJ,Cu,FJ];rw[D7] at hk;obtain⟨no',hk'⟩:=SI hk;have hk2:AF n.names k=some no':=hk';show(AF n.names k).map (Al (n.Cm no ws))=_;rw[hk2];show some (Al (n.Cm no ws) no')=_;have e:Al (n.Cm no ws) no'=((AF (AV n.texts no ws) no').getD []).map (sh n.names):=rfl;rw[e,Cu];by_cases z:k=a
  ·rw[AH z,AH ((b.same ha hk2).mpr z)];rfl
  ·rw[AG z,AG (fun y=>z ((b.same ha hk2).mp y))];rfl
end
def Yp{l:List Pg}{k:Str}{x y:List PR}(nd:(l.map (·.1)).Nodup):AV (AV l k x) k y=AV l k y:=by
 refine M3 ?_ (EL (EL nd)) fun j hj=>?_
 ·rw[KH,KH,KH];by_cases h:k∈l.map (·.1)
  ·rw[AH h,AH h]
  ·rw[AG h,AH (by simp)]
 ·rw[Cu,Cu,Cu];split<;>rfl
section
variable{a o:Str}
def Nk.renamed(n:Nk)(a o:Str)(no:Int):Nk:=({n with names:=AN n.names a}:Nk).named o no
def Mx{a o:Str}(h:AF l o=none):AF (AN l a) o=none:=by
 by_cases z:o=a
 ·rw[z];exact JD ..
 ·rw[EH z];exact h
def Mw(ho:AF n.names o=none):(n.renamed a o no).names=AN n.names a++[(o,no)]:=G0 (Mx ho)
def Yg(b:Br n)(ha:AF n.names a=some no)(ho:AF n.names o=none):((n.renamed a o no).names.map (·.2)).Nodup:=by refine S3 (ND b.inj) (Mx ho) fun h=>?_;obtain⟨p,hp,e⟩:=BP.mp h;obtain⟨h1,h2⟩:=Du hp;exact h2 (KS b.inj (show(p.1,no)∈n.names by rw[<-e];exact h1) (BL ha))
def Xv(b:Br n)(ha:AF n.names a=some no)(ho:AF n.names o=none){w:Wd}(ok:El n.names w):sh (n.renamed a o no).names (CN o no w)=Jl a o (sh n.names w)/\El (n.renamed a o no).names (CN o no w):=by
 have inj':=Yg b ha ho;have hao:o≠a:=fun z=>by rw[z,ha] at ho;cases ho
 have hpos:=b.Ff (BL ha);have hin:(o,no)∈(n.renamed a o no).names:=by rw[Mw ho];exact Dq _ (Bj.mpr rfl)
 have gn:∀k,k≠o->AF n.names k=none->AF (n.renamed a o no).names k=none:=fun k h1 h2=>by show AF (AV (AN n.names a) o no) k=none;rw[Cu,AG h1];exact Mx h2
 have mn:∀x m,(x,m)∈n.names->x≠a->(x,m)∈(n.renamed a o no).names:=fun x m h1 h2=>by rw[Mw ho];exact GC _ (G9 h1 h2)
 obtain⟨t,nm,m⟩:=w;unfold CN
 cases t with
 |false=>rw[AG (fun z=>by cases z.1)];exact⟨by rw[Hy rfl,Hy rfl,Yj],fun z=>by cases z⟩
 |true=>
  rcases ok rfl with⟨hl,hnm⟩|⟨x,hx⟩
  ·have hl':m= -1:=hl;have hnm':AF n.names nm=none:=hnm;have nna:nm≠a:=fun z=>by rw[z,ha] at hnm';cases hnm'
   rw[GU (names:=n.names) rfl hl,PB nna];by_cases e:nm=o
   ·rw[AH ⟨rfl,hl',e⟩];refine⟨?_,fun _=>.inr ⟨o,hin⟩⟩;show _=(("to" :Str),nm);rw[e];exact Ez inj' (w:=⟨true,_,no⟩) rfl (by show no≠-1;lia) hin
   ·rw[AG (fun z=>e z.2.2)];exact⟨GU rfl hl,fun _=>.inl ⟨hl,gn _ e hnm'⟩⟩
  ·have hx':(x,m)∈n.names:=hx;have hp:=b.Ff hx';have hn:m≠-1:=by lia
   rw[AG (fun z=>hn z.2.1),Ez b.inj (w:=⟨true,nm,m⟩) rfl hn hx'];by_cases e:x=a
   ·have em:m=no:=by have h1:=FF b.CW hx';rw[e,ha] at h1;exact(Ai h1).symm
    rw[e,Z1];have hin':(o,m)∈(n.renamed a o no).names:=by rw[em];exact hin
    exact⟨Ez inj' (w:=⟨true,nm,m⟩) rfl hn hin',fun _=>.inr ⟨o,hin'⟩⟩
   ·rw[PB e];exact⟨Ez inj' (w:=⟨true,nm,m⟩) rfl hn (mn _ _ hx' e),fun _=>.inr ⟨x,mn _ _ hx' e⟩⟩
def Yl(m:Int):AF (n.renamed a o no).texts m=(AF n.texts m).map (List.map (CN o no)):=NS _ _ _
def Br.renamed(b:Br n)(ha:AF n.names a=some no)(ho:AF n.names o=none):Br (n.renamed a o no):=by
 have etx:(n.renamed a o no).texts=n.texts.map fun p=>(p.1,p.2.map (CN o no)):=rfl;have mem_t:∀p∈(n.renamed a o no).texts,∃q∈n.texts,p=(q.1,q.2.map (CN o no)):=fun p hp=>by rw[etx] at hp;obtain⟨q,hq,e⟩:=BP.mp hp;exact⟨q,hq,e.symm⟩
 refine⟨EL (DK b.CW),Yg b ha ho,by rw[etx,Bf];exact b.Cf,fun p hp=>?_,fun p hp=>?_,fun p hp=>?_,fun p hp w hw=>?_⟩
 ·rw[Yl];rw[Mw ho] at hp;have:∃ws,AF n.texts p.2=some ws:=by
   rcases Bk.mp hp with e|e
   ·exact b.tx p (Du e).1
   ·rw[Bj.mp e];exact b.tx (a,no) (BL ha)
  obtain⟨ws,hw⟩:=this;rw[hw];exact⟨_,rfl⟩
 ·obtain⟨q,hq,rfl⟩:=mem_t p hp;obtain⟨nm,h⟩:=b.own q hq;rw[Mw ho];by_cases z:nm=a
  ·have:q.1=no:=by have h1:=FF b.CW h;rw[z,ha] at h1;exact(Ai h1).symm
   exact⟨o,Dq _ (by show(o,q.1)∈_;rw[this];exact Bj.mpr rfl)⟩
  ·exact⟨nm,GC _ (G9 h z)⟩
 ·obtain⟨q,hq,rfl⟩:=mem_t p hp;exact b.lt q hq
 ·obtain⟨q,hq,rfl⟩:=mem_t p hp;obtain⟨w0,h0',rfl⟩:=BP.mp hw;exact(Xv b ha ho (b.wd q hq w0 h0')).2
def lO(b:Br n)(ha:AF n.names a=some no)(ho:AF n.names o=none):vw (n.renamed a o no)=DE (AV (AN (vw n) a) o (Al n no)) a o:=by
 have hk0:(vw n).map (·.1)=n.names.map (·.1):=D7 n;refine M3 ?_ (by rw[D7];exact EL (DK b.CW)) fun k hk=>?_
 ·rw[D7,PN,KH,LO,hk0];show(AV (AN n.names a) o no).map (·.1)=_;rw[KH,LO]
 ·rw[FJ,Ti,Cu];show(AF (AV (AN n.names a) o no) k).map _=_;rw[Cu];have key:∀m x,AF n.names x=some m->Al (n.renamed a o no) m=CO (Al n m) a o:=fun m x hx=>by obtain⟨ws,h1,h2⟩:=b.text hx;rw[Sb];exact TR (h:=Jl a o) h1 (by rw[Yl,h1];rfl) fun w hw=>(Xv b ha ho (h2 w hw)).1
  by_cases z:k=o
  ·rw[AH z,AH z];exact BJ some (key no a ha)
  ·rw[AG z,AG z];by_cases z2:k=a
   ·rw[z2,JD,JD];rfl
   ·rw[EH z2,EH z2,FJ]
    cases e:AF n.names k with
    |none=>rfl
    |some m=>exact BJ some (key m k e)
end
section
variable{a o:Str}{no2:Int}
def Nk.dropped(n:Nk)(a:Str)(no:Int):Nk:=({n with names:=AN n.names a,texts:=AN n.texts no}:Nk).turned no a (-1)
def WJ(b:Br n)(ha:AF n.names a=some no){w:Wd}(ok:El n.names w):sh (AN n.names a) (CM no a (-1) w)=sh n.names w/\El (AN n.names a) (CM no a (-1) w):=by
 have inj':=ND (k:=a) b.inj;obtain⟨t,nm,m⟩:=w;unfold CM
 cases t with
 |false=>rw[AG (fun z=>by cases z.1)];exact⟨by rw[Hy rfl,Hy rfl],fun z=>by cases z⟩
 |true=>
  have hpos:=b.Ff (BL ha);rcases ok rfl with⟨hl,hnm⟩|⟨x,hx⟩
  ·have hl':m= -1:=hl;rw[AG (fun z=>by have h2:m=no:=z.2;lia)];exact⟨by rw[GU rfl hl,GU rfl hl],fun _=>.inl ⟨hl,Mx hnm⟩⟩
  ·have hx':(x,m)∈n.names:=hx;have hn:m≠-1:=by have:=b.Ff hx';lia
   rw[Ez b.inj (w:=⟨true,nm,m⟩) rfl hn hx'];by_cases e:m=no
   ·rw[AH ⟨rfl,e⟩];have ex:x=a:=KS b.inj (by rw[<-e];exact hx') (BL ha);rw[ex];exact⟨GU (w:=⟨true,a,-1⟩) rfl rfl,fun _=>.inl ⟨rfl,JD ..⟩⟩
   ·rw[AG (fun z=>e z.2)];have ex:x≠a:=fun z=>by have h1:=FF b.CW hx';rw[z,ha] at h1;exact e (Ai h1).symm
    exact⟨Ez inj' (w:=⟨true,nm,m⟩) rfl hn (G9 hx' ex),fun _=>.inr ⟨x,G9 hx' ex⟩⟩
def Br.dropped(b:Br n)(ha:AF n.names a=some no):Br (n.dropped a no):=by
 have etx:(n.dropped a no).texts=(AN n.texts no).map fun p=>(p.1,p.2.map (CM no a (-1))):=rfl;have mem_t:∀p∈(n.dropped a no).texts,∃q∈n.texts,q.1≠no/\p=(q.1,q.2.map (CM no a (-1))):=fun p hp=>by rw[etx] at hp;obtain⟨q,hq,e⟩:=BP.mp hp;exact⟨q,(Du hq).1,(Du hq).2,e.symm⟩
 refine⟨DK b.CW,ND b.inj,by rw[etx,Bf];exact DK b.Cf,fun p hp=>?_,fun p hp=>?_,fun p hp=>?_,fun p hp w hw=>?_⟩
 ·obtain⟨h1,h2⟩:=Du hp;obtain⟨ws,hw⟩:=b.tx p h1;have hne:p.2≠no:=fun z=>h2 (KS b.inj (show(p.1,no)∈n.names by rw[<-z];exact h1) (BL ha));have:AF (n.dropped a no).texts p.2=(AF (AN n.texts no) p.2).map (List.map (CM no a (-1))):=NS _ _ _;rw[this,EH hne,hw];exact⟨_,rfl⟩
 ·obtain⟨q,hq,hne,rfl⟩:=mem_t p hp;obtain⟨nm,h⟩:=b.own q hq;refine⟨nm,G9 h fun z=>hne ?_⟩;have h1:=FF b.CW h;have z':nm=a:=z;rw[z',ha] at h1;exact(Ai h1).symm
 ·obtain⟨q,hq,_,rfl⟩:=mem_t p hp;exact b.lt q hq
 ·obtain⟨q,hq,_,rfl⟩:=mem_t p hp;obtain⟨w0,h0',rfl⟩:=BP.mp hw;exact(WJ b ha (b.wd q hq w0 h0')).2
def jj(b:Br n)(ha:AF n.names a=some no):vw (n.dropped a no)=AN (vw n) a:=by
 refine M3 ?_ (by rw[D7];exact DK b.CW) fun k hk=>?_
 ·rw[D7,LO,D7];exact LO ..
 ·rw[FJ];show(AF (AN n.names a) k).map _=_;by_cases z:k=a
  ·rw[z,JD,JD];rfl
  ·rw[EH z,EH z,FJ]
   cases e:AF n.names k with
   |none=>rfl
   |some m=>
    obtain⟨ws,h1,h2⟩:=b.text e;have hne:m≠no:=fun y=>z ((b.same ha e).mp y);have e2:AF (n.dropped a no).texts m=some (ws.map (CM no a (-1))):=by have:AF (n.dropped a no).texts m=(AF (AN n.texts no) m).map (List.map (CM no a (-1))):=NS _ _ _;rw[this,EH hne,h1];rfl
    have:=TR (n':=n.dropped a no) (h:=id) h1 e2 fun w hw=>(WJ b ha (h2 w hw)).1;show some (Al (n.dropped a no) m)=some (Al n m);rw[this,KC]
end
section
variable{a o:Str}{no2:Int}{w1 w2:List Wd}
def Wb(b:Br n)(ha:AF n.names a=some no)(ho:AF n.names o=some no2)(hne:a≠o){w:Wd}(ok:El n.names w):sh (AN n.names o) (CM no2 "" no w)=Jl o a (sh n.names w)/\El (AN n.names o) (CM no2 "" no w):=by
 have inj':=ND (k:=o) b.inj;have hin:(a,no)∈AN n.names o:=G9 (BL ha) hne;have hpos:=b.Ff (BL ha);have hpos2:=b.Ff (BL ho);obtain⟨t,nm,m⟩:=w;unfold CM
 cases t with
 |false=>rw[AG (fun z=>by cases z.1)];exact⟨by rw[Hy rfl,Hy rfl,Yj],fun z=>by cases z⟩
 |true=>
  rcases ok rfl with⟨hl,hnm⟩|⟨x,hx⟩
  ·have hl':m= -1:=hl;have hnm':AF n.names nm=none:=hnm;have nno:nm≠o:=fun z=>by rw[z,ho] at hnm';cases hnm'
   rw[AG (fun z=>by have h2:m=no2:=z.2;lia)];exact⟨by rw[GU rfl hl,GU rfl hl,PB nno],fun _=>.inl ⟨hl,Mx hnm⟩⟩
  ·have hx':(x,m)∈n.names:=hx;have hn:m≠-1:=by have:=b.Ff hx';lia
   rw[Ez b.inj (w:=⟨true,nm,m⟩) rfl hn hx'];by_cases e:m=no2
   ·rw[AH ⟨rfl,e⟩];have ex:x=o:=KS b.inj (by rw[<-e];exact hx') (BL ho);rw[ex,Z1];exact⟨Ez inj' (w:=⟨true,"",no⟩) rfl (by show no≠-1;lia) hin,fun _=>.inr ⟨a,hin⟩⟩
   ·rw[AG (fun z=>e z.2)];have ex:x≠o:=fun z=>by have h1:=FF b.CW hx';rw[z,ho] at h1;exact e (Ai h1).symm
    rw[PB ex];exact⟨Ez inj' (w:=⟨true,nm,m⟩) rfl hn (G9 hx' ex),fun _=>.inr ⟨x,G9 hx' ex⟩⟩
def SR(m:Int):AF (n.joined no o no2 w1 w2).texts m=((if m=no then some (w1++w2) else AF (AN n.texts no2) m):Option (List Wd)).map (List.map (CM no2 "" no)):=by show AF (Nk.Ip _ (CM no2 "" no)).texts m=_;rw[NS];show(AF (AV (AN n.texts no2) no (w1++w2)) m).map _=_;rw[Cu]
def Br.joined(b:Br n)(ha:AF n.names a=some no)(ho:AF n.names o=some no2)(hne:a≠o)(h1:AF n.texts no=some w1)(h2:AF n.texts no2=some w2):Br (n.joined no o no2 w1 w2):=by
 have nn:no≠no2:=fun z=>hne ((b.same ho ha).mp z);have etx:(n.joined no o no2 w1 w2).texts=(AV (AN n.texts no2) no (w1++w2)).map fun p=>(p.1,p.2.map (CM no2 "" no)):=rfl;have mem_t:∀p∈(n.joined no o no2 w1 w2).texts,∃q,((q∈n.texts/\q.1≠no2)\/q=(no,w1++w2))/\p=(q.1,q.2.map (CM no2 "" no)):=fun p hp=>by
  rw[etx] at hp;obtain⟨q,hq,e⟩:=BP.mp hp;refine⟨q,?_,e.symm⟩;rcases Ie hq with z|z
  ·exact .inl (Du z)
  ·exact .inr z
 refine⟨DK b.CW,ND b.inj,by rw[etx,Bf];exact EL (DK b.Cf),fun p hp=>?_,fun p hp=>?_,fun p hp=>?_,fun p hp w hw=>?_⟩
 ·obtain⟨g1,g2⟩:=Du hp;obtain⟨ws,hw⟩:=b.tx p g1;rw[SR];by_cases z:p.2=no
  ·rw[AH z];exact⟨_,rfl⟩
  ·have hne2:p.2≠no2:=fun z=>g2 (KS b.inj (show(p.1,no2)∈n.names by rw[<-z];exact g1) (BL ho));rw[AG z,EH hne2,hw];exact⟨_,rfl⟩
 ·obtain⟨q,hq,rfl⟩:=mem_t p hp;rcases hq with⟨hq,hq2⟩|rfl
  ·obtain⟨nm,h⟩:=b.own q hq;refine⟨nm,G9 h fun z=>hq2 ?_⟩;have g1:=FF b.CW h;have z':nm=o:=z;rw[z',ho] at g1;exact(Ai g1).symm
  ·exact⟨a,G9 (BL ha) hne⟩
 ·obtain⟨q,hq,rfl⟩:=mem_t p hp;rcases hq with⟨hq,_⟩|rfl
  ·exact b.lt q hq
  ·exact b.Ff (BL ha)
 ·obtain⟨q,hq,rfl⟩:=mem_t p hp;obtain⟨w0,h0',rfl⟩:=BP.mp hw;refine(Wb b ha ho hne ?_).2;rcases hq with⟨hq,_⟩|rfl
  ·exact b.wd q hq w0 h0'
  ·rcases Bk.mp h0' with z|z
   ·exact b.wd _ (BL h1) w0 z
   ·exact b.wd _ (BL h2) w0 z
def j4(b:Br n)(ha:AF n.names a=some no)(ho:AF n.names o=some no2)(hne:a≠o)(h1:AF n.texts no=some w1)(h2:AF n.texts no2=some w2):
 vw (n.joined no o no2 w1 w2)=DE (AV (AN (vw n) o) a (Al n no++Al n no2)) o a:=by
 have hk0:(vw n).map (·.1)=n.names.map (·.1):=D7 n;have okAll:∀ws:List Wd,(∀w∈ws,El n.names w)->(ws.map (CM no2 "" no)).map (sh (AN n.names o))=(ws.map (sh n.names)).map (Jl o a):=fun ws h=>by rw[Bf,Bf];exact EF fun w hw=>(Wb b ha ho hne (h w hw)).1
 refine M3 ?_ (by rw[D7];exact DK b.CW) fun k hk=>?_
 ·rw[D7,PN,KH,LO,hk0,AH]
  ·exact LO ..
  ·exact IW.mpr ⟨S9 ha,by simpa using hne⟩
 ·rw[FJ,Ti,Cu];show(AF (AN n.names o) k).map _=_;by_cases z:k=o
  ·rw[z,JD,AG hne.symm,JD];rfl
  ·rw[EH z];by_cases y:k=a
   ·rw[AH y,y,ha];show some (((AF (n.joined no o no2 w1 w2).texts no).getD []).map (sh (AN n.names o)))=some (CO _ o a);rw[SR,AH rfl,Sb];show some (((w1++w2).map (CM no2 "" no)).map (sh (AN n.names o)))=_;rw[okAll _ fun w hw=>by
     rcases Bk.mp hw with z|z
     ·exact b.wd _ (BL h1) w z
     ·exact b.wd _ (BL h2) w z];unfold Al;rw[h1,h2,A8];rfl
   ·rw[AG y,EH z,FJ]
    cases e:AF n.names k with
    |none=>rfl
    |some m=>obtain⟨ws,g1,g2⟩:=b.text e;have m1:m≠no:=fun q=>y ((b.same ha e).mp q);have m2:m≠no2:=fun q=>z ((b.same ho e).mp q);show some (((AF (n.joined no o no2 w1 w2).texts m).getD []).map (sh (AN n.names o)))=some (CO (Al n m) o a);rw[SR,AG m1,EH m2,g1,Sb];show some ((ws.map (CM no2 "" no)).map (sh (AN n.names o)))=_;rw[okAll ws g2];unfold Al;rw[g1];rfl
end
def Nk.wrote(n:Nk)(a t:Str):Nk:=match AF n.names a with
 |some no=>n.Cm no (Ge n.names t)
 |none=>(n.added a).Cm n.made (Ge (n.added a).names t)
def Nk.IG(n:Nk)(no:Int)(k:Nat)(o:Str):Nk:=((n.added o).Cm n.made (((AF (n.added o).texts no).getD []).drop k)).Cm no (((AF (n.added o).texts no).getD []).take k++[⟨true,o,n.made⟩])
def str_list{a b:Str}:a=b↔a.cps.toList=b.cps.toList:=⟨fun h=>by rw[h],fun h=>Vi h⟩
def V4(l:List Nat)(a:Nat):∀m,(List.range m).filterMap (fun k=>l[a+k]?)=(l.drop a).take m
 |0=>by simp
 |m+1=>by rw[List.range_succ,List.filterMap_append,V4 l a m,List.take_succ,Jv];congr 1
def slice_list(x:Str)(l u:Option Int)(lo hi:Nat)(hl:lo<=x.length)(hu:hi<=x.length)
 (DI:Builtin.Str.strSliceIndices l u 1 x.length=sliceRange (lo:Int) (hi:Int) 1):(Txt.slice x l u).cps.toList=(x.cps.toList.drop lo).take (hi-lo):=by
 have hn:x.cps.toList.length=x.length:=by simp[Str.length]
 have idx:Builtin.Str.strSliceIndices l u 1 x.length=(List.range (hi-lo)).map fun k=>lo+k:=by
  rw[DI];unfold sliceRange;simp only[show(1:Int)>0 by decide,CH];have ec:((if(lo:Int)<(hi:Int) then((hi:Int)-lo+1-1)/1 else 0):Int).toNat=hi-lo:=by split<;>lia
  rw[ec];refine EF fun k _=>?_;show((lo:Int)+1*(k:Int)).toNat=lo+k
  lia
 unfold Txt.slice;rw[idx];split
 ·rename_i h;have:hi-lo=x.length:=by simpa using h
  have h0:lo=0:=by lia
  rw[h0,Mp,Fj (by lia)]
 ·show(((List.range (hi-lo)).map fun k=>lo+k).filterMap fun i=>x.cps[i]?)=_;rw[List.filterMap_map];have:=V4 x.cps.toList lo (hi-lo);rw[<-this];have ef:((fun i=>x.cps[i]?)∘fun k=>lo+k)=fun k=>x.cps.toList[lo+k]? :=funext fun k=>by show x.cps[lo+k]? =_;rw[GB]
  rw[ef]
def Rw(x:Str):(Txt.slice x none (some 1)).cps.toList=x.cps.toList.take 1:=by
 have:=slice_list x none (some 1) 0 (min 1 x.length) (CG _) (Nat.min_le_right ..) (by
  unfold Builtin.Str.strSliceIndices;simp only[show(1:Int)>0 by decide,CH,show¬(1:Int)<0 by decide,Bs];congr 1
  lia);rw[this,Mp];have hn:x.cps.toList.length=x.length:=by simp[Str.length]
 by_cases h:1<=x.length
 ·rw[show min 1 x.length-0=1 by lia]
 ·rw[Fj (by lia),Fj (by lia)]
def RI(x:Str):(Txt.slice x (some (-1)) none).cps.toList=x.cps.toList.drop (x.length-1):=by
 have:=slice_list x (some (-1)) none (x.length-1) x.length (by lia) (Ad _) (by
  unfold Builtin.Str.strSliceIndices;simp only[show(1:Int)>0 by decide,CH,show(-1:Int)<0 by decide];congr 1
  lia);rw[this];have hn:x.cps.toList.length=x.length:=by simp[Str.length]
 rw[Fj (by rw[C9];lia)]
def Vj(x:Str):(Txt.slice x (some 1) (some (-1))).cps.toList=(x.cps.toList.drop 1).take (x.length-2):=by
 have:=slice_list x (some 1) (some (-1)) (min 1 x.length) (x.length-1) (Nat.min_le_right ..) (by lia) (by unfold Builtin.Str.strSliceIndices;simp only[show(1:Int)>0 by decide,CH,show(-1:Int)<0 by decide,show¬(1:Int)<0 by decide,Bs];congr 1<;>lia);rw[this];have hn:x.cps.toList.length=x.length:=by simp[Str.length]
 by_cases h:1<=x.length
 ·rw[show min 1 x.length=1 by lia,show x.length-1-1=x.length-2 by lia]
 ·rw[show x.length-1-min 1 x.length=0 by lia,show x.length-2=0 by lia];simp
def KR:("[" :Str).cps.toList=[91]:=by left
def KY:("]" :Str).cps.toList=[93]:=by left
def LX(a b:Str):(a++b).cps.toList=a.cps.toList++b.cps.toList:=by show(a.cps++b.cps).toList=_;rw[GF]
def Ry(x:Str):decide (V.str (Txt.slice x none (some 1))=V.str "[")=Txt.startswith x "[" :=by
 have hn:x.cps.toList.length=x.length:=by simp[Str.length]
 have l1:("[" :Str).length=1:=by left
 have e1:(V.str (Txt.slice x none (some 1))=V.str "[")↔x.cps.toList.take 1=[91]:=by rw[V.str.injEq,str_list,Rw,KR]
 have e2:Txt.startswith x "[" =true↔x.cps.toList.take 1=[91]:=by
  unfold Txt.startswith Builtin.Str.subAt;rw[l1,D6,OX,FE,<-J0,KR,VR];constructor
  ·intro h;have:=h.2;simpa[U8] using this
  ·intro h;refine⟨?_,by simpa[U8] using h⟩;have:=BJ List.length h;rw[Bc,hn] at this;have t2:min 1 x.length=1:=this
   lia
 cases e:Txt.startswith x "[" with
 |true=>exact BW (e1.mpr (e2.mp e))
 |false=>exact BO fun z=>by rw[e2.mpr (e1.mp z)] at e;cases e
def Sy(x:Str):decide (V.str (Txt.slice x (some (-1)) none)=V.str "]")=Txt.endswith x "]" :=by
 have hn:x.cps.toList.length=x.length:=by simp[Str.length]
 have l1:("]" :Str).length=1:=by left
 have e1:(V.str (Txt.slice x (some (-1)) none)=V.str "]")↔x.cps.toList.drop (x.length-1)=[93]:=by rw[V.str.injEq,str_list,RI,KY]
 have e2:Txt.endswith x "]" =true↔x.cps.toList.drop (x.length-1)=[93]:=by
  unfold Txt.endswith Builtin.Str.subAt;rw[l1,D6,OX,FE,<-J0,KY,VR];have et:∀h:1<=x.length,List.extract x.cps.toList (x.length-1) (x.length-1+1)=x.cps.toList.drop (x.length-1):=fun h=>by rw[U8,Fj (by rw[C9];lia)]
  constructor
  ·intro h;rw[<-et (by lia)];exact h.2
  ·intro h;have h1:1<=x.length:=by
    have:=BJ List.length h;rw[C9,hn] at this;have t2:x.length-(x.length-1)=1:=this
    lia
   exact⟨by lia,by rw[et h1];exact h⟩
 cases e:Txt.endswith x "]" with
 |true=>exact BW (e1.mpr (e2.mp e))
 |false=>exact BO fun z=>by rw[e2.mpr (e1.mp z)] at e;cases e
def Pf(z:Str):DN z=isNm z:=by
 unfold DN isNm;congr 1;generalize z.cps.toList=l
 induction l with
 |nil=>rfl
 |cons c l ih=>
  have hb:E9 c= !D1 c:=by unfold E9 D1;rw[Bool.not_or]
  rw[LD,hb,<-ih]
  cases e:D1 c with
  |true=>rw[Fi e];rfl
  |false=>rw[F8 (by simp[e])];rfl
def W0(p:Str):IF p=ET p:=by unfold IF ET;rw[Ry,Sy,Pf];rfl
def WD(x:Str):Txt.slice ("[" ++x++ "]") (some 1) (some (-1))=x:=by
 rw[str_list,Vj,LX,LX,KR,KY];have hn:x.cps.toList.length=x.length:=by simp[Str.length]
 have hl:("[" ++x++ "]" :Str).length=x.length+2:=by
  have:("[" ++x++ "]" :Str).cps.toList.length=("[" ++x++ "]" :Str).length:=by simp[Str.length]
  rw[<-this,LX,LX,KR,KY];simp;omega
 rw[hl,Bb];show((x.cps.toList++[93]).take (x.length+2-2))=_;rw[List.take_append_of_le_length (by lia),Fj (by lia)]
def WI(inj:(names.map (·.2)).Nodup)(pos:∀p∈names,0<=p.2)(t:Str):(Ge names t).map (sh names)=EI t/\∀w∈Ge names t,El names w:=by
 have one:∀p:Str,(EA names p=none/\p="")\/∃w,EA names p=some w/\p≠ "" /\sh names w=C6 p/\El names w:=fun p=>by
  unfold EA;by_cases hp:IF p=true
  ·rw[AH hp];refine .inr ⟨_,rfl,fun z=>?_,?_,fun _=>?_⟩
   ·rw[z] at hp;exact absurd hp (by left)
   ·have hp':ET p=true:=by rw[<-W0];exact hp
    have er:C6 p=(("to" :Str),inner p):=by unfold C6;rw[AH hp'];rfl
    rw[er]
    cases e:AF names (inner p) with
    |none=>exact GU (w:=⟨true,inner p,-1⟩) rfl rfl
    |some no=>have hm:=BL e;have:=pos _ hm;exact Ez inj (w:=⟨true,inner p,no⟩) rfl (by show no≠-1;have t2:(0:Int)<=no:=this;lia) hm
   ·cases e:AF names (inner p) with
    |none=>exact .inl ⟨rfl,rfl⟩
    |some no=>exact .inr ⟨inner p,BL e⟩
  ·rw[AG hp];by_cases he:p=""
   ·rw[AH he];exact .inl ⟨rfl,he⟩
   ·rw[AG he];refine .inr ⟨_,rfl,he,?_,fun z=>by cases z⟩;have hp':¬ET p=true:=by rw[<-W0];exact hp
    have er:C6 p=(("word" :Str),p):=by unfold C6;rw[AG hp']
    rw[er];exact Hy rfl
 unfold Ge EI CY;generalize Txt.split t " " =L
 induction L with
 |nil=>exact⟨rfl,fun w hw=>by cases hw⟩
 |cons p L ih=>
  obtain⟨ih1,ih2⟩:=ih;rcases one p with⟨e1,e2⟩|⟨w,e1,e2,e3,e4⟩
  ·rw[List.filterMap_cons_none e1,F8 (by simp[e2])];exact⟨ih1,ih2⟩
  ·rw[List.filterMap_cons_some e1,Fi (by simp[e2]),Ay,Ay,ih1,e3];refine⟨rfl,fun w' hw'=>?_⟩;rcases Be.mp hw' with z|z
   ·rw[z];exact e4
   ·exact ih2 w' z
def wl(n:Nk):Prop:=∀p∈n.texts,∀w∈p.2,w.nm.length<=1000
structure Bd(n:Nk):Prop where
 b:Br n
 h0:0<=n.made
 nm:∀p∈n.names,p.1.length<=40
 wl:wl n
def X2(o:Str)(no:Int)(w:Wd):(CN o no w).nm=w.nm:=by unfold CN;split<;>rfl
def X7{other:Int}{nm:Str}{w:Wd}(h1:nm.length<=1000)(h2:w.nm.length<=1000):(CM no nm other w).nm.length<=1000:=by
 unfold CM;split
 ·exact h1
 ·exact h2
def Pn{g:Wd->Wd}(h:wl n)(hg:∀w,w.nm.length<=1000->(g w).nm.length<=1000):wl (n.Ip g):=fun p hp w hw=>by obtain⟨q,hq,rfl⟩:=BP.mp hp;obtain⟨w0,h0,rfl⟩:=BP.mp hw;exact hg w0 (h q hq w0 h0)
def Th{ws:List Wd}(h:wl n)(hw:∀w∈ws,w.nm.length<=1000):wl {n with texts:=AV n.texts no ws}:=fun p hp w hw'=>by
 rcases Ie hp with e|e
 ·exact h p e w hw'
 ·rw[e] at hw';exact hw w hw'
def YY(h:wl n):wl {n with texts:=AN n.texts no}:=fun p hp w hw'=>h p (Du hp).1 w hw'
def WS{t:Str}(ht:t.length<=1000):∀w∈Ge names t,w.nm.length<=1000:=fun w hw=>by
 unfold Ge at hw;obtain⟨p,hp,e⟩:=Qz.mp hw;have h1:=Ve t p hp;unfold EA at e;split at e
 ·cases Ai e;have:=Oo p (some 1) (some (-1));show(inner p).length<=1000;unfold inner
  lia
 ·split at e
  ·cases e
  ·cases Ai e;show p.length<=1000
   lia
def Bd.added{n:Nk}{o:Str}(h:Bd n)(ho:AF n.names o=none)(hl:o.length<=40):Bd (n.added o):=by
 refine⟨h.b.added h.h0 ho,by show 0<=n.made+1;have:=h.h0;lia,fun p hp=>?_,Pn (Th (n:={n with made:=n.made+1}) h.wl (fun w hw=>by cases hw)) fun w hw=>by rw[X2];exact hw⟩;rw[Oq ho] at hp;rcases Bk.mp hp with e|e
 ·exact h.nm p e
 ·rw[Bj.mp e];exact hl
def Bd.Cm{n:Nk}{a:Str}{no:Int}{ws:List Wd}(h:Bd n)(ha:AF n.names a=some no)(ok:∀w∈ws,El n.names w)(hw:∀w∈ws,w.nm.length<=1000):Bd (n.Cm no ws):=
 ⟨h.b.Cm ha ok,h.h0,h.nm,Th h.wl hw⟩
noncomputable def Am.asks:Am->Bool
 |.text _=>true
 |.back _=>true
 |.find _ _=>true
 |_=>false
def A2(n:Nk)(a:Str):Int:=(AF n.names a).getD 0
def CC(n:Nk)(no:Int):List Wd:=(AF n.texts no).getD []
def Pw(n:Nk):Am->Nk
 |.write a t=>n.wrote a t
 |.rename a o=>n.renamed a o (A2 n a)
 |.join a o=>n.joined (A2 n a) o (A2 n o) (CC n (A2 n a)) (CC n (A2 n o))
 |.cut a p o=>n.IG (A2 n a) p.toNat o
 |.drop a=>n.dropped a (A2 n a)
 |_=>n
def HX(n:Nk)(x:Am):Nk:=if x.asks=true then n else if BX n x="" then Pw n x else n
def gQ{a t:Str}(h:Bd n)(hl:a.length<=40)(ht:t.length<=1000):Bd (n.wrote a t)/\vw (n.wrote a t)=AV (vw n) a (EI t):=by
 have pos:∀{m:Nk},Bd m->∀p∈m.names,0<=p.2:=fun hm p hp=>(hm.b.Ff (nm:=p.1) (no:=p.2) hp).1;unfold Nk.wrote
 cases e:AF n.names a with
 |some no=>obtain⟨p1,p2⟩:=WI h.b.inj (pos h) t;exact⟨h.Cm e p2 (WS ht),by rw[Pj h.b e,p1]⟩
 |none=>
  have h':=h.added e hl;have e2:AF (n.added a).names a=some n.made:=by show AF (AV n.names a n.made) a=_;rw[Cu,AH rfl]
  obtain⟨p1,p2⟩:=WI h'.b.inj (pos h') t;refine⟨h'.Cm e2 p2 (WS ht),?_⟩;show vw ((n.added a).Cm n.made _)=_;rw[Pj h'.b e2,p1,Wz h.b h.h0 e,Yp (by rw[D7];exact h.b.CW)]
def lr{a o:Str}(h:Bd n)(ha:AF n.names a=some no)(ho:AF n.names o=none)(hl:o.length<=40):
 Bd (n.IG no k o)/\vw (n.IG no k o)=AV (AV (vw n) o ((Al n no).drop k)) a ((Al n no).take k++[(("to" :Str),o)]):=by
 have h1:=h.added ho hl;have em:AF (n.added o).names o=some n.made:=by show AF (AV n.names o n.made) o=_;rw[Cu,AH rfl]
 have hne:a≠o:=fun z=>by rw[z,ho] at ha;cases ha
 have ea:AF (n.added o).names a=some no:=by show AF (AV n.names o n.made) a=_;rw[Cu,AG hne];exact ha
 obtain⟨w0,hw0,ok0⟩:=h.b.text ha;obtain⟨ws,hw,ok⟩:=h1.b.text ea;have pg:Al n no=ws.map (sh (n.added o).names):=by rw[<-XX h.b h.h0 ho hw0];unfold Al;rw[hw];rfl
 have wl1:∀w∈ws,w.nm.length<=1000:=fun w hw'=>h1.wl _ (BL hw) w hw';unfold Nk.IG;rw[hw];show Bd (((n.added o).Cm n.made (ws.drop k)).Cm no (ws.take k++[⟨true,o,n.made⟩]))/\_;have h2:=h1.Cm (ws:=ws.drop k) em (fun w hw'=>ok w (I0 hw')) fun w hw'=>wl1 w (I0 hw');have ok3:∀w∈ws.take k++[(⟨true,o,n.made⟩:Wd)],El (n.added o).names w:=fun w hw'=>by
  rcases Bk.mp hw' with z|z
  ·exact ok w (Gv z)
  ·rw[Bj.mp z];exact fun _=>.inr ⟨o,BL em⟩
 have ea2:AF ((n.added o).Cm n.made (ws.drop k)).names a=some no:=ea;refine⟨h2.Cm ea2 ok3 fun w hw'=>?_,?_⟩
 ·rcases Bk.mp hw' with z|z
  ·exact wl1 w (Gv z)
  ·rw[Bj.mp z];show o.length<=1000
   lia
 ·show vw (((n.added o).Cm n.made (ws.drop k)).Cm no (ws.take k++[⟨true,o,n.made⟩]))=_;have sm:sh (n.added o).names ⟨true,o,n.made⟩=(("to" :Str),o):=Ez h1.b.inj (w:=⟨true,o,n.made⟩) rfl (by show n.made≠-1;have:=h.h0;lia) (BL em);rw[Pj h2.b ea2,Pj h1.b em,Wz h.b h.h0 ho,Yp (by rw[D7];exact h.b.CW)];show AV (AV (vw n) o ((ws.drop k).map (sh (n.added o).names))) a ((ws.take k++[(⟨true,o,n.made⟩:Wd)]).map (sh (n.added o).names))=_;rw[pg,A8,J8,J7];show AV _ a (_++[sh (n.added o).names (Wd.mk true o n.made)])=_;rw[sm]
def Bd.renamed{n:Nk}{a o:Str}{no:Int}(h:Bd n)(ha:AF n.names a=some no)(ho:AF n.names o=none)(hl:o.length<=40):Bd (n.renamed a o no):=by
 refine⟨h.b.renamed ha ho,h.h0,fun p hp=>?_,Pn (n:={n with names:=AV (AN n.names a) o no}) h.wl fun w hw=>by rw[X2];exact hw⟩;rw[Mw ho] at hp;rcases Bk.mp hp with e|e
 ·exact h.nm p (Du e).1
 ·rw[Bj.mp e];exact hl
def Bd.dropped{n:Nk}{a:Str}{no:Int}(h:Bd n)(ha:AF n.names a=some no):Bd (n.dropped a no):=
 ⟨h.b.dropped ha,h.h0,fun p hp=>h.nm p (Du hp).1,Pn (n:={n with names:=AN n.names a,texts:=AN n.texts no}) (YY (n:=n) h.wl) fun w hw=>X7 (by have:=h.nm _ (BL ha);dsimp only at this;lia) hw⟩
def Bd.joined{n:Nk}{a o:Str}{no no2:Int}{w1 w2:List Wd}(h:Bd n)(ha:AF n.names a=some no)(ho:AF n.names o=some no2)(hne:a≠o)(h1:AF n.texts no=some w1)(h2:AF n.texts no2=some w2):Bd (n.joined no o no2 w1 w2):=by
 refine⟨h.b.joined ha ho hne h1 h2,h.h0,fun p hp=>h.nm p (Du hp).1,Pn (Th (n:={n with names:=AN n.names o,texts:=AN n.texts no2}) (YY (n:=n) h.wl) fun w hw=>?_) fun w hw=>X7 (by left) hw⟩;rcases Bk.mp hw with z|z
 ·exact h.wl _ (BL h1) w z
 ·exact h.wl _ (BL h2) w z
def C3(s:Str):Rs->Prop
 |.no m=>s=m/\m≠ ""
 |.ok _ _=>s=""
 |.un _=>s=""
def Y3(n:Nk)(x:Am):C3 (BX n x) (D8 (vw n) x):=by
 have hg:=FJ n
 cases x with
 |write a t=>
  show C3 (if DN a=true then "" else "no name") (GY (vw n) a t);unfold GY;rw[Pf];by_cases e:isNm a=true
  ·rw[AH e,AH e];exact rfl
  ·rw[AG e,AG e];exact⟨rfl,by left⟩
 |rename a o=>
  show C3 (if AF n.names a=none then "no page" else if DN o=false then "no name" else if AF n.names o=none then "" else "taken") (GQ (vw n) a o);unfold GQ;rw[Pf,hg a]
  cases e:AF n.names a with
  |none=>rw[AH rfl];exact⟨rfl,by left⟩
  |some no=>
   rw[AG (by simp)];show C3 _ (if isNm o=true then _ else _)
   cases e2:isNm o with
   |false=>exact⟨rfl,by left⟩
   |true=>
    rw[AH rfl,AG (by simp),hg o]
    cases e3:AF n.names o with
    |none=>rw[AH rfl];exact rfl
    |some no2=>rw[AG (by simp)];exact⟨rfl,by left⟩
 |join a o=>
  show C3 (if AF n.names a=none then "no page" else if AF n.names o=none then "no page" else if a=o then "same page" else "") (EK (vw n) a o);unfold EK;rw[hg a]
  cases e:AF n.names a with
  |none=>rw[AH rfl];exact⟨rfl,by left⟩
  |some no=>
   rw[AG (by simp),hg o]
   cases e2:AF n.names o with
   |none=>rw[AH rfl];exact⟨rfl,by left⟩
   |some no2=>
    rw[AG (by simp)];show C3 _ (if a=o then _ else _);by_cases e3:a=o
    ·rw[AH e3,AH e3];exact⟨rfl,by left⟩
    ·rw[AG e3,AG e3];exact rfl
 |cut a p o=>
  show C3 (match AF n.names a with
   |none=>"no page"
   |some no=>if DN o=false then "no name" else if AF n.names o=none then(if p<0 then "no place" else if((AF n.texts no).getD []).length<p then "no place" else "") else "taken") (FR (vw n) a p o);unfold FR;rw[Pf,hg a]
  cases e:AF n.names a with
  |none=>exact⟨rfl,by left⟩
  |some no=>
   show C3 (if isNm o=false then _ else _) (if isNm o=true then _ else _)
   cases e2:isNm o with
   |false=>exact⟨rfl,by left⟩
   |true=>
    rw[AH rfl,AG (by simp),hg o]
    cases e3:AF n.names o with
    |some no2=>rw[AG (by simp)];exact⟨rfl,by left⟩
    |none=>
     rw[AH rfl];have hlen:(Al n no).length=((AF n.texts no).getD []).length:=by unfold Al;rw[AK]
     show C3 _ (if p<0\/((Al n no).length:Int)<p then _ else _);rw[hlen];by_cases c1:p<0
     ·rw[AH c1,AH (Aa c1)];exact⟨rfl,by left⟩
     ·by_cases c2:(((AF n.texts no).getD []).length:Int)<p
      ·rw[AG c1,AH c2,AH (Cv c2)];exact⟨rfl,by left⟩
      ·rw[AG c1,AG c2,AG (fun z=>Or.elim z c1 c2)];exact rfl
 |drop a=>
  show C3 (if AF n.names a=none then "no page" else "") (Gf (vw n) a);unfold Gf;rw[hg a]
  cases e:AF n.names a with
  |none=>rw[AH rfl];exact⟨rfl,by left⟩
  |some no=>rw[AG (by simp)];exact rfl
 |text a=>
  show C3 (if AF n.names a=none then "no page" else "") (Fu (vw n) a);unfold Fu;rw[hg a]
  cases e:AF n.names a with
  |none=>rw[AH rfl];exact⟨rfl,by left⟩
  |some no=>rw[AG (by simp)];exact rfl
 |back a=>exact rfl
 |find ws far=>
  show C3 (if ws=[] then "no words" else "") (if ws=[] then .no "no words" else .un (vw n));by_cases e:ws=[]
  ·rw[AH e,AH e];exact⟨rfl,by left⟩
  ·rw[AG e,AG e];exact rfl
def jf(h:Bd n){x:Am}(g:x.Good):Bd (HX n x)/\vw (HX n x)=(D8 (vw n) x).next (vw n):=by
 have br:=Y3 n x;have hg:=FJ n;unfold HX;by_cases ha:x.asks=true
 ·rw[AH ha];refine⟨h,?_⟩
  cases x with
  |text a=>show _=(Fu (vw n) a).next (vw n);unfold Fu;cases AF (vw n) a<;>rfl
  |back a=>rfl
  |find ws far=>show _=Rs.next (vw n) (if ws=[] then .no "no words" else .un (vw n));split<;>rfl
  |_=>cases ha
 ·rw[AG ha];by_cases hb:BX n x=""
  ·rw[AH hb];rw[hb] at br
   cases x with
   |write a t=>
    obtain⟨r1,r2⟩:=gQ (n:=n) (a:=a) (t:=t) h g.1 g.2;refine⟨r1,r2.trans ?_⟩;have br':C3 "" (GY (vw n) a t):=br;show _=(GY (vw n) a t).next (vw n);unfold GY at br'⊢;by_cases e:isNm a=true
    ·rw[AH e];rfl
    ·rw[AG e] at br';exact absurd br'.1.symm br'.2
   |rename a o=>
    have br':C3 "" (GQ (vw n) a o):=br;show Bd (n.renamed a o (A2 n a))/\vw (n.renamed a o (A2 n a))=(GQ (vw n) a o).next (vw n);unfold GQ A2 at*;rw[hg a] at br'⊢
    cases e:AF n.names a with
    |none=>rw[e] at br';exact absurd br'.1.symm br'.2
    |some no=>
     rw[e] at br';have br2:C3 "" (if isNm o=true then(match AF (vw n) o with|some _=>.no "taken" |none=>.ok (.int (L2.cnt (L2.renamed (vw n) a o (Al n no)) o)) (L2.renamed (vw n) a o (Al n no))) else .no "no name"):=br';show Bd (n.renamed a o no)/\vw (n.renamed a o no)=Rs.next (vw n) (if isNm o=true then(match AF (vw n) o with|some _=>.no "taken" |none=>.ok (.int (L2.cnt (L2.renamed (vw n) a o (Al n no)) o)) (L2.renamed (vw n) a o (Al n no))) else .no "no name");by_cases e2:isNm o=true
     ·rw[AH e2,hg o] at br2⊢
      cases e3:AF n.names o with
      |some no2=>rw[e3] at br2;exact absurd br2.1.symm br2.2
      |none=>exact⟨h.renamed e e3 g.2,lO h.b e e3⟩
     ·rw[AG e2] at br2;exact absurd br2.1.symm br2.2
   |join a o=>
    have br':C3 "" (EK (vw n) a o):=br;show Bd (n.joined (A2 n a) o (A2 n o) (CC n (A2 n a)) (CC n (A2 n o)))/\vw (n.joined (A2 n a) o (A2 n o) (CC n (A2 n a)) (CC n (A2 n o)))=(EK (vw n) a o).next (vw n);unfold EK at*;rw[hg a,hg o] at br'⊢;unfold A2
    cases e:AF n.names a with
    |none=>rw[e] at br';exact absurd br'.1.symm br'.2
    |some no=>
     cases e2:AF n.names o with
     |none=>rw[e,e2] at br';exact absurd br'.1.symm br'.2
     |some no2=>
      rw[e,e2] at br';have br2:C3 "" (if a=o then .no "same page" else .ok (.int (L2.cnt (L2.joined (vw n) a o (Al n no) (Al n no2)) a)) (L2.joined (vw n) a o (Al n no) (Al n no2))):=br';show Bd (n.joined no o no2 (CC n no) (CC n no2))/\vw (n.joined no o no2 (CC n no) (CC n no2))=Rs.next (vw n) (if a=o then .no "same page" else .ok (.int (L2.cnt (L2.joined (vw n) a o (Al n no) (Al n no2)) a)) (L2.joined (vw n) a o (Al n no) (Al n no2)));by_cases e3:a=o
      ·rw[AH e3] at br2;exact absurd br2.1.symm br2.2
      ·rw[AG e3];obtain⟨w1,h1,_⟩:=h.b.text e;obtain⟨w2,h2,_⟩:=h.b.text e2;unfold CC;rw[h1,h2];exact⟨h.joined e e2 e3 h1 h2,j4 h.b e e2 e3 h1 h2⟩
   |cut a p o=>
    have br':C3 "" (FR (vw n) a p o):=br;show Bd (n.IG (A2 n a) p.toNat o)/\vw (n.IG (A2 n a) p.toNat o)=(FR (vw n) a p o).next (vw n);unfold FR at*;rw[hg a,hg o] at br'⊢;unfold A2
    cases e:AF n.names a with
    |none=>rw[e] at br';exact absurd br'.1.symm br'.2
    |some no=>
     rw[e] at br';by_cases e2:isNm o=true
     ·cases e3:AF n.names o with
      |some no2=>rw[e3] at br';have br2:C3 "" (if isNm o=true then .no "taken" else .no "no name"):=br';rw[AH e2] at br2;exact absurd br2.1.symm br2.2
      |none=>
       rw[e3] at br';have br2:C3 "" (if isNm o=true then(if p<0\/((Al n no).length:Int)<p then .no "no place" else .ok (.int (((Al n no).drop p.toNat).length:Nat)) (cutAt (vw n) a o (Al n no) p.toNat)) else .no "no name"):=br';show Bd (n.IG no p.toNat o)/\vw (n.IG no p.toNat o)=Rs.next (vw n) (if isNm o=true then(if p<0\/((Al n no).length:Int)<p then .no "no place" else .ok (.int (((Al n no).drop p.toNat).length:Nat)) (cutAt (vw n) a o (Al n no) p.toNat)) else .no "no name");rw[AH e2] at br2⊢;by_cases c:p<0\/((Al n no).length:Int)<p
       ·rw[AH c] at br2;exact absurd br2.1.symm br2.2
       ·rw[AG c];exact lr h e e3 g.2
     ·cases e3:AF n.names o with
      |some no2=>rw[e3] at br';have br2:C3 "" (if isNm o=true then .no "taken" else .no "no name"):=br';rw[AG e2] at br2;exact absurd br2.1.symm br2.2
      |none=>rw[e3] at br';have br2:C3 "" (if isNm o=true then(if p<0\/((Al n no).length:Int)<p then .no "no place" else .ok (.int (((Al n no).drop p.toNat).length:Nat)) (cutAt (vw n) a o (Al n no) p.toNat)) else .no "no name"):=br';rw[AG e2] at br2;exact absurd br2.1.symm br2.2
   |drop a=>
    have br':C3 "" (Gf (vw n) a):=br;show Bd (n.dropped a (A2 n a))/\vw (n.dropped a (A2 n a))=(Gf (vw n) a).next (vw n);unfold Gf at*;rw[hg a] at br'⊢;unfold A2
    cases e:AF n.names a with
    |none=>rw[e] at br';exact absurd br'.1.symm br'.2
    |some no=>exact⟨h.dropped e,jj h.b e⟩
   |text a=>exact absurd rfl ha
   |back a=>exact absurd rfl ha
   |find ws far=>exact absurd rfl ha
  ·rw[AG hb];refine⟨h,?_⟩;generalize D8 (vw n) x=r at br
   cases r with
   |no m=>rfl
   |ok a b=>exact absurd br hb
   |un a=>exact absurd br hb
def chg(n:Nk):Am->Int
 |.write a t=>(Ge (n.wrote a t).names t).length
 |.rename a o=>(n.renamed a o (A2 n a)).led (A2 n a)
 |.join a o=>(n.joined (A2 n a) o (A2 n o) (CC n (A2 n a)) (CC n (A2 n o))).led (A2 n a)
 |.cut a p o=>((CC (n.added o) (A2 n a)).length:Int)-p
 |.drop a=>n.led (A2 n a)
 |_=>0
def WK:Sp:=fun vs H Q _=>∃(a:Ya)(d:V)(x:Am)(H0:Hp)(n:Nk),vs=[.ref a,d]/\Ce H0 H a n/\Fits n/\Bd n/\n.texts.length<1000/\n.names.length<1000/\Rep H0 x.dt d/\x.Good/\x.asks=false/\BX n x="" /\
 (∀a' o',x=.join a' o'->(CC n (A2 n a')++CC n (A2 n o')).length<=100000)/\∀H',Ce H0 H' a (Pw n x)->Q (.int (chg n x)) H'
def Fits.T3(h:Fits n)(a:Str):Fits {n with names:=AN n.names a}:=
 ⟨DK h.CW,h.Cf,BF (F9 _ _) h.names,h.texts,h.words⟩
def Fits.P1(h:Fits n)(no:Int):Fits {n with texts:=AN n.texts no}:=
 ⟨h.CW,DK h.Cf,h.names,BF (F9 _ _) h.texts,fun p hp=>h.words p (Du hp).1⟩
def Fits.named(h:Fits n)(o:Str)(no:Int)(hl:n.names.length<1000):Fits (n.named o no):=by have h1:Fits {n with names:=AV n.names o no}:=⟨EL h.CW,h.Cf,by show(AV n.names o no).length<=1000;have:=HK n.names o no;lia,h.texts,h.words⟩;exact h1.map
def Ce.ext{H0 H H':Hp}{a:Ya}{n:Nk}(h:Ce H0 H a n)(s:AQ H H'):Ce H0 H' a n:=by obtain⟨x,y,z,nk⟩:=h;exact⟨x,y,z,nk.ext s⟩
def V9(b:Br n):AF n.texts n.made=none:=by
 cases e:AF n.texts n.made with
 |none=>rfl
 |some ws=>have:=(b.lt _ (BL e)).2;dsimp only at this;lia
def PJ{x:Am}{a:Str}(h:BX n x="")(hx:(∃o,x=.rename a o)\/(∃o,x=.join a o)\/(∃p o,x=.cut a p o)\/x=.drop a):∃no,AF n.names a=some no:=by
 cases e:AF n.names a with
 |some no=>exact⟨no,rfl⟩
 |none=>
  exfalso;rcases hx with⟨o,rfl⟩|⟨o,rfl⟩|⟨p,o,rfl⟩|rfl
  ·have h':(if AF n.names a=none then("no page" :Str) else _)="" :=h;rw[e,AH rfl] at h';exact absurd h' (by left)
  ·have h':(if AF n.names a=none then("no page" :Str) else _)="" :=h;rw[e,AH rfl] at h';exact absurd h' (by left)
  ·simp only[BX,e] at h;exact absurd h (by left)
  ·have h':(if AF n.names a=none then("no page" :Str) else _)="" :=h;rw[e,AH rfl] at h';exact absurd h' (by left)
def KG:Az ["_law_nook","_law_deed","_law_name","_law_words","_law_number","_law_fresh","_law_many"] ["_law_nook","_law_deed"] (Ao SJ):=by left
def dZ{fNa fLe fTu:Ya}{fdNa fdLe fdTu:qo}(F:Aj K "_law_changed" "_law_changed" SJ f fd)(O:Own mg)
 (HAd:Hv P w K mg base "_law_added" 2 ["_law_nook","_law_name"] YW)
 (HPi:Hv P w K mg base "_law_penned_in" 2 ["_law_nook","_law_text"] Vt)
 (FNa:Aj K "_law_named" "_law_named" Nf fNa fdNa)(bNa:Binds K fdNa ["_law_nook","_law_name","_law_number"] [])(mNa:mg "_law_named" =some (.ref fNa))
 (FLe:Aj K "_law_led" "_law_led" Nw fLe fdLe)(bLe:Binds K fdLe ["_law_nook","_law_number"] [])(mLe:mg "_law_led" =some (.ref fLe))
 (HJo:Hv P w K mg base "_law_joined" 2 ["_law_nook","_law_number","_law_other"] Xq)
 (FTu:Aj K "_law_turned" "_law_turned" NJ fTu fdTu)(bTu:Binds K fdTu ["_law_nook","_law_number","_law_name","_law_other"] [])(mTu:mg "_law_turned" =some (.ref fTu)):
 AW P w K mg base Ah 3 f fd ["_law_nook","_law_deed"] WK:=by
 have GNa:AW P w K mg base Ah 1 fNa fdNa ["_law_nook","_law_name","_law_number"] Sw:=Wy FNa O;have GLe:AW P w K mg base Ah 1 fLe fdLe ["_law_nook","_law_number"] Tz:=ZJ FLe O;have GTu:AW P w K mg base Ah 1 fTu fdTu ["_law_nook","_law_number","_law_name","_law_other"] SO:=WG FTu O;refine F.ok KG ?_ ?_
 ·rintro _ _ _ _ ⟨_,_,_,_,_,rfl,_⟩;rfl
 ·rintro _ A _ s H _ Q E hr ⟨a,dv,x,H0,n,rfl,nk0,fit,bd,tl,nl,rd,gd,na,br,jl,q⟩;have hu1:=Ck hr;refine⟨_,(AS (Av (i:=2) KG.nd rfl (Aa rfl) (BA (pv 1))) (AS (A7 (Ax Ba (BA (pv 1)) AZ (Ar _))
   (AS (A7 (JT (O2 hu1 (pv 2) (CP hu1 (pv 0))))
   (AU (Bp (Cb HAd hr rfl A3 (AE (pv 0) (AE (pv 2) AI)))))
   BG) (AS (Av (i:=3) KG.nd rfl (Aa rfl) (Cb HPi hr rfl A3 (AE (pv 0) (AE (BA (pv 1)) AI)))) (AS (FH hu1 (CP hu1 (pv 0)) (Dx hu1 (CP hu1 (pv 0)) (pv 2) (fun _ _=>rfl)) (pv 3) rfl) (AU (An (BY E3 rfl O.len DB (AE (pv 3) AI)))))))
   BG) (AS (Av (i:=4) KG.nd rfl (Aa rfl) (Dx hu1 (CP hu1 (pv 0)) (pv 2) (fun _ _=>rfl))) (AS (A7 (Ax Ba (BA (pv 1)) AZ (Ar _))
   (AS (Bp (JJ (CP hu1 (pv 0)) (pv 2) ⟨rfl,rfl,rfl,rfl⟩)) (AS (Bp (CL GNa hr.mn rfl mNa FNa.kp bNa .nil A3 (AE (pv 0) (AE (BA (pv 1)) (AE (pv 4) AI))))) (AU (An (CL GLe hr.mn rfl mLe FLe.kp bLe .nil A3 (AE (pv 0) (AE (pv 4) AI)))))))
   BG) (AS (A7 (Ax Ba (BA (pv 1)) AZ (Ar _))
   (AU (An (Cb HJo hr rfl A3 (AE (pv 0) (AE (pv 4) (AE (BA (pv 1)) AI))))))
   BG) (AS (A7 (Ax Ba (BA (pv 1)) AZ (Ar _))
   (AS (Av (i:=5) KG.nd rfl (Aa rfl) (Cb HAd hr rfl A3 (AE (pv 0) (AE (BA (pv 1)) AI)))) (AS (Av (i:=3) KG.nd rfl (Aa rfl) (Dx hu1 (CP hu1 (pv 0)) (pv 4) (fun _ _=>rfl))) (AS (FH hu1 (CP hu1 (pv 0)) (pv 5) (Dr Io (pv 3) (C0 (BA (pv 1))) Fo) rfl) (AS (FH hu1 (CP hu1 (pv 0)) (pv 4) (Ag FK (Dr Io (pv 3) Fo (C0 (BA (pv 1)))) (Bu (AE (Bu (AE AZ (AE (BA (pv 1)) (AE (pv 5) AI)))) AI))) rfl) (AU (An (Ag Pq (BY E3 rfl O.len DB (AE (pv 3) AI)) (BA (pv 1)))))))))
   BG) (AS (Av (i:=6) KG.nd rfl (Aa rfl) (CL GLe hr.mn rfl mLe FLe.kp bLe .nil A3 (AE (pv 0) (AE (pv 4) AI)))) (AS (Bp (JJ (CP hu1 (pv 0)) (pv 4) ⟨rfl,rfl,rfl,rfl⟩)) (AS (Bp (JJ (CP hu1 (pv 0)) (pv 2) ⟨rfl,rfl,rfl,rfl⟩)) (AS (Bp (CL GTu hr.mn rfl mTu FTu.kp bTu .nil A3 (AE (pv 0) (AE (pv 4) (AE (pv 2) (AE (Eb Ea Ac) AI)))))) (AU (An (pv 6))))))))))))),?_⟩;obtain⟨an,at_,tx,nk⟩:=nk0;have sm:=nk.same;have no_eq:∀{p r:Str},p≠r->V.str p≠V.str r:=fun h z=>h (V.str.inj z)
  cases x with
  |write nm t=>
   obtain⟨d,xs,rfl,hd0,rs⟩:=B1 rd;obtain⟨u,v,x,rfl,r1,r2,r3⟩:=Ey rs;cases Bg r1;cases Bg r2;cases Bg r3;have hd:=sm _ _ hd0;refine⟨_,rfl,d,_,_,.str nm,rfl,rfl,AX.of hd,rfl,?_⟩;refine QY rfl hd ?_;refine⟨_,rfl,_,rfl,a,_,rfl,EY nk.ha,an,_,rfl,EZ nk.hn nm,_,rfl,?_⟩;rcases e:AF n.names nm with _|no;refine Bo ?_;refine⟨_,rfl,_,rfl,a,nm,H0,n,rfl,⟨an,at_,tx,nk⟩,fit,tl,V9 bd.b,fun H1 nk1=>?_⟩;have g1:AF (n.added nm).names nm=some n.made:=by show AF (AV n.names nm n.made) nm=_;rw[Cu,AH rfl]
   have e1:n.wrote nm t=(n.added nm).Cm n.made (Ge (n.added nm).names t):=by unfold Nk.wrote;rw[e]
   have Kz:(n.added nm).texts.length<=1000:=by
    show((AV n.texts n.made []).map _).length<=1000;rw[AK];have:=HK n.texts n.made []
    lia
   rotate_left
   refine BK ?_;have g1:=e;have e1:n.wrote nm t=n.Cm no (Ge n.names t):=by unfold Nk.wrote;rw[e]
   have nk1:Ce H0 H a n:=⟨an,at_,tx,nk⟩;have Kz:n.texts.length<=1000:=by lia
   all_goals
    obtain⟨an1,at1,tx1,k1⟩:=nk1;have hd1:=k1.same _ _ hd0;refine⟨_,rfl,_,rfl,d,_,_,.str t,rfl,rfl,AX.of hd1,rfl,a,t,H0,_,rfl,⟨an1,at1,tx1,k1⟩,gd.2,fun L ws H2 s2 hL hL2 pw=>?_⟩;have k2:=k1.ext s2;have htl:(CQ tx1).length<sizeLine:=by
     show(tx1.map _).length<_;rw[AK,k1.len,Aw]
     lia
    have dgn:=EZ k2.hn nm;rw[g1] at dgn;have dp:=fun no=>Dh.kq (k:=.inl no) (v:=.ref L) k2.ht htl;have e2:=fun no=>(KL (g:=fun p:Ya×List Ya=>V.ref p.1) FG no (L,ws) tx1:putK (CQ tx1) (.inl no) (.ref L)=CQ (AV tx1 no (L,ws)));simp only[e2] at dp;refine⟨_,rfl,_,rfl,a,_,rfl,Gz k2.ha,_,rfl,a,_,rfl,EY k2.ha,_,rfl,an1,_,rfl,dgn,at1,_,rfl,dp _,?_⟩;have k3:=fun no=>k2.Nz no (l:=L) (ws:=ws) (CY:=_) hL2 pw.len pw.at_ (fun w hw=>k1.same.free (pw.new w hw));have hL3:∀no,(upd H2 at1 (.dK (CQ (AV tx1 no (L,ws))))) L=some (.lst (ws.map V.ref)):=fun no=>by rw[AR (Ca hL2 k2.ht (by intro z;cases z))];exact hL2
    refine⟨_,rfl,L,_,rfl,.inl (AJ.of (hL3 _)),?_⟩;have q1:=q _ (by show Ce H0 _ a (n.wrote nm t);rw[e1];exact⟨an1,at1,_,k3 _⟩);have ec:chg n (.write nm t)=((ws.map V.ref).length:Nat):=by show((Ge (n.wrote nm t).names t).length:Int)=_;rw[e1,AK,pw.len];rfl
    rw[ec] at q1;exact q1
  |rename nm o=>
   obtain⟨d,xs,rfl,hd0,rs⟩:=B1 rd;obtain⟨u,v,x,rfl,r1,r2,r3⟩:=Ey rs;cases Bg r1;cases Bg r2;cases Bg r3;have hd:=sm _ _ hd0;obtain⟨no,e⟩:=PJ br (.inl ⟨o,rfl⟩);have eno:A2 n nm=no:=by unfold A2;rw[e];rfl
   have dgn:=EZ nk.hn nm;rw[e] at dgn;refine⟨_,rfl,d,_,_,.str nm,rfl,rfl,AX.of hd,rfl,?_⟩;refine IL rfl hd (by left) ?_;refine⟨_,rfl,a,_,rfl,EY nk.ha,_,rfl,an,_,rfl,dgn,?_⟩;refine QY rfl hd ?_;have v1:Bn (F5 n.names) (.inr nm)=some (.int no):=by rw[Et Fp,e];rfl
   refine⟨_,rfl,a,_,rfl,EY nk.ha,an,rfl,.inl ⟨_,.inl nk.hn⟩,_,rfl,_,.inr nm,_,nk.hn,rfl,v1,?_⟩;rw[LP Fp];have nk1:=nk.putN (AN n.names nm);generalize upd H an (.dK (F5 (AN n.names nm)))=H1 at nk1;have hd1:=nk1.same _ _ hd0;have nl1:(AN n.names nm).length<1000:=Nat.lt_of_le_of_lt (F9 _ _) nl;refine⟨_,rfl,_,rfl,d,_,_,.str o,rfl,rfl,AX.of hd1,rfl,_,rfl,a,o,no,H0,_,rfl,⟨an,at_,tx,nk1⟩,fit.T3 nm,fun H2 nk2=>?_⟩;refine⟨_,rfl,_,rfl,a,no,H0,_,rfl,nk2,(fit.T3 nm).named o no nl1,fun H3 s3=>?_⟩;have q1:=q H3 (by show Ce H0 H3 a (n.renamed nm o (A2 n nm));rw[eno];exact nk2.ext s3);have ec:chg n (.rename nm o)=((n.renamed nm o no).led no:Nat):=by show((n.renamed nm o (A2 n nm)).led (A2 n nm):Int)=_;rw[eno]
   rw[ec] at q1;exact q1
  |join nm o=>
   obtain⟨d,xs,rfl,hd0,rs⟩:=B1 rd;obtain⟨u,v,x,rfl,r1,r2,r3⟩:=Ey rs;cases Bg r1;cases Bg r2;cases Bg r3;have hd:=sm _ _ hd0;obtain⟨no,e⟩:=PJ br (.inr (.inl ⟨o,rfl⟩));have br':(if AF n.names nm=none then("no page" :Str) else if AF n.names o=none then "no page" else if nm=o then "same page" else "")="" :=br;rw[e,AG (by simp)] at br'
   cases e2:AF n.names o with
   |none=>rw[e2,AH rfl] at br';exact absurd br' (by left)
   |some no2=>
   rw[e2,AG (by simp)] at br';have hne:nm≠o:=fun z=>by rw[AH z] at br';exact absurd br' (by left)
   have eno:A2 n nm=no:=by unfold A2;rw[e];rfl
   have eno2:A2 n o=no2:=by unfold A2;rw[e2];rfl
   obtain⟨w1,h1,_⟩:=bd.b.text e;obtain⟨w2,h2,_⟩:=bd.b.text e2;have ew1:CC n no=w1:=by unfold CC;rw[h1];rfl
   have ew2:CC n no2=w2:=by unfold CC;rw[h2];rfl
   have nn:no≠no2:=fun z=>hne ((bd.b.same e2 e).mp z);have jl':=jl nm o rfl;rw[eno,eno2,ew1,ew2] at jl';have dgn:=EZ nk.hn nm;rw[e] at dgn;refine⟨_,rfl,d,_,_,.str nm,rfl,rfl,AX.of hd,rfl,?_⟩;refine IL rfl hd (by left) ?_;refine⟨_,rfl,a,_,rfl,EY nk.ha,_,rfl,an,_,rfl,dgn,?_⟩;refine IL rfl hd (by left) ?_;refine QY rfl hd ?_;refine⟨_,rfl,_,rfl,_,rfl,d,_,_,.str o,rfl,rfl,AX.of hd,rfl,a,no,o,H0,n,no2,w1,w2,rfl,⟨an,at_,tx,nk⟩,fit,e2,h1,h2,nn,jl',fun H2 nk2=>?_⟩;have es:Pw n (.join nm o)=n.joined no o no2 w1 w2:=by show n.joined (A2 n nm) o (A2 n o) (CC n (A2 n nm)) (CC n (A2 n o))=_;rw[eno,eno2,ew1,ew2]
   have q1:=q H2 (by rw[es];exact nk2);have ec:chg n (.join nm o)=((n.joined no o no2 w1 w2).led no:Nat):=by show((n.joined (A2 n nm) o (A2 n o) (CC n (A2 n nm)) (CC n (A2 n o))).led (A2 n nm):Int)=_;rw[eno,eno2,ew1,ew2]
   rw[ec] at q1;exact q1
  |cut nm p o=>
   obtain⟨d,xs,rfl,hd0,rs⟩:=B1 rd;obtain⟨u,v,x,y,rfl,r1,r2,r3,r4⟩:=Py rs;cases Bg r1;cases Bg r2;cases r3;cases Bg r4;have hd:=sm _ _ hd0;obtain⟨no,e⟩:=PJ br (.inr (.inr (.inl ⟨p,o,rfl⟩)));have eno:A2 n nm=no:=by unfold A2;rw[e];rfl
   obtain⟨w0,h0,_⟩:=bd.b.text e;have br':(if DN o=false then("no name" :Str) else if AF n.names o=none then(if p<0 then "no place" else if((w0.length:Nat):Int)<p then "no place" else "") else "taken")="" :=by have:=br;simp only[BX,e,h0] at this;exact this
   have hnm:¬DN o=false:=fun z=>by rw[AH z] at br';exact absurd br' (by left)
   rw[AG hnm] at br';have ho:AF n.names o=none:=by
    cases eo:AF n.names o with
    |none=>rfl
    |some z=>rw[eo,AG (by simp)] at br';exact absurd br' (by left)
   rw[AH ho] at br';have p0:¬p<0:=fun z=>by rw[AH z] at br';exact absurd br' (by left)
   rw[AG p0] at br';have p1:¬((w0.length:Nat):Int)<p:=fun z=>by rw[AH z] at br';exact absurd br' (by left)
   have dgn:=EZ nk.hn nm;rw[e] at dgn;refine⟨_,rfl,d,_,_,.str nm,rfl,rfl,AX.of hd,rfl,?_⟩;refine IL rfl hd (by left) ?_;refine⟨_,rfl,a,_,rfl,EY nk.ha,_,rfl,an,_,rfl,dgn,?_⟩;refine IL rfl hd (by left) ?_;refine IL rfl hd (by left) ?_;refine QY rfl hd ?_;refine⟨_,rfl,_,rfl,d,_,_,.str o,rfl,rfl,AX.of hd,rfl,a,o,H0,n,rfl,⟨an,at_,tx,nk⟩,fit,tl,V9 bd.b,fun H1 nk1=>?_⟩;obtain⟨an1,at1,tx1,k1⟩:=nk1;have hd1:=k1.same _ _ hd0;have bd1:=bd.b.added bd.h0 ho;have nno:no≠n.made:=by have:=(bd.b.Ff (BL e)).2;lia
   have hw:AF (n.added o).texts no=some (w0.map (CN o n.made)):=by rw[O3,AG nno,h0];rfl
   have wlen:(w0.map (CN o n.made)).length=w0.length:=AK .. ;generalize w0.map (CN o n.made)=ws at hw wlen;obtain⟨l1,ws1,g1,hl1,E6,at1',new1⟩:=k1.find bd1.Cf hw;have d1:BS H1 at1 (.int no) (some (.ref l1)):=by have:=BS.kq (k:=.inl no) k1.ht;rw[Et FG,g1] at this;exact this
   have c0:0<=p:=by lia
   have c1:p<=(ws1.map V.ref).length:=by rw[AK];lia
   have zl:ws1.length<=100000:=by
    have:=fit.words _ (BL h0);dsimp only at this
    lia
   have Kz:tx1.length<=1000:=by
    have h1:=k1.len;have h2:(n.added o).texts.length<=n.texts.length+1:=by show((AV n.texts n.made []).map _).length<=_;rw[AK];exact HK ..
    lia
   refine⟨_,rfl,a,_,rfl,Gz k1.ha,_,rfl,at1,_,rfl,d1,?_⟩;refine⟨_,rfl,_,rfl,d,_,_,.int p,rfl,rfl,AX.of hd1,rfl,_,rfl,l1,_,rfl,AJ.of hl1,fun l3 hl3=>?_⟩;rw[XB c0 c1,<-J8];have s3:=AY (o:=.lst ((ws1.drop p.toNat).map V.ref)) hl3;have k2:=k1.ext s3;have hl3':(upd H1 l3 (.lst ((ws1.drop p.toNat).map V.ref))) l3=some (.lst ((ws1.drop p.toNat).map V.ref)):=AM;have hl1':=s3 _ _ hl1;have at2:=fun j w wd (e1:ws1[j]? =some w)(e2:ws[j]? =some wd)=>s3 _ _ (at1' j w wd e1 e2);generalize upd H1 l3 (.lst ((ws1.drop p.toNat).map V.ref))=H2 at k2 hl3' hl1' at2;have dp:=Dh.kq (k:=.inl n.made) (v:=.ref l3) k2.ht (by show(tx1.map _).length<_;rw[AK,Aw];lia);have e3:putK (CQ tx1) (.inl n.made) (.ref l3)=CQ (AV tx1 n.made (l3,ws1.drop p.toNat)):=KL (g:=fun p:Ya×List Ya=>V.ref p.1) FG n.made (l3,ws1.drop p.toNat) tx1;rw[e3] at dp;refine⟨_,rfl,a,_,rfl,Gz k2.ha,_,rfl,at1,_,rfl,dp,?_⟩;have k3:=k2.Nz n.made (l:=l3) (ws:=ws1.drop p.toNat) (CY:=ws.drop p.toNat) hl3' (by rw[C9,C9,E6]) (fun j w wd f1 f2=>by
    rw[Jv] at f1 f2;exact at2 _ w wd f1 f2) (fun w hw'=>new1 w (I0 hw'));have keep:∀b xs,H2 b=some (.lst xs)->(upd H2 at1 (.dK (CQ (AV tx1 n.made (l3,ws1.drop p.toNat))))) b=some (.lst xs):=fun b xs f=>by
    rw[AR (Ca f k2.ht (by intro z;cases z))];exact f
   have hl3a:=keep _ _ hl1';have at3:=fun j w wd (e1:ws1[j]? =some w)(e2:ws[j]? =some wd)=>keep _ _ (at2 j w wd e1 e2);generalize upd H2 at1 (.dK (CQ (AV tx1 n.made (l3,ws1.drop p.toNat))))=H3 at k3 hl3a at3;have hd3:=k3.same _ _ hd0;refine⟨_,rfl,_,rfl,d,_,_,.int p,rfl,rfl,AX.of hd3,rfl,_,rfl,l1,_,rfl,AJ.of hl3a,fun l5 hl5=>?_⟩;rw[ZN c0 c1,<-J7];have s5:=AY (o:=.lst ((ws1.take p.toNat).map V.ref)) hl5;have h5:(upd H3 l5 (.lst ((ws1.take p.toNat).map V.ref))) l5=some (.lst ((ws1.take p.toNat).map V.ref)):=AM;generalize upd H3 l5 (.lst ((ws1.take p.toNat).map V.ref))=H5 at s5 h5;refine⟨_,rfl,d,_,_,.str o,rfl,rfl,AX.of (s5 _ _ hd3),rfl,_,rfl,by show 3<=sizeLine;decide,fun wq hwq=>⟨by show 1<=sizeLine;decide,fun l6 hl6=>?_⟩⟩;have s6:=AY (o:=.lst (⟨true,o,n.made⟩:Wd).vq) hwq;have h6:(upd H5 wq (.lst (⟨true,o,n.made⟩:Wd).vq)) wq=some (.lst (⟨true,o,n.made⟩:Wd).vq):=AM;have hq0:H0 wq=none:=k3.same.free (s5.free hwq);have hl6':(upd H5 wq (.lst (⟨true,o,n.made⟩:Wd).vq)) l6=none:=hl6;show∃_,_;have s7:=AY (o:=.lst [V.ref wq]) hl6';have h7:(upd (upd H5 wq (.lst (⟨true,o,n.made⟩:Wd).vq)) l6 (.lst [V.ref wq])) l6=some (.lst [V.ref wq]):=AM;refine⟨l5,l6,(ws1.take p.toNat).map V.ref,[V.ref wq],rfl,rfl,(s6.trans s7) _ _ h5,h7,by rw[AK,Bc,Aw,CK];lia,fun l8 hl8=>?_⟩;have s8:=AY (o:=.lst ((ws1.take p.toNat).map V.ref++[V.ref wq])) hl8;have s38:=s5.trans (s6.trans (s7.trans s8));have k8:=k3.ext s38;have h8:(upd (upd (upd H5 wq (.lst (⟨true,o,n.made⟩:Wd).vq)) l6 (.lst [V.ref wq])) l8 (.lst ((ws1.take p.toNat).map V.ref++[V.ref wq]))) l8=some (.lst ((ws1.take p.toNat).map V.ref++[V.ref wq])):=AM;have hq8:=(s7.trans s8) _ _ h6;have at8:=fun j w wd (e1:ws1[j]? =some w)(e2:ws[j]? =some wd)=>s38 _ _ (at3 j w wd e1 e2);have hl8a:=s38 _ _ hl3a;have dp8:=Dh.kq (k:=.inl no) (v:=.ref l8) k8.ht (by
    show((AV tx1 n.made (l3,ws1.drop p.toNat)).map _).length<_;rw[AK,Aw];have:=HK tx1 n.made (l3,ws1.drop p.toNat)
    lia);have e8:putK (CQ (AV tx1 n.made (l3,ws1.drop p.toNat))) (.inl no) (.ref l8)=CQ (AV (AV tx1 n.made (l3,ws1.drop p.toNat)) no (l8,ws1.take p.toNat++[wq])):=KL (g:=fun p:Ya×List Ya=>V.ref p.1) FG no (l8,ws1.take p.toNat++[wq]) _;rw[e8] at dp8;refine⟨_,rfl,a,_,rfl,Gz k8.ha,_,rfl,at1,_,rfl,dp8,?_⟩;have k9:=k8.Nz no (l:=l8) (ws:=ws1.take p.toNat++[wq]) (CY:=ws.take p.toNat++[⟨true,o,n.made⟩]) (by rw[A8];exact h8) (by rw[Au,Au,Bc,Bc,E6];rfl) (fun j w wd f1 f2=>by
    by_cases hj:j<(ws1.take p.toNat).length
    ·rw[C4 hj] at f1;rw[C4 (by rw[Bc] at hj⊢;lia)] at f2;rw[OV] at f1 f2;split at f1
     ·rename_i hjp;rw[AH hjp] at f2;exact at8 j w wd f1 f2
     ·cases f1
    ·have hj1:j<(ws1.take p.toNat++[wq]).length:=(BZ.mp f1).1;rw[Au,CK] at hj1;obtain rfl:j=(ws1.take p.toNat).length:=by lia
     have el:(ws1.take p.toNat).length=(ws.take p.toNat).length:=by rw[Bc,Bc,E6]
     rw[Cj (Ad _),EX] at f1;rw[Cj (by lia),el,EX] at f2;cases Ai f1;cases Ai f2;exact hq8) (fun w hw'=>(Bk.mp hw').elim (fun z=>new1 w (Gv z)) fun z=>by rw[Bj.mp z];exact hq0);have hd9:=k9.same _ _ hd0;have hl9:(upd (upd (upd (upd H5 wq (.lst (⟨true,o,n.made⟩:Wd).vq)) l6 (.lst [V.ref wq])) l8 (.lst ((ws1.take p.toNat).map V.ref++[V.ref wq]))) at1 (.dK (CQ (AV (AV tx1 n.made (l3,ws1.drop p.toNat)) no (l8,ws1.take p.toNat++[wq]))))) l1=some (.lst (ws1.map V.ref)):=by
    rw[AR (Ca hl8a k8.ht (by intro z;cases z))];exact hl8a
   refine⟨_,rfl,l1,_,rfl,.inl (AJ.of hl9),_,rfl,d,_,_,.int p,rfl,rfl,AX.of hd9,rfl,_,_,rfl,rfl,?_⟩;have ew:CC (n.added o) no=ws:=by unfold CC;rw[hw];rfl
   have es:Pw n (.cut nm p o)=((n.added o).Cm n.made (ws.drop p.toNat)).Cm no (ws.take p.toNat++[⟨true,o,n.made⟩]):=by show n.IG (A2 n nm) p.toNat o=_;rw[eno];unfold Nk.IG;rw[hw];rfl
   have q1:=q _ (by rw[es];exact⟨an1,at1,_,k9⟩);have ec:chg n (.cut nm p o)=(((ws1.map V.ref).length:Nat):Int)-p:=by show((CC (n.added o) (A2 n nm)).length:Int)-p=_;rw[eno,ew,AK,E6]
   rw[ec] at q1;exact q1
  |drop nm=>
   obtain⟨d,xs,rfl,hd0,rs⟩:=B1 rd;obtain⟨u,v,rfl,r1,r2⟩:=HW rs;cases Bg r1;cases Bg r2;have hd:=sm _ _ hd0;obtain⟨no,e⟩:=PJ br (.inr (.inr (.inr rfl)));have eno:A2 n nm=no:=by unfold A2;rw[e];rfl
   have dgn:=EZ nk.hn nm;rw[e] at dgn;obtain⟨w1,h1,_⟩:=bd.b.text e;refine⟨_,rfl,d,_,_,.str nm,rfl,rfl,AX.of hd,rfl,?_⟩;refine IL rfl hd (by left) ?_;refine⟨_,rfl,a,_,rfl,EY nk.ha,_,rfl,an,_,rfl,dgn,?_⟩;refine IL rfl hd (by left) ?_;refine IL rfl hd (by left) ?_;refine IL rfl hd (by left) ?_;refine⟨_,rfl,_,rfl,a,no,H0,n,rfl,⟨an,at_,tx,nk⟩,fit,fun H1 s1=>?_⟩;have nk1:=nk.ext s1;obtain⟨l1,ws1,g1,hl1,_⟩:=nk1.find fit.Cf h1;have v2:Bn (CQ tx) (.inl no)=some (.ref l1):=by rw[Et FG,g1];rfl
   refine⟨_,rfl,a,_,rfl,Gz nk1.ha,at_,rfl,.inl ⟨_,.inl nk1.ht⟩,_,rfl,_,.inl no,_,nk1.ht,rfl,v2,?_⟩;rw[LP FG];have nk2:=nk1.P1 no;generalize upd H1 at_ (.dK (CQ (AN tx no)))=H2 at nk2;have v1:Bn (F5 n.names) (.inr nm)=some (.int no):=by rw[Et Fp,e];rfl
   refine⟨_,rfl,a,_,rfl,EY nk2.ha,an,rfl,.inl ⟨_,.inl nk2.hn⟩,_,rfl,_,.inr nm,_,nk2.hn,rfl,v1,?_⟩;rw[LP Fp];have nk3:=nk2.putN (AN n.names nm);generalize upd H2 an (.dK (F5 (AN n.names nm)))=H3 at nk3;refine⟨_,rfl,_,rfl,_,rfl,_,rfl,a,no,nm,-1,H0,_,rfl,⟨an,at_,_,nk3⟩,(fit.P1 no).T3 nm,fun H4 nk4=>⟨_,rfl,?_⟩⟩;have q1:=q H4 (by show Ce H0 H4 a (n.dropped nm (A2 n nm));rw[eno];exact nk4);have ec:chg n (.drop nm)=(n.led no:Nat):=by show(n.led (A2 n nm):Int)=_;rw[eno]
   rw[ec] at q1;exact q1
  |text nm=>cases na
  |back nm=>cases na
  |find ws far=>cases na
def YO{out:List Dt}{d:Dt}(c:CI H1 D out H)(r:Rep (Ex H D) d y)(hl:out.length<10000000):∃ys,H D=some (.lst ys)/\ys.length<sizeLine/\CI H1 D (out++[d]) (upd H D (.lst (ys++[y]))):=by
 obtain⟨ys,h,rr⟩:=c.lst;refine⟨ys,h,?_,c.same.upd c.fr,c.fr,ys++[y],AM,?_⟩
 ·have:=rr.1;rw[Aw]
  lia
 ·rw[Ex.upd];exact rr.snoc r
def dH(h:Bd n){ws:List Wd}(hws:AF n.texts no=some ws):ws.map (shown n.names)=(Al n no).map BE:=by
 have e:Al n no=ws.map (sh n.names):=by unfold Al;rw[hws];rfl
 rw[e,Bf];refine EF fun w hw=>?_;obtain⟨nm,hn⟩:=h.b.own (no,ws) (BL hws);obtain⟨ws',hws',ok⟩:=h.b.text (FF h.b.CW hn);rw[show AF n.texts (no,ws).1=some ws from hws] at hws';cases Ai hws';show shown n.names w=BE (sh n.names w)
 cases ht:w.to with
 |false=>rw[Hy ht];unfold shown BE;rw[ht,AG CZ,AG (show¬("word" :Str)="to" by left)]
 |true=>
  rcases ok w hw ht with⟨hl,_⟩|⟨x,hx⟩
  ·rw[GU ht hl];unfold shown BE;rw[AH ht,AH hl,AH rfl]
  ·have hn:w.no≠-1:=by have:=h.b.Ff hx;lia
   rw[Ez h.b.inj ht hn hx];unfold shown BE;rw[AH ht,AG hn,WU h.b.inj hx,AH rfl]
def Zz:Sp:=fun vs H Q _=>∃(a:Ya)(nm:Str)(no:Int)(H0:Hp)(n:Nk),vs=[.ref a,.str nm]/\Ce H0 H a n/\Fits n/\Bd n/\AF n.names nm=some no/\wsum (Al n no)<=4000000/\∀H',AQ H H'->Q (.str (BQ (Al n no))) H'
def W9:Sp:=fun vs H Q _=>∃(a:Ya)(H0:Hp)(n:Nk),vs=[.ref a]/\Ce H0 H a n/\Fits n/\Bd n/\n.names.length<64/\BI (vw n)<=4000000/\∀u H',AQ H H'->Rep H' (.lst ((Cw (vw n)).map DP)) u->Q u H'
def Zi:Az ["_law_nook","_law_name","_law_words"] ["_law_nook","_law_name"] (Ao Ss):=by left
def lX(F:Aj K "_law_text_of" "_law_text_of" Ss f fd)
 (HSh:Hv P w K mg base "_law_shown" 2 ["_law_nook","_law_word"] X5):AW P w K mg base Ah 3 f fd ["_law_nook","_law_name"] Zz:=by
 refine F.ok Zi ?_ ?_
 ·rintro _ _ _ _ ⟨_,_,_,_,_,rfl,_⟩;rfl
 ·rintro _ A _ s H _ Q E hr ⟨a,nm,no,H0,n,rfl,⟨an,at_,tx,nk⟩,fit,bd,hno,hw,q⟩;have hu1:=Ck hr;refine⟨_,AS (Av (i:=2) Zi.nd rfl (Aa rfl) (Dx hu1 (CP hu1 (pv 0)) (Dx hu1 (CP hu1 (pv 0)) (pv 1) (fun _ _=>rfl)) (fun _ _=>rfl)))
   (AU (An (D4 Iy VJ VI S4 AZ (AE (Eu (ts:=["_law_word"]) (cap:=["_law_nook"]) (ix:=[0]) (Ia rfl rfl (by left) (by left) rfl rfl rfl rfl rfl) (Fz (pv 2))
    (fun _ _ _ _ _=>Bh (i:=0) (D5 (by left)) rfl (Aa rfl) (Cv rfl)) (fun _ _ _ _ _=>Ga) (fun _ _ _ _ _=>Cb HSh hr rfl A3 (AE (pv 1) (AE (pv 0) AI)))) AI)))),?_⟩;obtain⟨ws,hws,_⟩:=bd.b.text hno;obtain⟨l1,ws1,g1,hl1,E6,at1,new1⟩:=nk.find fit.Cf hws;have dgn:=EZ nk.hn nm;rw[hno] at dgn;have d1:BS H at_ (.int no) (some (.ref l1)):=by
   have:=BS.kq (k:=.inl no) nk.ht;rw[Et FG,g1] at this;exact this
  refine⟨_,rfl,a,_,rfl,Gz nk.ha,_,rfl,a,_,rfl,EY nk.ha,_,rfl,an,_,rfl,dgn,at_,_,rfl,d1,?_⟩;have est:=dH bd hws;have el:(Al n no).length=ws.length:=by have:=BJ List.length est;rw[AK,AK] at this;lia
  have hwl:=KI (Al n no);refine⟨rfl,_,rfl,l1,rfl,⟨_,AJ.of hl1⟩,fun D hD=>GK (xs:=ws1.map V.ref) (fun i H'=>CI H D (((ws.take i).map (shown n.names)).map Dt.str) H') (CI.start hD) (fun i H' _ c=>AJ.of (c.same _ _ hl1)) (fun i x H' ex c=>?_) fun H' c=>?_⟩
  ·rw[A0] at ex
   cases ea:ws1[i]?with
   |none=>rw[ea] at ex;cases ex
   |some aw=>
   rw[ea] at ex;obtain rfl:V.ref aw=x:=Ai ex;have hj:i<ws.length:=by rw[<-E6];exact(BZ.mp ea).1
   have ewj:ws[i]? =some ws[i]:=Ap hj;generalize ws[i]=wd at ewj;have nk4:=nk.ext c.same;have haw:H' aw=some (.lst wd.vq):=c.same _ _ (at1 i aw wd ea ewj);have nml:wd.nm.length<=2000:=by
    have h1:=bd.wl _ (BL hws) wd (CF ewj)
    lia
   have nl2:∀p∈n.names,p.1.length<=2000:=fun p hp'=>by have:=bd.nm p hp';lia
   refine⟨FV,_,rfl,_,rfl,a,aw,wd,H0,n,rfl,⟨an,at_,tx,nk4⟩,fit,haw,nml,nl2,fun H5 s5=>?_⟩;rw[JE (f:=shown n.names) ewj,A8];refine(c.ext s5).push (.str _) ?_;have h2:=Hn i ws;rw[AK,AK]
   lia
  ·rw[AK,E6,Cy,est] at c;obtain⟨ys,hy,ry⟩:=c.lst;have lb:(" " :Str).length=1:=by left
   refine⟨" ",D,(Al n no).map BE,rfl,rfl,AJ.of (by rw[hy,LQ ry]),?_,?_,q _ c.same⟩
   ·have:=PF (" " :Str).length (by lia) (Al n no) 0;rw[Aw]
    lia
   ·have:=NP (g:=" ") (by lia) (Al n no);rw[Aw]
    lia
def gz:Az ["_law_nook"] ["_law_nook"] (Ao TZ):=by left
def fF(F:Aj K "_law_texts" "_law_texts" TZ f fd)(O:Own mg)(hso:mg "sorted" =none)
 (HT:Hv P w K mg base "_law_text_of" 3 ["_law_nook","_law_name"] Zz):AW P w K mg base Ah 4 f fd ["_law_nook"] W9:=by
 refine F.ok gz ?_ ?_
 ·rintro _ _ _ _ ⟨_,_,_,rfl,_⟩;rfl
 ·rintro _ A _ s H _ Q E hr ⟨a,H0,n,rfl,⟨an,at_,tx,nk⟩,fit,bd,h64,ht,q⟩;have hu1:=Ck hr;refine⟨_,AU (An (Eu (ts:=["_law_name"]) (cap:=["_law_nook"]) (ix:=[0]) (Ia rfl rfl (by left) (by left) rfl rfl rfl rfl rfl) (Fz (BY Vy rfl hso KA (AE (Er (LL rfl) rfl O.lst Fs (AE (CP hu1 (pv 0)) AI)) AI)))
   (fun _ _ _ _ _=>Bh (i:=0) (D5 (by left)) rfl (Aa rfl) (Cv rfl)) (fun _ _ _ _ _=>Ga) (fun _ _ _ _ _=>CJ (AE (pv 0) (AE (Cb HT hr rfl A3 (AE (pv 1) (AE (pv 0) AI))) AI))))),?_⟩;refine⟨_,rfl,a,_,rfl,EY nk.ha,an,_,rfl,nk.hn,fun ld hld=>?_⟩;have ek:((F5 n.names).map fun kv=>kV kv.1)=(n.names.map (·.1)).map V.str:=by
   show(n.names.map _).map _=_;rw[Bf,Bf];rfl
  rw[ek];have s2:=AY (o:=.lst ((n.names.map (·.1)).map V.str)) hld;have h2:(upd H ld (.lst ((n.names.map (·.1)).map V.str))) ld=some (.lst ((n.names.map (·.1)).map V.str)):=AM;generalize upd H ld (.lst ((n.names.map (·.1)).map V.str))=H2 at s2 h2;refine⟨ld,n.names.map (·.1),rfl,AJ.of h2,by rw[AK];exact h64,fun Ds ys hDs hp hs=>?_⟩;have ey:ys=Kl (n.names.map (·.1)):=TK Gg hp hs;have s3:=AY (o:=.lst (ys.map V.str)) hDs;have h3:(upd H2 Ds (.lst (ys.map V.str))) Ds=some (.lst (ys.map V.str)):=AM;generalize upd H2 Ds (.lst (ys.map V.str))=H3 at s3 h3;have s13:=s2.trans s3;refine⟨Ds,rfl,⟨_,AJ.of h3⟩,fun D hD=>GK (xs:=ys.map V.str) (fun i H'=>CI H3 D (((ys.take i).map (HV (vw n))).map DP) H') (CI.start hD) (fun i H' _ c=>AJ.of (c.same _ _ h3)) (fun i y H' ey' c=>?_) fun H' c=>?_⟩
  ·rw[A0] at ey'
   cases ez:ys[i]?with
   |none=>rw[ez] at ey';cases ey'
   |some z=>
   rw[ez] at ey';obtain rfl:V.str z=y:=Ai ey';have zk:z∈n.names.map (·.1):=hp.mem_iff.mp (CF ez);obtain⟨no,hno⟩:=SI zk;have hv:AF (vw n) z=some (Al n no):=by rw[FJ,hno];rfl
   have hwt:wsum (Al n no)<=4000000:=by
    have:=JO (BL hv);have h1:wsum (Al n no)<=BI (vw n):=this
    lia
   refine⟨FV,_,rfl,_,rfl,_,rfl,a,z,no,H0,n,rfl,⟨an,at_,tx,nk.ext (s13.trans c.same)⟩,fit,bd,hno,hwt,fun H4 s4=>?_⟩;refine⟨by show 2<=sizeLine;decide,fun tp htp=>?_⟩;have st:=AY (o:=.tup [.str z,.str (BQ (Al n no))]) htp;have c5:=(c.ext s4).ext st;have nt:tp≠D:=by obtain⟨z5,hz5,_⟩:=(c.ext s4).lst;exact(A9 hz5 htp).symm
   have et:HV (vw n) z=(z,BQ (Al n no)):=by unfold HV;rw[hv];rfl
   rw[JE (f:=HV (vw n)) ez,A8];refine c5.push (d:=DP (HV (vw n) z)) (by rw[et];exact Ll (Ex.at AM nt)) ?_;rw[AK,AK];have f1:=Hn i ys;have f3:=hp.length_eq;rw[AK] at f3
   lia
  ·rw[AK,Cy,ey] at c;have ek2:keys (vw n)=n.names.map (·.1):=D7 n;refine q _ _ (s13.trans c.same) ?_;unfold Cw;rw[ek2];exact c.done
def Ha:DO X (.builtin "isinstance") (fun xs H Q=>∃x c t b,xs=[x,.ty c]/\(∀K:uJ,Bm K H x t)/\(∀K:uJ,sZ K t (.type c)=some b)/\Q (.bl b) H):=
 fun _ _ _ _ _ _ _ I r ⟨x,c,t,b,e,y,k,z⟩=>iU _ _ _ _ _ _ _ I r ⟨x,c,t,b,e,y _,k _,z⟩
def oZ:DO X (.builtin "isinstance") (fun xs H Q=>∃(x:V)(p:Ya)(cs:List String)(t:AB)(b:Bool),xs=[x,.ref p]/\H p=some (.tup (cs.map V.ty))/\(∀K:uJ,Bm K H x t)/\(∀K:uJ,kitAny K t (cs.map Value.type)=some b)/\Q (.bl b) H):=
 fun _ _ _ _ _ _ _ I r ⟨x,p,cs,t,b,e,h,y,k,z⟩=>eJ _ _ _ _ _ _ _ I r ⟨x,p,cs,t,b,e,h,y _,k _,z⟩
def aP:Hi X (qY []):=C2.or (QH.or Pl)
section
variable{o:hY}{to:TE}{id:String}
def qA(pa:sq T)(slot:Slot T name id)(hty:typeOf (.builtin id)=pure (.type "method_descriptor"))(hm:N5 X id r)(ho:PE X o to)
 (hbase:qy o name X.env (qr o X.env)=qr o X.env:=by rfl)(hline:(apos.endLine==cpos.line)=true:=by rfl):PE X (.Call (.Attribute o name apos) [] [] cpos) (aV [] T r to):=
 fun pins s σ H Q I h=>Nd pa slot hty hm ho.mc hbase hline pins s σ H Q I ⟨_,h,fun _ _ ⟨y,z⟩=>⟨aW y,z⟩⟩
def qE(hu:X.A.units<rC):Bv X (qm .NotEq) (fun x y H Q=>∃a b xs,x=.ref a/\y=.ref b/\AJ [] H a xs/\AJ [] H b []/\Q (.bl (!xs.isEmpty)) H):=
 fun _ _ _ _ _ _ _ _ _ I r r' ⟨p,b,xs,e,e',q,q',z⟩=>eN hu _ _ _ _ _ _ _ _ _ I r r' ⟨p,b,xs,e,e',Fy q,Fy q',z⟩
end
abbrev Us:hX:=Y5
abbrev aX:hX:=cH
def aH:Sp:=fun vs H Q _=>∃(x y:V)(d:Dt),vs=[x,y]/\Rep H d x/\Rep H d y/\d.sz<=1000000/\∀H',AQ H H'->Q (.bl true) H'
def aF:Sp:=fun vs H Q _=>∃i:Int,vs=[.int i]/\Q (.bl true) H
def o9:Az ["_law_found"] ["_law_found"] (Ao Us):=by left
def oW(F:Aj K "_law_whole" "_law_whole" Us f fd)(O:Own mg):AW P w K mg base Ah 1 f fd ["_law_found"] aF:=by
 refine F.ok o9 ?_ ?_
 ·rintro _ _ _ _ ⟨_,rfl,_⟩;rfl
 ·rintro _ A _ s H _ Q E hr ⟨i,rfl,k⟩;refine⟨_,AU (An (Po (BY Ha rfl O.Gs Gd (AE (pv 0) (AE (Fq (v:=.ty "int") rfl O.int Lg rfl) AI)))
   (Pu (ka (BY Ha rfl O.Gs Gd (AE (pv 0) (AE (Fq (v:=.ty "bool") rfl O.bl Su rfl) AI))))))),?_⟩;exact⟨_,rfl,_,_,_,_,rfl,(fun _=>Bm.int i),(fun _=>Hu _),_,rfl,Bo ⟨_,rfl,_,_,_,_,rfl,(fun _=>Bm.int i),(fun _=>Zn),_,rfl,k⟩⟩
def QO:Az ["_law_found","_law_due","_law_todo","_law_pair","_law_k"] ["_law_found","_law_due"] (Ao aX):=by left
theorem oh{fW:Ya}{fdW:qo}(F:Aj K "_law_alike" "_law_alike" aX f fd)(O:Own mg)(FW:Aj K "_law_whole" "_law_whole" Us fW fdW)(bW:Binds K fdW ["_law_found"] [])(mW:mg "_law_whole" =some (.ref fW)):
 AW P w K mg base Ah 2 f fd ["_law_found","_law_due"] aH:=by
 have GW:AW P w K mg base Ah 1 fW fdW ["_law_found"] aF:=oW FW O;refine F.ok QO ?_ ?_
 ·rintro _ _ _ _ ⟨_,_,_,rfl,_⟩;rfl
 ·rintro _ A _ s H _ Q E hr ⟨x0,y0,d0,rfl,rx0,ry0,hd0,k⟩;have hu:=hr.TL;refine⟨_,AS (Av (i:=2) QO.nd rfl (Aa rfl) (Bu (AE (CJ (AE (pv 0) (AE (pv 1) AI))) AI)))
   (AS (gc EG (Ax (qE hu) (pv 2) (Bu AI) (Ar _))
    (AS (Av (i:=3) QO.nd rfl (Aa rfl) (qA ED PySem.F.slot_list_pop PySem.F.type_list_pop lg (pv 2)))
    (AU (A7 (EN (BY oZ rfl O.Gs Gd (AE (BA (pv 3)) (AE (CJ (AE (Fq (v:=.ty "list") rfl O.lst Fs rfl) (AE (Fq (v:=.ty "tuple") rfl O.tup SY rfl) AI))) AI))))
     (AS (A7 (Ax Fw (BY Ha rfl O.Gs Gd (AE (BA (pv 3)) (AE (Fq (v:=.ty "list") rfl O.lst Fs rfl) AI))) (BY Ha rfl O.Gs Gd (AE (BA (pv 3)) (AE (Fq (v:=.ty "list") rfl O.lst Fs rfl) AI))) (Ar _)) (AU (An IE)) BG)
     (AS (A7 (Ax Fw (BY Ha rfl O.Gs Gd (AE (BA (pv 3)) (AE (Fq (v:=.ty "tuple") rfl O.tup SY rfl) AI))) (BY Ha rfl O.Gs Gd (AE (BA (pv 3)) (AE (Fq (v:=.ty "tuple") rfl O.tup SY rfl) AI))) (Ar _)) (AU (An IE)) BG)
     (AS (A7 (Ax Fw (BY E3 rfl O.len DB (AE (BA (pv 3)) AI)) (BY E3 rfl O.len DB (AE (BA (pv 3)) AI)) (Ar _)) (AU (An IE)) BG)
     (AU (EJ EG rfl (Rt rfl O.Ku (AE (BY E3 rfl O.len DB (AE (BA (pv 3)) AI)) AI)) (Bh (i:=4) QO.nd rfl (Aa rfl))
      (AU (Bp (D4 ED Fh Fg Es (pv 2) (AE (CJ (AE (CB aP (BA (pv 3)) (pv 4) (fun _ _=>rfl)) (AE (CB aP (BA (pv 3)) (pv 4) (fun _ _=>rfl)) AI))) AI)))))))))
     (AU (A7 (EN (BY Ha rfl O.Gs Gd (AE (BA (pv 3)) (AE (Fq (v:=.ty "str") rfl O.str ZT rfl) AI))))
      (AU (A7 (PW.pt (Je (IA (EN (BY Ha rfl O.Gs Gd (AE (BA (pv 3)) (AE (Fq (v:=.ty "str") rfl O.str ZT rfl) AI))))) (JU (Ax Fw (BA (pv 3)) (BA (pv 3)) (Ar _))))) (AU (An IE)) BG))
      (AU (A7 (EN (BY Ha rfl O.Gs Gd (AE (BA (pv 3)) (AE (Fq (v:=.ty "bool") rfl O.bl Su rfl) AI))))
       (AU (A7 (PW.pt (Je (IA (EN (BY Ha rfl O.Gs Gd (AE (BA (pv 3)) (AE (Fq (v:=.ty "bool") rfl O.bl Su rfl) AI))))) (JU (Ax Fw (BA (pv 3)) (BA (pv 3)) (Ar _))))) (AU (An IE)) BG))
       (AU (A7 (PW.pt (Je (IA (EN (CL GW hr rfl mW FW.kp bW .nil A3 (AE (BA (pv 3)) AI)))) (JU (Ax Fw (BA (pv 3)) (BA (pv 3)) (Ar _))))) (AU (An IE)) BG))))))))))
   (AU (An IE))),?_⟩;refine⟨_,rfl,_,rfl,by show 2<=sizeLine;decide,fun p0 hp0=>⟨by show 1<=sizeLine;decide,fun t ht=>?_⟩⟩;have hp0t:p0≠t:=A9 AM ht;have htn:H t=none:=(AY hp0).free ht;refine⟨fun m σ H'=>∃(ps:List Ya)(ds:List Dt)(v3 v4:Option V),σ=[some x0,some y0,some (.ref t),v3,v4]/\H' t=some (.lst (ps.map V.ref))/\AQ H H'/\m=Dt.Cq ds/\m<=1000000/\EV H H' ds ps,
   ⟨Dt.Cq [d0],[p0],[d0],none,none,rfl,AM,((AQ.refl H).upd hp0).upd htn,rfl,by simp only[Dt.Cq];lia,?_⟩,?_⟩
  ·refine EV.snoc (ds:=[]) (ps:=[]) (x:=x0) (y:=y0) ⟨rfl,fun i d p e=>by simp at e⟩ ?_ rx0 ry0;rw[AR hp0t,AM]
  rintro m σ H' ⟨ps,ds,v3,v4,rfl,hT,sm,rfl,hm,st⟩;refine⟨_,rfl,by show 0<=sizeLine;decide,fun q hq=>⟨t,q,_,rfl,rfl,AJ.of (by rw[AR (A9 hT hq)];exact hT),AJ.of AM,_,rfl,?_⟩⟩;have s1:AQ H' (upd H' q (.lst [])):=AY hq;rcases List.eq_nil_or_concat ps with e|⟨ps',p,e⟩
  ·subst e;refine BK ?_;exact k _ (sm.trans s1)
  rw[List.concat_eq_append] at e;subst e;obtain⟨ds',d,x,y,rfl,st',hp,rx,ry⟩:=st.lN;have hTq:t≠q:=A9 hT hq;have hpt:p≠t:=Ca hp hT (by intro z;cases z);have em:((ps'++[p]).map V.ref)=ps'.map V.ref++[V.ref p]:=by rw[A8];rfl
  have hne:(!((ps'++[p]).map V.ref).isEmpty)=true:=by rw[em];simp
  rw[hne];refine Bo ⟨fun σ' H2=>∃(ps:List Ya)(ds:List Dt)(v3 v4:Option V),σ'=[some x0,some y0,some (.ref t),v3,v4]/\H2 t=some (.lst (ps.map V.ref))/\AQ H H2/\Dt.Cq ds<Dt.Cq (ds'++[d])/\EV H H2 ds ps,
   fun σ' H2 ⟨ps2,ds2,a3,a4,e1,e2,e3,e4,e5⟩=>⟨Dt.Cq ds2,e4,ps2,ds2,a3,a4,e1,e2,e3,rfl,by lia,e5⟩,?_⟩;have hT1:(upd H' q (.lst [])) t=some (.lst (ps'.map V.ref++[V.ref p])):=by rw[AR hTq,hT,em]
  refine⟨_,rfl,.inl ⟨rfl,_,AJ.of hT1⟩,t,_,.ref p,rfl,rfl,hT1,by simp,?_⟩;have esz:Dt.Cq (ds'++[d])=Dt.Cq ds'+d.sz:=by rw[Dt.PQ];simp only[Dt.Cq];lia
  have hdl:(ps'.map V.ref++[V.ref p]).dropLast=ps'.map V.ref:=by simp
  rw[hdl];generalize hH2:upd (upd H' q (.lst [])) t (.lst (ps'.map V.ref))=H2;have s2:AQ H H2:=by rw[<-hH2];exact(sm.trans s1).upd htn
  have t2:H2 t=some (.lst (ps'.map V.ref)):=by rw[<-hH2];exact AM
  have kt2:∀b xs,H' b=some (.tup xs)->H2 b=some (.tup xs):=fun b xs e=>by rw[<-hH2,AR (Ca e hT (by intro z;cases z)),AR (A9 e hq)];exact e
  have p2:H2 p=some (.tup [x,y]):=kt2 _ _ hp;have st2:EV H H2 ds' ps':=st'.same kt2;refine⟨_,rfl,p,_,1,y,rfl,rfl,AX.of p2,rfl,by show 2<=sizeLine;decide,fun tq htq=>?_⟩;generalize hH3:upd H2 tq (.tup [V.ty "list",V.ty "tuple"])=H3;have s23:AQ H2 H3:=by rw[<-hH3];exact AY htq
  have s3:AQ H H3:=s2.trans s23;have t3:H3 t=some (.lst (ps'.map V.ref)):=s23 _ _ t2;have p3:H3 p=some (.tup [x,y]):=s23 _ _ p2;have q3:H3 tq=some (.tup [V.ty "list",V.ty "tuple"]):=by rw[<-hH3];exact AM
  have st3:EV H H3 ds' ps':=st2.same fun b xs e=>s23 _ _ e;have fin:∃(ps:List Ya)(ds:List Dt)(a3 a4:Option V),([some x0,some y0,some (V.ref t),some (V.ref p),v4]:St)=[some x0,some y0,some (.ref t),a3,a4]/\H3 t=some (.lst (ps.map V.ref))/\AQ H H3/\Dt.Cq ds<Dt.Cq (ds'++[d])/\EV H H3 ds ps:=by have:=d.ZD;exact⟨ps',ds',_,_,rfl,t3,s3,by lia,st3⟩
  cases d with
  |lst ds1=>
   cases rx with
   |@lst _ a xs hx lx fx=>
   cases ry with
   |@lst _ b ys hy ly fy=>
   have a3:H3 a=some (.lst xs):=s3 _ _ hx;have b3:H3 b=some (.lst ys):=s3 _ _ hy;have hsz:(Dt.lst ds1).sz=1+Dt.Cq ds1:=by simp only[Dt.sz]
   have hl1:=Dt.KQ ds1;refine⟨.ref b,tq,["list","tuple"],.type "list",true,rfl,q3,(fun _=>Bm.lst b3),(fun _=>ZS _ (.inl rfl)),_,rfl,Bo ?_⟩;refine⟨_,rfl,p,_,0,.ref a,rfl,rfl,AX.of p3,rfl,.ref a,"list",.type "list",true,rfl,(fun _=>Bm.lst a3),(fun _=>Hu _),_,rfl,p,_,1,.ref b,rfl,rfl,AX.of p3,rfl,.ref b,"list",.type "list",true,rfl,(fun _=>Bm.lst b3),(fun _=>Hu _),rfl,_,rfl,ER rfl ?_⟩;refine⟨_,rfl,p,_,0,.ref a,rfl,rfl,AX.of p3,rfl,.ref a,"tuple",.type "list",false,rfl,(fun _=>Bm.lst a3),(fun _=>Zg),_,rfl,p,_,1,.ref b,rfl,rfl,AX.of p3,rfl,.ref b,"tuple",.type "list",false,rfl,(fun _=>Bm.lst b3),(fun _=>Zg),rfl,_,rfl,ER rfl ?_⟩;refine⟨_,rfl,p,_,0,.ref a,rfl,rfl,AX.of p3,rfl,a,xs,rfl,.inl (AJ.of a3),_,rfl,p,_,1,.ref b,rfl,rfl,AX.of p3,rfl,b,ys,rfl,.inl (AJ.of b3),rfl,_,rfl,ER (by rw[<-lx,<-ly]) ?_⟩;refine⟨_,rfl,p,_,1,.ref b,rfl,rfl,AX.of p3,rfl,b,ys,rfl,.inl (AJ.of b3),(ys.length:Int),rfl,by lia,by lia,?_⟩;refine O0 (lo:=0) (n:=ys.length) (fun i σ' H4=>∃(nps:List Ya)(u4:Option V),σ'=[some x0,some y0,some (.ref t),some (.ref p),u4]/\H4 t=some (.lst ((ps'++nps).map V.ref))/\AQ H H4/\H4 p=some (.tup [.ref a,.ref b])/\EV H H4 (ds'++ds1.take i) (ps'++nps))
    ⟨[],v4,rfl,by rw[Ct];exact t3,s3,p3,by rw[K9,Ct,Ct];exact st3⟩ ?_ ?_
   ·rintro i σ' H4 hi ⟨nps,u4,rfl,t4,s4,p4,st4⟩;have hxi:xs[i]? =some xs[i]:=Ap (by lia);have hyi:ys[i]? =some ys[i]:=Ap hi;have hdi:ds1[i]? =some ds1[i]:=Ap (by lia);have hps:(ps'++nps).length<=1000000:=by
     have h1:=st4.1;have h2:=Dt.KQ (ds'++ds1.take i);have h3:=Dt.KQ ds';rw[Au,Bc] at h1
     lia
    have e0:(0:Int)+(i:Nat)=(i:Nat):=Int.zero_add _;refine⟨_,rfl,.inl ⟨rfl,_,AJ.of t4⟩,_,rfl,p,_,0,.ref a,rfl,rfl,AX.of p4,rfl,_,rfl,.inl ⟨a,xs,_,xs[i],rfl,rfl,AJ.of (s4 _ _ hx),by rw[e0];exact Bt hxi,_,rfl,p,_,1,.ref b,rfl,rfl,AX.of p4,rfl,_,rfl,
     .inl ⟨b,ys,_,ys[i],rfl,rfl,AJ.of (s4 _ _ hy),by rw[e0];exact Bt hyi,by show 2<=sizeLine;decide,fun np hnp=>?_⟩⟩⟩;have MK:t≠np:=A9 t4 hnp;have npp:p≠np:=A9 p4 hnp;have hpt4:p≠t:=Ca p4 t4 (by intro z;cases z);refine⟨t,_,.ref np,rfl,rfl,by rw[AR MK];exact t4,by rw[AK,Aw];lia,nps++[np],_,rfl,?_,(s4.upd (s4.free hnp)).upd htn,by rw[AR hpt4,AR npp];exact p4,?_⟩
    ·rw[AM];simp only[A8,Ay,LH,Bb]
    ·have kk:∀c zs,H4 c=some (.tup zs)->(upd (upd H4 np (.tup [xs[i],ys[i]])) t (.lst ((ps'++nps).map V.ref++[V.ref np]))) c=some (.tup zs):=fun c zs e=>by rw[AR (Ca e t4 (by intro z;cases z)),AR (A9 e hnp)];exact e
     rw[EW,hdi,<-Bb,<-Bb];refine(st4.same kk).snoc (x:=xs[i]) (y:=ys[i]) ?_ (fx i _ _ hdi hxi) (fy i _ _ hdi hyi);rw[AR MK.symm,AM]
   ·rintro σ' H4 ⟨nps,u4,rfl,t4,s4,p4,st4⟩;rw[<-ly,Cy] at st4;refine⟨ps'++nps,ds'++ds1,_,_,rfl,t4,s4,?_,st4⟩;rw[esz,Dt.PQ,hsz]
    lia
  |tup ds1=>
   cases rx with
   |@tup _ a xs hx lx fx=>
   cases ry with
   |@tup _ b ys hy ly fy=>
   have a3:H3 a=some (.tup xs):=s3 _ _ hx;have b3:H3 b=some (.tup ys):=s3 _ _ hy;have hsz:(Dt.tup ds1).sz=1+Dt.Cq ds1:=by simp only[Dt.sz]
   have hl1:=Dt.KQ ds1;refine⟨.ref b,tq,["list","tuple"],.type "tuple",true,rfl,q3,(fun _=>Bm.tup b3),(fun _=>ZS _ (.inr rfl)),_,rfl,Bo ?_⟩;refine⟨_,rfl,p,_,0,.ref a,rfl,rfl,AX.of p3,rfl,.ref a,"list",.type "tuple",false,rfl,(fun _=>Bm.tup a3),(fun _=>Z7),_,rfl,p,_,1,.ref b,rfl,rfl,AX.of p3,rfl,.ref b,"list",.type "tuple",false,rfl,(fun _=>Bm.tup b3),(fun _=>Z7),rfl,_,rfl,ER rfl ?_⟩;refine⟨_,rfl,p,_,0,.ref a,rfl,rfl,AX.of p3,rfl,.ref a,"tuple",.type "tuple",true,rfl,(fun _=>Bm.tup a3),(fun _=>Hu _),_,rfl,p,_,1,.ref b,rfl,rfl,AX.of p3,rfl,.ref b,"tuple",.type "tuple",true,rfl,(fun _=>Bm.tup b3),(fun _=>Hu _),rfl,_,rfl,ER rfl ?_⟩;refine⟨_,rfl,p,_,0,.ref a,rfl,rfl,AX.of p3,rfl,a,xs,rfl,.inr (AX.of a3),_,rfl,p,_,1,.ref b,rfl,rfl,AX.of p3,rfl,b,ys,rfl,.inr (AX.of b3),rfl,_,rfl,ER (by rw[<-lx,<-ly]) ?_⟩;refine⟨_,rfl,p,_,1,.ref b,rfl,rfl,AX.of p3,rfl,b,ys,rfl,.inr (AX.of b3),(ys.length:Int),rfl,by lia,by lia,?_⟩;refine O0 (lo:=0) (n:=ys.length) (fun i σ' H4=>∃(nps:List Ya)(u4:Option V),σ'=[some x0,some y0,some (.ref t),some (.ref p),u4]/\H4 t=some (.lst ((ps'++nps).map V.ref))/\AQ H H4/\H4 p=some (.tup [.ref a,.ref b])/\EV H H4 (ds'++ds1.take i) (ps'++nps))
    ⟨[],v4,rfl,by rw[Ct];exact t3,s3,p3,by rw[K9,Ct,Ct];exact st3⟩ ?_ ?_
   ·rintro i σ' H4 hi ⟨nps,u4,rfl,t4,s4,p4,st4⟩;have hxi:xs[i]? =some xs[i]:=Ap (by lia);have hyi:ys[i]? =some ys[i]:=Ap hi;have hdi:ds1[i]? =some ds1[i]:=Ap (by lia);have hps:(ps'++nps).length<=1000000:=by
     have h1:=st4.1;have h2:=Dt.KQ (ds'++ds1.take i);have h3:=Dt.KQ ds';rw[Au,Bc] at h1
     lia
    have e0:(0:Int)+(i:Nat)=(i:Nat):=Int.zero_add _;refine⟨_,rfl,.inl ⟨rfl,_,AJ.of t4⟩,_,rfl,p,_,0,.ref a,rfl,rfl,AX.of p4,rfl,_,rfl,.inr (.inl ⟨a,xs,_,xs[i],rfl,rfl,AX.of (s4 _ _ hx),by rw[e0];exact Bt hxi,_,rfl,p,_,1,.ref b,rfl,rfl,AX.of p4,rfl,_,rfl,
     .inr (.inl ⟨b,ys,_,ys[i],rfl,rfl,AX.of (s4 _ _ hy),by rw[e0];exact Bt hyi,by show 2<=sizeLine;decide,fun np hnp=>?_⟩)⟩)⟩;have MK:t≠np:=A9 t4 hnp;have npp:p≠np:=A9 p4 hnp;have hpt4:p≠t:=Ca p4 t4 (by intro z;cases z);refine⟨t,_,.ref np,rfl,rfl,by rw[AR MK];exact t4,by rw[AK,Aw];lia,nps++[np],_,rfl,?_,(s4.upd (s4.free hnp)).upd htn,by rw[AR hpt4,AR npp];exact p4,?_⟩
    ·rw[AM];simp only[A8,Ay,LH,Bb]
    ·have kk:∀c zs,H4 c=some (.tup zs)->(upd (upd H4 np (.tup [xs[i],ys[i]])) t (.lst ((ps'++nps).map V.ref++[V.ref np]))) c=some (.tup zs):=fun c zs e=>by rw[AR (Ca e t4 (by intro z;cases z)),AR (A9 e hnp)];exact e
     rw[EW,hdi,<-Bb,<-Bb];refine(st4.same kk).snoc (x:=xs[i]) (y:=ys[i]) ?_ (fx i _ _ hdi hxi) (fy i _ _ hdi hyi);rw[AR MK.symm,AM]
   ·rintro σ' H4 ⟨nps,u4,rfl,t4,s4,p4,st4⟩;rw[<-ly,Cy] at st4;refine⟨ps'++nps,ds'++ds1,_,_,rfl,t4,s4,?_,st4⟩;rw[esz,Dt.PQ,hsz]
    lia
  |str z=>cases rx;cases ry;refine⟨.str z,tq,["list","tuple"],.type "str",false,rfl,q3,(fun _=>Bm.str z),(fun _=>Sg _ (.inl rfl)),_,rfl,BK ?_⟩;refine⟨_,rfl,p,_,1,.str z,rfl,rfl,AX.of p3,rfl,.str z,"str",.type "str",true,rfl,(fun _=>Bm.str z),(fun _=>Hu _),_,rfl,Bo ?_⟩;refine⟨_,rfl,p,_,0,.str z,rfl,rfl,AX.of p3,rfl,.str z,"str",.type "str",true,rfl,(fun _=>Bm.str z),(fun _=>Hu _),_,rfl,BK ⟨_,rfl,p,_,0,.str z,rfl,rfl,AX.of p3,rfl,_,rfl,p,_,1,.str z,rfl,rfl,AX.of p3,rfl,rfl,_,rfl,ER rfl fin⟩⟩
  |bl z=>cases rx;cases ry;refine⟨.bl z,tq,["list","tuple"],.type "bool",false,rfl,q3,(fun _=>Bm.bl z),(fun _=>Sg _ (.inr (.inr rfl))),_,rfl,BK ?_⟩;refine⟨_,rfl,p,_,1,.bl z,rfl,rfl,AX.of p3,rfl,.bl z,"str",.type "bool",false,rfl,(fun _=>Bm.bl z),(fun _=>nQ),_,rfl,BK ?_⟩;refine⟨_,rfl,p,_,1,.bl z,rfl,rfl,AX.of p3,rfl,.bl z,"bool",.type "bool",true,rfl,(fun _=>Bm.bl z),(fun _=>Hu _),_,rfl,Bo ?_⟩;refine⟨_,rfl,p,_,0,.bl z,rfl,rfl,AX.of p3,rfl,.bl z,"bool",.type "bool",true,rfl,(fun _=>Bm.bl z),(fun _=>Hu _),_,rfl,BK ⟨_,rfl,p,_,0,.bl z,rfl,rfl,AX.of p3,rfl,_,rfl,p,_,1,.bl z,rfl,rfl,AX.of p3,rfl,rfl,_,rfl,ER rfl fin⟩⟩
  |int z=>cases rx;cases ry;refine⟨.int z,tq,["list","tuple"],.type "int",false,rfl,q3,(fun _=>Bm.int z),(fun _=>Sg _ (.inr (.inl rfl))),_,rfl,BK ?_⟩;refine⟨_,rfl,p,_,1,.int z,rfl,rfl,AX.of p3,rfl,.int z,"str",.type "int",false,rfl,(fun _=>Bm.int z),(fun _=>o6),_,rfl,BK ?_⟩;refine⟨_,rfl,p,_,1,.int z,rfl,rfl,AX.of p3,rfl,.int z,"bool",.type "int",false,rfl,(fun _=>Bm.int z),(fun _=>Zn),_,rfl,BK ?_⟩;exact⟨_,rfl,p,_,0,.int z,rfl,rfl,AX.of p3,rfl,z,rfl,_,rfl,BK ⟨_,rfl,p,_,0,.int z,rfl,rfl,AX.of p3,rfl,_,rfl,p,_,1,.int z,rfl,rfl,AX.of p3,rfl,rfl,_,rfl,ER rfl fin⟩⟩
def WB{α:Type}[DecidableEq α]:∀{l m:List α},l.Nodup->(∀x∈l,x∈m)->l.length<=m.length
 |[],_,_,_=>CG _
 |a::t,m,hn,hs=>by
  obtain⟨h1,h2⟩:=IV.mp hn;have ha:=hs a DR;have:=WB (l:=t) (m:=m.erase a) h2 fun x hx=>(List.mem_erase_of_ne (fun z=>h1 (by rw[<-z];exact hx))).mpr (hs x (DJ _ hx));rw[List.length_erase_of_mem ha] at this;have hp:0<m.length:=VF ha;rw[CS]
  lia
def E1(n:Nk)(xs:List Am):Nk:=xs.foldl HX n
def dz(n:Nk)(xs:List Am)(x:Am):E1 n (xs++[x])=HX (E1 n xs) x:=by unfold E1;rw[List.foldl_append];rfl
def Sa:∀(xs:List Am)(n:Nk),Bd n->(∀x∈xs,x.Good)->Bd (E1 n xs)/\vw (E1 n xs)=CU (vw n) xs
 |[],n,h,_=>⟨h,rfl⟩
 |x::xs,n,h,g=>by obtain⟨p1,p2⟩:=jf h (g x DR);obtain⟨q1,q2⟩:=Sa xs (HX n x) p1 fun y hy=>g y (DJ _ hy);refine⟨q1,?_⟩;show vw (E1 (HX n x) xs)=CU ((D8 (vw n) x).next (vw n)) xs;rw[q2,p2]
def bg:Bd F4:=⟨⟨Mo,Mo,Mo,fun p hp=>(by cases hp),fun p hp=>(by cases hp),fun p hp=>(by cases hp),fun p hp=>(by cases hp)⟩,Int.le_refl _,fun p hp=>(by cases hp),fun p hp=>(by cases hp)⟩
def oo(b:Br n){p:Int×List Wd}(hp:p∈n.texts):∃nm,(nm,Al n p.1)∈vw n/\(Al n p.1).length=p.2.length:=by obtain⟨nm,h⟩:=b.own p hp;refine⟨nm,BP.mpr ⟨_,h,rfl⟩,?_⟩;unfold Al;rw[FF b.Cf (show(p.1,p.2)∈n.texts from hp)];show(p.2.map _).length=_;rw[AK]
def P2(ws:List PR):Nat:=wsum ws
def fits_of(h:Bd n)(s:Sz k (vw n))(hk:k<=64):Fits n/\n.names.length<=k/\n.texts.length<=k:=by
 have hl:n.names.length<=k:=by have:=s.len;unfold vw at this;rw[AK] at this;exact this
 have ht:n.texts.length<=n.names.length:=by
  have:=WB (l:=n.texts.map (·.1)) (m:=n.names.map (·.2)) h.b.Cf fun x hx=>by obtain⟨p,hp,rfl⟩:=BP.mp hx;obtain⟨nm,hn⟩:=h.b.own p hp;exact BP.mpr ⟨_,hn,rfl⟩
  rw[AK,AK] at this;exact this
 refine⟨⟨h.b.CW,h.b.Cf,by lia,by lia,fun p hp=>?_⟩,hl,by lia⟩;obtain⟨nm,h1,h2⟩:=oo h.b hp;have h3:=JO h1;have h4:=KI (Al n p.1);have h5:=s.BI;have h6:P2 (Al n p.1)<=L2.BI (vw n):=h3;have h7:50000*k<=50000*64:=Qv _ hk;unfold P2 at h6
 lia
def dN(h:Bd n)(s:Sz k (vw n))(hk:k<=63){a o:Str}(g:(Am.join a o).Good)(br:BX n (.join a o)=""):(CC n (A2 n a)++CC n (A2 n o)).length<=100000:=by
 have s':=s.next g;have be:=Y3 n (.join a o);rw[br] at be;have be':C3 "" (EK (vw n) a o):=be;have s2:Sz (k+1) ((EK (vw n) a o).next (vw n)):=s';unfold EK at be' s2;rw[FJ n a,FJ n o] at be' s2
 cases e:AF n.names a with
 |none=>rw[e] at be';exact absurd be'.1.symm be'.2
 |some no=>
  cases e2:AF n.names o with
  |none=>rw[e,e2] at be';exact absurd be'.1.symm be'.2
  |some no2=>
   rw[e,e2] at be' s2;have be2:C3 "" (if a=o then .no "same page" else .ok (.int (L2.cnt (L2.joined (vw n) a o (Al n no) (Al n no2)) a)) (L2.joined (vw n) a o (Al n no) (Al n no2))):=be';have s3:Sz (k+1) (Rs.next (vw n) (if a=o then .no "same page" else .ok (.int (L2.cnt (L2.joined (vw n) a o (Al n no) (Al n no2)) a)) (L2.joined (vw n) a o (Al n no) (Al n no2)))):=s2;by_cases e3:a=o
   ·rw[AH e3] at be2;exact absurd be2.1.symm be2.2
   ·rw[AG e3] at s3;have s4:Sz (k+1) (L2.joined (vw n) a o (Al n no) (Al n no2)):=s3;have ga:AF (L2.joined (vw n) a o (Al n no) (Al n no2)) a=some (CO (Al n no++Al n no2) o a):=by unfold L2.joined;rw[Ti,Cu,AH rfl];rfl
    have h3:=JO (BL ga);have h4:=KI (CO (Al n no++Al n no2) o a);rw[Wx,Au] at h4;have h5:=s4.BI;have h6:P2 (CO (Al n no++Al n no2) o a)<=L2.BI (L2.joined (vw n) a o (Al n no) (Al n no2)):=h3;unfold P2 at h6;have l1:(CC n (A2 n a)).length=(Al n no).length:=by unfold CC A2 Al;rw[e,AK];rfl
    have l2:(CC n (A2 n o)).length=(Al n no2).length:=by unfold CC A2 Al;rw[e2,AK];rfl
    have h7:50000*(k+1)<=50000*64:=Qv _ (by lia);rw[Au,l1,l2]
    lia
def XS:Sp:=fun vs H Q _=>∃(v:V)(xs:List Am),vs=[v]/\Rep H (.lst (xs.map Am.dt)) v/\(∀x∈xs,x.Good)/\xs.length<=63/\∀a H',Ce H H' a (E1 F4 xs)->Q (.ref a) H'
noncomputable def Am.word:Am->Str
 |.write _ _=>"write" |.rename _ _=>"rename" |.join _ _=>"join" |.cut _ _ _=>"cut" |.drop _=>"drop" |.text _=>"text" |.back _=>"back" |.find _ _=>"find"
def gF(x:Am):(Gp (.str x.word) [.str "text",.str "back",.str "find"])=x.asks:=by
 cases x with
 |write a b=>exact(by left:Gp (.str "write") [.str "text",.str "back",.str "find"]=false)
 |rename a b=>exact(by left:Gp (.str "rename") [.str "text",.str "back",.str "find"]=false)
 |join a b=>exact(by left:Gp (.str "join") [.str "text",.str "back",.str "find"]=false)
 |cut a p b=>exact(by left:Gp (.str "cut") [.str "text",.str "back",.str "find"]=false)
 |drop a=>exact(by left:Gp (.str "drop") [.str "text",.str "back",.str "find"]=false)
 |text a=>exact(by left:Gp (.str "text") [.str "text",.str "back",.str "find"]=true)
 |back a=>exact(by left:Gp (.str "back") [.str "text",.str "back",.str "find"]=true)
 |find a b=>exact(by left:Gp (.str "find") [.str "text",.str "back",.str "find"]=true)
def jt{x:Am}(r:Rep H x.dt v):∃d xs,v=.ref d/\H d=some (.tup (.str x.word::xs)):=by
 cases x with
 |write a b=>obtain⟨d,xs,rfl,hd,rs⟩:=B1 r;obtain⟨u,v,x,rfl,r1,_⟩:=Ey rs;cases Bg r1;exact⟨d,_,rfl,hd⟩
 |rename a b=>obtain⟨d,xs,rfl,hd,rs⟩:=B1 r;obtain⟨u,v,x,rfl,r1,_⟩:=Ey rs;cases Bg r1;exact⟨d,_,rfl,hd⟩
 |join a b=>obtain⟨d,xs,rfl,hd,rs⟩:=B1 r;obtain⟨u,v,x,rfl,r1,_⟩:=Ey rs;cases Bg r1;exact⟨d,_,rfl,hd⟩
 |cut a p b=>obtain⟨d,xs,rfl,hd,rs⟩:=B1 r;obtain⟨u,v,x,y,rfl,r1,_⟩:=Py rs;cases Bg r1;exact⟨d,_,rfl,hd⟩
 |drop a=>obtain⟨d,xs,rfl,hd,rs⟩:=B1 r;obtain⟨u,v,rfl,r1,_⟩:=HW rs;cases Bg r1;exact⟨d,_,rfl,hd⟩
 |text a=>obtain⟨d,xs,rfl,hd,rs⟩:=B1 r;obtain⟨u,v,rfl,r1,_⟩:=HW rs;cases Bg r1;exact⟨d,_,rfl,hd⟩
 |back a=>obtain⟨d,xs,rfl,hd,rs⟩:=B1 r;obtain⟨u,v,rfl,r1,_⟩:=HW rs;cases Bg r1;exact⟨d,_,rfl,hd⟩
 |find ws far=>obtain⟨d,xs,rfl,hd,rs⟩:=B1 r;obtain⟨u,v,x,rfl,r1,_⟩:=Ey rs;cases Bg r1;exact⟨d,_,rfl,hd⟩
def SH:Az ["_law_asked","_law_nook","_law_deed"] ["_law_asked"] (Ao S8):=by left
def ee{fBe:Ya}{fdBe:qo}(F:Aj K "_law_played" "_law_played" S8 f fd)
 (FBe:Aj K "_law_begun" "_law_begun" Pr fBe fdBe)(bBe:Binds K fdBe [] [])(mBe:mg "_law_begun" =some (.ref fBe))
 (HBa:Hv P w K mg base "_law_barred" 2 ["_law_nook","_law_deed"] XG)
 (HCh:Hv P w K mg base "_law_changed" 3 ["_law_nook","_law_deed"] WK):AW P w K mg base Ah 4 f fd ["_law_asked"] XS:=by
 have GBe:AW P w K mg base Ah 1 fBe fdBe [] X9:=gW FBe;refine F.ok SH ?_ ?_
 ·rintro _ _ _ _ ⟨_,_,rfl,_⟩;rfl
 ·rintro _ A _ s H _ Q E hr ⟨v,xs,rfl,rv,good,hl,q⟩;refine⟨_,(AS (Av (i:=1) SH.nd rfl (Aa rfl) (W3 GBe hr.mn rfl mBe FBe.kp bBe .nil A3)) (AS (EJ EG rfl (Fz (pv 0)) (Bh (i:=2) SH.nd rfl (Aa rfl))
   (AU (A7 (PW.pt (FN (Ax cY (BA (pv 2)) (Bu (AE AZ (AE AZ (AE AZ AI)))) rfl) (HH (Ax Ba (Cb HBa hr.mn rfl A3 (AE (pv 1) (AE (pv 2) AI))) AZ (Ar _)))))
   (AU (Bp (Cb HCh hr rfl A3 (AE (pv 1) (AE (pv 2) AI)))))
   BG))) (AU (An (pv 1))))),?_⟩;obtain⟨l,ys,rfl,hll,rr⟩:=Ew rv;refine⟨rfl,fun a H1 nk0=>?_⟩;have sOf:∀{n:Nk}{H':Hp},Ce H H' a n->AQ H H':=fun h=>let⟨_,_,_,nk⟩:=h;nk.same;refine⟨_,rfl,l,rfl,⟨_,AJ.of (sOf nk0 _ _ hll)⟩,JH (K:=[]) (a:=l) (xs:=ys) (fun i σ H'=>∃v2:Option V,σ=[some (.ref l),some (.ref a),v2]/\Ce H H' a (E1 F4 (xs.take i)))
   ⟨none,rfl,nk0⟩ (fun i σ H' _ ⟨_,_,h⟩=>AJ.of (sOf h _ _ hll)) ?_ ?_⟩
  ·rintro i y σ H' ey ⟨v2,rfl,nk⟩;obtain⟨x,ex,rx⟩:=Hw rr ey;have hi:i<xs.length:=(BZ.mp ex).1;have gi:∀z∈xs.take i,z.Good:=fun z hz=>good z (Gv hz);obtain⟨bd,ev⟩:=Sa (xs.take i) F4 bg gi;have sz:=Lh (xs.take i) 0 [] NU gi;have ev':vw (E1 F4 (xs.take i))=CU [] (xs.take i):=ev;rw[<-ev'] at sz;have hk:0+(xs.take i).length<=63:=by rw[Bc];lia
   obtain⟨fit,nl,tl⟩:=fits_of bd sz (by lia);have etk:E1 F4 (xs.take (i+1))=HX (E1 F4 (xs.take i)) x:=by rw[EW,ex];exact dz ..
   have gx:=good x (CF ex);generalize E1 F4 (xs.take i)=n at nk bd sz fit nl tl etk;obtain⟨d,ds,rfl,hd⟩:=jt rx;have hd':=sOf nk _ _ hd;refine⟨_,rfl,d,_,_,.str x.word,rfl,rfl,AX.of hd',Bt (j:=0) rfl,by show 3<=sizeLine;decide,fun lq hlq=>?_⟩;have s2:=AY (o:=.lst [V.str "text",V.str "back",V.str "find"]) hlq;have nk2:=nk.ext s2;refine⟨lq,_,rfl,.inl (AJ.of AM),rfl,rfl,_,rfl,?_⟩;have aw:=gF x;show if(!Gp (.str x.word) [.str "text",.str "back",.str "find"])=true then _ else _;rw[aw]
   cases ha:x.asks with
   |true=>refine BK (BK ?_);refine⟨_,rfl,?_⟩;rw[etk];unfold HX;rw[AH ha];exact nk2
   |false=>
    generalize upd H' lq (.lst [V.str "text",V.str "back",V.str "find"])=H2 at nk2;refine Bo ⟨_,rfl,_,rfl,a,.ref d,x,H,n,rfl,nk2,fit,rx.same (sOf nk2),gx,fun nm no h=>bd.b.tx _ (BL h),fun H3 s3=>⟨rfl,_,rfl,?_⟩⟩;have nk3:=nk2.ext s3;by_cases hb:BX n x=""
    ·refine CD (by rw[hb]) ⟨_,rfl,_,rfl,a,.ref d,x,H,n,rfl,nk3,fit,bd,by lia,by lia,rx,gx,ha,hb,fun a' o' e=>?_,fun H4 nk4=>⟨_,rfl,?_⟩⟩
     ·subst e;exact dN bd sz hk gx hb
     ·rw[etk];unfold HX;rw[AG (by rw[ha];exact CZ),AH hb];exact nk4
    ·refine CT (fun z=>hb (V.str.inj z)) ?_;refine⟨_,rfl,?_⟩;rw[etk];unfold HX;rw[AG (by rw[ha];exact CZ),AG hb];exact nk3
  ·rintro σ H' ⟨v2,rfl,nk⟩;have e6:ys.length=xs.length:=by have:=rr.1;rw[AK] at this;exact this.symm
   rw[e6,Cy] at nk;exact⟨_,rfl,q a H' nk⟩
def ja:V->List V->Hp->VK->Prop:=fun x vs H Q=>∃(l:Ya)(z:Str)(zs:List Str),x=.ref l/\vs=[.str z]/\H l=some (.lst (zs.map V.str))/\Q (.int (zs.countP fun y=>decide (y=z):Nat)) H
def Xx{z:Str}:∀{zs:List Str}{us:List AB},Vals (zs.map V.str) us->us.countP (EC (.str z))=zs.countP fun y=>decide (y=z)
 |[],_,h=>by cases h;rfl
 |y::zs,_,h=>by
  cases h with
  |cons r t=>
   rw[Jy,Jy,Xx t,Tj r rfl];show _+(if(y==z)=true then 1 else 0)=_;by_cases e:y=z
   ·rw[AH (FE.mpr e),AH (BW e)]
   ·rw[AG (fun q=>e (FE.mp q)),AG (fun q=>e (IT q))]
def eh:Hh X "list.count" ja:=by
 intro pins s σ H x vs v us Q I rx rv h;obtain⟨l,z,zs,rfl,rfl,hl,q⟩:=h;cases rx;obtain⟨u,rfl,ru⟩:=rv.one;have fs:(zs.map V.str).all Ig=true:=by rw[List.all_map];exact K5.mpr fun _ _=>rfl
 obtain⟨y,AO,n,r,hl',e⟩:=I.Ji hl;refine JG F.slot_list_count ⟨_,e,rfl⟩ F.entry_list_count (F.args_list_count_2 _ _) (SeqAt.list_countAt l AO.toArray n none #[] u (EC (.str z))) ⟨e,fun w hw=>LS ru rfl r fs w (by simpa using hw),?_⟩;refine⟨.int _,H,I.tok _,⟨_,rfl⟩,?_⟩;show Q (.int (AO.countP (EC (.str z)):Nat)) H;rw[Xx r];exact q
def lV(L:List Str):IK " " L=Str.join ⟨#[32]⟩ L:=by
 rw[<-blank_eq]
 match L with
 |[]=>rfl
 |[_]=>rfl
 |_::_::_=>exact StrLaws.glued_eq_join _ _
def V1{L:List Str}(hn:L≠[])(hf:∀p∈L,32∉p.cps.toList):Txt.split (IK " " L) " " =L:=by refine Wq _ _ ?_;rw[Vn,lV,Rj];refine Tr _ (fun z=>hn (OS.mp z)) fun p hp=>?_;obtain⟨q,hq,rfl⟩:=BP.mp hp;exact hf q hq
def j5{n:Str}(h:isNm n=true):32∉n.cps.toList:=fun z=>by unfold isNm at h;rw[D6] at h;have:=K5.mp h.2 32 z;revert this;decide+kernel
def NA(n:Str):("[" ++n++ "]" :Str).cps.toList=91::(n.cps.toList++[93]):=by rw[LX,LX,KR,KY,Bb];rfl
def Pk(n:Str):("[" ++n++ "]" :Str).length=n.length+2:=by rw[<-LN,NA,CS,Au,LN];rfl
def n8{n:Str}(h:isNm n=true):ET ("[" ++n++ "]")=true:=by
 unfold ET Hl;have e1:Txt.slice ("[" ++n++ "]") none (some 1)="[" :=by rw[str_list,Rw,NA,KR];rfl
 have e2:Txt.slice ("[" ++n++ "]") (some (-1)) none="]" :=by
  rw[str_list,RI,NA,Pk,KY,<-Mm];refine List.drop_left' ?_;rw[CS,LN]
  lia
 rw[WD,h,<-Ry,<-Sy,e1,e2,BW rfl,BW rfl];rfl
def Zk{n:Str}(h:isNm n=true):C6 ("[" ++n++ "]")=(("to" :Str),n):=by unfold C6;rw[AH (n8 h)];unfold Hl;rw[WD]
def lK{w:Str}(h:ET w=true): "[" ++Hl w++ "]" =w:=by
 unfold ET at h;rw[D6,D6,<-Ry,<-Sy] at h;have e1:=BJ (fun z:Str=>z.cps.toList) (V.str.inj (IT h.1));have e2:=BJ (fun z:Str=>z.cps.toList) (V.str.inj (IT h.2.1));have e3:Hl w≠ "" :=fun z=>by rw[z] at h;exact absurd h.2.2 (by left)
 rw[Rw,KR] at e1;rw[RI,KY] at e2;have ei:(Hl w).cps.toList=(w.cps.toList.drop 1).take (w.length-2):=Vj w;have hl:3<=w.length:=by
  rcases Nat.lt_or_ge 2 w.length with z|z
  ·exact z
  ·refine absurd (str_list.mpr ?_) e3;rw[ei,show w.length-2=0 by lia];rfl
 rw[str_list,NA,ei];have hc:=LN w;generalize w.cps.toList=c at e1 e2 hc
 cases c with
 |nil=>cases e1
 |cons a c=>
  have ea:a=91:=by simpa using e1
  rw[ea];rw[CS] at hc;rw[show w.length-1=(w.length-2)+1 by lia,List.drop_succ_cons] at e2;rw[<-e2];show 91::(c.take (w.length-2)++c.drop (w.length-2))=_;rw[DQ]
def YV:("word" :Str)≠ "to" :=by left
def Lc(n:Str):BE (("to" :Str),n)="[" ++n++ "]" :=AH rfl
def TC(x:Str):BE (("word" :Str),x)=x:=AG YV
def Kw(n:Str):Prop:=isNm n=true/\n.length≠5
inductive WQ:PR->Prop
 |to {n:Str}:Kw n->WQ (("to" :Str),n)
 |wd {x:Str}:x≠ "" ->32∉x.cps.toList->¬ET x=true->WQ (("word" :Str),x)
section
variable{p:PR}{n:Str}
def WQ.back(h:WQ p):C6 (BE p)=p:=by
 cases h with
 |to h=>rw[Lc,Zk h.1]
 |wd _ _ h=>rw[TC];unfold C6;rw[AG h]
def WQ.free(h:WQ p):32∉(BE p).cps.toList:=by
 cases h with
 |to h=>
  rw[Lc,NA];intro z;rcases Be.mp z with e|e
  ·cases e
  ·rcases Bk.mp e with e|e
   ·exact j5 h.1 e
   ·cases Bj.mp e
 |wd _ h _=>rw[TC];exact h
def WQ.ne(h:WQ p):BE p≠ "" :=fun z=>by
 cases h with
 |to h=>rw[Lc] at z;have:=BJ Str.length z;rw[Pk] at this;cases this
 |wd h _ _=>rw[TC] at z;exact h z
def WQ.told(h:WQ p)(hn:isNm n=true):BE p="[" ++n++ "]"↔p=(("to" :Str),n):=by
 constructor
 ·intro e;rw[<-h.back,e,Zk hn]
 ·intro e;rw[e,Lc]
def Vw(h:∀p∈ws,WQ p):Txt.split (BQ ws) " " =if ws=[] then[("" :Str)] else ws.map BE:=by
 by_cases e:ws=[]
 ·rw[AH e,e];refine V1 (L:=[("" :Str)]) (List.cons_ne_nil _ _) fun p hp=>?_;rw[Bj.mp hp];decide
 ·rw[AG e];refine V1 (fun z=>e (OS.mp z)) fun p hp=>?_;obtain⟨q,hq,rfl⟩:=BP.mp hp;exact(h q hq).free
def oC(n:Str):("" :Str)≠ "[" ++n++ "]" :=fun z=>by have:=BJ Str.length z;rw[Pk] at this;cases this
def gR(h:∀p∈ws,WQ p)(hn:isNm n=true):(((Txt.split (BQ ws) " ").countP fun z=>decide (z="[" ++n++ "]"):Nat):Int)=He ws n:=by
 rw[Vw h];unfold He;by_cases e:ws=[]
 ·rw[AH e,e,Jy,AG (by simpa using oC n)];rfl
 ·rw[AG e,List.countP_map];refine BJ Nat.cast (List.countP_congr fun p hp=>?_);show decide (BE p=_)=true↔_;rw[decide_eq_true_iff,decide_eq_true_iff,(h p hp).told hn]
def WQ.rd{w:Str}(h0:w≠ "")(hf:32∉w.cps.toList)(h7:w.length≠7):WQ (C6 w):=by
 unfold C6;by_cases e:ET w=true
 ·rw[AH e];have e2:=e;unfold ET at e2;rw[D6,D6] at e2;refine .to ⟨e2.2.2,fun z=>h7 ?_⟩;rw[<-lK e,Pk,z]
 ·rw[AG e];exact .wd h0 hf e
def WQ.split{t:Str}(h:T7 t.cps.toList):∀p∈EI t,WQ p:=fun p hp=>by
 obtain⟨w,hw,rfl⟩:=BP.mp hp;obtain⟨h1,h2⟩:=IW.mp hw;refine WQ.rd (by simpa using h2) ?_ ?_
 ·rw[blank_eq] at h1;exact StrLaws.split_free t 32 w h1
 ·rw[<-LN];refine h _ ?_;rw[<-Vn];exact List.mem_map_of_mem h1
def WQ.on(h:∀p∈ws,WQ p)(hm:Kw m):∀p∈CO ws n m,WQ p:=fun p hp=>by
 obtain⟨q,hq,rfl⟩:=BP.mp hp;by_cases e:q=(("to" :Str),n)
 ·rw[AH e];exact .to hm
 ·rw[AG e];exact h q hq
end
def DZ(l:List Pg):Prop:=∀p∈l,Kw p.1/\∀q∈p.2,WQ q
section
variable{l:List Pg}{k a b:Str}{v:List PR}
def NZ(h:DZ l)(hk:Kw k)(hv:∀q∈v,WQ q):DZ (AV l k v):=fun p hp=>by
 rcases Ie hp with z|rfl
 ·exact h p z
 ·exact⟨hk,hv⟩
def Se(h:DZ l):DZ (AN l k):=fun p hp=>h p (Du hp).1
def Za(h:DZ l)(hb:Kw b):DZ (DE l a b):=fun p hp=>by obtain⟨q,hq,rfl⟩:=BP.mp hp;exact⟨(h q hq).1,WQ.on (h q hq).2 hb⟩
def Ii(h:DZ l)(e:AF l k=some v):Kw k/\∀q∈v,WQ q:=h _ (BL e)
def jm(h:DZ l)(x:Am)(hx:x.Kx):DZ ((D8 l x).next l):=by
 cases x with
 |write n t=>
  show DZ ((GY l n t).next l);unfold GY;by_cases e:isNm n=true
  ·rw[AH e];exact NZ h ⟨e,hx.1⟩ (WQ.split hx.2)
  ·rw[AG e];exact h
 |rename n m=>
  show DZ ((GQ l n m).next l);unfold GQ
  cases e:AF l n with
  |none=>exact h
  |some ws=>
   dsimp only;by_cases e2:isNm m=true
   ·rw[AH e2]
    cases e3:AF l m with
    |none=>exact Za (NZ (Se h) ⟨e2,hx⟩ (Ii h e).2) ⟨e2,hx⟩
    |some _=>exact h
   ·rw[AG e2];exact h
 |join n o=>
  show DZ ((EK l n o).next l);unfold EK
  cases e:AF l n with
  |none=>exact h
  |some w1=>
   dsimp only
   cases e2:AF l o with
   |none=>exact h
   |some w2=>
    dsimp only;by_cases e3:n=o
    ·rw[AH e3];exact h
    ·rw[AG e3];refine Za (NZ (Se h) (Ii h e).1 fun q hq=>?_) (Ii h e).1;rcases Bk.mp hq with z|z
     ·exact(Ii h e).2 q z
     ·exact(Ii h e2).2 q z
 |cut n p m=>
  show DZ ((FR l n p m).next l);unfold FR
  cases e:AF l n with
  |none=>exact h
  |some ws=>
   dsimp only;by_cases e2:isNm m=true
   ·rw[AH e2]
    cases e3:AF l m with
    |some _=>exact h
    |none=>
     dsimp only;split
     ·exact h
     ·refine NZ (NZ h ⟨e2,hx⟩ fun q hq=>(Ii h e).2 q (I0 hq)) (Ii h e).1 fun q hq=>?_;rcases Bk.mp hq with z|z
      ·exact(Ii h e).2 q (Gv z)
      ·rw[Bj.mp z];exact .to ⟨e2,hx⟩
   ·rw[AG e2];exact h
 |drop n=>
  show DZ ((Gf l n).next l);unfold Gf
  cases e:AF l n with
  |none=>exact h
  |some _=>exact Se h
 |text n=>
  show DZ ((Fu l n).next l);unfold Fu
  cases e:AF l n with
  |none=>exact h
  |some _=>exact h
 |back n=>exact h
 |find ws far=>show DZ ((if ws=[] then Rs.no "no words" else Rs.un l).next l);split<;>exact h
def ZW:∀(xs:List Am){l:List Pg},DZ l->(∀x∈xs,x.Kx)->DZ (CU l xs)
 |[],_,h,_=>h
 |x::xs,_,h,hx=>ZW xs (jm h x (hx x DR)) fun y hy=>hx y (DJ _ hy)
end
def Fr(m:Str)(l:List Pg):Prop:=∀p∈l,p.1≠m/\(("to" :Str),m)∉p.2
noncomputable def cW(n:Str)(x:Tx):Int:=((Txt.split x.2 " ").countP fun z=>decide (z="[" ++n++ "]"):Nat)
def WQ.inv{p:PR}(h:WQ p)(e:p.1=("to" :Str)):Kw p.2:=by
 cases h with
 |to h=>exact h
 |wd=>exact absurd e YV
def tt(p:Pg):Tx:=(p.1,BQ p.2)
section
variable{l l':List Pg}{n:Str}
def Lb(nd:(l.map (·.1)).Nodup):(Cw l).Perm (l.map tt):=by unfold Cw keys;refine((My Gg _).map _).trans (.of_eq ?_);rw[Bf];refine EF fun p hp=>?_;show(p.1,BQ ((AF l p.1).getD []))=_;rw[FF nd hp];rfl
def Xm{a b:List Int}(h:a.Perm b):a.sum=b.sum:=by
 induction h with
 |nil=>rfl
 |cons x _ ih=>rw[Bz,Bz,ih]
 |swap x y l=>
  simp only[Bz]
  lia
 |trans _ _ i1 i2=>exact i1.trans i2
def Xs(h:l.Perm l')(a:Str):cnt l a=cnt l' a:=Xm (h.map _)
def Rp(nd:(l.map (·.1)).Nodup)(h:AF l n=some ws):l.Perm (AN l n++[(n,ws)]):=by
 have nl:l.Nodup:=(Mc.mp nd).imp fun h e=>h (BJ _ e);refine(List.perm_ext_iff_of_nodup nl (OZ.mpr ⟨nl.filter _,IV.mpr ⟨JC,Mo⟩,fun a ha b hb z=>?_⟩)).mpr fun x=>?_
 ·rw[z,Bj.mp hb] at ha;exact(Du ha).2 rfl
 ·rw[Bk,Bj];constructor
  ·intro hx;by_cases e:x.1=n
   ·refine .inr ?_;have:=FF nd hx;rw[e,h] at this;exact Prod.ext e (Ai this).symm
   ·exact .inl (G9 hx e)
  ·rintro(z|z)
   ·exact(Du z).1
   ·rw[z];exact BL h
def m9(h:DZ l)(hm:m.length=5):Fr m l:=fun p hp=>⟨fun e=>(h p hp).1.2 (by rw[e,hm]),fun z=>(((h p hp).2 _ z).inv rfl).2 hm⟩
def Tg(h:Fr m l):AF l m=none:=by
 cases e:AF l m with
 |none=>rfl
 |some v=>exact absurd rfl (h _ (BL e)).1
def kK(nd:(l.map (·.1)).Nodup)(h:DZ l)(hn:isNm n=true):((Cw l).map (cW n)).sum=cnt l n:=by rw[Xm ((Lb nd).map _),Bf];exact BJ List.sum (EF fun p hp=>gR (h p hp).2 hn)
end
section
variable{l l':List Pg}{n:Str}{v:List PR}
def ie(h:∀p∈ws,WQ p):(Txt.split (BQ ws) " ").filter (fun z:Str=>decide (z≠ ""))=ws.map BE:=by
 rw[Vw h];by_cases e:ws=[]
 ·rw[AH e,e];rfl
 ·rw[AG e];refine VW.mpr fun z hz=>?_;obtain⟨p,hp,rfl⟩:=BP.mp hz;exact BW (h p hp).ne
def XU(nd:(l.map (·.1)).Nodup)(h:AF l n=some ws):(AV l n v).Perm (AN l n++[(n,v)]):=by
 have e:AV l n v=l.map fun p=>if p.1=n then(p.1,v) else p:=by unfold AV;rw[AH (Jz.mpr ⟨_,BL h,BW rfl⟩)]
 rw[e];refine((Rp nd h).map _).trans (.of_eq ?_);rw[A8];congr 1
 ·conv=>rhs;rw[<-KC (AN l n)]
  refine EF fun p hp=>?_;rw[AG (Du hp).2];rfl
 ·show[if n=n then _ else _]=_;rw[AH rfl]
def XM(nd:(l.map (·.1)).Nodup)(fr:Fr m l)(h:AF l n=some ws):(cutAt l n m ws k).Perm (AN l n++[(n,ws.take k++[(("to" :Str),m)])]++[(m,ws.drop k)]):=by
 have hm:=Tg fr;have hne:n≠m:=fun e=>by rw[e,hm] at h;cases h
 unfold cutAt;have D5:((AV l m (ws.drop k)).map (·.1)).Nodup:=EL nd;rw[G0 hm] at D5⊢;have h2:AF (l++[(m,ws.drop k)]) n=some ws:=FF D5 (GC _ (BL h));refine(XU D5 h2).trans ?_;have e:AN (l++[(m,ws.drop k)]) n=AN l n++[(m,ws.drop k)]:=by unfold AN;rw[I9,Fi (p:=fun p:Pg=>decide (p.1≠n)) (BW fun e:m=n=>hne e.symm)];rfl
 rw[e,Bb,Bb];exact ON _ (List.Perm.swap _ _ _)
def T4(h:(("to" :Str),m)∉ws):CO ws m n=ws:=by
 unfold CO;conv=>rhs;rw[<-KC ws]
 exact EF fun q hq=>by rw[AG fun e:q=(("to" :Str),m)=>h (e▸hq)];rfl
def fq(nd:(l.map (·.1)).Nodup)(Ei:((cutAt l n m ws k).map (·.1)).Nodup)(fr:Fr m l)(h:AF l n=some ws):
 AF (cutAt l n m ws k) n=some (ws.take k++[(("to" :Str),m)])/\AF (cutAt l n m ws k) m=some (ws.drop k)/\
  (joined (cutAt l n m ws k) n m (ws.take k++[(("to" :Str),m)]) (ws.drop k)).Perm (AN l n++[(n,ws.take k++[(("to" :Str),n)]++ws.drop k)]):=by
 have hm:=Tg fr;have hne:n≠m:=fun e=>by rw[e,hm] at h;cases h
 have pm:=XM (k:=k) nd fr h;have g1:AF (cutAt l n m ws k) n=some (ws.take k++[(("to" :Str),m)]):=FF Ei (pm.mem_iff.mpr (GC _ (Dq _ DR)));have g2:AF (cutAt l n m ws k) m=some (ws.drop k):=FF Ei (pm.mem_iff.mpr (Dq _ DR));refine⟨g1,g2,?_⟩;generalize cutAt l n m ws k=c at Ei pm g1 g2;have fw:=fr _ (BL h);unfold L2.joined L2.DE;have p1:(AN c m).Perm (AN l n++[(n,ws.take k++[(("to" :Str),m)])]):=by refine(List.Perm.filter _ pm).trans (.of_eq ?_);rw[I9,I9,Fi (p:=fun p:Pg=>decide (p.1≠m)) (a:=(n,ws.take k++[(("to" :Str),m)])) (BW hne),F8 (by simp)];show _=_;rw[show List.filter (fun p:Pg=>decide (p.1≠m)) (AN l n)=AN l n from VW.mpr fun p hp=>BW (fr p (Du hp).1).1];exact Ct _
 have g3:AF (AN c m) n=some (ws.take k++[(("to" :Str),m)]):=by rw[EH hne];exact g1
 have p2:(AN (AN c m) n).Perm (AN l n):=by refine(List.Perm.filter _ p1).trans (.of_eq ?_);rw[I9,F8 (by simp)];show List.filter _ (AN l n)++[]=_;rw[Ct];exact VW.mpr fun p hp=>BW (Du hp).2
 refine(((XU (DK Ei) g3).trans (p2.append_right _)).map _).trans (.of_eq ?_);rw[A8];congr 1
 ·conv=>rhs;rw[<-KC (AN l n)]
  exact EF fun p hp=>Prod.ext rfl (T4 (fr p (Du hp).1).2)
 ·show[(n,CO _ m n)]=_;have e1:CO (ws.take k) m n=ws.take k:=T4 fun z=>fw.2 (Gv z);have e2:CO (ws.drop k) m n=ws.drop k:=T4 fun z=>fw.2 (I0 z);unfold CO at e1 e2⊢;rw[A8,A8,e1,e2];show[(n,ws.take k++[if _ then _ else _]++_)]=_;rw[AH rfl]
def cnt_join(nd:(l.map (·.1)).Nodup)(h:AF l n=some ws):cnt (AN l n++[(n,ws.take k++[(("to" :Str),n)]++ws.drop k)]) n=cnt l n+1:=by
 rw[Xs (Rp nd h)];unfold L2.cnt;rw[A8,A8,Oe,Oe];show _+(He _ n+0)=_+(He ws n+0)+1;have:He (ws.take k++[(("to" :Str),n)]++ws.drop k) n=He ws n+1:=by
  unfold He;conv=>rhs;rw[<-DQ k ws]
  rw[Q1,Q1,Q1,Jy,AH (BW rfl),List.countP_nil]
  lia
 lia
def iP(nd:(l.map (·.1)).Nodup)(h:AF l n=some ws)(hj:(Cw l)[j]? =some (n,BQ ws)):((Cw l).take j++(Cw l).drop (j+1)).Perm ((AN l n).map tt):=by
 have p1:(Cw l).Perm ((n,BQ ws)::((Cw l).take j++(Cw l).drop (j+1))):=by
  conv=>lhs;rw[<-DQ j (Cw l),Jt (BZ.mp hj).1,(BZ.mp hj).2]
  exact List.perm_middle
 have p2:(Cw l).Perm ((n,BQ ws)::(AN l n).map tt):=by refine((Lb nd).trans ((Rp nd h).map tt)).trans ?_;rw[A8];exact IP
 exact(List.perm_cons _).mp (p1.symm.trans p2)
end
def T6(K:uJ):Sp:=fun vs H Q _=>∃(a:Ya)(ns:List Int),vs=[.ref a]/\AJ K H a (ns.map V.int)/\ns.length<=63/\∀H',Q (.bl true) H'
def ay(K:uJ):Sp:=fun vs H Q _=>∃(a:Ya)(ns:List Int)(m b:Int),vs=[.ref a,.int m,.int b]/\AJ K H a (ns.map V.int)/\ns.length<=63/\Q (.int m) H
def jb(ns:List Int)(b:Nat):∃ms:List Int,Cn (ns.map V.int) (some 1) (some (1+(b:Int)))=ms.map V.int/\ms.length<=b:=by
 unfold Cn;refine⟨(ns.drop (BD (ns.map V.int).length 0 (some 1))).take (BD (ns.map V.int).length (ns.map V.int).length (some (1+(b:Int)))-BD (ns.map V.int).length 0 (some 1)),by rw[J7,J8],?_⟩;have e1:=Pa (ns.map V.int).length 0 1;have e2:=Pa (ns.map V.int).length (ns.map V.int).length (1+b);rw[show(some (((1+b:Nat)):Int))=some (1+(b:Int)) by rw[Int.natCast_add];rfl] at e2;rw[Bc,C9,e2,show(some (1:Int))=some ((1:Nat):Int) from rfl,e1]
 lia
def RW(hK:X.K=K):DO X (.type "list") (fun xs H Q=>∃p ys,xs=[.ref p]/\(AJ K H p ys\/AX K H p ys)/\∀l,H l=none->Q (.ref l) (upd H l (.lst ys))):=by subst hK;exact cX
def Tp:∀l:List Tx,Dt.Cq (l.map DP)=3*l.length
 |[]=>rfl
 |t::l=>by
  rw[Ay,CS];have:=Tp l;show(DP t).sz+Dt.Cq (l.map DP)=_;rw[this];have:(DP t).sz=3:=rfl
  lia
def aE(K:uJ):Sp:=fun vs H Q _=>∃(a:Ya)(ns:List Int)(k:Nat),vs=[.ref a,.int k]/\AJ K H a (ns.map V.int)/\Q (.int (ns.getD k 0)) H
def bw{a b:Str}:Ab H [.str a,.str b] [.str a,.str b]:=Ab.snoc (Ab.snoc Ab.nil (.str _)) (.str _)
def cI{a b c:Str}:Ab H [.str a,.str b,.str c] [.str a,.str b,.str c]:=Ab.snoc bw (.str _)
def iE{tp:Ya}{xs:List V}{ds:List Am}(d:Am){dds:List Dt}{es:List V}(hL:H1 L=some (.lst xs))(rs:Ab (Ex H1 L) (ds.map Am.dt) xs)(ht:H1 tp=none)(ed:d.dt=.tup dds)(re:∀H,Ab H dds es):
 ∃H2,upd (upd H1 tp (.tup es)) L (.lst (xs++[.ref tp]))=H2/\H2 L=some (.lst (xs++[.ref tp]))/\Ab (Ex H2 L) ((ds++[d]).map Am.dt) (xs++[.ref tp])/\∀G,AQ G H1->G L=none->AQ G H2:=by
 refine⟨_,rfl,AM,?_,fun G s h=>(s.trans (AY ht)).upd h⟩;rw[Ex.upd,A8];refine(rs.same (Ex.mono (AY ht))).snoc ?_;rw[ed];exact Rep.K0 (Ex.at AM (A9 hL ht).symm) (re _)
def W8{t l:Ya}{xs:List V}{ds:List Am}(d:Am){dds:List Dt}{es:List V}(rs:Ab H (ds.map Am.dt) xs)(ht:H t=none)(hl:(upd H t (.tup es)) l=none)(hf:(upd (upd H t (.tup es)) l (.lst [.ref t])) f=none)(ed:d.dt=.tup dds)(re:∀H,Ab H dds es):
 ∃H',upd (upd (upd H t (.tup es)) l (.lst [.ref t])) f (.lst (xs++[.ref t]))=H'/\AQ H H'/\H' f=some (.lst (xs++[.ref t]))/\Ab H' ((ds++[d]).map Am.dt) (xs++[.ref t]):=by
 have s1:=AY (o:=.tup es) ht;have s2:=AY (o:=.lst [.ref t]) hl;have s3:=AY (o:=.lst (xs++[.ref t])) hf;refine⟨_,rfl,s1.trans (s2.trans s3),AM,?_⟩;rw[A8];refine(rs.same (s1.trans (s2.trans s3))).snoc ?_;rw[ed];exact Rep.K0 ((s2.trans s3) _ _ AM) (re _)
def SN(zs:List V)(k:Nat)(h:k<=zs.length):Cn zs (some (k:Int)) none=zs.drop k:=by unfold Cn;rw[Pa,Xu,J1 h];exact Fj (by rw[C9];lia)
def gO{ds:List Am}{d e:Am}{zs:List V}(t:Told [] (ds++[d]++[e]) H zs)(hz:zs.length=(ds++[d]++[e]).length){x y:Dt}(hx:(D8 (CU [] ds) d).Qi=some x)(hy:(D8 (CU [] (ds++[d])) e).Qi=some y):
 Ab H [x,y] (zs.drop ds.length):=by
 rw[Au,Au,CK,CK] at hz;have e1:zs.drop ds.length=[zs[ds.length]'(by lia),zs[ds.length+1]'(by lia)]:=by rw[Jt (by lia),Jt (by lia),K4 (by lia)]
 rw[e1];refine Ab.snoc (Ab.snoc Ab.nil ?_) ?_
 ·refine t ds.length d _ _ ?_ (Ap _) ?_
  ·rw[Bb,Cj (Ad _),EX];rfl
  ·rw[Bb,List.take_left];exact hx
 ·refine t (ds.length+1) e _ _ ?_ (Ap _) ?_
  ·have l1:(ds++[d]).length=ds.length+1:=by rw[Au,CK]
   rw[<-l1,Cj (Ad _),EX];rfl
  ·have l1:(ds++[d]).length=ds.length+1:=by rw[Au,CK]
   rw[<-l1,List.take_left];exact hy
noncomputable def Ih(x:Tx):List Key:=[.inr x.1,.inr x.2]
def ZG(nd:(AD.map (·.1)).Nodup):((Cw AD).map Ih).Pairwise fun x y=>DY y x=false:=by unfold Cw;rw[Bf];have h1:=Sl Gg (keys AD);have h2:(Kl (keys AD)).Nodup:=(My Gg (keys AD)).nodup_iff.mpr nd;refine Mc.mpr ((h1.and h2).imp fun{a b} z=>?_);show(if(Sum.inr b:Key)=Sum.inr a then _ else EU (.inr b) (.inr a))=false;rw[AG fun e=>z.2 (Sum.inr.inj e).symm];exact z.1
def Tq{x:Tx}(r:Rep H (DP x) y):∃t,y=.ref t/\H t=some (.tup [.str x.1,.str x.2]):=by obtain⟨t,xs,rfl,ht,rr⟩:=B1 r;obtain⟨u,v,rfl,r1,r2⟩:=HW rr;cases r1;cases r2;exact⟨t,rfl,ht⟩
def T9{H:Hp}:∀(l:List Tx)(ys:List V),Ab H (l.map DP) ys->∃ps:List (Ya×List Key),ys=ps.map (fun p=>V.ref p.1)/\ps.map (·.2)=l.map Ih/\∀p∈ps,H p.1=some (.tup (p.2.map kV))/\p.2.map kd=[kd (.inr ""),kd (.inr "")]
 |[],ys,r=>by
  cases ys with
  |nil=>exact⟨[],rfl,rfl,fun p hp=>by cases hp⟩
  |cons _ _=>have:=r.1;cases this
 |x::l,ys,r=>by
  cases ys with
  |nil=>have:=r.1;cases this
  |cons y ys=>
   obtain⟨ps,e1,e2,e3⟩:=T9 l ys ⟨Nat.succ.inj r.1,fun i d z h1 h2=>r.2 (i+1) d z h1 h2⟩;obtain⟨t,rfl,ht⟩:=Tq (r.2 0 _ _ rfl rfl);refine⟨(t,Ih x)::ps,by rw[e1];rfl,by rw[Ay,Ay,e2],fun p hp=>?_⟩;rcases Be.mp hp with e|e
   ·rw[e];exact⟨ht,rfl⟩
   ·exact e3 p e
def UC{H:Hp}:∀(l:List Tx)(qs:List (Ya×List Key)),qs.map (·.2)=l.map Ih->(∀p∈qs,H p.1=some (.tup (p.2.map kV)))->Ab H (l.map DP) (qs.map fun p=>V.ref p.1)
 |[],qs,e,_=>by
  cases qs with
  |nil=>exact Ab.nil
  |cons _ _=>cases e
 |x::l,qs,e,h=>by
  cases qs with
  |nil=>cases e
  |cons q qs=>
   obtain⟨e1,e2⟩:=Gy e;have r:=UC l qs e2 fun p hp=>h p (DJ _ hp);have hq:=h q DR;rw[show q.2=Ih x from e1] at hq;refine⟨BJ Nat.succ r.1,fun i d z h1 h2=>?_⟩
   cases i with
   |zero=>cases Ai h1;cases Ai h2;exact Ll hq
   |succ i=>exact r.2 i d z h1 h2
def Rv(d:Am)(xs:List Am):CU [] (xs++[d])=(D8 (CU [] xs) d).next (CU [] xs):=Rm d xs []
def pM:Az ["_law_script","_law_most","_law_bound"] ["_law_script","_law_most","_law_bound"] (Ao Px):=by left
def mh(F:Aj K "_law_room" "_law_room" Px f fd)(O:Own mg):AW P w K mg base Ah 1 f fd ["_law_script","_law_most","_law_bound"] (ay K):=by
 refine F.ok pM ?_ ?_
 ·rintro _ _ _ _ ⟨_,_,_,_,rfl,_⟩;rfl
 ·rintro _ A _ s H _ Q E hr ⟨a,ns,m,b,rfl,hS,hl,q⟩;refine⟨_,AS (A7 (Ax Ts (BY IZ rfl O.len DB (AE (pv 0) AI)) Ac (Ar _)) (AU (An (pv 2))) BG) (AU (An (pv 1))),?_⟩;refine⟨_,rfl,a,_,rfl,.inl hS,_,_,rfl,rfl,_,rfl,CT (by rw[AK];lia) ⟨_,rfl,q⟩⟩
def pN:Az ["_law_script","_law_k"] ["_law_script","_law_k"] (Ao QS):=by left
def o7(F:Aj K "_law_at" "_law_at" QS f fd)(O:Own mg):AW P w K mg base Ah 1 f fd ["_law_script","_law_k"] (aE K):=by
 refine F.ok pN ?_ ?_
 ·rintro _ _ _ _ ⟨_,_,_,rfl,_⟩;rfl
 ·rintro _ A _ s H _ Q E hr ⟨a,ns,k,rfl,hS,q⟩;refine⟨_,AS (A7 (Ax JY (pv 1) (BY IZ rfl O.len DB (AE (pv 0) AI)) (Ar _)) (AU (An (CB YQ (pv 0) (pv 1) (fun _ _=>rfl)))) BG) (AU (An Ac)),?_⟩;refine⟨_,rfl,_,rfl,a,_,rfl,.inl hS,_,_,rfl,rfl,_,rfl,?_⟩;by_cases h:(k:Int)<((ns.map V.int).length:Nat)
  ·refine CD h ?_;rw[AK] at h;have hk:k<ns.length:=by lia
   refine⟨_,rfl,_,rfl,a,_,_,.int (ns.getD k 0),rfl,rfl,hS,Bt ?_,q⟩;rw[A0,Ap hk,Cs,Ap hk];rfl
  ·refine CT h ?_;rw[AK] at h;have hk:ns.length<=k:=by lia
   rw[Cs,Em hk] at q;exact q
def aB:Sp:=fun vs H Q _=>∃(l:Ya)(zs:List Str),vs=[.ref l]/\H l=some (.lst (zs.map V.str))/\zs.foldl (·+·.length+(" " :Str).length) 0<=sizeLine/\(IK " " zs).length<=sizeLine/\Q (.str (IK " " zs)) H
def nH:Az ["_law_words"] ["_law_words"] (Ao QQ):=by left
def kZ(F:Aj K "_law_put" "_law_put" QQ f fd):AW P w K mg base Ah 1 f fd ["_law_words"] aB:=by
 refine F.ok nH ?_ ?_
 ·rintro _ _ _ _ ⟨_,_,rfl,_⟩;rfl
 ·rintro _ A _ s H _ Q E hr ⟨l,zs,rfl,hl,h1,h2,q⟩;refine⟨_,AU (An (D4 Iy VJ VI S4 AZ (AE (pv 0) AI))),?_⟩;exact⟨rfl,_,rfl," ",l,zs,rfl,rfl,AJ.of hl,h1,h2,q⟩
def W2(zs:List V)(k:Nat)(h:k<=zs.length):Cn zs none (some (k:Int))=zs.take k:=by unfold Cn;rw[Pa,Xu,J1 h,Mp,Nat.sub_zero]
def gr{g:α->Dt}{l:List α}{xs:List V}(r:Ab H (l.map g) xs)(i j:Nat):Ab H ((l.take i++l.drop j).map g) (xs.take i++xs.drop j):=by
 have hl:l.length=xs.length:=by have:=r.1;rwa [AK] at this
 rw[A8,J7,J8];refine gU ⟨?_,fun k d x h1 h2=>?_⟩ ⟨?_,fun k d x h1 h2=>?_⟩
 ·rw[Bc,Bc,r.1]
 ·rw[OV] at h1 h2;by_cases e:k<i
  ·rw[AH e] at h1 h2;exact r.2 k d x h1 h2
  ·rw[AG e] at h1;cases h1
 ·rw[C9,C9,r.1]
 ·rw[Jv] at h1 h2;exact r.2 _ d x h1 h2
def three{c:Ya}{x y z:HO}(h1:H a=none)(h2:(upd H a x) b=none)(h3:(upd (upd H a x) b y) c=none):∃H',upd (upd (upd H a x) b y) c z=H'/\AQ H H'/\H' c=some z:=⟨_,rfl,(AY h1).trans ((AY h2).trans (AY h3)),AM⟩
def two{x y:HO}(h1:H a=none)(h2:(upd H a x) b=none):∃H',upd (upd H a x) b y=H'/\AQ H H'/\H' a=some x/\H' b=some y:=⟨_,rfl,(AY h1).trans (AY h2),(AY h2) _ _ AM,AM⟩
def oX{out:List Dt}(h:H D=none)(r:Ab H out ys):CI H D out (upd H D (.lst ys)):=⟨AY h,h,ys,AM,r.same (Ex.of_none (AY h) h)⟩
def EO:Az ["_law_script","_law_asked","_law_before","_law_spot","_law_name","_law_text","_law_words","_law_place","_law_others","_law_parted","_law_full","_law_first","_law_second","_law_found","_law_many","_law_one"] ["_law_script"] (Ao Lz):=by left
def kY{fRo fAt fPu:Ya}{fdRo fdAt fdPu:qo}(F:Aj K "law" "law" Lz f fd)(O:Own mg)(hso:mg "sorted" =none)
 (HDe:Hv P w K mg base "_law_deeds" 3 ["_law_cells"] YI)
 (FRo:Aj K "_law_room" "_law_room" Px fRo fdRo)(bRo:Binds K fdRo ["_law_script","_law_most","_law_bound"] [])(mRo:mg "_law_room" =some (.ref fRo))
 (FAt:Aj K "_law_at" "_law_at" QS fAt fdAt)(bAt:Binds K fdAt ["_law_script","_law_k"] [])(mAt:mg "_law_at" =some (.ref fAt))
 (FPu:Aj K "_law_put" "_law_put" QQ fPu fdPu)(bPu:Binds K fdPu ["_law_words"] [])(mPu:mg "_law_put" =some (.ref fPu))
 (HAn:Hv P w K mg base "answers" 9 ["deeds"] Wc)
 (HTe:Hv P w K mg base "texts" 10 ["deeds"] Xr)
 (HPy:Hv P w K mg base "_law_played" 4 ["_law_asked"] XS)
 (HAl:Hv P w K mg base "_law_alike" 2 ["_law_found","_law_due"] aH)
 (HTx:Hv P w K mg base "_law_texts" 4 ["_law_nook"] W9):
 AW P w K mg base Ah 11 f fd ["_law_script"] (T6 K):=by
 have GRo:AW P w K mg base Ah 1 fRo fdRo ["_law_script","_law_most","_law_bound"] (ay K):=mh FRo O;have GAt:AW P w K mg base Ah 1 fAt fdAt ["_law_script","_law_k"] (aE K):=o7 FAt O;have GPu:AW P w K mg base Ah 1 fPu fdPu ["_law_words"] aB:=kZ FPu;refine F.ok EO ?_ ?_
 ·rintro _ _ _ _ ⟨_,_,rfl,_⟩;rfl
 ·rintro _ A _ s H _ Q E hr ⟨a,ns,rfl,hS,hlen,k⟩;refine⟨_,(AS (Av (i:=1) EO.nd rfl (Aa rfl) (Cb HDe hr.mn rfl A3 (AE (Dr Pb (pv 0) (C0 Ac) (C0 (Ag DD Ac (CL GRo hr.mn rfl mRo FRo.kp bRo .nil A3 (AE (pv 0) (AE Ac (AE Ac AI))))))) AI))) (AS (Bp (D4 ED Fh Fg Es (pv 1) (AE (CJ (AE AZ (AE AZ (AE AZ AI)))) AI))) (AS (Av (i:=2) EO.nd rfl (Aa rfl) (Cb HTx hr.mn rfl A3 (AE (Cb HPy hr.mn rfl A3 (AE (pv 1) AI)) AI))) (AS (Av (i:=3) EO.nd rfl (Aa rfl) (Ag Bx (CL GAt hr.mn rfl mAt FAt.kp bAt .nil A3 (AE (pv 0) (AE Ac AI))) (BY E3 rfl O.len DB (AE (pv 2) AI)))) (AS (Pm (CB C2 (pv 2) (pv 3) (fun _ _=>rfl)) (Lj rfl (Fn (Bh (i:=4) EO.nd rfl (Aa rfl)) (Fn (Bh (i:=5) EO.nd rfl (Aa rfl)) LY)))) (AS (YL (i:=6) (ts:=["_law_word"]) (cap:=[]) (ix:=[]) (KJ rfl rfl (by left) (by left)) EO.nd rfl rfl (Fz (D4 Iy Qq Qp PH (pv 5) (AE AZ AI))) (fun _ _ _ _ _=>Bh (i:=0) Ei rfl (Aa rfl) (Cv rfl)) (fun _ _ _ _ _=>(NM (Ax Fw (pv 0) AZ (Ar _)))) (fun _ _ _ _ _=>(pv 0))) (AS (Av (i:=7) EO.nd rfl (Aa rfl) (Ag Bx (Ag JL (CL GAt hr.mn rfl mAt FAt.kp bAt .nil A3 (AE (pv 0) (AE Ac AI))) Ac) (Ag DD (BY E3 rfl O.len DB (AE (pv 6) AI)) Ac))) (AS (Av (i:=8) EO.nd rfl (Aa rfl) (Ag FK (Dr Io (pv 2) Fo (C0 (pv 3))) (Dr Io (pv 2) (C0 (Ag DD (pv 3) Ac)) Fo))) (AS (Av (i:=9) EO.nd rfl (Aa rfl) (Ag FK (pv 8) (Bu (AE (CJ (AE (pv 4) (AE (CL GPu hr.mn rfl mPu FPu.kp bPu .nil A3 (AE (Ag FK (Dr Io (pv 6) Fo (C0 (pv 7))) (Bu (AE AZ AI))) AI)) AI))) AI)))) (AS (Bp (D4 ED Fh Fg Es (pv 9) (AE (CJ (AE AZ (AE (CL GPu hr.mn rfl mPu FPu.kp bPu .nil A3 (AE (Dr Io (pv 6) (C0 (pv 7)) Fo) AI)) AI))) AI))) (AS (Av (i:=10) EO.nd rfl (Aa rfl) (CL GPu hr.mn rfl mPu FPu.kp bPu .nil A3 (AE (Ag FK (Ag FK (Dr Io (pv 6) Fo (C0 (pv 7))) (Bu (AE (Ag FC (Ag FC AZ (pv 4)) AZ) AI))) (Dr Io (pv 6) (C0 (pv 7)) Fo)) AI))) (AS (Av (i:=11) EO.nd rfl (Aa rfl) (Ag FK (pv 1) (Bu (AE (CJ (AE AZ (AE (pv 4) (AE (pv 7) (AE AZ AI))))) AI)))) (AS (Av (i:=12) EO.nd rfl (Aa rfl) (Ag FK (pv 11) (Bu (AE (CJ (AE AZ (AE (pv 4) (AE AZ AI)))) AI)))) (AS (Av (i:=13) EO.nd rfl (Aa rfl) (Cb HAn hr.mn rfl A3 (AE (Er (RW (K:=K) rfl) rfl O.lst Fs (AE (pv 12) AI)) AI))) (AS (A7 (PW.pt (Je (IA (EN (BY Ha rfl O.Gs Gd (AE (pv 13) (AE (Fq (v:=.ty "list") rfl O.lst Fs rfl) AI))))) (JU (Ax Fw (BY E3 rfl O.len DB (AE (pv 13) AI)) (BY E3 rfl O.len DB (AE (pv 12) AI)) (Ar _)))))
   (AU (An IE))
   BG) (AS (Av (i:=14) EO.nd rfl (Aa rfl) Ac) (AS (EJ EG rfl (Fz (pv 2)) (Bh (i:=15) EO.nd rfl (Aa rfl))
   (AU (Av (i:=14) EO.nd rfl (Aa rfl) (Ag DD (pv 14) (D4 ED uW uX eh (D4 Iy Qq Qp PH (BA (pv 15)) (AE AZ AI)) (AE (Ag FC (Ag FC AZ (pv 4)) AZ) AI)))))) (AS (A7 (IA (EN (Cb HAl hr.mn rfl A3 (AE (Dr Io (pv 13) (C0 (BY E3 rfl O.len DB (AE (pv 1) AI))) Fo) (AE (Bu (AE (Ag Pq (BY E3 rfl O.len DB (AE (pv 6) AI)) (pv 7)) (AE (pv 14) AI))) AI)))))
   (AU (An IE))
   BG) (AS (A7 (IA (EN (Cb HAl hr.mn rfl A3 (AE (Cb HTe hr.mn rfl A3 (AE (Er (RW (K:=K) rfl) rfl O.lst Fs (AE (pv 11) AI)) AI)) (AE (BY Oy rfl hso KA (AE (pv 9) AI)) AI)))))
   (AU (An IE))
   BG) (AU (An (Cb HAl hr.mn rfl A3 (AE (Cb HTe hr.mn rfl A3 (AE (Er (RW (K:=K) rfl) rfl O.lst Fs (AE (pv 12) AI)) AI)) (AE (BY Oy rfl hso KA (AE (Ag FK (pv 8) (Bu (AE (CJ (AE (pv 4) (AE (pv 10) AI))) AI))) AI)) AI)))))))))))))))))))))))),?_⟩;obtain⟨ms,em,hml⟩:=jb ns 32;refine⟨_,rfl,_,rfl,_,rfl,a,ns,32,100,rfl,hS,hlen,_,_,rfl,rfl,_,rfl,a,_,rfl,hS,fun p hp=>?_⟩;refine⟨p,ms,rfl,AJ.of (by rw[AM];exact BJ (fun z=>some (HO.lst z)) em),by lia,fun L ds0 xs0 H1 s1 hLn hL0 rs0 hdl good0=>?_⟩;have hSp:AJ K (upd H p (.lst (Cn (ns.map V.int) (some 1) (some (1+32))))) a (ns.map V.int):=(AY hp).seq hS;generalize upd H p (.lst (Cn (ns.map V.int) (some 1) (some (1+32))))=Hp0 at s1 hLn hSp;have xl0:xs0.length=ds0.length:=by have:=rs0.1;rw[AK] at this;lia
  refine⟨_,rfl,.inl ⟨rfl,_,AJ.of hL0⟩,by show 3<=sizeLine;decide,fun t1 ht1=>⟨L,xs0,_,rfl,rfl,(AY ht1) _ _ hL0,by rw[Aw];lia,?_⟩⟩;obtain⟨H3,e,hL,rs,s3⟩:=iE (.write "b" "oak [b] elm [cat]") hL0 rs0 ht1 rfl fun _=>cI;rw[e];have s3:=s3 _ s1 hLn;have goodQ:∀d∈ds0++[Am.write "b" "oak [b] elm [cat]"],d.Good/\d.Kx:=fun d hd=>by
   rcases Bk.mp hd with e|e
   ·exact good0 d e
   ·rw[Bj.mp e];exact⟨⟨by left,by left⟩,by left,by left⟩
  have hd33:(ds0++[Am.write "b" "oak [b] elm [cat]"]).length<=33:=by rw[Au,CK];lia
  have hne:CU [] (ds0++[Am.write "b" "oak [b] elm [cat]"])≠[]:=fun z=>by rw[Rv] at z;have z2:AV (CU [] ds0) "b" (EI "oak [b] elm [cat]")=[]:=z;have:=Cu (k:=("b" :Str)) (j:="b") (v:=EI "oak [b] elm [cat]") (CU [] ds0);rw[z2,AH rfl] at this;cases this
  generalize ds0++[Am.write "b" "oak [b] elm [cat]"]=ds at rs goodQ hd33 hne;generalize xs0++[V.ref t1]=xs at hL rs;have good:∀d∈ds,d.Good:=fun d hd=>(goodQ d hd).1;have rsL:Ab H3 (ds.map Am.dt) xs:=rs.same Ex.sub;have xl:xs.length=ds.length:=by have:=rsL.1;rw[AK] at this;lia
  clear rs0 rs hL0 good0;refine⟨_,rfl,_,ds,rfl,Rep.Fd hL rsL,good,by lia,fun an H4 nk=>?_⟩;obtain⟨bd,ev⟩:=Sa ds F4 bg good;have ev':vw (E1 F4 ds)=CU [] ds:=ev;have sz:=Lh ds 0 [] NU good;have szv:=sz;rw[<-ev'] at szv;obtain⟨fit,nl,tl⟩:=fits_of bd szv (by lia);have s4:AQ H3 H4:=let⟨_,_,_,nk⟩:=nk;nk.same;have hst:=sz.BI;have nd:=sz.nd;have pi:DZ (CU [] ds):=ZW ds (fun p hp=>by cases hp) fun d hd=>(goodQ d hd).2;have pl:=sz.len;have k40:∀k∈keys (CU [] ds),k.length<=40:=fun k hk=>by rw[<-ev'] at hk;have hk:k∈(vw (E1 F4 ds)).map (·.1):=hk;rw[D7] at hk;obtain⟨p,hp,rfl⟩:=BP.mp hk;exact bd.nm p hp
  refine⟨an,H3,E1 F4 ds,rfl,nk,fit,bd,by lia,by rw[ev'];lia,fun u H5 s5 ru=>?_⟩;rw[ev'] at ru;have t5:AQ H3 H5:=s4.trans s5;have hS5:=(s3.trans t5).seq hSp;have hL5:=t5 _ _ hL;have rs5:=rsL.same t5;generalize epg:CU [] ds=AD at*;clear rsL nk s4 s5 hL szv fit bd ev ev' nl tl s1 s3 hSp hLn t5;obtain⟨lb,bs,rfl,hlb,rb⟩:=Ew ru;have hpl:0<AD.length:=by
   cases AD with
   |nil=>exact absurd rfl hne
   |cons _ _=>exact Nat.succ_pos _
  have txl:(Cw AD).length=AD.length:=by unfold Cw keys;rw[AK,(My Gg _).length_eq,AK]
  have bl:bs.length=AD.length:=by have:=rb.1;rw[AK] at this;lia
  refine⟨_,rfl,a,ns,0,rfl,hS5,_,rfl,lb,_,rfl,.inl (AJ.of hlb),_,_,rfl,rfl,(by show(0:Int)<(bs.length:Nat);lia),?_⟩;obtain⟨j,ej,hj⟩:∃j:Nat,ns.getD 0 0%((bs.length:Nat):Int)=(j:Int)/\j<bs.length:=by have h1:=Mn (ns.getD 0 0) (b:=((bs.length:Nat):Int)) (by lia);have h2:=MY (ns.getD 0 0) (b:=((bs.length:Nat):Int)) (by lia);exact⟨(ns.getD 0 0%((bs.length:Nat):Int)).toNat,by lia,by lia⟩
  dsimp only[Dy];rw[ej];obtain⟨x,hx,rx⟩:=Hw rb (Ap hj);obtain⟨pg,hpg,rfl⟩:=BP.mp ((Lb nd).mem_iff.mp (CF hx));obtain⟨tx,etx,htx⟩:=Tq rx;obtain⟨nm,ws⟩:=pg;change H5 tx=some (.tup [.str nm,.str (BQ ws)]) at htx;have hw0:=FF nd hpg;obtain⟨hnq,hwq⟩:=Ii pi hw0;have nml:nm.length<=40:=k40 _ (List.mem_map_of_mem hpg);have hws:wsum ws<=1700000:=by have:=JO hpg;lia
  have htl:(BQ ws).length<=1700000:=BF (NP (by left) ws) hws;refine⟨_,rfl,_,rfl,lb,_,_,.ref tx,rfl,rfl,AJ.of hlb,Bt (by rw[Ap hj,etx]),tx,_,rfl,AX.of htx,rfl,_,_,rfl,_,_,rfl,rfl,?_⟩;clear etx htx rx hpg k40;refine⟨_,rfl,rfl,BQ ws,_,rfl,rfl,by left,by rw[Aw];show(BQ ws).length+2<=_;lia,fun D0 hD0=>?_⟩;have s6:=AY (o:=.lst ((Txt.split (BQ ws) " ").map V.str)) hD0;have h0:(upd H5 D0 (.lst ((Txt.split (BQ ws) " ").map V.str))) D0=some (.lst ((Txt.split (BQ ws) " ").map V.str)):=AM;generalize upd H5 D0 (.lst ((Txt.split (BQ ws) " ").map V.str))=H6 at s6 h0;refine⟨D0,rfl,⟨_,AJ.of h0⟩,fun Dw hDw=>GK (K:=[]) (xs:=(Txt.split (BQ ws) " ").map V.str) (fun i H'=>CI H6 Dw ((((Txt.split (BQ ws) " ").take i).filter fun z:Str=>decide (z≠ "")).map Dt.str) H') (CI.start hDw) (fun i H' _ c=>AJ.of (c.same _ _ h0)) (fun i y H9 ey cw=>?_) fun H7 cw=>?_⟩
  ·rw[A0] at ey
   cases ez:(Txt.split (BQ ws) " ")[i]?with
   |none=>rw[ez] at ey;cases ey
   |some z=>
   rw[ez] at ey;obtain rfl:V.str z=y:=Ai ey;rw[take_succ_filter ez];refine⟨FV,⟨_,rfl,rfl,_,rfl,?_⟩⟩;by_cases e:z=""
   ·rw[AG (by simpa using e),Ct];exact ER (BJ V.str e) cw
   ·rw[AH (BW e),A8];refine Gh (fun q=>e (V.str.inj q)) ⟨_,rfl,YO cw (d:=.str z) (.str _) ?_⟩;rw[AK];have h1:=F9 (fun z:Str=>decide (z≠ "")) ((Txt.split (BQ ws) " ").take i);have h2:=Hn i (Txt.split (BQ ws) " ");have h3:=split_le (BQ ws) " "
    lia
  rw[AK,Cy,ie hwq] at cw;obtain⟨yw,hyw,ryw⟩:=cw.lst;obtain rfl:=LQ ryw;have s7:=s6.trans cw.same;have hS7:=s7.seq hS5;have hlb7:=s7 _ _ hlb;have rb7:=rb.same s7;have hL7:=s7 _ _ hL5;have rs7:=rs5.same s7;clear cw ryw h0 s6 hD0 hDw hlb rb hL5 rs5 hS5 ru;have wl:((ws.map BE).map V.str).length=ws.length:=by rw[AK,AK]
  refine⟨_,rfl,a,ns,0,rfl,hS7,_,_,rfl,rfl,⟨by decide,by decide⟩,_,rfl,Dw,_,rfl,.inl (AJ.of hyw),_,_,rfl,rfl,_,_,rfl,rfl,(by lia),?_⟩;obtain⟨kk,ek,hk⟩:∃kk:Nat,ns.getD 0 0/6%((((ws.map BE).map V.str).length:Nat)+1:Int)=(kk:Int)/\kk<=ws.length:=by have h1:=Mn (ns.getD 0 0/6) (b:=((((ws.map BE).map V.str).length:Nat)+1:Int)) (by lia);have h2:=MY (ns.getD 0 0/6) (b:=((((ws.map BE).map V.str).length:Nat)+1:Int)) (by lia);exact⟨(ns.getD 0 0/6%((((ws.map BE).map V.str).length:Nat)+1:Int)).toNat,by lia,by lia⟩
  dsimp only[Dy];rw[ek];have ec1:Cn bs none (some (j:Int))=bs.take j:=W2 bs j (by lia);have ec2:Cn bs (some ((j:Int)+1)) none=bs.drop (j+1):=SN bs (j+1) (by lia);have ew1:Cn ((ws.map BE).map V.str) none (some (kk:Int))=((ws.take kk).map BE).map V.str:=by rw[W2 _ _ (by lia),J7,J7]
  have ew2:Cn ((ws.map BE).map V.str) (some (kk:Int)) none=((ws.drop kk).map BE).map V.str:=by rw[SN _ _ (by lia),J8,J8]
  have tdw:wsum (ws.take kk)+wsum (ws.drop kk)=wsum ws:=by rw[<-JI,DQ]
  have okJ:∀l:List PR,wsum l<=2000000->(l.map BE).foldl (·+·.length+(" " :Str).length) 0<=sizeLine/\(IK " " (l.map BE)).length<=sizeLine:=fun l hl=>by rw[Aw];exact⟨BF (PF 1 (Ad 1) l 0) (by lia),BF (NP (by left) l) (by lia)⟩
  have wTo:∀z:Str,z.length<=40->wsum [(("to" :Str),z)]<=43:=fun z hz=>by
   show max 40 z.length+3+0<=43
   lia
  have lnw:(ws.take kk).length<=100000/\(ws.drop kk).length<=100000:=by
   have:=KI ws;rw[Bc,C9]
   lia
  refine⟨_,rfl,_,rfl,_,rfl,lb,_,rfl,AJ.of hlb7,fun o1 ho1=>⟨_,rfl,_,rfl,_,_,rfl,rfl,_,rfl,lb,_,rfl,AJ.of ((AY ho1) _ _ hlb7),fun o2 ho2=>⟨o1,o2,_,_,rfl,rfl,(AY ho2) _ _ AM,AM,?_,fun o3 ho3=>?_⟩⟩⟩
  ·rw[ec1,ec2,Aw,Bc,C9]
   lia
  rw[ec1,ec2] at ho3⊢;rw[ec1] at ho2;obtain⟨H8,e8,s8,h8⟩:=three (z:=.lst (bs.take j++bs.drop (j+1))) ho1 ho2 ho3;rw[e8];have rO:=gr (rb7.same s8) j (j+1);have ol:(bs.take j++bs.drop (j+1)).length<=100:=by rw[Au,Bc,C9];lia
  have pO:=iP nd hw0 hx;generalize bs.take j++bs.drop (j+1)=os at h8 rO ol;generalize(Cw AD).take j++(Cw AD).drop (j+1)=oth at rO pO;have hw8:=s8 _ _ hyw;clear e8 ho1 ho2 ho3 ec1 ec2;refine⟨_,rfl,_,rfl,_,rfl,_,rfl,_,rfl,Dw,_,rfl,AJ.of hw8,fun w1 hw1=>⟨by show 1<=sizeLine;decide,fun q1 hq1=>⟨w1,q1,_,_,rfl,rfl,(AY hq1) _ _ AM,AM,?_,fun w2 hw2=>?_⟩⟩⟩
  ·rw[ew1,AK,AK,Aw];show _+1<=_
   lia
  have et1:((ws.take kk).map BE).map V.str++[V.str "[quill]"]=((ws.take kk++[(("to" :Str),("quill" :Str))]).map BE).map V.str:=by rw[A8,A8];refine BJ _ ?_;show _=[V.str (BE (("to" :Str),("quill" :Str)))];rw[Lc,show("[" ++ "quill" ++ "]" :Str)="[quill]" by left]
  rw[ew1] at hw2 hq1⊢;rw[et1];obtain⟨H9,e9,s9,h9⟩:=three (z:=.lst (((ws.take kk++[(("to" :Str),("quill" :Str))]).map BE).map V.str)) hw1 hq1 hw2;rw[e9];have q40:("quill" :Str).length<=40:=by left
  obtain⟨f1,f2⟩:=okJ (ws.take kk++[(("to" :Str),("quill" :Str))]) (by rw[JI];have:=wTo _ q40;lia);refine⟨w2,_,rfl,h9,f1,f2,by show 2<=sizeLine;decide,fun tp htp=>⟨by show 1<=sizeLine;decide,fun pl1 hpl1=>⟨o3,pl1,_,_,rfl,rfl,(AY hpl1) _ _ ((AY htp) _ _ (s9 _ _ h8)),AM,by rw[Aw];show os.length+1<=_;lia,fun P hP=>?_⟩⟩⟩;obtain⟨HG,eG,sT,hTp,-⟩:=two (y:=.lst [V.ref tp]) htp hpl1;rw[eG] at hP⊢;have cP:=oX hP (show Ab HG ((oth++[(nm,BQ (ws.take kk++[(("to" :Str),("quill" :Str))]))]).map DP) (os++[V.ref tp]) from by
   rw[A8 (f:=DP)];exact(rO.same (s9.trans sT)).snoc (Ll (x:=(nm,BQ (ws.take kk++[(("to" :Str),("quill" :Str))]))) hTp));have sG:=s8.trans (s9.trans sT);have hwG:=(s9.trans sT) _ _ hw8;have rOG:=rO.same (s9.trans sT);have h8G:=(s9.trans sT) _ _ h8;clear e9 s9 h9 hw1 hq1 hw2 f1 f2 htp hpl1 sT rO h8 hw8 s8 et1 eG hTp;obtain⟨z0,hz0,_⟩:=cP.lst;refine⟨_,rfl,.inl ⟨rfl,_,AJ.of hz0⟩,_,rfl,_,rfl,_,rfl,Dw,_,rfl,AJ.of (cP.same _ _ hwG),fun w3 hw3=>?_⟩;rw[ew2];obtain⟨f3,f4⟩:=okJ (ws.drop kk) (by lia);refine⟨w3,_,rfl,AM,f3,f4,by show 2<=sizeLine;decide,fun tq htq=>?_⟩;obtain⟨HT,eT,sT2,-,hTq⟩:=two (y:=.tup [.str "quill",.str (IK " " ((ws.drop kk).map BE))]) hw3 htq;rw[eT];have nt:tq≠P:=(A9 ((AY hw3) _ _ hz0) htq).symm;obtain⟨z6,hz6,hlz,c3⟩:=YO (cP.ext sT2) (d:=DP (("quill" :Str),BQ (ws.drop kk))) (y:=.ref tq) (Ll (x:=(("quill" :Str),BQ (ws.drop kk))) (Ex.at hTq nt)) (by
   have:=rOG.1;rw[AK] at this;rw[AK,Au,CK]
   lia);refine⟨P,z6,_,rfl,rfl,hz6,hlz,?_⟩;have eP:(oth++[(nm,BQ (ws.take kk++[(("to" :Str),("quill" :Str))]))]).map DP++[DP (("quill" :Str),BQ (ws.drop kk))]=(oth++[(nm,BQ (ws.take kk++[(("to" :Str),("quill" :Str))]))]++[(("quill" :Str),BQ (ws.drop kk))]).map DP:=(A8 (f:=DP) (l₂:=[(("quill" :Str),BQ (ws.drop kk))])).symm;rw[eP] at c3;generalize upd HT P (.lst (z6++[V.ref tq]))=HB at c3;obtain⟨zp,hzp,rzp⟩:=c3.lst;have rzp:=rzp.same Ex.sub;have sB:=sG.trans c3.same;have hwB:=c3.same _ _ hwG;have rOB:=rOG.same c3.same;have h8B:=c3.same _ _ h8G;have hlbB:=sB _ _ hlb7;have rbB:=rb7.same sB;have hLB:=sB _ _ hL7;have rsB:=rs7.same sB;clear c3 hz6 hlz eP nt f3 f4 hw3 htq cP hz0 sG hwG rOG h8G sB hlb7 rb7 hL7 rs7 hP hS7 hyw s7 eT sT2 hTq;have ln1:("[" :Str).length+nm.length<=sizeLine:=by
   rw[Aw,show("[" :Str).length=1 by left]
   lia
  have ln2:("[" ++nm:Str).length+("]" :Str).length<=sizeLine:=by
   rw[Hx,Aw,show("[" :Str).length=1 by left,show("]" :Str).length=1 by left]
   lia
  refine⟨_,rfl,_,rfl,_,rfl,Dw,_,rfl,AJ.of hwB,fun w4 hw4=>⟨_,rfl,_,_,rfl,rfl,ln1,_,_,rfl,rfl,ln2,by show 1<=sizeLine;decide,fun q2 hq2=>⟨w4,q2,_,_,rfl,rfl,(AY hq2) _ _ AM,AM,?_,fun w5 hw5=>?_⟩⟩⟩
  ·rw[ew1,AK,AK,Aw];show _+1<=_
   lia
  rw[ew1] at hq2 hw5⊢;obtain⟨HC,eC,sC,hC⟩:=three (z:=.lst (((ws.take kk).map BE).map V.str++[V.str ("[" ++nm++ "]")])) hw4 hq2 hw5;rw[eC];refine⟨_,rfl,_,rfl,_,rfl,Dw,_,rfl,AJ.of (sC _ _ hwB),fun w6 hw6=>⟨w5,w6,_,_,rfl,rfl,(AY hw6) _ _ hC,AM,?_,fun w7 hw7=>?_⟩⟩
  ·rw[ew2,Au,AK,AK,AK,AK,Aw];show _+1+_<=_
   lia
  have et2:((ws.take kk).map BE).map V.str++[V.str ("[" ++nm++ "]")]++((ws.drop kk).map BE).map V.str=((ws.take kk++[(("to" :Str),nm)]++ws.drop kk).map BE).map V.str:=by rw[A8,A8,A8,A8,<-Lc];rfl
  rw[ew2] at hw7⊢;rw[et2];obtain⟨f5,f6⟩:=okJ (ws.take kk++[(("to" :Str),nm)]++ws.drop kk) (by rw[JI,JI];have:=wTo _ nml;lia);obtain⟨HD,eD,sD0,-,hD7⟩:=two (y:=.lst (((ws.take kk++[(("to" :Str),nm)]++ws.drop kk).map BE).map V.str)) hw6 hw7;rw[eD];refine⟨w7,_,rfl,hD7,f5,f6,?_⟩;have sD:=sC.trans sD0;have hzD:=sD _ _ hzp;have rzD:=rzp.same sD;have hwD:=sD _ _ hwB;have rOD:=rOB.same sD;have h8D:=sD _ _ h8B;have hlbD:=sD _ _ hlbB;have rbD:=rbB.same sD;have hLD:=sD _ _ hLB;have rsD:=rsB.same sD;clear hzp rzp hwB rOB h8B hlbB rbB hLB rsB sD sC hC eC hw4 hq2 hw5 hw6 hw7 et2 f5 f6 ew1 ew2 eD sD0 hD7;refine⟨_,rfl,_,rfl,_,rfl,by show 4<=sizeLine;decide,fun a1 ha1=>⟨by show 1<=sizeLine;decide,fun b1 hb1=>⟨L,b1,_,_,rfl,rfl,(AY hb1) _ _ ((AY ha1) _ _ hLD),AM,by rw[Aw];show xs.length+1<=_;lia,fun f1 hf1=>?_⟩⟩⟩;obtain⟨H7,e,sF,hF,rF⟩:=W8 (.cut nm kk "quill") rsD ha1 hb1 hf1 rfl fun _=>Ab.snoc (Ab.snoc bw (.int _)) (.str _);rw[e];refine⟨_,rfl,_,rfl,by show 3<=sizeLine;decide,fun a2 ha2=>⟨by show 1<=sizeLine;decide,fun b2 hb2=>⟨f1,b2,_,_,rfl,rfl,(AY hb2) _ _ ((AY ha2) _ _ hF),AM,by rw[Aw,Au];show xs.length+1+1<=_;lia,fun f2 hf2=>?_⟩⟩⟩;obtain⟨H8,e,sG,hG,rG⟩:=W8 (.join nm "quill") rF ha2 hb2 hf2 rfl fun _=>cI;rw[e];have good1:∀d∈ds++[Am.cut nm kk "quill"],d.Good:=fun d hd=>by
   rcases Bk.mp hd with e|e
   ·exact good d e
   ·rw[Bj.mp e];exact⟨nml,q40⟩
  have good2:∀d∈ds++[Am.cut nm kk "quill"]++[Am.join nm "quill"],d.Good:=fun d hd=>by
   rcases Bk.mp hd with e|e
   ·exact good1 d e
   ·rw[Bj.mp e];exact⟨nml,q40⟩
  have l1:(ds++[Am.cut nm kk "quill"]).length=ds.length+1:=by rw[Au,CK]
  have l2:(ds++[Am.cut nm kk "quill"]++[Am.join nm "quill"]).length=ds.length+2:=by rw[Au,l1,CK]
  have l3:(xs++[V.ref a1]++[V.ref a2]).length=xs.length+2:=by rw[Au,Au,CK,CK]
  have fr:=m9 pi (m:="quill") (by left);have hnq2:nm≠ "quill" :=fun e=>(fr _ (BL hw0)).1 e;have d1:D8 AD (.cut nm kk "quill")=.ok (.int ((ws.drop kk).length:Nat)) (cutAt AD nm "quill" ws kk):=by show FR AD nm kk "quill" =_;unfold FR;rw[hw0];dsimp only;rw[AH (by left),Tg fr];dsimp only;rw[AG (by lia)];rfl
  have p1:CU [] (ds++[Am.cut nm kk "quill"])=cutAt AD nm "quill" ws kk:=by rw[Rv,epg,d1];rfl
  have Ei:((cutAt AD nm "quill" ws kk).map (·.1)).Nodup:=by
   have:=(Lh (ds++[Am.cut nm kk "quill"]) 0 [] NU good1).nd
   rwa [p1] at this
  obtain⟨g1,g2,pm2⟩:=fq nd Ei fr hw0;have pm1:=((Lb Ei).trans ((XM (k:=kk) nd fr hw0).map tt));generalize cutAt AD nm "quill" ws kk=pg1 at d1 p1 Ei g1 g2 pm2 pm1;have d2:D8 pg1 (.join nm "quill")=.ok (.int (cnt AD nm+1)) (L2.joined pg1 nm "quill" (ws.take kk++[(("to" :Str),("quill" :Str))]) (ws.drop kk)):=by show EK pg1 nm "quill" =_;unfold EK;rw[g1];dsimp only;rw[g2];dsimp only;rw[AG hnq2,Xs pm2,cnt_join nd hw0]
  have p2:CU [] (ds++[Am.cut nm kk "quill"]++[Am.join nm "quill"])=L2.joined pg1 nm "quill" (ws.take kk++[(("to" :Str),("quill" :Str))]) (ws.drop kk):=by rw[Rv,p1,d2];rfl
  have D5:((L2.joined pg1 nm "quill" (ws.take kk++[(("to" :Str),("quill" :Str))]) (ws.drop kk)).map (·.1)).Nodup:=by
   have:=(Lh (ds++[Am.cut nm kk "quill"]++[Am.join nm "quill"]) 0 [] NU good2).nd
   rwa [p2] at this
  have pm3:=(Lb D5).trans (pm2.map tt);generalize L2.joined pg1 nm "quill" (ws.take kk++[(("to" :Str),("quill" :Str))]) (ws.drop kk)=pg2 at d2 p2 D5 pm2 pm3;rw[A8] at pm3;rw[A8,A8] at pm1;have pmA:(Cw pg1).Perm (oth++[(nm,BQ (ws.take kk++[(("to" :Str),("quill" :Str))]))]++[(("quill" :Str),BQ (ws.drop kk))]):=pm1.trans ((pO.symm.append_right _).append_right _);have pmB:(Cw pg2).Perm (oth++[(nm,BQ (ws.take kk++[(("to" :Str),nm)]++ws.drop kk))]):=pm3.trans (pO.symm.append_right _);refine⟨_,rfl,f2,_,rfl,.inl (AJ.of hG),fun c1 hc1=>?_⟩;have s9:=AY (o:=.lst (xs++[.ref a1]++[.ref a2])) hc1;have rc1:Rep (upd H8 c1 (.lst (xs++[.ref a1]++[.ref a2]))) (.lst ((ds++[Am.cut nm kk "quill"]++[Am.join nm "quill"]).map Am.dt)) (.ref c1):=Rep.Fd AM (rG.same s9);generalize upd H8 c1 (.lst (xs++[.ref a1]++[.ref a2]))=H9 at s9 rc1;refine⟨_,_,rfl,rc1,good2,by lia,R9 good2 (by lia),fun HA lf zs sA hlf zl2 told=>?_⟩;have t8:AQ H8 HA:=s9.trans sA;have t7:AQ H7 HA:=sG.trans t8;have t6:AQ HD HA:=sF.trans t7;have hFA:=t7 _ _ hF;have hGA:=t8 _ _ hG;have rFA:=rF.same t7;have rGA:=rG.same t8;have hzA:=t6 _ _ hzD;have rzA:=rzD.same t6;have hwA:=t6 _ _ hwD;have rOA:=rOD.same t6;have h8A:=t6 _ _ h8D;have hlbA:=t6 _ _ hlbD;have rbA:=rbD.same t6;have hLA:=t6 _ _ hLD;clear hF hG rF rG hzD rzD hwD rOD h8D hlbD rbD hLD rsD s9 sA sF sG t8 t7 t6 rc1 pm1 pm2 pm3;refine⟨_,rfl,.ref lf,"list",.type "list",true,rfl,(fun _=>Bm.lst hlf),(fun _=>Hu _),_,rfl,BK ?_⟩;refine⟨_,rfl,lf,_,rfl,.inl (AJ.of hlf),_,rfl,f2,_,rfl,.inl (AJ.of hGA),rfl,_,rfl,?_⟩;have en:((zs.length:Nat):Int)=((xs++[V.ref a1]++[V.ref a2]).length:Nat):=by rw[zl2,l2,l3,xl]
  rw[BW (BJ V.int en)];refine BK ?_;refine⟨_,rfl,lb,rfl,⟨_,AJ.of hlbA⟩,JH (K:=[]) (a:=lb) (xs:=bs) (fun i σ H'=>∃(mm:Int)(v15:Option V),σ=[some (.ref a),some (.ref L),some (.ref lb),some (.int (j:Int)),some (.str nm),some (.str (BQ ws)),some (.ref Dw),some (.int (kk:Int)),some (.ref o3),some (.ref P),some (.str (BQ (ws.take kk++[(("to" :Str),nm)]++ws.drop kk))),some (.ref f1),some (.ref f2),some (.ref lf),some (.int mm),v15]/\mm=(((Cw AD).take i).map (cW nm)).sum+1/\AQ HA H')
   ⟨1,none,rfl,rfl,AQ.refl _⟩ (fun i σ H' _ ⟨_,_,_,_,sm⟩=>AJ.of (sm _ _ hlbA)) ?_ ?_⟩
  ·rintro i y σ H' ey ⟨mm,v15,rfl,emm,sm⟩;obtain⟨r,er,rry⟩:=Hw rbA ey;obtain⟨tr,rfl,htr⟩:=Tq rry;obtain⟨pq,hpq,rfl⟩:=BP.mp ((Lb nd).mem_iff.mp (CF er));have htl2:(BQ pq.2).length<=1700000:=BF (NP (by left) pq.2) (by have:=JO hpq;lia);change HA tr=some (.tup [.str pq.1,.str (BQ pq.2)]) at htr;refine⟨_,rfl,_,rfl,tr,_,1,.str (BQ pq.2),rfl,rfl,AX.of (sm _ _ htr),rfl,rfl,BQ pq.2,_,rfl,rfl,by left,by rw[Aw];lia,fun D0 hD0=>⟨.inl ⟨rfl,_,AJ.of AM⟩,_,rfl,_,_,rfl,rfl,ln1,_,_,rfl,rfl,ln2,D0,_,_,rfl,rfl,AM,_,_,rfl,rfl,_,some (.ref tr),rfl,?_,sm.trans (AY hD0)⟩⟩;rw[JE er,Oe,List.sum_singleton,emm,Int.add_right_comm];rfl
  ·rintro σ H' ⟨mm,v15,rfl,emm,sm⟩;rw[bl,<-txl,Cy,kK nd pi hnq.1] at emm;subst emm;refine⟨_,rfl,_,rfl,L,_,rfl,.inl (AJ.of (sm _ _ hLA)),_,rfl,lf,_,rfl,AJ.of (sm _ _ hlf),fun sl hsl=>⟨_,rfl,Dw,_,rfl,.inl (AJ.of ((AY hsl) _ _ (sm _ _ hwA))),_,rfl,_,_,rfl,rfl,_,rfl,by show 2<=sizeLine;decide,fun ml hml2=>?_⟩⟩;have sS:=AY (o:=.lst (Cn zs (some (xs.length:Int)) none)) hsl;have sM:=AY (o:=.lst [V.int ((((ws.map BE).map V.str).length:Nat)-(kk:Int)),V.int (cnt AD nm+1)]) hml2;have rz:=(gO told zl2 (x:=.int ((ws.drop kk).length:Nat)) (y:=.int (cnt AD nm+1)) (by rw[epg,d1];rfl) (by rw[p1,d2];rfl)).same (sm.trans (sS.trans sM));have ed:(((ws.drop kk).length:Nat):Int)=(((ws.map BE).map V.str).length:Nat)-(kk:Int):=by
    rw[wl,C9]
    lia
   rw[ed] at rz;refine⟨_,_,_,rfl,Rep.Fd (sM _ _ (by rw[AM,SN _ _ (by lia),xl])) rz,Rep.Fd AM (Ab.snoc (Ab.snoc Ab.nil (.int _)) (.int _)),by show 1+(1+(1+0))<=1000000;decide,fun HE sE=>⟨_,rfl,BK ?_⟩⟩;have tE:AQ HA HE:=sm.trans (sS.trans (sM.trans sE));have hGE:=tE _ _ hGA;have rGE:=rGA.same tE;have rOE:=rOA.same tE;have h8E:=tE _ _ h8A;refine⟨_,rfl,f1,_,rfl,.inl (AJ.of (tE _ _ hFA)),fun c3 hc3=>?_⟩;have s3':=AY (o:=.lst (xs++[.ref a1])) hc3;refine⟨_,_,rfl,Rep.Fd AM ((rFA.same tE).same s3'),good1,by lia,R9 good1 (by lia),fun HI ue sI rue=>?_⟩;rw[p1] at rue;have tI:AQ HE HI:=s3'.trans sI;have ol2:oth.length=os.length:=by have:=rOA.1;rwa [AK] at this
   obtain⟨ps,e1,e2,e3⟩:=T9 _ _ (rzA.same (tE.trans tI));have hcq':HI P=some (.lst (ps.map fun p=>V.ref p.1)):=by rw[(tE.trans tI) _ _ hzA,e1]
   have pln:=BJ List.length e2;rw[AK,AK,Au,Au,CK,CK] at pln;refine⟨_,rfl,P,ps,[kd (.inr ""),kd (.inr "")],rfl,AJ.of hcq',(by intro z;cases z),e3,by lia,fun DS qs hDS hpq hsq=>?_⟩;have eqs:qs.map (·.2)=(Cw pg1).map Ih:=Ow lexOrd _ _ ((hpq.map _).trans ((List.Perm.of_eq e2).trans (pmA.map Ih).symm)) (Mc.mpr hsq) (ZG Ei);have sS:=AY (o:=.lst (qs.map fun p=>V.ref p.1)) hDS;have lpg:=pmA.length_eq;rw[Au,Au,CK,CK] at lpg;refine⟨_,_,_,rfl,rue.same sS,Rep.Fd AM (UC _ _ eqs fun p hp=>sS _ _ (e3 p (hpq.mem_iff.mp hp)).1),?_,fun HJ sJ=>⟨_,rfl,BK ?_⟩⟩
   ·show 1+Dt.Cq _<=_;rw[Tp]
    lia
   have tJ:AQ HE HJ:=tI.trans (sS.trans sJ);refine⟨_,rfl,f2,_,rfl,.inl (AJ.of (tJ _ _ hGE)),fun c4 hc4=>?_⟩;have s4':=AY (o:=.lst (xs++[.ref a1]++[.ref a2])) hc4;refine⟨_,_,rfl,Rep.Fd AM ((rGE.same tJ).same s4'),good2,by lia,R9 good2 (by lia),fun HM ug sM2 rug=>?_⟩;rw[p2] at rug;have tM:AQ HE HM:=tJ.trans (s4'.trans sM2);refine⟨_,rfl,_,rfl,_,rfl,by show 2<=sizeLine;decide,fun tq htq=>⟨by show 1<=sizeLine;decide,fun lq hlq=>⟨o3,lq,os,_,rfl,rfl,(AY hlq) _ _ ((AY htq) _ _ (tM _ _ h8E)),AM,by rw[Aw];show os.length+1<=_;lia,fun cq hcq=>?_⟩⟩⟩;have sT:=AY (o:=.tup [.str nm,.str (BQ (ws.take kk++[(("to" :Str),nm)]++ws.drop kk))]) htq;have sL:=AY (o:=.lst [V.ref tq]) hlq;have sQ:=AY (o:=.lst (os++[V.ref tq])) hcq;obtain⟨ps2,e4,e5,e6⟩:=T9 (oth++[(nm,BQ (ws.take kk++[(("to" :Str),nm)]++ws.drop kk))]) (os++[V.ref tq]) (by rw[A8];exact(rOE.same (tM.trans (sT.trans (sL.trans sQ)))).snoc (Ll ((sL.trans sQ) _ _ AM)));have pln2:=BJ List.length e5;rw[AK,AK,Au,CK] at pln2;refine⟨cq,ps2,[kd (.inr ""),kd (.inr "")],rfl,AJ.of (by rw[AM,e4]),(by intro z;cases z),e6,by lia,fun DT qt hDT hpt hst2=>?_⟩;have eqt:qt.map (·.2)=(Cw pg2).map Ih:=Ow lexOrd _ _ ((hpt.map _).trans ((List.Perm.of_eq e5).trans (pmB.map Ih).symm)) (Mc.mpr hst2) (ZG D5);have sU:=AY (o:=.lst (qt.map fun p=>V.ref p.1)) hDT;have lpg2:=pmB.length_eq;rw[Au,CK] at lpg2;refine⟨_,_,_,rfl,rug.same ((sT.trans (sL.trans sQ)).trans sU),Rep.Fd AM (UC _ _ eqt fun p hp=>sU _ _ (e6 p (hpt.mem_iff.mp hp)).1),?_,fun HN sN=>k HN⟩;show 1+Dt.Cq _<=_;rw[Tp]
   lia
section
variable{N R:Ya}{nm q:Str}{bs:List AB}{hd ab:Bool}{sn:List Str}{sub:List AB}{col:Option Bool}{k0 k1 k2 k3 k5:Option AB}
def Nl:Ij [.type "Exception",.type "BaseException",.type "object"]:=⟨by left,by left,by left,by left⟩
def nv:Ij [.ref R,.type "Exception",.type "BaseException",.type "object"]:=⟨IC Nl.exc rfl,IC Nl.base rfl,IC Nl.Jo rfl,IC Nl.cK rfl⟩
def mG(x:K.lookup R=some (r9 nm q R N bs bm hd sn sub ab col dd k0 k1 k2 k3 k5 "Exception.__new__"))(y:bm=[.type "Exception",.type "BaseException",.type "object"]):UJ K R:=
 ⟨bm,N,fun _ X=>⟨_,_,_,_,_,_,_,_,_,_,_,_,_,_,X _ _ x⟩,by rw[y];exact Nl⟩
def YZ(x:K.lookup C=some (r9 nm q C N bs bm hd sn sub ab col dd k0 k1 k2 k3 k5 "Exception.__new__"))(y:bm=[.ref R,.type "Exception",.type "BaseException",.type "object"])
 (e1:rj K C=true)(e2:qv K (.ref C) "answer" =some none)(e3:qv K (.ref C) "__setattr__" =some (some (.builtin "object.__setattr__")))(e4:qv K (.ref C) "__getattribute__" =some (some (.builtin "BaseException.__getattribute__")))(e5:qv K (.ref C) "__getattr__" =some none):Dg K C "answer" :=by
 refine⟨e1,e2,e3,e4,e5,?_⟩;unfold clsIn;rw[x];subst y;refine⟨_,[.ref C,.ref R],rfl,rfl,fun c hc=>?_⟩;rcases Be.mp hc with e|e
 ·exact⟨_,e⟩
 ·exact⟨_,Bj.mp e⟩
def og(m:mg x=some (.ref C))(xl:K.lookup C=some (r9 nm q C N bs bm hd sn sub ab col dd k0 k1 k2 k3 k5 "Exception.__new__"))(y:bm=[.ref R,.type "Exception",.type "BaseException",.type "object"])
 (ei:qv K (.ref C) "__init__" =some (some (.ref f)))(en:isFn K (.ref f)=true)(ek:rM K (.ref C)=true)(xa:Dg K C "answer")
 (F:AW P w K mg base Ah 2 f fd ["self"] (Fv C "answer" msg))(b:Binds K fd ["self"] []):Rz P w K mg base R x msg:=by
 subst y;exact⟨C,f,fd,_,m,⟨⟨N,fun _ X=>⟨_,_,_,_,_,_,_,_,_,_,_,_,_,_,X _ _ xl⟩⟩,ei,nv,en,ek⟩,F,b,⟨_,N,fun _ X=>⟨_,_,_,_,_,_,_,_,_,_,_,_,_,_,X _ _ xl⟩,by rw[Q2,Q2,JB,Bool.true_or,Bool.or_true]⟩,xa⟩
end
def N3(K:uJ):List (Str×hX)->Prop
 |[]=>True
 |(x,st)::r=>(∃f fd,uK K g0 x=some (some (.ref f))/\Aj K x x st f fd)/\N3 K r
def ao(K:uJ)(mg:Str->Option AB):List (Str×hX)->Prop
 |[]=>True
 |(x,st)::r=>(∃f fd,mg x=some (.ref f)/\Aj K x x st f fd)/\ao K mg r
def UT(K:uJ)(C:Ya):List (Str×Str×hX)->Prop
 |[]=>True
 |(x,q,st)::r=>(∃f fd,Meth K C x f/\Aj K x q st f fd)/\UT K C r
def UG(K:uJ)(R:Ya):List (Str×Str×hX)->Prop
 |[]=>True
 |(x,q,st)::r=>(∃C f fd,uK K g0 x=some (some (.ref C))/\Dg K C "answer" /\Aj K "__init__" q st f fd/\
  ∀(P:ql)(w:qu)(mg:Str->Option AB)(base:qp)(msg:Str),mg x=some (.ref C)->AW P w K mg base Ah 2 f fd ["self"] (Fv C "answer" msg)->Binds K fd ["self"] []->Rz P w K mg base R x msg)/\UG K R r
def QI(K:uJ):List Str->Prop
 |[]=>True
 |x::r=>uK K g0 x=some none/\QI K r
section
variable{st:hX}{R N:Ya}{oc kV doc pm cdv ct:AB}{an:Option Ya}
def Sk(X:K.In h)(G:h.Ns g0 mg):∀{L:List (Str×hX)},N3 K L->ao K mg L
 |[],_=>Cz
 |_::_,⟨⟨f,fd,a,F⟩,t⟩=>⟨⟨f,fd,IX X G a,F⟩,Sk X G t⟩
def X6(X:K.In h)(G:h.Ns g0 mg):∀{L:List Str},QI K L->∀x∈L,mg x=none
 |_::_,⟨a,_⟩,_,.head _=>mg_none_of X G a
 |_::_,⟨_,t⟩,_,.tail _ e=>X6 X G t _ e
local macro_rules| `(tactic|trivial)=> `(tactic|(
 intro _ _ _ _ _ _;first
  |exact all1 (fun _=>rfl)
  |exact all2 (fun _ _=>rfl)
  |exact p8 (fun _ _ _=>rfl)
  |exact pR rfl
  |exact pV (fun _ _ _ _=>rfl)))
def hv{st:hX}(F:Aj K x x st f fd)(G:AW P w K mg base Ah k f fd ps sp)(m:mg x=some (.ref f))
 (h:∀(kV doc pm:AB)(an:Option Ya)(cdv ct:AB)(us:List AB),us.length=ps.length->bindArgs (fnOf x x (JP st) (Ft st) (Ao st) .none kV doc pm an cdv ct) ⟨us,[]⟩=pure (ps.zip us):=by trivial):Hv P w K mg base x k ps sp:=⟨⟨_,_,G,F.binds h,m,F.kp⟩⟩
set_option maxRecDepth 10000 in
def all_mk{l:PySem.W.OpenLaw}{fa fRi NR:Ya}{nm qq:Str}{bs sub:List AB}{hd ab:Bool}{sn:List Str}{col:Option Bool}{k0 k1 k2 k3 k5:Option AB}(X:K.In h)(G:h.Ns g0 mg)(hfa:mg "law" =some (.ref fa))
 (aR:uK K g0 "Refusal" =some (some (.ref cR)))(xR:K.lookup cR=some (r9 nm qq cR NR bs bm hd sn sub ab col dd k0 k1 k2 k3 k5 "Exception.__new__"))(yR:bm=[.type "Exception",.type "BaseException",.type "object"])
 (rdR:readsIn K cR (.type "type")=true)(fiR:findCls K (.ref cR) (.type "type") "__init__" =some (.val (.ref fRi)))(spR:tN K (.ref cR) "__getattribute__" =some (some (.builtin "type.__getattribute__")))
 (lRi:K.lookup fRi=some ⟨oc,od,.func (fnOf "__init__" "Refusal.__init__" (JP J2) (Ft J2) (Ao J2) .none kV doc pm an cdv ct),osl⟩)(cRi:codeIn K cdv "Refusal.__init__" =true)(kRi:rM K (.ref fRi)=true)
 (E:UG K cR (U0.map fun z=>(z.1,z.2.1,z.2.2.1)))
 (aN:uK K g0 "Nook" =some (some (.ref cN)))(pgN:tF K cN Str.empty=true)(hdN:rj K cN=true)(poN:plainOver K cN=true)(saN:qv K (.ref cN) "__setattr__" =some (some (.builtin "object.__setattr__")))(mkN:makesIn K cN=true)(kcN:rM K (.ref cN)=true)(npN:qv K (.ref cN) "pages" =some none)
 (M:UT K cN Uv)
 (T:N3 K U4)(T2:N3 K US)
 (Z:QI K ["isinstance","list","tuple","str","int","bool","len","range","sum","sorted","set","enumerate","all","min"]):
 ∃fd:qo,(∀(s:Yf)(v:AB),tj s fd ⟨[v],[]⟩ [("_law_script",v)])/\∀base:qp,K.In base->base.Ns g0 mg->AW l.prog w K mg base Ah 11 fa fd ["_law_script"] (T6 K):=by
 have FRi:=lY (st:=J2) lRi cRi kRi;obtain⟨⟨_,_,mL,FL⟩,⟨_,_,mPI,FPI⟩,⟨_,_,mSH,FSH⟩,⟨_,_,mCP,FCP⟩,⟨_,_,mPP,FPP⟩,⟨_,_,mPO,FPO⟩,⟨_,_,mPN,FPN⟩,⟨_,_,mIN,FIN⟩,⟨_,_,mRW,FRW⟩,⟨_,_,mSU,FSU⟩,⟨_,_,mTW,FTW⟩,⟨_,_,mTT,FTT⟩,⟨_,_,mPT,FPT⟩,⟨_,_,mDD,FDD⟩,⟨_,_,mAD,FAD⟩,⟨_,_,mAA,FAA⟩,⟨_,_,mNB,FNB⟩,⟨_,_,mAN,FAN⟩,⟨_,_,mTE,FTE⟩,⟨_,_,msRoom,FsRoom⟩,-⟩:=Sk X G T;obtain⟨⟨_,_,msDraw,FsDraw⟩,⟨_,_,msWhole,FsWhole⟩,⟨_,_,msAl,FsAl⟩,⟨_,_,msOdd,FsOdd⟩,⟨_,_,msPenned,FsPenned⟩,⟨_,_,msSought,FsSought⟩,⟨_,_,msDeeds,FsDeeds⟩,⟨_,_,msIsName,FsIsName⟩,⟨_,_,msBegun,FsBegun⟩,⟨_,_,msNamed,FsNamed⟩,⟨_,_,msAdded,FsAdded⟩,⟨_,_,msLed,FsLed⟩,⟨_,_,msTurned,FsTurned⟩,⟨_,_,msPennedIn,FsPennedIn⟩,⟨_,_,msNameOf,FsNameOf⟩,⟨_,_,msShown,FsShown⟩,⟨_,_,msBarred,FsBarred⟩,⟨_,_,msJoined,FsJoined⟩,⟨_,_,msChanged,FsChanged⟩,⟨_,_,msPlayed,FsPlayed⟩,⟨_,_,msAt,FsAt⟩,⟨_,_,msTextOf,FsTextOf⟩,⟨_,_,msTexts,FsTexts⟩,⟨_,_,msPut,FsPut⟩,-⟩:=Sk X G T2;obtain⟨⟨_,_,a1,FM1⟩,⟨_,_,a2,FM2⟩,⟨_,_,a3,FM3⟩,⟨_,_,a4,FM4⟩,⟨_,_,a5,FM5⟩,⟨_,_,a6,FM6⟩,⟨_,_,a7,FM7⟩,⟨_,_,a8,FM8⟩,⟨_,_,a9,FM9⟩,⟨_,_,a10,FM10⟩,⟨_,_,a11,FM11⟩,⟨_,_,a12,FM12⟩,⟨_,_,a14,FM14⟩,-⟩:=M;obtain⟨⟨_,_,_,aE1,xa1,FE1,rE1⟩,⟨_,_,_,aE2,xa2,FE2,rE2⟩,⟨_,_,_,aE3,xa3,FE3,rE3⟩,⟨_,_,_,aE4,xa4,FE4,rE4⟩,⟨_,_,_,aE5,xa5,FE5,rE5⟩,⟨_,_,_,aE6,xa6,FE6,rE6⟩,-⟩:=E;cases hfa.symm.trans mL;have n:=X6 X G Z;have nlen:=n "len" (by simp);have nsorted:=n "sorted" (by simp);obtain⟨oc,od,kV,doc,pm,an,cdv,ct,osl,rfl,lk,hcd⟩:=FL.ex;refine⟨fnOf "law" "law" (JP Lz) (Ft Lz) (Ao Lz) .none kV doc pm an cdv ct,fun s v=>.of_eq rfl,fun base _ _=>?_⟩;have O:Own mg:=⟨(n "isinstance" (by simp)),(n "list" (by simp)),(n "tuple" (by simp)),(n "str" (by simp)),(n "int" (by simp)),(n "bool" (by simp)),nlen,(n "range" (by simp))⟩;have OP:Hc mg:=⟨(n "sum" (by simp)),nsorted,(n "set" (by simp)),nlen,(n "enumerate" (by simp)),(n "list" (by simp)),(n "all" (by simp)),(n "min" (by simp))⟩;have U:Il K mg cR fRi:=⟨IX X G aR,rdR,fiR,spR,kRi,mG xR yR⟩;have GR:AW l.prog w K mg base Ah 1 fRi _ ["self","answer"] (Ik K):=kS FRi;have R1:=rE1 l.prog w mg base "no page" (IX X G aE1) (eV FE1 U GR (FRi.binds (by trivial)) xa1) (FE1.binds (by trivial));have R2:=rE2 l.prog w mg base "no name" (IX X G aE2) (gK FE2 U GR (FRi.binds (by trivial)) xa2) (FE2.binds (by trivial));have R3:=rE3 l.prog w mg base "same page" (IX X G aE3) (cn FE3 U GR (FRi.binds (by trivial)) xa3) (FE3.binds (by trivial));have R4:=rE4 l.prog w mg base "taken" (IX X G aE4) (jA FE4 U GR (FRi.binds (by trivial)) xa4) (FE4.binds (by trivial));have R5:=rE5 l.prog w mg base "no place" (IX X G aE5) (de FE5 U GR (FRi.binds (by trivial)) xa5) (FE5.binds (by trivial));have R6:=rE6 l.prog w mg base "no words" (IX X G aE6) (dP FE6 U GR (FRi.binds (by trivial)) xa6) (FE6.binds (by trivial));have C:Ej K cN:=⟨⟨pgN,hdN,poN,saN⟩,npN⟩;have M:MJ l.prog w K mg base cN cR:=⟨⟨_,_,a2,jW FM2 C R1,(FM2.binds (by trivial))⟩,⟨_,_,a3,jC FM3 C R2 R4 FIN (FIN.binds (by trivial)) mIN OP,(FM3.binds (by trivial))⟩,⟨_,_,a4,iZ FM4 C OP FPT (FPT.binds (by trivial)) mPT,(FM4.binds (by trivial))⟩,⟨_,_,mCP,FCP.kp,lC FCP OP,(FCP.binds (by trivial))⟩⟩;have GSH:=mz FSH (hv FPI (oQ (P:=l.prog) (w:=w) (base:=base) FPI (n "enumerate" (by simp)) nsorted) mPI) nlen (n "min" (by simp));have GPN:=jJ FPN OP (hv FPO (lA FPO OP) mPO) (hv FSH GSH mSH);have MD:bH l.prog w K mg base cN cR:=⟨⟨_,_,a5,ic FM5 C OP R2 FIN (FIN.binds (by trivial)) mIN (hv FSU (oE FSU (hv FRW (nF FRW FIN (FIN.binds (by trivial)) mIN (n "all" (by simp))) mRW)) mSU),(FM5.binds (by trivial))⟩,⟨_,_,a6,eK FM6 C M,(FM6.binds (by trivial))⟩,⟨_,_,a7,j9 FM7 C M R3,(FM7.binds (by trivial))⟩,⟨_,_,a8,kQ FM8 C M R5 OP,(FM8.binds (by trivial))⟩,⟨_,_,a9,jg FM9 C M,(FM9.binds (by trivial))⟩,⟨_,_,a10,X1 FM10 C M (hv FTT (Ze FTT FTW (FTW.binds (by trivial)) mTW) mTT),(FM10.binds (by trivial))⟩,⟨_,_,a11,jO FM11 C (hv FPP (lZ FPP OP) mPP),(FM11.binds (by trivial))⟩,⟨_,_,a12,(ji FM12 C R6 OP (hv FPN GPN mPN)).mono (by decide),(FM12.binds (by trivial))⟩⟩;have GAA:=mE FAA (hv FAD (ma FAD U (nA FDD C MD) (FDD.binds (by trivial)) mDD FDD.kp) mAD);have GNB:=eF FNB ⟨mkN,a1.at_,a1.fn,kcN⟩ (W4 FM1 C) (FM1.binds (by trivial)) (IX X G aN) (hv FAA GAA mAA);have GAN:=d7 FAN ⟨mkN,a1.at_,a1.fn,kcN⟩ (W4 FM1 C) (FM1.binds (by trivial)) (IX X G aN) (hv FAA GAA mAA);have GDe:=iY (P:=l.prog) (w:=w) (base:=base) FsDeeds O (hv FsPenned (fz FsPenned O FsDraw (FsDraw.binds (by trivial)) msDraw FsOdd (FsOdd.binds (by trivial)) msOdd) msPenned) FsSought (FsSought.binds (by trivial)) msSought;have GAl:=oh (P:=l.prog) (w:=w) (base:=base) FsAl O FsWhole (FsWhole.binds (by trivial)) msWhole;have GAd:=iO (P:=l.prog) (w:=w) (base:=base) FsAdded O FsNamed (FsNamed.binds (by trivial)) msNamed;have GPi:=cj (P:=l.prog) (w:=w) (base:=base) FsPennedIn FsIsName (FsIsName.binds (by trivial)) msIsName;have GJo:=eW (P:=l.prog) (w:=w) (base:=base) FsJoined O FsTurned (FsTurned.binds (by trivial)) msTurned FsLed (FsLed.binds (by trivial)) msLed;have GSw:=iN (P:=l.prog) (w:=w) (base:=base) FsShown O FsNameOf (FsNameOf.binds (by trivial)) msNameOf;have GBa:=fh (P:=l.prog) (w:=w) (base:=base) FsBarred O FsIsName (FsIsName.binds (by trivial)) msIsName;have GCh:=dZ FsChanged O (hv FsAdded GAd msAdded) (hv FsPennedIn GPi msPennedIn) FsNamed (FsNamed.binds (by trivial)) msNamed FsLed (FsLed.binds (by trivial)) msLed (hv FsJoined GJo msJoined) FsTurned (FsTurned.binds (by trivial)) msTurned;have GPy:=ee FsPlayed FsBegun (FsBegun.binds (by trivial)) msBegun (hv FsBarred GBa msBarred) (hv FsChanged GCh msChanged);have GTe:=fB FTE C (hv FNB GNB mNB) a14 (jh FM14 C OP a10 (X1 FM10 C M (hv FTT (Ze FTT FTW (FTW.binds (by trivial)) mTW) mTT)) (FM10.binds (by trivial))) (FM14.binds (by trivial));have GTo:=lX FsTextOf (hv FsShown GSw msShown);have GTx:=fF FsTexts O nsorted (hv FsTextOf GTo msTextOf);exact kY FL O nsorted (hv FsDeeds GDe msDeeds) FsRoom (FsRoom.binds (by trivial)) msRoom FsAt (FsAt.binds (by trivial)) msAt FsPut (FsPut.binds (by trivial)) msPut (hv FAN GAN mAN) (hv FTE GTe mTE) (hv FsPlayed GPy msPlayed) (hv FsAl GAl msAl) (hv FsTexts GTx msTexts)
end
def Tw{v:Option (Option AB)}(h:N9 v=true):v=some (some (.ref (hRf v))):=by
 unfold N9 at h;split at h
 ·rfl
 ·cases h
section
variable{q:Str}{st:hX}
def QA(e:ML K f q=MA x q st):(∃fd,Aj K x q st f fd)/\isFn K (.ref f)=true:=by
 unfold ML at e;split at e
 ·rename_i oc od d osl h;obtain⟨a1,a2,a3,a4,a5,a6,a7,a8,a9,a10,a11,a12,a13,a14,a15⟩:=d;simp only[MA,Option.some.injEq,LC,D6] at e;obtain⟨rfl,rfl,rfl,rfl,rfl,rfl,rfl,rfl,rfl,⟨c,k⟩,i⟩:=e;exact⟨⟨_,⟨_,_,_,_,_,_,_,_,_,rfl,h,c⟩,k⟩,i⟩
 ·cases e
def ak(e:Qh K C=QV C bm):∃(nm qq:Str)(N:Ya)(bs:List AB)(hd:Bool)(sn:List Str)(sub:List AB)(ab:Bool)(col:Option Bool)(dd:Option Ya)(k0 k1 k2 k3 k5:Option AB),
 K.lookup C=some (r9 nm qq C N bs bm hd sn sub ab col dd k0 k1 k2 k3 k5 "Exception.__new__"):=by
 unfold Qh at e;split at e
 ·rename_i c od d sl h;obtain⟨a1,a2,a3,a4,a5,a6,a7,a8,a9,a10,a11⟩:=d;obtain⟨sl⟩:=sl;simp only[QV,Option.some.injEq,LC] at e;obtain⟨rfl,rfl,rfl,e⟩:=e;split at e
  ·cases Ai e;exact⟨_,_,_,_,_,_,_,_,_,_,_,_,_,_,_,h⟩
  ·cases e
 ·cases e
end
section
variable{R:Ya}
def aq:∀{L:List (Str×Str×hX×Ya)},bU K L=bX R L->UG K R (L.map fun z=>(z.1,z.2.1,z.2.2.1))
 |[],_=>Cz
 |(x,q,st,C)::L,e=>by obtain⟨e,r⟩:=Gy e;simp only[bL,bj,LC] at e;obtain⟨a,z,e1,e2,e3,e4,e5,e6,i,g⟩:=e;obtain⟨_,_,_,_,_,_,_,_,_,_,_,_,_,_,_,z⟩:=ak z;obtain⟨⟨fd,F⟩,i'⟩:=QA g;exact⟨⟨C,_,fd,a,YZ z rfl e1 e2 e3 e4 e5,F,fun _ _ _ _ _ m G B=>og m z rfl (Tw i) i' e6 (YZ z rfl e1 e2 e3 e4 e5) G B⟩,aq r⟩
def aJ:∀{L:List (Str×Str×hX)},bN K C L=bG L->UT K C L
 |[],_=>Cz
 |(x,q,st)::L,e=>by obtain⟨e,r⟩:=Gy e;obtain⟨i,g⟩:=LK e;obtain⟨⟨fd,F⟩,i'⟩:=QA g;exact⟨⟨_,fd,⟨Tw i,i',F.kp⟩,F⟩,aJ r⟩
def UH:∀{L:List (Str×hX)},Ud K L=Um L->N3 K L
 |[],_=>Cz
 |(x,st)::L,e=>by obtain⟨e,r⟩:=Gy e;obtain⟨i,g⟩:=LK e;obtain⟨⟨fd,F⟩,i'⟩:=QA g;exact⟨⟨_,fd,Tw i,F⟩,UH r⟩
def aa:∀{L:List Str},L.map (uK K g0)=L.map (fun _=>some none)->QI K L
 |[],_=>Cz
 |_::_,e=>⟨(Gy e).1,aa (Gy e).2⟩
end
section
open PySem.W
def qh{l:OpenLaw}{n:Nat}{q:ql}{loose:List Str}{d:DefRec}{sp:Frag->Sp}
 (hn:l.most=some n)(hn2:n<=sizeLine)(hdf:d.params.defaults=[])(hr:Bl k tG)
 (F:∀(w:qu)(mg:Str->Option AB)(fa:Ya)(h:qp)(K:Frag),Kh K=Kp->K.In h->h.Ns g0 mg->mg d.name=some (.ref fa)->
  ∃fd:qo,(∀(s:Yf)(u:AB),tj s fd ⟨[u],[]⟩ [(x,u)])/\∀base:qp,K.In base->base.Ns g0 mg->AW l.prog w K mg base CX k fa fd [x] (sp K))
 (hsp:∀(K:Frag)(H:Hp)(a:Ya)(ns:List Int),ns.length<=n->Ua H->AJ K H a (ns.map V.int)->sp K [.ref a] H (fun v _=>v=.bl true) fun _ _ _=>False)
 (hCX:∀(H:Hp)(s:Yf)(e:AB)(s':Yf),CX [] H s (fun _ _ _=>False) e s'->False):
 WalkO q loose XP Uh l.row.toRowW d [] (fun f vs=>PySem.call f vs):=by
 refine dB hn hdf fun w s₀ s₁ mg mb fa o pm cd doc a vs ns G Y ho hd hcd hmg hobj hints hlen hg=>?_;obtain⟨K,KX,g⟩:=Y;obtain⟨fd,hb,hF⟩:=F w mg fa _ K g KX G.T.g hmg;exact ir KX G.T.g G.T.b G.T.builtins G.T.nolimit hg hobj hints (BF hlen hn2) hr hF hb (fun H hO hS=>hsp K H a ns hlen hO hS) fun H e s'=>hCX H s₁ e s'
def qi{K:Frag}{l:OpenLaw}{fa:Ya}(g:Kh K=Kp)(X:K.In h)(G:h.Ns g0 mg)(hfa:mg "law" =some (.ref fa)):
 ∃fd:qo,(∀(s:Yf)(v:AB),tj s fd ⟨[v],[]⟩ [("_law_script",v)])/\∀base:qp,K.In base->base.Ns g0 mg->AW l.prog w K mg base Ah 11 fa fd ["_law_script"] (T6 K):=by
 simp only[Kh,Kp,LC] at g;obtain⟨r,e,n,m,t,t2,z⟩:=g;simp only[ba,bZ,LC] at r;obtain⟨aR,xR,rd,sp,fi⟩:=r;obtain⟨_,_,_,_,_,_,_,_,_,_,_,_,_,_,_,xR⟩:=ak xR;split at fi;case h_2=>cases fi
 rename_i f hfi;obtain⟨⟨_,⟨oc,od,kV,doc,pm,an,cdv,ct,osl,rfl,l,c⟩,k⟩,_⟩:=QA fi;simp only[bh,cF,LC,D6] at n;obtain⟨aN,⟨⟨⟨⟨n1,n2⟩,n3⟩,n4⟩,n5⟩,sa,np⟩:=n;exact all_mk X G hfa aR xR rfl rd hfi sp l c k (aq e) aN n1 n2 n3 sa n4 n5 np (aJ m) (UH t) (UH t2) (aa z)
end
end L2
end
open PySem PySem.W PyProof.Rows
theorem PySem.Challenge.cw_pagenook_k06_whole_cut_and_joined_holds : PySem.Challenge.rw_pagenook_k06_whole_cut_and_joined.Holds := by
 exact L2.qj fun d hn hd=>L2.qh (l:=PySem.Challenge.rw_pagenook_k06_whole_cut_and_joined) (n:=63) (k:=11) (x:="_law_script") (CX:=L2.Ah) (sp:=L2.T6) rfl (by decide) hd ⟨rfl,by decide,by decide⟩ (fun _ _ _ _ _ g X G m=>L2.qi g X G (hn▸m)) (fun _ _ a ns hl _ hS=>⟨a,ns,rfl,hS,hl,fun _=>rfl⟩) fun _ _ _ _ z=>z
