import PyProof.Rows.All
import Wide.All
import OpenK.AllK
import Wide.FinOn
import Lean
import PyProof.EqAt
import PyProof.EqKinds
import PyProof.TupleCall
import PyProof.ExcAttrAll.Exception
import PyProof.InstStoreFacts
import PyProof.Rows.SetFrom
import PyProof.SetKind
import KE.KSetInts
import KE.KSortTup
import KE.KDictList
import PySem.Challenge.RW_pagenook_k07_whole_found
set_option Elab.async false
set_option linter.all false
set_option maxRecDepth 100000
set_option maxHeartbeats 0
set_option compiler.extract_closed false
set_option bootstrap.genMatcherCode false
open Array renaming length_toList→Ey,getD_eq_getD_getElem?→Gb,getElem?_toList→Gd,toList_append→Ge,toList_inj→Jz,perm_iff_toList_perm→MF,toList_push→MW,toList_reverse→U9,toList_extract→VA
open Bool renaming false_ne_true→CZ,false_eq_true→DM,and_eq_true→FZ,and_false→LB,true_eq_false→MR,false_and→Mf,eq_iff_iff→Oq,not_true→Rf,false_or→Rg
open Int renaming le_refl→Gj,toNat_natCast→HU,emod_lt_of_pos→MP,emod_nonneg→Mc
open List renaming length_map→AJ,length_append→An,getElem?_eq_getElem→Ap,map_cons→Au,getElem?_map→Az,mem_map→BA,map_append→BF,mem_cons→BI,mem_singleton→BR,mem_append→BS,getElem?_eq_some_iff→BY,length_take→Be,map_map→Bo,append_assoc→Bu,sum_cons→Bv,mem_of_getElem?→CA,length_cons→CG,size_toArray→CS,take_length→CT,getElem?_append_right→Cj,getD_eq_getElem?_getD→Ck,length_singleton→Cm,mem_cons_of_mem→Cn,mem_cons_self→Co,append_nil→Cp,getElem?_append_left→C2,take_add_one→C6,find?_cons→C7,length_drop→Dr,take_append_drop→D9,mem_append_right→EA,length_filter_le→EY,getElem_mem→EZ,nodup_cons→Ea,filter_cons_of_pos→Et,take_of_length_le→Eu,map_congr_left→Ew,filter_cons_of_neg→FV,mem_of_mem_take→FX,length_take_le'→FY,getElem?_eq_none→F1,mem_iff_getElem→F2,lookup_cons→Gf,mem_filter→Gg,mem_range→HZ,mem_append_left→IM,pairwise_cons→IP,any_eq_true→IT,any_cons→IV,perm_append_comm→I8,not_mem_nil→JC,mem_of_mem_drop→Jv,getElem?_drop→Jx,nodup_nil→J2,ext_getElem?→K7,take_zero→LA,map_take→LD,all_cons→LF,map_nil→LJ,find?_cons_of_pos→MG,find?_cons_of_neg→MH,drop_eq_nil_of_le→MJ,filter_append→MO,pairwise_map→MU,length_range→MV,all_eq_true→Ma,length_nil→Mb,drop_zero→Md,map_drop→Mm,map_id→Mr,pairwise_iff_getElem→ON,getElem?_eq_none_iff→OO,drop_eq_getElem_cons→OQ,length_filterMap_le→OR,length_eq_zero_iff→OS,length_pos_of_mem→OU,getElem?_set_self→OV,getElem?_set_ne→OZ,mem_filterMap→Oe,nodup_append→Oh,cons_append→Oj,nil_append→Oo,any_map→Oz,drop_append_of_le_length→Qx,filterMap_append→Q3,filterMap_cons→Q8,getElem?_take→RA,contains_cons→RB,countP_cons→RO,cons_ne_nil→RP,take_take→RY,take_append_of_le_length→Uu,extract_eq_drop_take→Uv,pairwise_singleton→U0,head_eq_of_cons_eq→U1,getElem?_toArray→U5,pairwise_append→U7,getElem?_of_mem→U8,getElem?_range→VE,set_cons_succ→VI,find?_eq_none→VJ
open List.Perm renaming refl→Ou,append_left→Q4,append_right→U3
open List.cons renaming inj→IU
open Nat renaming le_refl→Ae,le_trans→BJ,ne_of_lt→BO,zero_le→CC,lt_of_lt_of_le→C5,le_succ→Eb,sub_self→E1,ne_of_gt→Fc,le_of_lt→F4,min_eq_left→HY,zero_add→J8,lt_succ_self→MZ,lt_irrefl→Ml,lt_succ_of_lt→Og,le_of_not_lt→Oi,not_lt→O7,mul_le_mul_left→Q7,lt_of_le_of_lt→VH
open Ne renaming symm→DG
open Option renaming map_eq_some_iff→Ju,bind_some→MY,map_some→Om
open Option.some renaming inj→Ag
open Or renaming inl→Aa,inr→Cc
open Prod.mk renaming injEq→LC,inj→LL
open PyProof.Rows renaming wpS_bind→Ai,wpS_pure→Ao,wpS_forRange→Ez,wpS_get→Hi,wpS_modify→KA,wpS_lift→LV,slot_tuple_getitem→ME,split_weight→Mo,boot_sorted→O3,callWith_type1→Qy
open PyProof.Rows.F renaming plain_set_update_loop→U2
open PySem renaming wpAny_bind→AK,wpAny_pure→Ac,sizeLine_eq→A8,boot_len→Cu,wpAny_mono→C8,wpAny_holding→Fb,wpAny_rule→Gm,strLen_append→Ha,wpAny_newObj_type→IQ,mem_of_lookup→JA,wpAny_loadPart_at→JB,codeAny_builtin→J0,wpAny_field→J9,call_meets→KC,wpAny_passesOwn→K8,codeAny_mono→LH,typeIs_str→LN,wpAny_isSubtype_exc→MK,wpAny_setField_rec→MM,wpAny_Call_Name_kw→MN,wpAny_truthy_bool→MS,wpAny_setState_of→MT,wpAny_call_entry→MX,wpAny_typeOf→Mn,call_meetsIn→Mp,wpAny_call→Mu,tupleKind_room_in1→Oc,wpAny_execs_nil→Ol,wpAny_setField→Ot,wpAny_standAt→Ov,plainId_quiet→Ow,wpAny_getItem_str_slice→Qz,post_val_or_str→RU,wpAny_callSpecial?_slot→Ux,codeAny_call_builtin→U6
open PySem.Around renaming under_plainId→Oa
open PySem.Calls renaming spliced_cons→MQ,callWith_builtin→OX,evalArgs_plain→Q5,spliced_nil→RI,Constant_str→VM
open PySem.Code renaming quiet_builtin→RC
open PySem.F renaming plainAttrs_list→DE,type_list_append→Dm,slot_list_append→Dq,excBase_Exception→I0,called_set→Jw,plainAttrs_dict→K6,plain_extend_loop→OM,plainAttrs_str→OT,slot_dict_pop→Q2,slot_dict_values→Uw,slot_dict_items→Uz,slot_dict_get→U4,args_str_split_2→VL,slot_dict_itemiterator_iter→bV
open PySem.Heap renaming lt_size→A2,get?_push_of_some→BC,get?_push_size→CB,get?_update_other→D8,size_push→Gh,get?_update_self→I9,get?_update_ne→ML,size_after_update→OW,size_update→RQ
open PySem.Heap.SameBut renaming update→VF
open PySem.Paired renaming length→JF
open PySem.PassesOwn renaming never→DX
open PySem.Txt renaming slice_le→Oy
open PySem.W renaming kia_tup→HW,kia_one→HX,mg_of→JE,looks_findIn→OY,kitx_list→RG,kitx_dict→RH,plainGet_of→VB,looks_clsIn→VC,callWith_K0→VD,callWith_K→VG
open Sum.inl renaming inj→O4
open True renaming intro→Cv
open PyProof.Rows renaming Keyed→Yf,pendingOf→cm,arrOf→dA,SortSt→hY,failedOf→qp,seqObj→qu,elem'→rA,setPending→rM,envOfC→rS,AllBare→rY,reverseSlice'→rZ,wpS_mono→sQ,mirror→sf,IsTup→sj,get?_update_seq→tD,size_push'→tH,mergeAt'→tI,subscriptTail→tS,listUpdate_at→tU,Constant_none→tV
open PySem renaming Value→AD,Addr→OK,Shared→Ya,model→ax,wpAny→bt,starEach→dq,mainGlobals→dy,Stmt→g0,Expr→hX,Program→qf,compareOp→qg,eval→qh,Heap→qi,World→qj,FuncData→qk,bootBuiltins→qm,attributeBase→qo,cLine→qr,backTo→qt,importedModules→qv,sysModules→qw,binaryOp→qy,treeTable→rE,scanBound→rF,keywordEach→rG,rawInt→rH,pyNext→rJ,codeAny→rK,Around→rL,sliceBounds→rO,letOwnedTupleGo→rP,relabel→rQ,unsupported→rT,getItem→rV,excClassObj→rW,Keyword→rX,backToKw→rh,GenState→rj,valueAt→sC,assignEach→sD,IsPart→sG,tupleKind→sI,swapsWith→sL,holding→sO,PlainAttrs→sP,wpAny_Call_method→sR,callerA→sU,Scope→sV,plainObj_wpAny_Assign_Attribute→sW,wpAny_askSetting→sX,setFlight→sZ,getMethod→sg,subscripted→si,wpAny_updateSeq→sk,wpAny_ite_split→sr,codeAny_of_tree→tE,getAttr→tF,BindsTo→tG,isSubtype_type→tJ,isInstance→tK,builtinsNs→tL,atKey→tN,assign→tO,NameKind→tP,wpAny_newList→tQ,wpAny_attempt→tR
open PySem.W renaming findIn→ql,boot_heap→qz,keepIn→rC,emptyDict→rN,hasDictIn→rR,behindTheImports→rg,kitOne→sF,instObj→sN,plainGet→sT,specialIn→sY,boot_drawn→tM
open PyProof.Rows renaming boot_sum→uL
open PySem renaming Within→tZ,wpAt_of_wpAny→uH
open PySem.F renaming slot_tuple_add→tj,entry_tuple_add→tm,args_tuple_add_2→tu,args_dict_pop_3→uA,entry_dict_pop→uB,entry_dict_get→uC,args_dict_get_3→uD,type_dict_pop→uE,slot_str_split→uF,type_str_split→uG,plain_set_new→uI,slot_set_iter→uJ,entry_extend_loop→uK,type_dict_values→uM,type_dict_items→uN
open PySem.W renaming Frag→tW,nsIn→tX,Looks→tY
noncomputable section
namespace L2
open PySem PySem.Spec PyProof.Rows
open PySem.W (InitBack InstAt any_some bind_fn cellsFrom_some check_slot clsIn cls_value codeIn codeRec_of emptyDict eq_bytes findCls findIn findObj findObj_own fnOf get_value handedIn handedOut_of hasDictIn hideAll hideAll_get hideAll_none hideAll_size holds_open instObj isFn keepIn ki_setAt ki_setBack kitAny kitOne kitx_bool kitx_float kitx_int kitx_none kitx_own kitx_str kitx_tuple lookIn looks_find looks_mroIn make_core makesIn makes_of methodCall_KW methodObj method_cls method_fn mg_none_of mroIn ne_bytes of_hideAll osa_eq osa_open plainGet plainOver readsIn set_plain specialIn takerIn takesIn typeIn)
abbrev AF:=@if_neg
abbrev AG:=@if_pos
abbrev BD:=@congrArg
abbrev BN:=@decide_eq_false
abbrev Bb:=@decide_eq_true
abbrev Bw:=@if_false
abbrev CJ:=@if_true
abbrev DO:=@ite_congr
abbrev Fd:=@beq_iff_eq
abbrev F3:=@getElem?_pos
abbrev HV:=@beq_self_eq_true
abbrev IS:=@of_decide_eq_true
abbrev Jy:=@bne_self_eq_false
abbrev KO:=@or_false
abbrev K9:=@beq_false_of_ne
abbrev LG:=@decide_false
abbrev LK:=@decide_true
abbrev Ob:=@beq_eq_false_iff_ne
abbrev Od:=@of_decide_eq_false
abbrev Of:=@decide_eq_true_eq
abbrev Uy:=@decide_eq_false_iff_not
local macro_rules|`(tactic|left)=>`(tactic|first|decide+kernel|exact⟨rfl,rfl,rfl,by left,rfl,by left,by left⟩)
noncomputable def inClass(s:g0)(j:Nat):g0:=match s with
 |.ClassDef _ _ _ body _ _ _ _ _ _ _=>body.getD j (.Pass ⟨0,0,0,0⟩)
 |_=>.Pass ⟨0,0,0,0⟩
noncomputable def JP(s:g0):Arguments:=match s with
 |.FunctionDef _ a _ _ _ _ _ _ _ _=>a
 |_=>{posonlyargs:=[],args:=[],vararg:=none,kwonlyargs:=[],kw_defaults:=[],kwarg:=none,defaults:=[]}
noncomputable def E3(s:g0):List g0:=match s with
 |.FunctionDef _ _ b _ _ _ _ _ _ _=>b
 |_=>[]
noncomputable def Aq(s:g0):sV:=match s with
 |.FunctionDef _ _ _ _ _ _ sc _ _ _=>sc
 |_=>{kind:=.function,names:=[],isGenerator:=false,isCoroutine:=false}
noncomputable def top(i:Nat):g0:=PySem.Challenge.pw_pagenook_k07_whole_found.main.body.getD i (.Pass ⟨0,0,0,0⟩)
abbrev J1:g0:=inClass (top 2) 0
abbrev RZ:g0:=inClass (top 3) 0
abbrev Ra:g0:=inClass (top 4) 0
abbrev RR:g0:=inClass (top 5) 0
abbrev Rk:g0:=inClass (top 6) 0
abbrev RX:g0:=inClass (top 7) 0
abbrev RV:g0:=inClass (top 8) 0
abbrev VN:g0:=top 10
abbrev Vk:g0:=top 11
abbrev RN:g0:=top 13
abbrev RM:g0:=top 14
abbrev O2:g0:=top 15
abbrev Rj:g0:=top 16
abbrev Vy:g0:=top 18
abbrev VX:g0:=top 19
abbrev Vo:g0:=top 20
abbrev O0:g0:=top 21
abbrev Rn:g0:=top 22
abbrev Mt:g0:=top 24
abbrev Rm:g0:=inClass (top 25) 0
abbrev RJ:g0:=inClass (top 25) 1
abbrev Q1:g0:=inClass (top 25) 2
abbrev Q6:g0:=inClass (top 25) 3
abbrev RF:g0:=inClass (top 25) 4
abbrev Q9:g0:=inClass (top 25) 5
abbrev RE:g0:=inClass (top 25) 6
abbrev RT:g0:=inClass (top 25) 7
abbrev RK:g0:=inClass (top 25) 8
abbrev RW:g0:=inClass (top 25) 9
abbrev RL:g0:=inClass (top 25) 10
abbrev RD:g0:=inClass (top 25) 11
abbrev Rv:g0:=top 27
abbrev Rb:g0:=top 28
abbrev Ri:g0:=top 29
abbrev Rw:g0:=top 30
abbrev P1:g0:=top 32
abbrev P6:g0:=top 33
abbrev Yc:g0:=top 34
abbrev Qc:g0:=top 35
abbrev bT:g0:=top 36
abbrev QQ:g0:=top 37
abbrev Pe:g0:=top 38
abbrev NK:g0:=top 39
abbrev TB:g0:=top 40
abbrev NU:g0:=top 41
abbrev Pq:g0:=top 42
abbrev NX:g0:=top 43
abbrev TL:g0:=top 44
abbrev N5:g0:=top 45
abbrev NS:g0:=top 46
abbrev R8:g0:=top 47
abbrev S2:g0:=top 48
abbrev Sk:g0:=top 49
abbrev SY:g0:=top 50
abbrev SA:g0:=top 51
abbrev Td:g0:=top 52
abbrev S5:g0:=top 53
abbrev Km:g0:=top 54
section
open PySem.W
noncomputable def hRf:Option (Option AD)->OK
 |some (some (.ref a))=>a
 |_=>0
noncomputable def OL:Option (Option AD)->Bool
 |some (some (.ref _))=>true
 |_=>false
abbrev aa:=Option (Str×Str×Arguments×FuncBody×sV×OK×List (Str×OK)×AD×OK×Bool)
noncomputable def L7(K:tW)(f:OK)(q:Str):aa:=match K.lookup f with
 |some ⟨_,_,.func d,_⟩=>some (d.name,d.qualname,d.params,d.body,d.scope,d.globals,d.closure,d.defaults,d.builtins,codeIn K d.code q&&rC K (.ref f)&&isFn K (.ref f))
 |_=>none
def L3(x q:Str)(st:g0):aa:=some (x,q,JP st,.stmts (E3 st),Aq st,dy,[],.none,tL,true)
noncomputable def Qk(K:tW)(C:OK):Option (AD×List AD×Bool×Option (Option AD)):=match K.lookup C with
 |some ⟨c,_,.cls d,sl⟩=>some (c,d.mro,d.hasDel,match sl.toList with|[_,_,_,_,k,_]=>some k|_=>none)
 |_=>none
noncomputable def Qg(C:OK)(bm:List AD):Option (AD×List AD×Bool×Option (Option AD)):=some (.type "type",.ref C::bm,false,some (some (.builtin "Exception.__new__")))
abbrev aZ:List AD:=[.type "Exception",.type "BaseException",.type "object"]
def ao(K:tW)(x q:Str)(C:OK):=(tX K dy x,Qk K C,rR K C,ql K (.ref C) "answer",ql K (.ref C) "__setattr__",ql K (.ref C) "__getattribute__",
 ql K (.ref C) "__getattr__",rC K (.ref C),OL (ql K (.ref C) "__init__"),L7 K (hRf (ql K (.ref C) "__init__")) q)
def aV(q:Str)(st:g0)(R C:OK):=(some (some (Value.ref C)),Qg C (.ref R::aZ),true,(some none:Option (Option AD)),some (some (Value.builtin "object.__setattr__")),some (some (Value.builtin "BaseException.__getattribute__")),
 (some none:Option (Option AD)),true,true,L3 "__init__" q st)
def ak(K:tW)(L:List (Str×Str×g0×OK)):=L.map fun z=>ao K z.1 z.2.1 z.2.2.2
def bN(R:OK)(L:List (Str×Str×g0×OK)):=L.map fun z=>aV z.2.1 z.2.2.1 R z.2.2.2
def ag(K:tW)(C:OK)(L:List (Str×Str×g0)):=L.map fun z=>(OL (ql K (.ref C) z.1),L7 K (hRf (ql K (.ref C) z.1)) z.2.1)
def af(L:List (Str×Str×g0)):=L.map fun z=>(true,L3 z.1 z.2.1 z.2.2)
def UZ(K:tW)(L:List (Str×g0)):=L.map fun z=>(OL (tX K dy z.1),L7 K (hRf (tX K dy z.1)) z.1)
def UX(L:List (Str×g0)):=L.map fun z=>(true,L3 z.1 z.1 z.2)
def aq(K:tW)(R:OK):=(tX K dy "Refusal",Qk K R,readsIn K R (.type "type"),sY K (.ref R) "__getattribute__",
 (match findCls K (.ref R) (.type "type") "__init__" with|some (.val (.ref f))=>L7 K f "Refusal.__init__" |_=>none))
def bJ(st:g0)(R:OK):=(some (some (Value.ref R)),Qg R aZ,true,some (some (Value.builtin "type.__getattribute__")),L3 "__init__" "Refusal.__init__" st)
noncomputable def bK(K:tW)(C:OK):=(tX K dy "Nook",sT K C Str.empty&&rR K C&&plainOver K C&&makesIn K C&&rC K (.ref C),ql K (.ref C) "__setattr__",ql K (.ref C) "pages")
noncomputable def aY(C:OK):=(some (some (Value.ref C)),true,some (some (Value.builtin "object.__setattr__")),(some none:Option (Option AD)))
noncomputable def QF(h:qi):tW:=(List.range h.objs.size).filterMap fun a=>(h.get? a).map fun o=>(a,o)
def UU:List (Str×Str×g0×OK):=[("NoPage","NoPage.__init__",RZ,58),("NoName","NoName.__init__",Ra,77),("SamePage","SamePage.__init__",RR,96),("Taken","Taken.__init__",Rk,115),("NoPlace","NoPlace.__init__",RX,134),("NoWords","NoWords.__init__",RV,153)]
def Uc:List (Str×Str×g0):=[("__init__","Nook.__init__",Rm),("need_page","Nook.need_page",RJ),("need_free_name","Nook.need_free_name",Q1),("point_all_on","Nook.point_all_on",Q6),("write_page","Nook.write_page",RF),("rename_page","Nook.rename_page",Q9),("join_pages","Nook.join_pages",RE),("cut_page","Nook.cut_page",RT),("drop_page","Nook.drop_page",RK),("text_of","Nook.text_of",RW),("back_from","Nook.back_from",RL),("find_pages","Nook.find_pages",RD)]
def Ub:List (Str×g0):=[("law",Km),("places_in_order",VN),("shortest",Vk),("count_pointers",RN),("pages_pointing",RM),("places_of",O2),("pages_near",Rj),("is_name",Vy),("read_word",VX),("split_up",Vo),("tell_word",O0),("tell_text",Rn),("point_on",Mt),("do_deed",Rv),("answer_deed",Rb),("answer_all",Ri),("answers",Rw),("_law_room",P1)]
def T9:List (Str×g0):=[("_law_draw",P6),("_law_whole",Yc),("_law_alike",bT),("_law_odd_word",QQ),("_law_penned",Pe),("_law_sought",NK),("_law_deeds",TB),("_law_is_name",NU),("_law_begun",Pq),("_law_named",NX),("_law_added",TL),("_law_led",N5),("_law_turned",NS),("_law_penned_in",R8),("_law_barred",S2),("_law_joined",Sk),("_law_changed",SY),("_law_played",S5),("_law_at",Qc),("_law_stretch",SA),("_law_hits",Td)]
noncomputable def bE:List Str:=["isinstance","list","tuple","str","int","bool","len","range","sum","sorted","set","enumerate","all","min"]
def Kp(K:Frag):=(aq K 38,ak K UU,bK K 329,ag K 329 Uc,UZ K Ub,UZ K T9,bE.map (nsIn K dy))
def Kn:=(bJ J1 38,bN 38 UU,aY 329,af Uc,UX Ub,UX T9,bE.map fun _=>(some none:Option (Option AD)))
def Ud(_:qj)(h:qi):Prop:=∃K:Frag,K.In h/\Kp K=Kn
abbrev DC:qf:=PySem.Challenge.pw_pagenook_k07_whole_found
noncomputable def F0:qf:=view DC ((List.range 55).filter fun i=> !([1,9,12,17,23,26,31]:List Nat).contains i)
noncomputable def hZ:Pos:=⟨0,0,0,0⟩
noncomputable def Lu:Env:={scope:=DC.main.scope,locals:=mainNs,globals:=mainNs,cells:=[],code:=.ref 13,frame:=some 14}
def hC:Code:=.body (rg DC) Lu
noncomputable def hO(cls:AD)(d:Data)(sl:Array (Option AD)):Obj:={cls:=cls,data:=d,slots:=sl}
noncomputable def oM(P:Params):BT:=
 let n (o:Obj):=BT.node o .nil .nil
 .node (boot_o_0 P) (.node (boot_o_1 P) (.node (boot_o_3 P) (n (boot_o_7 P)) (n (hO (.type "tuple") (.seq #[] 0) #[]))) (.node (boot_o_5 P) (n (boot_o_9 P))
  (n (hO (.type "code") (.fields #[.str "<module>" 182,.str "<module>" 183,.str "/claim/cut.py" 184,.int 1 0,.int 0 0,.int 0 0,.int 0 0,.int 0 0,.ref 11,.bool false,.int 181 0,.ref 12,.none,.none,.none,.none,.int 185 0,.int 1 0,.str "/claim/cut.py" 186]) #[]))))
  (.node (boot_o_2 P) (.node (boot_o_4 P) (n (boot_o_8 P)) (n (hO .none (.fields #[]) #[]))) (.node (boot_o_6 P) (n (boot_o_10 P)) (n (hO (.type "frame") .plain #[some (.ref 13),some (.ref 3),some (.ref 3),none,some (.str "__main__" 164),none,some (.ref 0)]))))
noncomputable def hS(w:qj)(os:OsState):SharedT:=⟨oM w.params,15,(qz w.params).life,#[],tM,187,os⟩
noncomputable def Ir(w:qj)(os:OsState):Option (Flow×SharedT×Code×Pos):=Fast.tw10110043849684766642 Fast.tw14364793385576792824 DC w 11 (some (.ref 6)) 1 3594 (hS w os) (piecesOf (rg DC) Lu hC hZ [topFrame hZ])
def ng(w:qj):(fun os=>(Ir w os).map fun z=>(z.1,z.2.2.1,staticsOk (qv DC.main.body) (qz w.params) z.2.1.abs.heap&&namesBound DC z.2.1.abs.heap&&gensDone z.2.1.abs&&laidKept (qz w.params) z.2.1.abs.heap))=fun _=>some (Flow.next,hC,true):=by kernel_rfl
def mz(w:qj):(fun os=>(Ir w os).map fun z=>Fast.tw4187177175401517315 F0 [] (qv DC.main.body) (fun s=>xlAt F0 [] s&&recOk [] s) true z.2.1.abs)=fun _=>some (openGood F0 []):=by kernel_rfl
def mm(w:qj):(fun os=>(Ir w os).map fun z=>Kp (QF z.2.1.abs.heap))=fun _=>some Kn:=by kernel_rfl
def o9(w:qj):(fun os=>topGo rE DC w 11 (some (.ref 6)) 12 ⟨qz w.params,#[],tM,boot_toks,os⟩ (topStub DC))=fun os=>some ((hS w os).abs,⟨denote rE hC,hC,hZ,[topFrame hZ]⟩):=by kernel_rfl
def nu(w:qj):((qz w.params).isNs dy&&(#[]:Array rj).size==0,(qz w.params).objs.size,(qz w.params).nsMap dy "__annotations__")=(true,11,some (.ref 6)):=by kernel_rfl
def oZ:PySem.Challenge.rw_pagenook_k07_whole_found.wellSaid=true:=by left
def ph(w:qj)(os:OsState):segRunT rE DC w 11 (some (.ref 6)) 1 3594 (hS w os) (piecesOf (rg DC) Lu hC hZ [topFrame hZ])=Ir w os:=by unfold Ir;rw[<-Fast.te10110043849684766642,<-Fast.te14364793385576792824]
end
variable{w:qj}{os:OsState}
section
open PySem.W
def jV{s:SharedT}{q:Pos}(h:Ir w os=some (.next,s,hC,q)):
 topRun rE DC w 11 (some (.ref 6)) (12+(1+(3594+2))) ⟨qz w.params,#[],tM,boot_toks,os⟩ (topStub DC)=some s.abs:=by
 refine go_top (congrFun (o9 w) os) (piece_block (s':=(hS w os).abs) (p':=hZ) (env:=Lu) (b:=rg DC) rfl ?_);have k:=piece_app (env:=Lu) (rest:=[]) (segRun_of ((ph w os).trans h)) (piece_nil (env:=Lu) (N:=2) (r:=s.abs) rfl);rw[Cp] at k;exact k
def qP:opening DC=plainProg DC.main.scope.names:=by kernel_rfl
def qI(s:Ya):fenceModules? DC s=some s:=by kernel_rfl
def qR(w:qj):∃os,fencedOpening rE DC w 7312=some ⟨qz w.params,#[],tM,boot_toks,os⟩:=by obtain⟨⟨h,gs,d,k,os⟩,e,e'⟩:=Ju.mp (boot_open qP (N:=7312) (by decide) qI w);cases e';exact⟨os,e⟩
end
variable{n:Nat}{ann:Option AD}{s:Ya}
section
open PySem.W
def qV{p:qf}{n₀ N:Nat}{r:Ya}{t:Thread}(h:topRun rE p w n₀ ann n s t=some r)(k:n+(N-n)=N):topRun rE p w n₀ ann N s t=some r:=
 k▸topRun_mono (N-n) n s t r h
end
variable{α β:Type}
section
open PySem.W
def aW{o:Option α}{f:α->β}{z:α}{y:β}(e:o=some z)(r:o.map f=some y):f z=y:=by subst e;exact Ag r
def pP{p q:qf}{N n₀:Nat}{X:Ya->Bool}{Y:Ya->α}{y:α}{s₀ s₁:Ya}(e:fencedOpening rE p w N=some s₀)
 (z:(s₀.heap.isNs dy&&s₀.gens.size==0,s₀.heap.objs.size,s₀.heap.nsMap dy "__annotations__")=(true,n₀,ann))(t:topRun rE p w n₀ ann N s₀ (topStub p)=some s₁)
 (g:(staticsOk (qv p.main.body) s₀.heap s₁.heap&&namesBound p s₁.heap&&gensDone s₁&&laidKept s₀.heap s₁.heap)=true)(r1:openSeen q [] (qv p.main.body) X true s₁=openGood q [])(r2:Y s₁=y):
 (openEnds rE p w N).map (fun s=>(openSeen q [] (qv p.main.body) X true s,Y s))=some (openGood q [],y):=by
 obtain⟨z1,z2,z3⟩:_/\_/\_:=by simpa only[LC] using z
 subst z2 z3;unfold openEnds;rw[e,MY];unfold topFrom;rw[z1];dsimp only;rw[t,MY,g];dsimp only;rw[Om,r1,r2]
def qG{s:SharedT}{q:Pos}(h:Ir w os=some (.next,s,hC,q)):openSeen F0 [] (qv DC.main.body) (fun s=>xlAt F0 [] s&&recOk [] s) true s.abs=openGood F0 []:=by rw[Fast.te4187177175401517315];have k:=aW h (congrFun (mz w) os);exact k
def qF{s:SharedT}{q:Pos}(h:Ir w os=some (.next,s,hC,q)):Kp (QF s.abs.heap)=Kn:=
 have k:=aW h (congrFun (mm w) os)
 k
def qX(w:qj)(os:OsState):∃s q,Ir w os=some (.next,s,hC,q)/\(staticsOk (qv DC.main.body) (qz w.params) s.abs.heap&&namesBound DC s.abs.heap&&gensDone s.abs&&laidKept (qz w.params) s.abs.heap)=true:=by obtain⟨⟨f,s,c,q⟩,er,r0⟩:=Ju.mp (congrFun (ng w) os);obtain⟨e1,e2⟩:=LL r0;obtain⟨e3,e4⟩:=LL e2;dsimp only at e1 e3;subst e1 e3;exact⟨s,q,er,e4⟩
def nH:LeftO DC F0 [] (fun s=>xlAt F0 [] s&&recOk [] s) (fun s=>Kp (QF s.heap)) (fun _=>Kn) 7312:=fun w=>
 have⟨os,e⟩:=qR w;have⟨_,_,er,g⟩:=qX w os
 pP e (nu w) (qV (jV er) (by decide)) g (qG er) (qF er)
def jX(h:qi):(QF h).In h:=by
 intro a o e;have m:∀{l:List (OK×Obj)},l.lookup a=some o->(a,o)∈l:=by
  intro l
  induction l with
  |nil=>intro z;cases z
  |cons p l ih=>
   intro z;obtain⟨b,u⟩:=p;rw[Gf] at z
   cases hb:a==b with
   |true=>rw[hb] at z;cases z;rw[Fd.mp hb];exact Co
   |false=>rw[hb] at z;exact Cn _ (ih z)
 obtain⟨b,_,q⟩:=Oe.mp (m e);obtain⟨u,hu,q⟩:=Ju.mp q;cases q;exact hu
def qd(hc:∀d:DefRec,d.name="law" ->d.params.defaults=[]->WalkO F0 [] (XL F0 []) Ud PySem.Challenge.rw_pagenook_k07_whole_found.row.toRowW d [] (fun f vs=>PySem.call f vs)):PySem.Challenge.rw_pagenook_k07_whole_found.Holds:=by
 refine holds_law oZ fun said=>?_;refine holds_open (q:=F0) (loose:=[]) (Xt:=fun s=>xlAt F0 [] s&&recOk [] s) (XP:=XL F0 []) (YP:=Ud) (N:=7312) nH (fun _ s e=>⟨_,jX s.heap,e⟩) (fun _ _ _ ⟨K,k,e⟩ q=>⟨K,fun a o z=>q a o (k a o z),e⟩)
  (fun s e=>xl_of s (Bool.and_eq_true_iff.mp e).1) XL.keeps (by rfl) (by rfl) (by rfl) (fun s e=>recFacts_of (Bool.and_eq_true_iff.mp e).2) (by rfl) said (by left) ⟨rfl,rfl,rfl,rfl,rfl,by left⟩ ?hw ?hc;case hw=>w_witness2
 case hc=>exact hc _ rfl rfl
end
abbrev Key:=Sum Int Str
noncomputable def Kh:Key->AD->Bool
 |.inl k,v=>Value.isInt k v
 |.inr x,v=>Value.isStrOf x v
noncomputable def o4(w:qj):Key->Int
 |.inl k=>hashInt k
 |.inr x=>hashStr w x
def Gi:∀{k:Key}{v:AD},Kh k v=true->(∃i t,k=Sum.inl i/\v=Value.int i t)\/(∃x t,k=Sum.inr x/\v=Value.str x t)
 |.inl i,v,h=>by obtain⟨t,e⟩:=Value.isInt_shape (k:=i) (v:=v) h;exact .inl ⟨i,t,rfl,e⟩
 |.inr x,v,h=>by obtain⟨t,e⟩:=Value.isStrOf_shape (x:=x) (v:=v) h;exact .inr ⟨x,t,rfl,e⟩
def fT(i:Int)(t:Tok):Kh (.inl i) (.int i t)=true:=by simp[Kh,Value.isInt]
def fE(x:Str)(t:Tok):Kh (.inr x) (.str x t)=true:=by simp[Kh,Value.isStrOf]
def ZC(a b:Int):decide ((Sum.inl a:Key)=Sum.inl b)=(a==b):=by
 by_cases e:a=b
 ·subst e;simp
 ·have h:¬(Sum.inl a:Key)=Sum.inl b:=fun q=>e (O4 q);rw[BN h];exact(Ob.mpr e).symm
def Yj(a b:Str):decide ((Sum.inr a:Key)=Sum.inr b)=decide (a=b):=by
 by_cases e:a=b
 ·subst e;simp
 ·have h:¬(Sum.inr a:Key)=Sum.inr b:=fun q=>e (Sum.inr.inj q);rw[BN h,BN e]
def lZ(a:Int)(b:Str):decide ((Sum.inl a:Key)=Sum.inr b)=false:=BN (fun q=>nomatch q)
def mJ(a:Str)(b:Int):decide ((Sum.inr a:Key)=Sum.inl b)=false:=BN (fun q=>nomatch q)
def CU(prog:qf)(w:qj):PySem.KeyKind prog w Key where
 is:=Kh
 hash:=o4 w
 inj:=fun v a b ha hb=>by
  rcases Gi ha with⟨i,t,rfl,rfl⟩|⟨x,t,rfl,rfl⟩
  ·rcases Gi hb with⟨j,u,rfl,e⟩|⟨y,u,rfl,e⟩
   ·injection e with e1 _;rw[e1]
   ·exact nomatch e
  ·rcases Gi hb with⟨j,u,rfl,e⟩|⟨y,u,rfl,e⟩
   ·exact nomatch e
   ·injection e with e1 _;rw[e1]
 byValue:=fun k v h=>by rcases Gi h with⟨i,t,rfl,rfl⟩|⟨x,t,rfl,rfl⟩<;>rfl
 pyHash:=fun hv h=>by
  rcases Gi hv with⟨i,t,rfl,rfl⟩|⟨x,t,rfl,rfl⟩
  ·exact wpAny_pyHash_int h
  ·exact wpAny_pyHash_str h
 eqBool:=fun hu hv h=>by
  rcases Gi hu with⟨i,t,rfl,rfl⟩|⟨x,t,rfl,rfl⟩
  ·rcases Gi hv with⟨j,u,rfl,rfl⟩|⟨y,u,rfl,rfl⟩
   ·rw[ZC] at h;exact wpAny_eqBool_int h
   ·rw[lZ] at h;exact SeqAt.EqAt.int_str i t y u _ _ _ _ h
  ·rcases Gi hv with⟨j,u,rfl,rfl⟩|⟨y,u,rfl,rfl⟩
   ·rw[mJ] at h;exact SeqAt.EqAt.str_int x t j u _ _ _ _ h
   ·rw[Yj] at h;exact wpAny_eqBool_str h
 «strs»:=fun k x t v h=>by
  rcases Gi h with⟨i,u,rfl,e⟩|⟨y,u,rfl,e⟩
  ·exact nomatch e
  ·injection e with e1 _;subst e1;cases v<;>rfl
def cJ(prog:qf)(w:qj)(i:Int)(t:Tok):(CU prog w).is (.inl i) (.int i t)=true:=fT i t
def cD(prog:qf)(w:qj)(x:Str)(t:Tok):(CU prog w).is (.inr x) (.str x t)=true:=fE x t
inductive V where
 |BB|bl (b:Bool)|int (i:Int)|str (x:Str)|Fv (b:Array UInt8)|Iz (b:UInt64)|ref (a:OK)|ty (n:String)
 deriving DecidableEq
def RelV:V->AD->Prop
 |.BB,u=>u=Value.none
 |.bl b,u=>u=Value.bool b
 |.int i,u=>∃t,u=Value.int i t
 |.str x,u=>∃t,u=Value.str x t
 |.Fv b,u=>∃t,u=Value.bytes b t
 |.Iz b,u=>∃t,u=Value.float b t
 |.ref a,u=>u=Value.ref a
 |.ty n,u=>u=Value.type n
abbrev Vals:List V->List AD->Prop:=Paired RelV
def Vals.length{xs:List V}{us:List AD}(r:Vals xs us):xs.length=us.length:=JF r
def Vals.get:∀{xs:List V}{us:List AD}{i:Nat}{x:V},Vals xs us->xs[i]? =some x->∃u,us[i]? =some u/\RelV x u
 |_,_,_,_,.nil,e=>by simp at e
 |_,_,0,_,.cons r _,e=>by simp at e;subst e;exact⟨_,rfl,r⟩
 |_,_,i+1,x,.cons _ t,e=>by obtain⟨u,h1,h2⟩:=Vals.get (i:=i) (x:=x) t (by simpa using e);exact⟨u,by simpa using h1,h2⟩
def Vals.set{x:V}{u:AD}(r:RelV x u):∀{xs:List V}{us:List AD}(i:Nat),Vals xs us->Vals (xs.set i x) (us.set i u)
 |_,_,_,.nil=>.nil
 |_,_,0,.cons _ t=>.cons r t
 |_,_,i+1,.cons q t=>.cons q (Vals.set r i t)
def Vals.append:∀{xs ys:List V}{us ws:List AD},Vals xs us->Vals ys ws->Vals (xs++ys) (us++ws)
 |_,_,_,_,.nil,s=>s
 |_,_,_,_,.cons r t,s=>.cons r (Vals.append t s)
def Vals.take:∀{xs:List V}{us:List AD}(n:Nat),Vals xs us->Vals (xs.take n) (us.take n)
 |_,_,0,_=>.nil
 |_,_,_+1,.nil=>.nil
 |_,_,n+1,.cons r t=>.cons r (Vals.take n t)
def Vals.drop:∀{xs:List V}{us:List AD}(n:Nat),Vals xs us->Vals (xs.drop n) (us.drop n)
 |_,_,0,r=>r
 |_,_,_+1,.nil=>.nil
 |_,_,n+1,.cons _ t=>Vals.drop n t
def DU:Option V->Option AD->Prop
 |some v,some u=>RelV v u
 |none,none=>True
 |_,_=>False
def KV{κ:Type}:List (κ×V)->List (κ×AD)->Prop:=Paired fun(p:κ×V)(q:κ×AD)=>p.1=q.1/\RelV p.2 q.2
noncomputable def kV:Key->V
 |.inl i=>.int i
 |.inr x=>.str x
inductive HO where
 |lst (xs:List V)
 |tup (xs:List V)
 |dK (AA:List (Key×V))|dT (AA:List (List Key×V))
 |set (S:Int->Bool) (n:Nat)
 |ins (C dx:OK) (fs:List (Str×V))
 |own (x:OK)
 |xd (fs:List (Str×V))
 |met (f x:OK)
 |IK (lo hi:Int)
 |BQ (o:Obj) (u:HO)
 |Jq (ps:Array AD)
 |ext (φ:qi->Prop)
abbrev Hp:=OK->Option HO
noncomputable def upd(H:Hp)(a:OK)(o:HO):Hp:=fun b=>if b=a then some o else H b
variable{H:Hp}{a:OK}
def AM{o:HO}:upd H a o a=some o:=by unfold upd;rw[AG rfl]
variable{b:OK}
def AN{o:HO}(h:b≠a):upd H a o b=H b:=by unfold upd;rw[AF h]
def JT{o u:HO}:upd (upd H a o) a u=upd H a u:=by funext b;unfold upd;split<;>rfl
def CH{o u:HO}(h:H a=some o)(h':H b=some u)(d:o≠u):a≠b:=by intro e;subst e;rw[h] at h';exact d (Ag h')
def A7{o:HO}(h:H a=some o)(h':H b=none):a≠b:=by intro e;subst e;rw[h] at h';cases h'
section
variable(P:qf)(w:qj)
def BV(H:Hp)(h:qi)(a:OK):HO->Prop
 |.lst xs=>xs.length<=sizeLine/\∃(AX:List AD)(n:Nat),Vals xs AX/\h.get? a=some {cls:=.type "list",data:=.seq AX.toArray n}
 |.tup xs=>xs.length<=sizeLine/\∃AX:List AD,Vals xs AX/\sj h a AX.toArray
 |.dK AA=>AA.length<=sizeLine/\(a==qw)=false/\∃vs,KV AA vs/\h.DictOf (CU P w) a vs
 |.dT AA=>AA.length<=sizeLine/\(a==qw)=false/\∃xs:List (List Key×OK×AD),
  Paired (fun(p:List Key×V)(q:List Key×OK×AD)=>p.1=q.1/\H q.2.1=some (.tup (p.1.map kV))/\RelV p.2 q.2.2) AA xs/\
  ∃o es ep,h.get? a=some o/\o.ExactDict/\o.data=.dict es ep/\es.toList=xs.map (entryOfKey (sI (CU P w)))/\(xs.map (·.1)).Nodup
 |.set S n=>h.SetOf (intKind P w) a S n
 |.ins C dx fs=>H dx=some (.own a)/\fs.length<=1000/\dx≠a/\h.get? a=some (sN C dx)/\
  ∃mA,h.Ns1 dx mA/\(∀f,DU (fs.lookup f) (mA f))/\tZ mA (fs.map (·.1))
 |.own _=>∃o,h.get? a=some o
 |.xd fs=>∃mA,h.Ns1 a mA/\∀f,DU (fs.lookup f) (mA f)
 |.IK lo hi=>∃t u v,h.get? a=some {cls:=.type "range",data:=.fields #[.int lo t,.int hi u,.int 1 v]}
 |.BQ o u=>h.get? a=some o/\BV H h a u
 |.Jq ps=>h.get? a=some {cls:=.none,data:=.fields ps}
 |.met f x=>h.get? a=some (methodObj (.ref f) (.ref x))
 |.ext φ=>φ h/\(∃o,h.get? a=some o)/\∀h1 h2:qi,φ h1->(∀o,h1.get? a=some o->h2.get? a=some o)->φ h2
def Bx(H:Hp)(h:qi):Prop:=∀a o,H a=some o->BV P w H h a o
end
variable{P:qf}{h:qi}
section
variable{o:HO}
def BV.lt(x:BV P w H h a o):a<h.objs.size:=by
 cases o with
 |lst xs=>obtain⟨_,_,_,_,e⟩:=x;exact A2 e
 |tup xs=>obtain⟨_,_,_,p⟩:=x;exact p.lt
 |dK AA=>obtain⟨_,_,_,_,o,_,_,e,_⟩:=x;exact A2 e
 |dT AA=>obtain⟨_,_,_,_,o,_,_,e,_⟩:=x;exact A2 e
 |set S n=>obtain⟨o,_,_,_,e,_⟩:=x;exact A2 e
 |ins C dx fs=>obtain⟨_,_,_,e,_⟩:=x;exact A2 e
 |own y=>obtain⟨_,e⟩:=x;exact A2 e
 |xd fs=>obtain⟨_,⟨_,_,_,e,_⟩,_⟩:=x;exact A2 e
 |IK lo hi=>obtain⟨_,_,_,e⟩:=x;exact A2 e
 |BQ ob u=>obtain⟨e,_⟩:=x;exact A2 e
 |Jq ps=>exact A2 (show h.get? a=some _ from x)
 |met f y=>exact A2 (show h.get? a=some _ from x)
 |ext φ=>obtain⟨_,⟨_,e⟩,_⟩:=x;exact A2 e
def Paired.UN{α β:Type}{F G:α->β->Prop}:∀{l₁:List α}{l₂:List β},Paired F l₁ l₂->(∀a b,F a b->G a b)->Paired G l₁ l₂
 |_,_,.nil,_=>.nil
 |_,_,.cons r t,f=>.cons (f _ _ r) (Paired.UN t f)
end
variable{H':Hp}{h':qi}
section
variable{o:HO}
def BV.ES(x:BV P w H h a o)(k:∀b u,(b=a\/H b=some (.own a))->h.get? b=some u->h'.get? b=some u)
 (ho:∀b,H b=some (.own a)->H' b=some (.own a))(ht:∀b xs,H b=some (.tup xs)->H' b=some (.tup xs)):BV P w H' h' a o:=by
 induction o with
 |lst xs=>obtain⟨z,AX,n,r,e⟩:=x;exact⟨z,AX,n,r,k _ _ (.inl rfl) e⟩
 |tup xs=>obtain⟨z,AX,r,ob,e,c⟩:=x;exact⟨z,AX,r,ob,k _ _ (.inl rfl) e,c⟩
 |dK AA=>obtain⟨z,y,vs,r,ob,es,ep,e,c⟩:=x;exact⟨z,y,vs,r,ob,es,ep,k _ _ (.inl rfl) e,c⟩
 |dT AA=>obtain⟨z,y,xs,r,ob,es,ep,e,c⟩:=x;exact⟨z,y,xs,Paired.UN r fun p q z=>⟨z.1,ht _ _ z.2.1,z.2.2⟩,ob,es,ep,k _ _ (.inl rfl) e,c⟩
 |set S n=>obtain⟨ob,es,ep,t,e,c⟩:=x;exact⟨ob,es,ep,t,k _ _ (.inl rfl) e,c⟩
 |ins C dx fs=>obtain⟨d,z,ne,e,mA,⟨od,es,ep,e2,c⟩,r⟩:=x;exact⟨ho _ d,z,ne,k _ _ (.inl rfl) e,mA,⟨od,es,ep,k _ _ (.inr d) e2,c⟩,r⟩
 |own y=>obtain⟨ob,e⟩:=x;exact⟨ob,k _ _ (.inl rfl) e⟩
 |xd fs=>obtain⟨mA,⟨od,es,ep,e,c⟩,r⟩:=x;exact⟨mA,⟨od,es,ep,k _ _ (.inl rfl) e,c⟩,r⟩
 |IK lo hi=>obtain⟨t,u,v,e⟩:=x;exact⟨t,u,v,k _ _ (.inl rfl) e⟩
 |BQ ob u ih=>obtain⟨e,q⟩:=x;exact⟨k _ _ (.inl rfl) e,ih q⟩
 |Jq ps=>have e:h.get? a=some {cls:=.none,data:=.fields ps}:=x;show h'.get? a=some {cls:=.none,data:=.fields ps};exact k a _ (.inl rfl) e
 |met f y=>have e:h.get? a=some (methodObj (.ref f) (.ref y)):=x;show h'.get? a=some (methodObj (.ref f) (.ref y));exact k a _ (.inl rfl) e
 |ext φ=>obtain⟨p,⟨o,e⟩,st⟩:=x;exact⟨st _ _ p fun o q=>k _ _ (.inl rfl) q,⟨o,k _ _ (.inl rfl) e⟩,st⟩
def Bx.lt(x:Bx P w H h)(e:H a=some o):a<h.objs.size:=(x a o e).lt
def Bx.fresh(x:Bx P w H h)(e:h.objs.size<=a):H a=none:=by
 cases q:H a with
 |none=>rfl
 |some u=>exact absurd (C5 (x.lt q) e) (Ml _)
def Bx.kept(x:Bx P w H h)(k:∀b u,h.get? b=some u->h'.get? b=some u):Bx P w H h':=fun a o e=>(x a o e).ES (fun b u _ q=>k b u q) (fun _ q=>q) fun _ _ q=>q
def Bx.laid(x:Bx P w H h)(k:∀b u,h.get? b=some u->h'.get? b=some u)(hp:h.objs.size<=a)(new:BV P w (upd H a o) h' a o):Bx P w (upd H a o) h':=fun b u e=>by
 have hn:=x.fresh hp;by_cases hb:b=a
 ·subst hb;rw[AM] at e;cases e;exact new
 ·rw[AN hb] at e;exact(x b u e).ES (fun c v _ q=>k c v q) (fun c q=>by rw[AN (A7 q hn)];exact q) fun c xs q=>by rw[AN (A7 q hn)];exact q
end
def Rd(H:Hp)(a:OK)(u:HO):Prop:=H a=some u\/∃o,H a=some (.BQ o u)
def Rd.ok{u:HO}(r:Rd H a u)(x:Bx P w H h):BV P w H h a u:=by
 rcases r with r|⟨o,r⟩
 ·exact x a u r
 ·obtain⟨_,q⟩:=x a _ r;exact q
def OG:Option HO->Prop
 |some (.lst _)=>True
 |some (.dK _)=>True
 |some (.dT _)=>True
 |some (.set _ _)=>True
 |some (.ins _ _ _)=>True
 |some (.ext _)=>True
 |_=>False
section
variable{x e:OK}{o':HO}
def Bx.write(ok:Bx P w H h)(mu:OG (H x))(he:e=x\/H e=some (.own x))(k:∀b u,b≠e->h.get? b=some u->h'.get? b=some u)(heo:∃u,h'.get? e=some u)
 (new:BV P w (upd H x o') h' x o'):Bx P w (upd H x o') h':=fun b u q=>by
 have nown:∀c y,H c=some (.own y)->c≠x:=fun c y r z=>by subst z;rw[r] at mu;exact mu
 have ntup:∀c xs,H c=some (.tup xs)->c≠x:=fun c xs r z=>by subst z;rw[r] at mu;exact mu
 by_cases hb:b=x
 ·subst hb;rw[AM] at q;cases q;exact new
 ·rw[AN hb] at q;by_cases hbe:b=e
  ·have q':H b=some (.own x):=by
    rcases he with z|z
    ·exact absurd (hbe.trans z) hb
    ·rw[hbe];exact z
   rw[q] at q';cases q';obtain⟨v,hv⟩:=heo;exact⟨v,by rw[hbe];exact hv⟩
  ·refine(ok b u q).ES (fun c v hc r=>k c v ?_ r) (fun c r=>by rw[AN (nown c b r)];exact r) fun c xs r=>by rw[AN (ntup c xs r)];exact r
   rcases hc with rfl|hc
   ·exact hbe
   ·rintro rfl;rcases he with z|z
    ·exact nown c b hc z
    ·rw[hc] at z;cases z;exact hb rfl
end
structure Un(fs ex:List OK)(H H':Hp)(h h':qi):Prop where
 keep:∀b o,h.get? b=some o->H b=none->b∉fs->b∉ex->h'.get? b=some o
 slot:∀b o,h.get? b=some o->H b=none->b∈fs->b∉ex->∃sl,h'.get? b=some {o with slots:=sl}
 free:∀b o,h.get? b=some o->H b=none->b∉ex->H' b=none
 there:∀b o,h.get? b=some o->b∉ex->∃o',h'.get? b=some o'
 Em:∀b xs,H b=some (.tup xs)->H' b=some (.tup xs)
 EC:∀b o u,H b=some (.BQ o u)->H' b=some (.BQ o u)
 Ek:∀b ps,H b=some (.Jq ps)->∃more,H' b=some (.Jq (ps++more))
variable{H1:Hp}
section
variable{fs fs' ex ex':List OK}{h1 h2:qi}{x e:OK}{o:HO}
def Un.any(u:Un fs ex H H1 h h1){ob:Obj}(q:h.get? b=some ob)(n:H b=none)(hx:b∉ex):∃sl,h1.get? b=some {ob with slots:=sl}:=by
 by_cases hb:b∈fs
 ·exact u.slot b ob q n hb hx
 ·exact⟨ob.slots,u.keep b ob q n hb hx⟩
def Un.kept(k:∀b u,h.get? b=some u->h'.get? b=some u):Un fs ex H H h h':=
 ⟨fun b ob q _ _ _=>k b ob q,fun b ob q _ _ _=>⟨ob.slots,k b ob q⟩,fun _ _ _ n _=>n,fun b ob q _=>⟨ob,k b ob q⟩,fun _ _ q=>q,fun _ _ _ q=>q,fun _ ps q=>⟨#[],by rw[q];simp⟩⟩
def Un.refl:Un fs ex H H h h:=Un.kept fun _ _ q=>q
def Un.laid(k:∀b u,h.get? b=some u->h'.get? b=some u)(hp:h.objs.size<=a)(hn:H a=none):Un fs ex H (upd H a o) h h' where
 keep:=fun b u q _ _ _=>k b u q
 slot:=fun b u q _ _ _=>⟨u.slots,k b u q⟩
 free:=fun b u q n _=>by rw[AN (BO (C5 (A2 q) hp))];exact n
 there:=fun b u q _=>⟨u,k b u q⟩
 Em:=fun b xs q=>by rw[AN (A7 q hn)];exact q
 EC:=fun b u xs q=>by rw[AN (A7 q hn)];exact q
 Ek:=fun b ps q=>⟨#[],by rw[AN (A7 q hn),q];simp⟩
def Un.write(mu:OG (H x))(he:e=x\/H e=some (.own x))(k:∀b u,b≠e->h.get? b=some u->h'.get? b=some u)(heo:∃u,h'.get? e=some u):Un fs ex H (upd H x o) h h':=by
 have hx:∀b,H b=none->b≠x:=fun b n z=>by subst z;rw[n] at mu;exact mu
 have hb:∀b,H b=none->b≠e:=fun b n z=>by
  subst z;rcases he with r|r
  ·exact hx b n r
  ·rw[n] at r;cases r
 have hm:∀b u,H b=some u->¬OG (some u)->b≠x:=fun b u q nm z=>by subst z;rw[q] at mu;exact nm mu
 refine⟨fun b u q n _ _=>k b u (hb b n) q,fun b u q n _ _=>⟨u.slots,k b u (hb b n) q⟩,fun b u q n _=>by rw[AN (hx b n)];exact n,fun b u q _=>?_,
  fun b xs q=>by rw[AN (hm b _ q fun z=>z)];exact q,fun b u xs q=>by rw[AN (hm b _ q fun z=>z)];exact q,fun b ps q=>⟨#[],by rw[AN (hm b _ q fun z=>z),q];simp⟩⟩;by_cases hbe:b=e
 ·subst hbe;exact heo
 ·exact⟨u,k b u hbe q⟩
end
noncomputable def Qs(h:qi)(H:Hp):List OK:=(List.range h.objs.size).filter fun a=>(H a).isSome
def Ip(h:qi)(H:Hp):qi:=hideAll h (Qs h H)
def dc(h:qi)(H:Hp):(Ip h H).objs.size=h.objs.size:=hideAll_size _ _
variable{o:Obj}
def gB(e:h.get? b=some o)(n:H b=none):(Ip h H).get? b=some o:=
 hideAll_get _ e fun hm=>by have q:(H b).isSome=true:=(Gg.mp hm).2;rw[n] at q;simp at q
def jk(e:(Ip h H).get? b=some o):h.get? b=some o/\H b=none:=by
 have e':h.get? b=some o:=of_hideAll (Qs h H) e;refine⟨e',?_⟩
 cases q:H b with
 |none=>rfl
 |some x=>have hm:b∈Qs h H:=Gg.mpr ⟨HZ.mpr (A2 e'),by simp[q]⟩;have z:(Ip h H).get? b=none:=hideAll_none (Qs h H) hm;rw[z] at e;cases e
structure Mod(K:tW)(mg:Str->Option AD)(base:qi):Prop where
 OH:K.In base
 glob:base.Ns dy mg
 blt:∃mb,base.Ns tL mb/\∀x:Str,x≠ "__name__" ->mb x=qm x
 nolimit:base.NoLimit
structure Cx where
 prog:qf
 w:qj
 K:tW
 mg:Str->Option AD
 base:qi
 A:rL
 N:List Str
 s₀:Ya
 H₀:Hp
 env:Env
 outer:List Env
 stack:List Env
 ex:List OK
 fn:Str->Bool
 calm:Bool
 pn:List (OK×Obj)
 xe:AD->Ya->Prop
noncomputable def Ci(l:List Env):List OK:=l.filterMap (·.frame)
abbrev Cx.fs(X:Cx):List OK:=Ci X.outer
def Qe(sc:sV)(x:Str):Prop:=sc.names.lookup x=some .local\/sc.names.lookup x=some .cell\/sc.names.lookup x=some .free
def Loc(sc:sV)(x:Str):Prop:=sc.names.lookup x=some .local\/sc.names.lookup x=some .cell
def Look(env:Env)(h:qi)(m:Str->Option AD)(x:Str)(u:AD):Prop:=
 (env.kindOf x=some .local/\m x=some u)\/((env.kindOf x=some .cell\/env.kindOf x=some .free)/\∃c,env.cells.lookup x=some c/\h.IsCell c (some u))
structure Cx.Ok(X:Cx):Prop where
 mod:Mod X.K X.mg X.base
 kind:X.env.scope.kind=.function
 glob:X.env.globals=dy
 blt:X.env.builtins=tL
 above:X.s₀.heap.objs.size<=X.env.locals
 inj:∀x y c,X.env.cells.lookup x=some c->X.env.cells.lookup y=some c->x=y
 has:∀x,(X.env.kindOf x=some .cell\/X.env.kindOf x=some .free)->∃c,X.env.cells.lookup x=some c
 Ky:∀x c,X.fn x=true->X.env.cells.lookup x=some c->X.s₀.heap.objs.size<=c
 hd:X.calm=true->X.A.handled=none
 frames:X.A.frames=some X.stack
 MB:X.stack=X.outer\/(X.stack=X.env::X.outer/\X.env.frame=some X.env.locals)
 Qt:∀b∈X.ex,b≠X.env.locals/\∀x c,X.env.cells.lookup x=some c->c≠b
 bs:∀b o,X.base.get? b=some o->X.s₀.heap.get? b=some o/\X.H₀ b=none
 GV:X.base.objs.size<=X.s₀.heap.objs.size
 Ku:∀b o,X.base.get? b=some o->b∉X.ex
 Kt:∀b∈X.ex,b∉X.fs
 Ej:X.s₀.heap.FunFrames X.base X.outer
 IF:∀b∈X.fs,X.H₀ b=none
structure Inv(X:Cx)(pins:List (OK×Obj))(σ:List (Option V))(H:Hp)(s:Ya):Prop where
 ok:X.Ok
 os:s.os=X.s₀.os
 bare:rY s.gens
 base:Un X.fs X.ex X.H₀ H X.s₀.heap s.heap
 loc:∃m,s.heap.Ns X.env.locals m/\∀(i:Nat)(x:Str)(v:V),X.N[i]? =some x->σ[i]? =some (some v)->Qe X.env.scope x->∃u,RelV v u/\Look X.env s.heap m x u
 cell:∀x c,X.env.cells.lookup x=some c->∃v,s.heap.IsCell c v
 free:H X.env.locals=none
 DH:∀x c,X.env.cells.lookup x=some c->H c=none
 pin:∀p∈X.pn++pins,s.heap.get? p.1=some p.2/\H p.1=none/\p.1≠X.env.locals/\p.1∉X.fs/\∀v,p.2.data≠.cell v
 hok:Bx X.prog X.w H s.heap
 len:σ.length=X.N.length
variable{X:Cx}
section
variable{σ:List (Option V)}
def Cx.Ok.pG(ok:X.Ok)(e:X.base.get? b=some o):b∉X.fs:=fun hb=>by have:=(ok.Ej.mem hb).1;rw[e] at this;cases this
end
variable{pins:List (OK×Obj)}
section
variable{σ:List (Option V)}
def Inv.bs(I:Inv X pins σ H s):∀b o,X.base.get? b=some o->s.heap.get? b=some o/\H b=none:=fun b o e=>⟨I.base.keep b o (I.ok.bs b o e).1 (I.ok.bs b o e).2 (I.ok.pG e) (I.ok.Ku b o e),I.base.free b o (I.ok.bs b o e).1 (I.ok.bs b o e).2 (I.ok.Ku b o e)⟩
def Inv.bk(I:Inv X pins σ H s):∀b o,X.base.get? b=some o->s.heap.get? b=some o:=fun b o e=>(I.bs b o e).1
def Inv.mod(I:Inv X pins σ H s):Mod X.K X.mg X.base:=I.ok.mod
def Inv.BX(I:Inv X pins σ H s):X.K.In s.heap:=I.ok.mod.OH.keeps I.bk
def Inv.fr(I:Inv X pins σ H s):∃m,Fr X.base X.env.locals s.heap m:=
 let⟨m,hn,_⟩:=I.loc
 ⟨m,hn,I.bk,BJ I.ok.GV I.ok.above⟩
def Inv.lt(I:Inv X pins σ H s):X.env.locals<s.heap.objs.size:=let⟨_,hn,_⟩:=I.loc;hn.lt
def Inv.sz(I:Inv X pins σ H s):X.s₀.heap.objs.size<=s.heap.objs.size:=BJ I.ok.above (F4 I.lt)
def Inv.pH(I:Inv X pins σ H s)(h:s.heap.objs.size<=a):a∉X.fs:=fun hb=>by obtain⟨_,o,ho,_⟩:=I.ok.Ej.mem hb;exact absurd (C5 (A2 ho) (BJ I.sz h)) (Ml _)
def Inv.Jl(I:Inv X pins σ H s):∀x c,X.env.cells.lookup x=some c->c≠X.env.locals:=fun x c e z=>by obtain⟨v,o,ho,hd⟩:=I.cell x c e;obtain⟨m,⟨o',es,ep,ho',hd',_⟩,_⟩:=I.loc;rw[z,ho'] at ho;cases ho;rw[hd'] at hd;cases hd
def Inv.Ej(I:Inv X pins σ H s):s.heap.FunFrames X.base X.outer:=by
 have all:∀(l:List Env),(∀b∈Ci l,b∈X.fs)->X.s₀.heap.FunFrames X.base l->s.heap.FunFrames X.base l:=by
  intro l
  induction l with
  |nil=>intro _ _;trivial
  |cons env r ih=>intro hs hl;obtain⟨hk,⟨L,o,hf,hn,ho,hd⟩,hr⟩:=hl;have hL:L∈X.fs:=hs L (by unfold Ci;rw[Q8,hf];exact Co);obtain⟨sl,e⟩:=I.base.slot L o ho (I.ok.IF L hL) hL fun z=>I.ok.Kt L z hL;exact⟨hk,⟨L,_,hf,hn,e,hd⟩,ih (fun b hb=>hs b (by unfold Ci;rw[Q8,hf];exact Cn _ hb)) hr⟩
 exact all X.outer (fun _ hb=>hb) I.ok.Ej
def Inv.stack(I:Inv X pins σ H s):s.heap.FunFrames X.base X.stack:=by
 rcases I.ok.MB with e|⟨e,hf⟩
 ·rw[e];exact I.Ej
 ·rw[e];obtain⟨m,hn,_⟩:=I.loc;refine .cons (by rw[I.ok.kind];decide) hf hn ?_ I.Ej;exact Heap.get?_none_of_le (BJ I.ok.GV I.ok.above)
def Inv.Nj(I:Inv X pins σ H s):∀b∈Ci X.stack,b∈X.env.locals::X.fs:=fun b hb=>by
 rcases I.ok.MB with e|⟨e,hf⟩
 ·rw[e] at hb;exact Cn _ hb
 ·rw[e] at hb;unfold Ci at hb;rw[Q8,hf] at hb;exact hb
def Inv.Pb(I:Inv X pins σ H s):∀b∈Ci X.stack,H b=none:=fun b hb=>by
 rcases BI.mp (I.Nj b hb) with e|hb
 ·rw[e];exact I.free
 ·obtain⟨_,o,ho,_⟩:=I.ok.Ej.mem hb;exact I.base.free b o ho (I.ok.IF b hb) fun z=>I.ok.Kt b z hb
end
variable{g':Array rj}{t':Nat}{ch:List OK}
section
variable{σ:List (Option V)}
def Inv.step{d':Drawn}(I:Inv X pins σ H s)
 (hch:∀b∈ch,(b∈X.ex\/X.s₀.heap.objs.size<=b)/\b≠X.env.locals/\(∀x c,X.env.cells.lookup x=some c->c≠b)/\∀p∈X.pn++pins,p.1≠b)
 (keep:∀b o,b≠X.env.locals->b∉X.fs->b∉ch->s.heap.get? b=some o->H b=none->h'.get? b=some o)
 (slot:∀b o,b≠X.env.locals->b∈X.fs->b∉ch->s.heap.get? b=some o->H b=none->∃sl,h'.get? b=some {o with slots:=sl})(free:∀b o,b∉ch->s.heap.get? b=some o->H b=none->H' b=none)
 (there:∀b o,b∉ch->s.heap.get? b=some o->∃o',h'.get? b=some o')
 (Em:∀b xs,H b=some (.tup xs)->H' b=some (.tup xs))(EC:∀b o u,H b=some (.BQ o u)->H' b=some (.BQ o u))(Ek:∀b ps,H b=some (.Jq ps)->∃more,H' b=some (.Jq (ps++more)))
 (ns:∀m,s.heap.Ns X.env.locals m->h'.Ns X.env.locals m)(hok:Bx X.prog X.w H' h')(hg:rY g'):
 Inv X pins σ H' {s with heap:=h',gens:=g',drawn:=d',toks:=t'}:=by
 have neL:∀b o,X.s₀.heap.get? b=some o->b≠X.env.locals:=fun b o e=>BO (C5 (A2 e) I.ok.above);have neC:∀b o,X.s₀.heap.get? b=some o->b∉X.ex->b∉ch:=fun b o e hx hb=>by
  rcases(hch b hb).1 with z|z
  ·exact hx z
  ·exact absurd (C5 (A2 e) z) (Ml _)
 have cellK:∀x c,X.env.cells.lookup x=some c->∀v,s.heap.IsCell c v->h'.IsCell c v:=fun x c e v ⟨o,ho,hd⟩=>by
  have nch:c∉ch:=fun z=>(hch c z).2.2.1 x c e rfl;by_cases hc:c∈X.fs
  ·obtain⟨sl,q⟩:=slot c o (I.Jl x c e) hc nch ho (I.DH x c e);exact⟨_,q,hd⟩
  ·exact⟨o,keep c o (I.Jl x c e) hc nch ho (I.DH x c e),hd⟩
 refine⟨I.ok,I.os,hg,⟨fun b o e n hb hx=>?_,fun b o e n hb hx=>?_,fun b o e n hx=>?_,fun b o e hx=>?_,fun b xs e=>Em b xs (I.base.Em b xs e),fun b o xs e=>EC b o xs (I.base.EC b o xs e),fun b ps e=>?_⟩,?_,fun x c e=>?_,?_,fun x c e=>?_,fun p hp=>?_,hok,I.len⟩
 ·exact keep b o (neL b o e) hb (neC b o e hx) (I.base.keep b o e n hb hx) (I.base.free b o e n hx)
 ·obtain⟨sl,e1⟩:=I.base.slot b o e n hb hx;obtain⟨sl',e2⟩:=slot b _ (neL b o e) hb (neC b o e hx) e1 (I.base.free b o e n hx);exact⟨sl',e2⟩
 ·obtain⟨o',e1⟩:=I.base.there b o e hx;exact free b o' (neC b o e hx) e1 (I.base.free b o e n hx)
 ·obtain⟨o',e1⟩:=I.base.there b o e hx;exact there b o' (neC b o e hx) e1
 ·obtain⟨m1,e1⟩:=I.base.Ek b ps e;obtain⟨m2,e2⟩:=Ek b _ e1;exact⟨m1++m2,by rw[e2,Array.append_assoc]⟩
 ·obtain⟨m,hn,hl⟩:=I.loc;refine⟨m,ns m hn,fun i x v e1 e2 e3=>?_⟩;obtain⟨u,r,l⟩:=hl i x v e1 e2 e3;refine⟨u,r,?_⟩;rcases l with l|⟨k,c,e,z⟩
  ·exact .inl l
  ·exact .inr ⟨k,c,e,cellK x c e _ z⟩
 ·obtain⟨v,z⟩:=I.cell x c e;exact⟨v,cellK x c e v z⟩
 ·obtain⟨m,⟨o,_,_,ho,_⟩,_⟩:=I.loc;exact free _ o (fun z=>(hch _ z).2.1 rfl) ho I.free
 ·obtain⟨v,o,ho,hd⟩:=I.cell x c e;exact free c o (fun z=>(hch c z).2.2.1 x c e rfl) ho (I.DH x c e)
 ·obtain⟨e,n,ne,nf,d⟩:=I.pin p hp;have nch:p.1∉ch:=fun z=>(hch p.1 z).2.2.2 p hp rfl;exact⟨keep p.1 p.2 ne nf nch e n,free p.1 p.2 nch e n,ne,nf,d⟩
def Inv.un(I:Inv X pins σ H s)(u:Un X.fs [] H H' s.heap h')(hok:Bx X.prog X.w H' h'):Inv X pins σ H' {s with heap:=h',toks:=t'}:=by
 obtain⟨m,⟨o,es,ep,ho,r⟩,_⟩:=id I.loc;obtain⟨sl,hL⟩:=u.any ho I.free (by simp);exact I.step (g':=s.gens) (d':=s.drawn) (ch:=[]) (fun _ z=>nomatch z) (fun b o _ hb _ e n=>u.keep b o e n hb (by simp)) (fun b o _ hb _ e n=>u.slot b o e n hb (by simp)) (fun b o _ e n=>u.free b o e n (by simp)) (fun b o _ e=>u.there b o e (by simp)) u.Em u.EC u.Ek (fun m' hm=>by obtain⟨o',es',ep',ho',r'⟩:=hm;rw[ho] at ho';cases ho';exact⟨_,es',ep',hL,r'⟩) hok I.bare
def Inv.call{d':Drawn}(I:Inv X pins σ H s)(u:Un (Ci X.stack) ch H H' s.heap h')(hok:Bx X.prog X.w H' h')(hg:rY g')
 (hch:∀b∈ch,(b∈X.ex\/X.s₀.heap.objs.size<=b)/\b≠X.env.locals/\(∀x c,X.env.cells.lookup x=some c->c≠b)/\∀p∈X.pn++pins,p.1≠b):
 Inv X pins σ H' {s with heap:=h',gens:=g',drawn:=d',toks:=t'}:=by
 obtain⟨m,⟨o,es,ep,ho,r⟩,_⟩:=id I.loc;obtain⟨sl,hL⟩:=u.any ho I.free fun z=>(hch _ z).2.1 rfl;exact I.step (ch:=ch) hch (fun b o hL hb hc e n=>u.keep b o e n (fun z=>(BI.mp (I.Nj b z)).elim hL hb) hc) (fun b o _ _ hc e n=>u.any e n hc) (fun b o hc e n=>u.free b o e n hc) (fun b o hc e=>u.there b o e hc) u.Em u.EC u.Ek (fun m' hm=>by obtain⟨o',es',ep',ho',r'⟩:=hm;rw[ho] at ho';cases ho';exact⟨_,es',ep',hL,r'⟩) hok hg
def Inv.turned{it:OK}(I:Inv X pins σ H s)(k:∀b o,b≠it->s.heap.get? b=some o->h'.get? b=some o)(hn:H it=none)(hL:it≠X.env.locals)
 (h1:it∈X.ex\/X.s₀.heap.objs.size<=it)(h2:∀x c,X.env.cells.lookup x=some c->c≠it)(h3:∀p∈X.pn++pins,p.1≠it):Inv X pins σ H {s with heap:=h',toks:=t'}:=by
 have nit:∀b u,H b=some u->b≠it:=fun b u e z=>by rw[z,hn] at e;cases e
 refine I.step (g':=s.gens) (d':=s.drawn) (ch:=[it]) (fun b hb=>?_) (fun b o _ _ hc e _=>k b o (fun z=>hc (by simp[z])) e) (fun b o _ _ hc e _=>⟨o.slots,k b o (fun z=>hc (by simp[z])) e⟩) (fun _ _ _ _ n=>n)
  (fun b o hc e=>⟨o,k b o (fun z=>hc (by simp[z])) e⟩) (fun _ _ e=>e) (fun _ _ _ e=>e) (fun b ps e=>⟨#[],by rw[e];simp⟩) (fun m hm=>?_) (fun b u e=>?_) I.bare
 ·have e:b=it:=by simpa using hb
  subst e;exact⟨h1,hL,h2,h3⟩
 ·obtain⟨o,es,ep,ho,r⟩:=hm;exact⟨o,es,ep,k _ o (DG hL) ho,r⟩
 ·refine(I.hok b u e).ES (fun c v hc q=>k c v ?_ q) (fun _ q=>q) fun _ _ q=>q;rcases hc with z|z
  ·rw[z];exact nit b u e
  ·exact nit c _ z
def Inv.tok(I:Inv X pins σ H s)(t:Nat):Inv X pins σ H {s with toks:=t}:=I.un (h':=s.heap) (t':=t) Un.refl I.hok
def Inv.kept{t':Nat}(I:Inv X pins σ H s)(k:∀b u,s.heap.get? b=some u->h'.get? b=some u):Inv X pins σ H {s with heap:=h',toks:=t'}:=I.un (Un.kept k) (I.hok.kept k)
def Inv.laid{a:OK}{o:HO}{t':Nat}(I:Inv X pins σ H s)(k:∀b u,s.heap.get? b=some u->h'.get? b=some u)(hp:s.heap.objs.size<=a)(new:BV X.prog X.w (upd H a o) h' a o):
 Inv X pins σ (upd H a o) {s with heap:=h',toks:=t'}:=I.un (Un.laid k hp (I.hok.fresh hp)) (I.hok.laid k hp new)
def Inv.write{x e:OK}{o:HO}{t':Nat}(I:Inv X pins σ H s)(mu:OG (H x))(he:e=x\/H e=some (.own x))(k:∀b u,b≠e->s.heap.get? b=some u->h'.get? b=some u)(heo:∃u,h'.get? e=some u)
 (new:BV X.prog X.w (upd H x o) h' x o):Inv X pins σ (upd H x o) {s with heap:=h',toks:=t'}:=I.un (Un.write mu he k heo) (I.hok.write mu he k heo new)
def Inv.weak{σ':List (Option V)}(I:Inv X pins σ H s)(hl:σ'.length=σ.length)(w:∀(i:Nat) v,σ'[i]? =some (some v)->σ[i]? =some (some v)):Inv X pins σ' H s:=
 ⟨I.ok,I.os,I.bare,I.base,let⟨m,hn,hl'⟩:=I.loc;⟨m,hn,fun i x v e1 e2 e3=>hl' i x v e1 (w i v e2) e3⟩,I.cell,I.free,I.DH,I.pin,I.hok,hl.trans I.len⟩
def Inv.YK{pins':List (OK×Obj)}(I:Inv X pins σ H s)(h:∀p∈pins',s.heap.get? p.1=some p.2/\H p.1=none/\p.1≠X.env.locals/\p.1∉X.fs/\∀v,p.2.data≠.cell v):Inv X pins' σ H s:=
 ⟨I.ok,I.os,I.bare,I.base,I.loc,I.cell,I.free,I.DH,fun p hp=>(BS.mp hp).elim (fun z=>I.pin p (IM _ z)) (h p),I.hok,I.len⟩
end
variable{N:List Str}{i j:Nat}{x:Str}
section
variable{σ:List (Option V)}
def Wk(hN:N.Nodup)(a:N[i]? =some x)(b:N[j]? =some x):i=j:=by obtain⟨h1,e1⟩:=BY.mp a;obtain⟨h2,e2⟩:=BY.mp b;exact(List.getElem_inj hN).mp (e1.trans e2.symm)
end
variable{M:Model}{A:rL}{E:AD->Ya->Prop}{v:V}{u:AD}
section
variable{σ:List (Option V)}
def V9{Q:Unit->Ya->Prop}(I:Inv X pins σ H s)(hN:X.N.Nodup)(hi:X.N[i]? =some x)(hx:Loc X.env.scope x)(r:RelV v u)
 (h:∀s',Inv X pins (σ.set i (some v)) H s'->(∃a,Heap.SameBut a s.heap s'.heap/\(a=X.env.locals\/X.env.cells.lookup x=some a))->Q () s')(hf:X.fn x=true\/X.env.scope.names.lookup x=some .local):bt M A (storeName X.env x u) Q E s:=by
 obtain⟨m,hn,hl⟩:=id I.loc;have hcls:(X.env.scope.kind==.class||(X.env.scope.kind==.module&&X.env.locals !=X.env.globals))=false:=by rw[I.ok.kind];rfl
 have hiσ:i<σ.length:=by rw[I.len];exact(BY.mp hi).1
 have Jl:=I.Jl;have tracked:∀{a:OK}{h':qi},(∃o,s.heap.get? a=some o/\H a=none)->Heap.SameBut a s.heap h'->Bx X.prog X.w H h':=fun{a h'} ha hs b ob e=>by
  obtain⟨_,_,hfree⟩:=ha;refine(I.hok b ob e).ES (fun c w' hc q=>(hs.2 c ?_).trans q) (fun _ q=>q) fun _ _ q=>q;rintro rfl;rcases hc with rfl|hc
  ·rw[hfree] at e;cases e
  ·rw[hfree] at hc;cases hc
 rcases hx with hk|hk
 ·refine wpAny_storeName_local hk hn (fun h' hn' hs=>?_) hcls;obtain⟨oL,_,_,hoL,_⟩:=id hn;refine h _ ⟨I.ok,I.os,I.bare,⟨fun b o e n hb hx=>?_,fun b o e n hb hx=>?_,I.base.free,fun b o e hx=>?_,I.base.Em,I.base.EC,I.base.Ek⟩,⟨_,hn',fun j y v' e1 e2 e3=>?_⟩,fun y c e=>?_,I.free,I.DH,fun p hp=>?_,tracked ⟨oL,hoL,I.free⟩ hs,by simpa using I.len⟩ ⟨_,hs,.inl rfl⟩
  ·exact(hs.2 b (BO (C5 (A2 e) I.ok.above))).trans (I.base.keep b o e n hb hx)
  ·obtain⟨sl,e1⟩:=I.base.slot b o e n hb hx;exact⟨sl,(hs.2 b (BO (C5 (A2 e) I.ok.above))).trans e1⟩
  ·obtain⟨o',e1⟩:=I.base.there b o e hx;exact⟨o',(hs.2 b (BO (C5 (A2 e) I.ok.above))).trans e1⟩
  ·by_cases hj:j=i
   ·subst hj;rw[hi] at e1;cases e1;rw[OV hiσ] at e2;cases e2;exact⟨u,r,.inl ⟨hk,by simp⟩⟩
   ·rw[OZ (DG hj)] at e2;obtain⟨u',r',q⟩:=hl j y v' e1 e2 e3;refine⟨u',r',?_⟩;rcases q with⟨k,e⟩|⟨k,c,e,z⟩
    ·refine .inl ⟨k,?_⟩;have:y≠x:=fun e=>hj (Wk hN e1 (e▸hi));simp[this,e]
    ·exact .inr ⟨k,c,e,z.sameBut hs (Jl y c e)⟩
  ·obtain⟨w',z⟩:=I.cell y c e;exact⟨w',z.sameBut hs (Jl y c e)⟩
  ·obtain⟨e,n,ne,nf,d⟩:=I.pin p hp;exact⟨(hs.2 p.1 ne).trans e,n,ne,nf,d⟩
 ·have hfn:X.fn x=true:=by
   rcases hf with z|z
   ·exact z
   ·rw[z] at hk;cases hk
  obtain⟨c,hc⟩:=I.ok.has x (.inl hk);obtain⟨w',z⟩:=I.cell x c hc;refine wpAny_storeName_cell I.ok.kind hk hc z (fun h' hc' hs=>?_);obtain⟨oc,hoc,hocd⟩:=id z;refine h {s with heap:=h'} ⟨I.ok,I.os,I.bare,⟨fun b o e n hb hx=>?_,fun b o e n hb hx=>?_,I.base.free,fun b o e hx=>?_,I.base.Em,I.base.EC,I.base.Ek⟩,⟨m,hn.sameBut hs (DG (Jl x c hc)),fun j y v' e1 e2 e3=>?_⟩,fun y c' e=>?_,I.free,I.DH,fun p hp=>?_,tracked ⟨oc,hoc,I.DH x c hc⟩ hs,by simpa using I.len⟩ ⟨c,hs,.inr hc⟩
  ·exact(hs.2 b (BO (C5 (A2 e) (I.ok.Ky x c hfn hc)))).trans (I.base.keep b o e n hb hx)
  ·obtain⟨sl,e1⟩:=I.base.slot b o e n hb hx;exact⟨sl,(hs.2 b (BO (C5 (A2 e) (I.ok.Ky x c hfn hc)))).trans e1⟩
  ·obtain⟨o',e1⟩:=I.base.there b o e hx;exact⟨o',(hs.2 b (BO (C5 (A2 e) (I.ok.Ky x c hfn hc)))).trans e1⟩
  ·by_cases hj:j=i
   ·subst hj;rw[hi] at e1;cases e1;rw[OV hiσ] at e2;cases e2;exact⟨u,r,.inr ⟨.inl hk,c,hc,hc'⟩⟩
   ·rw[OZ (DG hj)] at e2;obtain⟨u',r',q⟩:=hl j y v' e1 e2 e3;refine⟨u',r',?_⟩;rcases q with q|⟨k,c',e,z'⟩
    ·exact .inl q
    ·refine .inr ⟨k,c',e,z'.sameBut hs ?_⟩;rintro rfl;exact hj (Wk hN e1 (I.ok.inj _ _ _ e hc▸hi))
  ·by_cases hcc:c'=c
   ·subst hcc;exact⟨_,hc'⟩
   ·obtain⟨w2,z2⟩:=I.cell y c' e;exact⟨w2,z2.sameBut hs hcc⟩
  ·obtain⟨e,n,ne,nf,d⟩:=I.pin p hp;refine⟨(hs.2 p.1 ?_).trans e,n,ne,nf,d⟩;intro q;rw[q,hoc] at e;have q':oc=p.2:=Ag e;exact d w' (by rw[<-q'];exact hocd)
def SW{Q:Unit->Ya->Prop}(I:Inv X pins σ H s)(hN:X.N.Nodup)(hi:X.N[i]? =some x)(hx:Loc X.env.scope x)(r:RelV v u)
 (h:∀s',Inv X pins (σ.set i (some v)) H s'->Q () s')(hf:X.fn x=true\/X.env.scope.names.lookup x=some .local):bt M A (storeName X.env x u) Q E s:=
 V9 I hN hi hx r (fun s' I' _=>h s' I') hf
def Inv.P9{s':Ya}(I:Inv X pins σ H s)(ho:s'.os=s.os)(u:Un (Ci X.stack) ch H H' s.heap s'.heap)(hok:Bx X.prog X.w H' s'.heap)(hg:rY s'.gens)
 (hch:∀b∈ch,(b∈X.ex\/X.s₀.heap.objs.size<=b)/\b≠X.env.locals/\(∀x c,X.env.cells.lookup x=some c->c≠b)/\∀p∈X.pn++pins,p.1≠b):Inv X pins σ H' s':=by
 obtain⟨h',g',d',t',o'⟩:=s';have e:o'=s.os:=ho;subst e;exact I.call (g':=g') (t':=t') (d':=d') u hok hg hch
end
abbrev XK:=AD->Option OK->Hp->Prop
abbrev St:=List (Option V)
abbrev VK:=V->Hp->Prop
abbrev TE:=St->Hp->VK->Prop
abbrev TT:=St->Hp->(Bool->Hp->Prop)->Prop
abbrev TA:=St->Hp->(List V->Hp->Prop)->Prop
structure Ends where
 nx:St->Hp->Prop
 rt:VK
 bk:St->Hp->Prop:=fun _ _=>False
 ct:St->Hp->Prop:=fun _ _=>False
abbrev TS:=Ends->St->Hp->Prop
def EP(X:Cx)(pins:List (OK×Obj))(σ:St)(Q:VK)(u:AD)(s':Ya):Prop:=∃v H',Inv X pins σ H' s'/\RelV v u/\Q v H'
def TP(X:Cx)(pins:List (OK×Obj))(σ:St)(Q:Bool->Hp->Prop)(b:Bool)(s':Ya):Prop:=∃H',Inv X pins σ H' s'/\Q b H'
def AP(X:Cx)(pins:List (OK×Obj))(σ:St)(Q:List V->Hp->Prop)(us:List AD)(s':Ya):Prop:=∃vs H',Inv X pins σ H' s'/\Vals vs us/\Q vs H'
def SP(X:Cx)(pins:List (OK×Obj))(D:Ends)(f:Flow)(s':Ya):Prop:=
 match f with
 |.next=>∃σ' H',Inv X pins σ' H' s'/\D.nx σ' H'
 |.brk=>∃σ' H',Inv X pins σ' H' s'/\D.bk σ' H'
 |.cont=>∃σ' H',Inv X pins σ' H' s'/\D.ct σ' H'
 |.ret u=>∃v σ' H',Inv X pins σ' H' s'/\RelV v u/\D.rt v H'
def PE(X:Cx)(e:hX)(t:TE):Prop:=
 ∀(pins:List (OK×Obj))(s:Ya)(σ:St)(H:Hp)(Q:VK),Inv X pins σ H s->t σ H Q->bt (ax X.prog X.w) X.A (qh e X.env) (EP X pins σ Q) X.xe s
def PT(X:Cx)(e:hX)(t:TT):Prop:=
 ∀(pins:List (OK×Obj))(s:Ya)(σ:St)(H:Hp)(Q:Bool->Hp->Prop),Inv X pins σ H s->t σ H Q->bt (ax X.prog X.w) X.A (isTrue e X.env (qh e X.env)) (TP X pins σ Q) X.xe s
def PW(X:Cx)(e:hX)(t:TT):Prop:=
 ∀(whole:Sem AD)(pins:List (OK×Obj))(s:Ya)(σ:St)(H:Hp)(Q:Bool->Hp->Prop),Inv X pins σ H s->t σ H Q->bt (ax X.prog X.w) X.A (isTrue e X.env whole) (TP X pins σ Q) X.xe s
variable{e:hX}
def PW.pt{t:TT}(h:PW X e t):PT X e t:=h _
def PA(X:Cx)(es:List hX)(t:TA):Prop:=
 ∀(pos:Pos)(pins:List (OK×Obj))(s:Ya)(σ:St)(H:Hp)(Q:List V->Hp->Prop),Inv X pins σ H s->t σ H Q->bt (ax X.prog X.w) X.A (spliced (qt pos (dq es X.env))) (AP X pins σ Q) X.xe s
def PS(X:Cx)(st:g0)(t:TS):Prop:=
 ∀(pins:List (OK×Obj))(s:Ya)(σ:St)(H:Hp)(D:Ends),Inv X pins σ H s->t D σ H->bt (ax X.prog X.w) X.A (exec st X.env) (SP X pins D) X.xe s
def EW(X:Cx)(st:List g0)(t:TS):Prop:=
 ∀(pins:List (OK×Obj))(s:Ya)(σ:St)(H:Hp)(D:Ends),Inv X pins σ H s->t D σ H->bt (ax X.prog X.w) X.A (execs st X.env) (SP X pins D) X.xe s
def Ad{t:Sem α}{Q Q':α->Ya->Prop}(h:bt M A t Q E s)(hQ:∀a s,Q a s->Q' a s):bt M A t Q' E s:=C8 h hQ fun _ _ x=>x
section
variable{a b:hX}{tb:TE}{tA tB':TT}{rest:List hX}
def EU(i:Nat):TE:=fun σ H Q=>∃v,σ[i]? =some (some v)/\Q v H
def tC(v:V):TE:=fun _ H Q=>Q v H
end
variable{pos:Pos}
section
variable{a b:hX}{tb:TE}{tA tB':TT}{rest:List hX}
def Ys(hN:X.N[i]? =some x)(hv:Qe X.env.scope x)(hd:(x==("__debug__" :Str))=false:=by decide)(hcd:(x==("__classdict__" :Str))=false:=by decide):PE X (.Name x pos) (EU i):=by
 intro pins s σ H Q I h;obtain⟨v,e,h⟩:=h;obtain⟨m,hn,hl⟩:=I.loc;obtain⟨u,r,l⟩:=hl i x v hN e hv;have fin:EP X pins σ Q u s:=⟨v,H,I,r,h⟩;rcases l with⟨hk,hm⟩|⟨hk,c,hc,hcell⟩
 ·exact wpAny_Name (wpAny_loadName_local I.ok.kind hk hn hm fin) hd
 ·rcases hk with hk|hk
  ·exact wpAny_Name (wpAny_loadName_cell I.ok.kind hk hc hcell fin) hd
  ·exact wpAny_Name (wpAny_loadName_free I.ok.kind hk hc hcell fin hcd) hd
def AV{X:Cx}{i j pos}:PE X (.Constant (.int i) j pos) (tC (.int i)):=fun _ _ _ H _ I h=>wpAny_Constant_int ⟨.int i,H,I.tok _,⟨_,rfl⟩,h⟩
def Ih{b j pos}:PE X (.Constant (.bool b) j pos) (tC (.bl b)):=fun _ _ _ H _ I h=>Constant_bool ⟨.bl b,H,I,rfl,h⟩
def Yu{j pos}:PE X (.Constant .none j pos) (tC .BB):=fun _ _ _ H _ I h=>tV ⟨.BB,H,I,rfl,h⟩
def AZ{X:Cx}{x j pos}:PE X (.Constant (.str x) j pos) (tC (.str x)):=fun _ _ _ H _ I h=>VM ⟨.str x,H,I.tok _,⟨_,rfl⟩,h⟩
def Gl(X:Cx)(x:Str):Prop:=X.env.kindOf x=some .globalImplicit
end
variable{σ:St}{Q:AD->Ya->Prop}
section
variable{a b:hX}{tb:TE}{tA tB':TT}{rest:List hX}
def LZ(I:Inv X pins σ H s)(hg:Gl X x)(hm:X.mg x=some u)(h:Q u s)
 (hd:(x==("__debug__" :Str))=false:=by decide):bt (ax X.prog X.w) X.A (qh (.Name x pos) X.env) Q E s:=
 Calls.Name_function_global I.ok.kind hg (Calls.loadGlobal_global (by rw[I.ok.glob];exact I.mod.glob.keeps I.bk) hm h) hd
def Lb(I:Inv X pins σ H s)(hg:Gl X x)(hm:X.mg x=none)(hv:qm x=some u)(h:Q u s)
 (hn:x≠ "__name__" :=by decide)(hd:(x==("__debug__" :Str))=false:=by decide):bt (ax X.prog X.w) X.A (qh (.Name x pos) X.env) Q E s:=by
 obtain⟨mb,h1,h2⟩:=I.mod.blt;exact Calls.Name_function_global I.ok.kind hg (Calls.loadGlobal_builtin (by rw[I.ok.glob];exact I.mod.glob.keeps I.bk) hm (by rw[I.ok.blt];exact h1.keeps I.bk) ((h2 x hn).trans hv) h) hd
def Fg(hg:Gl X x)(hm:X.mg x=none)(hv:qm x=some u)(r:RelV v u)(hn:x≠ "__name__" :=by decide)(hd:(x==("__debug__" :Str))=false:=by decide):PE X (.Name x pos) (tC v):=
 fun _ _ _ H _ I h=>Lb I hg hm hv ⟨v,H,I,r,h⟩ hn hd
def PC(X:Cx)(op:CmpOp)(a b:hX)(t:TE):Prop:=
 ∀(pins:List (OK×Obj))(s:Ya)(σ:St)(H:Hp)(Q:VK),Inv X pins σ H s->t σ H Q->
  bt (ax X.prog X.w) X.A (qh a X.env) (fun v s₁=>bt (ax X.prog X.w) X.A (qh b X.env) (fun u s₂=>bt (ax X.prog X.w) X.A (qg op v u) (EP X pins σ Q) X.xe s₂) X.xe s₁) X.xe s
end
variable{op:CmpOp}
section
variable{a b:hX}{tb:TE}{tA tB':TT}{rest:List hX}
def gD(b:hX)(h:op≠.In)(h2:op≠.NotIn):behindInMarks op b=false:=by
 have e1:(op==CmpOp.In)=false:=by cases op<;>first|rfl|exact absurd rfl h
 have e2:(op==CmpOp.NotIn)=false:=by cases op<;>first|rfl|exact absurd rfl h2
 cases b<;>simp[behindInMarks,e1,e2]
end
variable{ta:TE}
section
variable{a b:hX}{tb:TE}{tA tB':TT}{rest:List hX}
def pU(ta:TE):TE:=fun σ H Q=>ta σ H fun x H1=>Q (.bl (decide (x=.BB))) H1
def oB(ta:TE):TE:=fun σ H Q=>ta σ H fun x H1=>Q (.bl (!decide (x=.BB))) H1
def RelV.Wa{x:V}{v:AD}(r:RelV x v):(v==Value.none)=decide (x=.BB):=by
 cases x with
 |BB=>cases r;rfl
 |bl _=>cases r;rfl
 |int _=>obtain⟨t,rfl⟩:=r;rfl
 |str _=>obtain⟨t,rfl⟩:=r;rfl
 |Fv _=>obtain⟨t,rfl⟩:=r;rfl
 |Iz _=>obtain⟨t,rfl⟩:=r;rfl
 |ref _=>cases r;rfl
 |ty _=>cases r;rfl
def mT{j pos'}(ha:PE X a ta):PC X .Is a (.Constant .none j pos') (pU ta):=by intro pins s σ H Q I h;refine Ad (ha pins s σ H _ I h) fun v s1 ⟨x,H1,I1,r1,q1⟩=>?_;exact tV (is_none_gen ⟨.bl _,H1,I1,by rw[r1.Wa];rfl,q1⟩)
def j3{j pos'}(ha:PE X a ta):PC X .IsNot a (.Constant .none j pos') (oB ta):=by intro pins s σ H Q I h;refine Ad (ha pins s σ H _ I h) fun v s1 ⟨x,H1,I1,r1,q1⟩=>?_;exact tV (isnot_none_gen ⟨.bl _,H1,I1,by rw[r1.Wa];rfl,q1⟩)
def tB(t:TE):TT:=fun σ H Q=>t σ H fun x H1=>∃c,x=.bl c/\Q c H1
def JU{t:TE}(h:PC X op a b t)(h1:behindInMarks op b=false:=by rfl):PT X (.Compare a [op] [b] pos) (tB t):=by intro pins s σ H Q I hw;refine wpAny_isTrue_Compare1 (Ad (h pins s σ H _ I hw) fun v s1 h1=>Ad h1 fun u s2 h2=>Ad h2 fun c s3 ⟨x,H1,I1,r1,q1⟩=>?_) h1;obtain⟨d,rfl,q⟩:=q1;cases r1;exact MS ⟨H1,I1,q⟩
def Eg{t:TE}(h:PE X e t)(he:∀whole,isTrue e X.env whole=(do let v<-whole;standAt e.pos;sO [v] (truthy v)):=by intro _;rfl):PT X e (tB t):=by intro pins s σ H Q I hw;refine isTrue_plain (Ad (h pins s σ H _ I hw) fun v s1 ⟨x,H1,I1,r1,q1⟩=>?_) (he _);obtain⟨d,rfl,q⟩:=q1;cases r1;exact MS ⟨H1,I1,q⟩
def UO(t u:TT):TT:=fun σ H Q=>t σ H fun c H1=>if c=true then u σ H1 Q else Q false H1
def qQ(t u:TT):TT:=fun σ H Q=>t σ H fun c H1=>if c=true then Q true H1 else u σ H1 Q
def p9(t:TT):TT:=fun σ H Q=>t σ H fun c H1=>Q (!c) H1
def GB(ha:PT X a tA):PW X (.BoolOp .And [a] pos) tA:=by
 intro wh pins s σ H Q I h;refine isTrue_and (Ad (ha pins s σ H Q I h) fun c s1 e=>?_)
 cases c with
 |true=>exact isTrue_and_nil e
 |false=>exact e
def Ib(ha:PT X a tA):PW X (.BoolOp .Or [a] pos) tA:=by
 intro wh pins s σ H Q I h;refine isTrue_or (Ad (ha pins s σ H Q I h) fun c s1 e=>?_)
 cases c with
 |false=>exact isTrue_or_nil e
 |true=>exact e
def Eh(ha:PT X a tA)(hb:PW X (.BoolOp .And (b::rest) pos) tB'):PW X (.BoolOp .And (a::b::rest) pos) (UO tA tB'):=by
 intro wh pins s σ H Q I h;refine isTrue_and (Ad (ha pins s σ H _ I h) fun c s1 ⟨H1,I1,q1⟩=>?_)
 cases c with
 |true=>exact hb wh pins s1 σ H1 Q I1 q1
 |false=>exact⟨H1,I1,q1⟩
def Ie(ha:PT X a tA)(hb:PW X (.BoolOp .Or (b::rest) pos) tB'):PW X (.BoolOp .Or (a::b::rest) pos) (qQ tA tB'):=by
 intro wh pins s σ H Q I h;refine isTrue_or (Ad (ha pins s σ H _ I h) fun c s1 ⟨H1,I1,q1⟩=>?_)
 cases c with
 |true=>exact⟨H1,I1,q1⟩
 |false=>exact hb wh pins s1 σ H1 Q I1 q1
def JV(ha:PT X a tA):PT X (.UnaryOp .Not a pos) (p9 tA):=by intro pins s σ H Q I h;exact isTrue_not (ha pins s σ H (fun c H1=>Q (!c) H1) I h)
def oh(ta tb:TE):TE:=fun σ H Q=>ta σ H fun x H1=>∃c,x=.bl c/\if c=true then tb σ H1 Q else Q (.bl false) H1
def nL(ta:TE):TE:=fun σ H Q=>ta σ H fun x H1=>∃c,x=.bl c/\Q (.bl (!c)) H1
def Pt{op}{t:TE}(h:PE X a t):PE X (.BoolOp op [a] pos) t:=fun pins s σ H Q I hw=>BoolOp_one (h pins s σ H Q I hw)
def Pu(ha:PE X a ta)(hb:PE X (.BoolOp .And (b::rest) pos) tb):PE X (.BoolOp .And (a::b::rest) pos) (oh ta tb):=by
 intro pins s σ H Q I h;refine BoolOp_and (Ad (ha pins s σ H _ I h) fun v s1 ⟨x,H1,I1,r1,q1⟩=>?_);obtain⟨c,rfl,q1⟩:=q1;cases r1;refine MS ?_
 cases c with
 |true=>exact hb pins s1 σ H1 Q I1 q1
 |false=>exact⟨.bl false,H1,I1,rfl,q1⟩
def kb(ha:PE X a ta):PE X (.UnaryOp .Not a pos) (nL ta):=by intro pins s σ H Q I h;refine UnaryOp_ (Ad (ha pins s σ H _ I h) fun v s1 ⟨x,H1,I1,r1,q1⟩=>?_);obtain⟨c,rfl,q1⟩:=q1;cases r1;exact not_of (MS ⟨.bl (!c),H1,I1,rfl,q1⟩)
def qL(t:TT)(ta tb:TE):TE:=fun σ H Q=>t σ H fun c H1=>if c=true then ta σ H1 Q else tb σ H1 Q
end
variable{c:hX}
section
variable{a b:hX}{tb:TE}{tA tB':TT}{rest:List hX}
def hV(hc:PT X c tA)(ha:PE X a ta)(hb:PE X b tb):PE X (.IfExp c a b pos) (qL tA ta tb):=by
 intro pins s σ H Q I h;refine wpAny_IfExp (Ad (hc pins s σ H _ I h) fun d s1 ⟨H1,I1,q1⟩=>?_)
 cases d with
 |true=>exact ha pins s1 σ H1 Q I1 q1
 |false=>exact hb pins s1 σ H1 Q I1 q1
end
def AL(K:tW)(H:Hp)(a:OK)(xs:List V):Prop:=
 Rd H a (.lst xs)\/
  ∃(o:Obj)(AX:Array AD)(n:Nat),K.lookup a=some o/\o.cls=.type "list" /\o.dict=none/\o.data=.seq AX n/\AX.size<=sizeLine/\Vals xs AX.toList
def AS(K:tW)(H:Hp)(a:OK)(xs:List V):Prop:=
 Rd H a (.tup xs)\/
  ∃(o:Obj)(AX:Array AD)(n:Nat),K.lookup a=some o/\o.cls=.type "tuple" /\o.data=.seq AX n/\AX.size<=sizeLine/\Vals xs AX.toList
noncomputable def pR:AD->Option V
 |.none=>some .BB
 |.bool b=>some (.bl b)
 |.int i _=>some (.int i)
 |.str x _=>some (.str x)
 |.bytes b _=>some (.Fv b)
 |.float b _=>some (.Iz b)
 |.ref a=>some (.ref a)
 |.type n=>some (.ty n)
 |_=>none
def RelV.abs{x:V}(r:RelV x u):pR u=some x:=by
 cases x with
 |BB=>cases r;rfl
 |bl _=>cases r;rfl
 |int _=>obtain⟨t,rfl⟩:=r;rfl
 |str _=>obtain⟨t,rfl⟩:=r;rfl
 |Fv _=>obtain⟨t,rfl⟩:=r;rfl
 |Iz _=>obtain⟨t,rfl⟩:=r;rfl
 |ref _=>cases r;rfl
 |ty _=>cases r;rfl
def RelV.inj{x y:V}{u:AD}(r:RelV x u)(q:RelV y u):x=y:=Ag (r.abs.symm.trans q.abs)
def Vals.inj:∀{xs ys:List V}{us:List AD},Vals xs us->Vals ys us->xs=ys
 |_,_,_,.nil,.nil=>rfl
 |_,_,_,.cons r t,.cons r' t'=>by rw[r.inj r',Vals.inj t t']
variable{K:tW}{xs:List V}
def AL.of(h:H a=some (.lst xs)):AL K H a xs:=.inl (.inl h)
def AS.of(h:H a=some (.tup xs)):AS K H a xs:=.inl (.inl h)
def Inv.list(I:Inv X pins σ H s)(h:AL X.K H a xs):∃AX:List AD,Vals xs AX/\PlainL s.heap a AX.toArray/\xs.length<=sizeLine:=by
 rcases h with h|⟨o,AX,n,hk,hc,hd,hs,hz,r⟩
 ·obtain⟨z,AX,n,r,e⟩:=h.ok I.hok;exact⟨AX,r,⟨_,n,e,rfl,rfl,rfl⟩,z⟩
 ·refine⟨AX.toList,r,⟨o,n,I.BX a o hk,hc,hd,by simpa using hs⟩,?_⟩;have e:=r.length;simp only[Ey] at e
  lia
def Inv.tuple(I:Inv X pins σ H s)(h:AS X.K H a xs):∃AX:List AD,Vals xs AX/\sj s.heap a AX.toArray/\xs.length<=sizeLine:=by
 rcases h with h|⟨o,AX,n,hk,hc,hs,hz,r⟩
 ·obtain⟨z,AX,r,p⟩:=h.ok I.hok;exact⟨AX,r,p,z⟩
 ·refine⟨AX.toList,r,⟨o,I.BX a o hk,hc,n,by simpa using hs⟩,?_⟩;have e:=r.length;simp only[Ey] at e
  lia
variable{ys:List V}
def Inv.XF(I:Inv X pins σ H s)(h:AL X.K H a xs)(h':AL X.K H a ys):xs=ys:=by
 obtain⟨AX,r,⟨o,n,e,_,_,d⟩,_⟩:=I.list h;obtain⟨its',r',⟨o',n',e',_,_,d'⟩,_⟩:=I.list h';rw[e] at e';cases e';rw[d] at d';injection d' with d1 _;have:AX=its':=by simpa using BD Array.toList d1
 subst this;exact r.inj r'
def Inv.eL(I:Inv X pins σ H s)(h:AS X.K H a xs)(h':AS X.K H a ys):xs=ys:=by
 obtain⟨AX,r,⟨o,e,_,n,d⟩,_⟩:=I.tuple h;obtain⟨its',r',⟨o',e',_,n',d'⟩,_⟩:=I.tuple h';rw[e] at e';cases e';rw[d] at d';injection d' with d1 _;have:AX=its':=by simpa using BD Array.toList d1
 subst this;exact r.inj r'
abbrev Cx.Hz(X:Cx)(E:AD->Ya->Prop):Cx:={X with xe:=E}
abbrev Cx.Qb(X:Cx):Cx:=X.Hz fun _ _=>False
def Cx.Ok.Hz(ok:X.Ok)(E:AD->Ya->Prop):(X.Hz E).Ok:=
 ⟨ok.mod,ok.kind,ok.glob,ok.blt,ok.above,ok.inj,ok.has,ok.Ky,ok.hd,ok.frames,ok.MB,ok.Qt,ok.bs,ok.GV,ok.Ku,ok.Kt,ok.Ej,ok.IF⟩
def Cx.Ok.JW(ok:(X.Hz E).Ok):X.Ok:=
 ⟨ok.mod,ok.kind,ok.glob,ok.blt,ok.above,ok.inj,ok.has,ok.Ky,ok.hd,ok.frames,ok.MB,ok.Qt,ok.bs,ok.GV,ok.Ku,ok.Kt,ok.Ej,ok.IF⟩
def Inv.Hz(I:Inv X pins σ H s)(E:AD->Ya->Prop):Inv (X.Hz E) pins σ H s:=⟨I.ok.Hz E,I.os,I.bare,I.base,I.loc,I.cell,I.free,I.DH,I.pin,I.hok,I.len⟩
def Inv.JW(I:Inv (X.Hz E) pins σ H s):Inv X pins σ H s:=⟨I.ok.JW,I.os,I.bare,I.base,I.loc,I.cell,I.free,I.DH,I.pin,I.hok,I.len⟩
def SP.JW{D:Ends}{f:Flow}{s':Ya}(h:SP (X.Hz E) pins D f s'):SP X pins D f s':=by
 cases f with
 |next=>obtain⟨σ',H',I,q⟩:=h;exact⟨σ',H',I.JW,q⟩
 |brk=>obtain⟨σ',H',I,q⟩:=h;exact⟨σ',H',I.JW,q⟩
 |cont=>obtain⟨σ',H',I,q⟩:=h;exact⟨σ',H',I.JW,q⟩
 |ret u=>obtain⟨v,σ',H',I,r,q⟩:=h;exact⟨v,σ',H',I.JW,r,q⟩
def EW.Qb{st:List g0}{t:TS}(h:EW X.Qb st t):EW X st t:=fun pins s σ H D I hw=>C8 (h pins s σ H D (I.Hz _) hw) (fun _ _ q=>q.JW) fun _ _ z=>False.elim z
section
variable{st:g0}{rest:List g0}{t u:TS}
def Kd:TS:=fun D σ H=>D.nx σ H
def Jj(t u:TS):TS:=fun D σ H=>t {D with nx:=u D} σ H
def BE:EW X [] Kd:=fun _ _ σ H _ I h=>Ol ⟨σ,H,I,h⟩
def AR{X:Cx}{st:g0}{rest:List g0}{t:TS}{u:TS}(h1:PS X st t)(h2:EW X rest u):EW X (st::rest) (Jj t u):=by
 intro pins s σ H D I h;refine wpAny_execs_cons (Ad (h1 pins s σ H {D with nx:=u D} I h) fun f s1 q=>?_)
 cases f with
 |next=>obtain⟨σ',H',I',q⟩:=q;exact h2 pins s1 σ' H' D I' q
 |ret v=>exact q
 |brk=>exact q
 |cont=>exact q
def AU{X:Cx}{st:g0}{t:TS}(h1:PS X st t):EW X [st] t:=by
 intro pins s σ H D I h;refine wpAny_execs_cons (Ad (h1 pins s σ H D I h) fun f s1 q=>?_)
 cases f with
 |next=>exact Ol q
 |ret v=>exact q
 |brk=>exact q
 |cont=>exact q
def kL:TS:=fun D σ H=>D.bk σ H
def gU:PS X (.Break pos) kL:=fun _ _ σ H _ I h=>wpAny_Break ⟨σ,H,I,h⟩
def Inv.quiet(I:Inv X pins σ H s):interactive X.env=false:=by simp[interactive,I.ok.kind]
end
variable{te:TE}
section
variable{st:g0}{rest:List g0}{t u:TS}
def oO(te:TE):TS:=fun D σ H=>te σ H fun _ H1=>D.nx σ H1
def Bf(he:PE X e te)(hs:sL e none pos.line X.env=pure false:=by rfl):PS X (.Expr e pos) (oO te):=by intro pins s σ H D I h;exact wpAny_Expr_any (Ad (he pins s σ H _ I h) fun v s1 ⟨x,H1,I1,r1,q1⟩=>⟨σ,H1,I1,q1⟩) I.quiet hs
def Zu(te:TE):TS:=fun D σ H=>te σ H D.rt
def As{X:Cx}{e:hX}{te:TE}{pos:Pos}(he:PE X e te):PS X (.Return (some e) pos) (Zu te):=by intro pins s σ H D I h;exact wpAny_Return_some (Ad (he pins s σ H _ I h) fun v s1 ⟨x,H1,I1,r1,q1⟩=>⟨x,σ,H1,I1,r1,q1⟩)
def HF(c:TT)(t u:TS):TS:=fun D σ H=>c σ H fun b H1=>if b=true then t D σ H1 else u D σ H1
def A0{a b:List g0}{tc:TT}(hc:PT X c tc)(ha:EW X a t)(hb:EW X b u):PS X (.If c a b pos) (HF tc t u):=by
 intro pins s σ H D I h;refine wpAny_If (Ad (hc pins s σ H _ I h) fun d s1 ⟨H1,I1,q1⟩=>?_)
 cases d with
 |true=>exact ha pins s1 σ H1 D I1 q1
 |false=>exact hb pins s1 σ H1 D I1 q1
end
abbrev TG:=V->St->Hp->(St->Hp->Prop)->Prop
abbrev K0:=List V->St->Hp->(St->Hp->Prop)->Prop
def PG(X:Cx)(target:hX)(t:TG):Prop:=
 ∀(pins:List (OK×Obj))(s:Ya)(σ:St)(H:Hp)(v:V)(u:AD)(Q:St->Hp->Prop),Inv X pins σ H s->RelV v u->t v σ H Q->
  bt (ax X.prog X.w) X.A (tO target X.env u) (fun _ s'=>∃σ' H',Inv X pins σ' H' s'/\Q σ' H') X.xe s
def Qj(X:Cx)(ts:List hX)(t:K0):Prop:=
 ∀(pins:List (OK×Obj))(s:Ya)(σ:St)(H:Hp)(vs:List V)(us:List AD)(Q:St->Hp->Prop),Inv X pins σ H s->Vals vs us->t vs σ H Q->
  bt (ax X.prog X.w) X.A (assignInOrder ((sD ts X.env).map (·.2)) us) (fun _ s'=>∃σ' H',Inv X pins σ' H' s'/\Q σ' H') X.xe s
abbrev T5:=V->V->V->Hp->(Hp->Prop)->Prop
def Z4(X:Cx)(t:T5):Prop:=
 ∀(pins:List (OK×Obj))(s:Ya)(σ:St)(H:Hp)(o i v:V)(ov iv u:AD)(Q:Hp->Prop),Inv X pins σ H s->RelV o ov->RelV i iv->RelV v u->t o i v H Q->
  bt (ax X.prog X.w) X.A (setItem ov iv u) (fun _ s'=>∃H',Inv X pins σ H' s'/\Q H') X.xe s
def DT(i:Nat):TG:=fun v σ H Q=>Q (σ.set i (some v)) H
def Bg(hN:X.N.Nodup)(hi:X.N[i]? =some x)(hx:Loc X.env.scope x)(hf:X.fn x=true\/X.env.scope.names.lookup x=some .local:=by exact .inl rfl):PG X (.Name x pos) (DT i):=by intro pins s σ H v u Q I r h;exact wpAny_assign_Name (SW I hN hi hx r (fun s' I'=>⟨_,H,I',h⟩) hf)
noncomputable def T6:K0:=fun vs σ H Q=>vs=[]/\Q σ H
noncomputable def Lo(t:TG)(u:K0):K0:=fun vs σ H Q=>∃v r,vs=v::r/\t v σ H fun σ' H'=>u r σ' H' Q
def NQ:Qj X [] T6:=by intro pins s σ H vs us Q I r h;obtain⟨e,h⟩:=h;subst e;cases r;exact assignInOrder_nil ⟨σ,H,I,h⟩
def Gq{es:List hX}{t:TG}{u:K0}(h1:PG X e t)(h2:Qj X es u)
 (hs:(sD (e::es) X.env).map (·.2)=tO e X.env::(sD es X.env).map (·.2):=by rfl):Qj X (e::es) (Lo t u):=by
 intro pins s σ H vs us Q I r h;obtain⟨v,vr,e1,h⟩:=h;subst e1
 cases r with
 |cons r rr=>rw[hs];refine assignInOrder_cons (Ad (h1 pins s σ H _ _ _ I r h) fun _ s1 ⟨σ1,H1,I1,q1⟩=>?_);exact h2 pins s1 σ1 H1 _ _ Q I1 rr q1
def Tw(K:tW)(n:Nat)(t:K0):TG:=fun v σ H Q=>∃a xs,v=.ref a/\AS K H a xs/\xs.length=n/\t xs σ H Q
variable{k:Nat}
def Na{es:List hX}{t:K0}(hc:X.calm=true)(h:Qj X es t)
 (hn:(sD es X.env).length=n:=by rfl)(hst:(sD es X.env).findIdx? (·.1)=none:=by rfl):PG X (.Tuple es k pos) (Tw X.K n t):=by
 intro pins s σ H v u Q I r hw;obtain⟨a,xs,e1,hq,hl,hw⟩:=hw;subst e1;cases r;obtain⟨AX,rv,ht,hz⟩:=I.tuple hq;refine assign_Tuple_tuple (I.ok.hd hc) ht (by simp[hn,<-hl,rv.length]) hst fun h' hx=>?_;have I1:Inv X pins σ H {s with heap:=h'}:=I.kept (t':=s.toks) fun b o e=>hx b o (BO (A2 e)) e;exact h pins _ σ H xs _ Q I1 (by simpa using rv) hw
def o7(to ti:TE)(t:T5):TG:=fun v σ H Q=>to σ H fun o H1=>ti σ H1 fun i H2=>t o i v H2 fun H3=>Q σ H3
def TN{o i:hX}{to ti:TE}{t:T5}(ho:PE X o to)(hi:PE X i ti)(hs:Z4 X t)
 (ha:∀v,tO (.Subscript o i pos) X.env v=(do
  let ov<-sO [v] (qh o X.env);let iv<-sO [v,ov] (qh i X.env)
  standAt pos
  sO [v,ov,iv] (setItem ov iv v)
  release [v,ov,iv] []):=by intro _;rfl):PG X (.Subscript o i pos) (o7 to ti t):=by
 intro pins s σ H v u Q I r h;rw[ha];refine AK (Fb (Ad (ho pins s σ H _ I h) fun ov s1 ⟨x,H1,I1,r1,q1⟩=>?_));refine AK (Fb (Ad (hi pins s1 σ H1 _ I1 q1) fun iv s2 ⟨y,H2,I2,r2,q2⟩=>?_));refine AK (Ov (AK (Fb (Ad (hs pins s2 σ H2 x y v ov iv u _ I2 r1 r2 r q2) fun _ s3 ⟨H3,I3,q3⟩=>?_))));exact wpAny_release ⟨σ,H3,I3,q3⟩
def QS(te:TE)(g:TG):TS:=fun D σ H=>te σ H fun x H1=>g x σ H1 D.nx
variable{tg:hX}{g:TG}
def TJ(he:PE X e te)(hg:PG X tg g)(hs:swapsWithSole [tg] e pos.line X.env=pure false:=by rfl)(hw:swappedStores [tg] e X.env=pure none:=by rfl)
 (h1:(sD [tg] X.env).map (·.2)=[tO tg X.env]:=by rfl):PS X (.Assign [tg] e pos) (QS te g):=by
 intro pins s σ H D I h;refine wpAny_Assign_stores (Ad (he pins s σ H _ I h) fun v s1 ⟨x,H1,I1,r1,q1⟩=>?_) hs hw;rw[h1];exact Ad (hg pins s1 σ H1 x v _ I1 r1 q1) fun _ s2 q=>q
def Av{pos':Pos}(hN:X.N.Nodup)(hi:X.N[i]? =some x)(hx:Loc X.env.scope x)(he:PE X e te)(hs:sL e (some (.Name x pos')) pos.line X.env=pure false:=by rfl)(hf:X.fn x=true\/X.env.scope.names.lookup x=some .local:=by exact .inl rfl):
 PS X (.Assign [.Name x pos'] e pos) (QS te (DT i)):=by
 intro pins s σ H D I h;refine wpAny_Assign_Name (Ad (he pins s σ H _ I h) fun v s1 ⟨y,H1,I1,r1,q1⟩=>?_) hs;exact SW I1 hN hi hx r1 (fun s2 I2=>⟨_,H1,I2,q1⟩) hf
def lF(c:TT)(tb:TS):TS:=fun D σ H=>∃W:Nat->St->Hp->Prop,(∃m,W m σ H)/\∀m σ H,W m σ H->
 c σ H fun b H1=>if b=true then∃N:St->Hp->Prop,(∀σ' H',N σ' H'->∃m',m'<m/\W m' σ' H')/\tb {D with nx:=N,ct:=N,bk:=D.nx} σ H1 else D.nx σ H1
variable{body:List g0}{tb:TS}
def iZ{tc:TT}(hp:PassesOwn (ax X.prog X.w) X.A X.env X.xe)(hc:PT X c tc)(hb:EW X body tb):PS X (.While c body [] pos) (lF tc tb):=by
 intro pins s σ H D I h;obtain⟨W,⟨m0,w0⟩,turn⟩:=h;refine wpAny_While (codeAny_whileLoop (fun n s'=>∃σ' H',Inv X pins σ' H' s'/\W n σ' H') ?_ m0 ⟨σ,H,I,w0⟩);rintro n s1 ⟨σ1,H1,I1,w1⟩;refine K8 hp (Ad (hc pins s1 σ1 H1 _ I1 (turn n σ1 H1 w1)) fun b s2 ⟨H2,I2,q2⟩=>?_)
 cases b with
 |true=>
  obtain⟨N,hN,q2⟩:=q2;rw[AG rfl];refine K8 hp (Ad (hb pins s2 σ1 H2 _ I2 q2) fun f s3 q3=>?_)
  cases f with
  |next=>obtain⟨σ3,H3,I3,n3⟩:=q3;obtain⟨m',hm,w3⟩:=hN σ3 H3 n3;exact⟨m',hm,σ3,H3,I3,w3⟩
  |cont=>obtain⟨σ3,H3,I3,n3⟩:=q3;obtain⟨m',hm,w3⟩:=hN σ3 H3 n3;exact⟨m',hm,σ3,H3,I3,w3⟩
  |brk=>exact q3
  |ret v=>exact q3
 |false=>rw[AF CZ];exact Ol ⟨σ1,H2,I2,q2⟩
structure It where
 go:Nat->Hp->Prop
 Iw:Nat->Hp->V->Hp->Prop
 stop:Nat->Hp->Prop
def Fp(X:Cx)(pins:List (OK×Obj))(H:Hp)(b:OK):Prop:=
 H b=none/\b≠X.env.locals/\b∉X.fs/\(b∈X.ex\/X.s₀.heap.objs.size<=b)/\(∀x c,X.env.cells.lookup x=some c->c≠b)/\∀p∈X.pn++pins,p.1≠b
def Inv.Jg(I:Inv X pins σ H s)(hb:s.heap.objs.size<=b)(hn:H' b=none):Fp X pins H' b:=by
 refine⟨hn,Fc (C5 I.lt hb),I.pH hb,.inr (BJ I.sz hb),fun x c e z=>?_,fun p hp z=>?_⟩
 ·obtain⟨v,q⟩:=I.cell x c e;exact absurd (C5 q.lt (by rw[z];exact hb)) (Ml _)
 ·exact absurd (C5 (A2 (I.pin p hp).1) (by rw[z];exact hb)) (Ml _)
structure Turn(P:qf)(w:qj)(K:tW)(tg:hX)(J:It)(fp:List OK)(it:OK)(tn:Nat->qi->Prop):Prop where
 mem:it∈fp
 obj:∀i h,tn i h->∀b∈fp,∃o,h.get? b=some o/\∀v,o.data≠.cell v
 keep:∀i h h',tn i h->(∀b∈fp,∀o,h.get? b=some o->h'.get? b=some o)->tn i h'
 item:∀(X:Cx),X.prog=P->X.w=w->X.K=K->X.calm=true->∀(i:Nat)(pins:List (OK×Obj))(s:Ya)(σ:St)(H:Hp)(E:AD->Ya->Prop),Inv X pins σ H s->(∀b∈fp,Fp X pins H b)->tn i s.heap->J.go i H->
  bt (ax P w) X.A (rJ (.ref it)) (fun r s1=>∃u,r=some u/\
   bt (ax P w) X.A (rP tg (.ref it) u) (fun _ s2=>∃x H',Inv X pins σ H' s2/\RelV x u/\J.Iw i H x H'/\tn (i+1) s2.heap/\∀b∈fp,H' b=none) E s1) E s
 done:∀(X:Cx),X.prog=P->X.w=w->X.K=K->X.calm=true->∀(i:Nat)(pins:List (OK×Obj))(s:Ya)(σ:St)(H:Hp)(E:AD->Ya->Prop),Inv X pins σ H s->(∀b∈fp,Fp X pins H b)->tn i s.heap->J.stop i H->
  bt (ax P w) X.A (rJ (.ref it)) (fun r s1=>r=none/\Inv X pins σ H s1) E s
 self:∀(A:rL)(i:Nat)(s:Ya)(Q:AD->Ya->Prop)(E:AD->Ya->Prop),tn i s.heap->Q (.ref it) s->bt (ax P w) A (pyIter (.ref it)) Q E s
abbrev TI:=St->Hp->(It->Hp->Prop)->Prop
def ay(X:Cx)(pins:List (OK×Obj))(σ:St)(tg:hX)(R:It->Hp->Prop)(itv:AD)(s2:Ya):Prop:=
 ∃(it:OK)(fp:List OK)(tn:Nat->qi->Prop)(J:It)(H':Hp),itv=.ref it/\Inv X pins σ H' s2/\Turn X.prog X.w X.K tg J fp it tn/\tn 0 s2.heap/\(∀b∈fp,Fp X pins H' b)/\R J H'
def PI(X:Cx)(tg iter:hX)(wi:TI):Prop:=
 ∀(pins:List (OK×Obj))(s:Ya)(σ:St)(H:Hp)(R:It->Hp->Prop),Inv X pins σ H s->wi σ H R->
  bt (ax X.prog X.w) X.A (qh iter X.env) (fun v s1=>bt (ax X.prog X.w) X.A (pyIter v) (ay X pins σ tg R) X.xe s1) X.xe s
variable{vs:Array AD}
def Np{it:OK}{n:String}{Q:Unit->Ya->Prop}(ho:s.heap.get? it=some o)(hc:o.cls=.type n)(hd:o.data=.fields vs)
 (hn:["enumerate","zip","dict_itemiterator","dict_reverseitemiterator","odict_iterator","itertools.zip_longest","itertools.pairwise"].contains n=false)(hQ:Q () s):bt M A (rP tg (.ref it) u) Q E s:=by
 unfold rP;cases tg<;>first
  |exact Ac hQ
  |(cases u<;>first
   |exact Ac hQ
   |(refine AK (wpAny_load ho ?_)
     rw[hc,hd];show bt M A (if(["enumerate","zip","dict_itemiterator","dict_reverseitemiterator","odict_iterator","itertools.zip_longest","itertools.pairwise"].contains n&&vs[0]? ==some (rH _))=true then _ else _) Q E s;rw[AF (by intro h;rw[hn,Mf] at h;cases h)];exact Ac hQ))
def HN(K:tW)(a:OK):It:=
 ⟨fun i H=>∃xs x,AL K H a xs/\xs[i]? =some x,fun i H x H'=>H'=H/\∀xs,AL K H a xs->xs[i]? =some x,fun i H=>∃xs,AL K H a xs/\xs.length<=i⟩
def OB(K:tW)(a:OK):It:=
 ⟨fun i H=>∃xs x,AS K H a xs/\xs[i]? =some x,fun i H x H'=>H'=H/\∀xs,AS K H a xs->xs[i]? =some x,fun i H=>∃xs,AS K H a xs/\xs.length<=i⟩
def Kx(lo:Int)(n:Nat):It:=⟨fun i _=>i<n,fun i H x H'=>H'=H/\x=.int (lo+i),fun i _=>n<=i⟩
def dY(a it:OK):Turn P w K tg (HN K a) [it] it (fun i h=>h.IsListIter it a i) where
 mem:=by simp
 obj:=fun i h st b hb=>by
  have e:b=it:=by simpa using hb
  subst e;obtain⟨o,e,c,d⟩:=st;exact⟨o,e,fun v z=>by rw[d] at z;cases z⟩
 keep:=fun i h h' st k=>st.at fun o e=>k it (by simp) o e
 item:=by intro X hP hw hK hc i pins s σ H E I hf st hg;subst hP hw hK;obtain⟨xs,x,hq,hx⟩:=hg;obtain⟨AX,rv,p,hz⟩:=I.list hq;obtain⟨u,hu,ru⟩:=rv.get hx;obtain⟨f0,f1,f2,f3,f4,f5⟩:=hf it (by simp);refine wpAny_pyNext_list_item st p.isList (x:=u) (by simpa using hu) fun h' st' sb=>?_;have I1:Inv X pins σ H {s with heap:=h'}:=I.turned (t':=s.toks) (fun b o hb e=>(sb.2 b hb).trans e) f0 f1 f3 f4 f5;obtain⟨o,e,c,d⟩:=id st';exact⟨u,rfl,Np (s:={s with heap:=h'}) e c d (by decide) ⟨x,H,I1,ru,⟨rfl,fun ys hy=>by rw[I.XF hy hq];exact hx⟩,st',fun b hb=>(hf b hb).1⟩⟩
 done:=by intro X hP hw hK hc i pins s σ H E I hf st hg;subst hP hw hK;obtain⟨xs,hq,hx⟩:=hg;obtain⟨AX,rv,p,hz⟩:=I.list hq;obtain⟨f0,f1,f2,f3,f4,f5⟩:=hf it (by simp);have hl:=rv.length;exact wpAny_pyNext_list_end (I.ok.hd hc) st p.isList (by simp;lia) fun h' eb=>⟨rfl,I.turned (t':=s.toks) (fun b o hb e=>eb b o hb e) f0 f1 f3 f4 f5⟩
 self:=fun _ _ _ _ _ st h=>wpAny_pyIter_listiter st h
def dQ(a it:OK):Turn P w K tg (OB K a) [it] it (fun i h=>h.IsTupleIter it a i) where
 mem:=by simp
 obj:=fun i h st b hb=>by
  have e:b=it:=by simpa using hb
  subst e;obtain⟨o,e,c,d⟩:=st;exact⟨o,e,fun v z=>by rw[d] at z;cases z⟩
 keep:=fun i h h' st k=>st.at fun o e=>k it (by simp) o e
 item:=by intro X hP hw hK hc i pins s σ H E I hf st hg;subst hP hw hK;obtain⟨xs,x,hq,hx⟩:=hg;obtain⟨AX,rv,p,hz⟩:=I.tuple hq;obtain⟨u,hu,ru⟩:=rv.get hx;obtain⟨f0,f1,f2,f3,f4,f5⟩:=hf it (by simp);refine wpAny_pyNext_tuple_item st (show s.heap.IsTuple a AX.toArray from p) (x:=u) (by simpa using hu) fun h' st' sb=>?_;have I1:Inv X pins σ H {s with heap:=h'}:=I.turned (t':=s.toks) (fun b o hb e=>(sb.2 b hb).trans e) f0 f1 f3 f4 f5;obtain⟨o,e,c,d⟩:=id st';exact⟨u,rfl,Np (s:={s with heap:=h'}) e c d (by decide) ⟨x,H,I1,ru,⟨rfl,fun ys hy=>by rw[I.eL hy hq];exact hx⟩,st',fun b hb=>(hf b hb).1⟩⟩
 done:=by intro X hP hw hK hc i pins s σ H E I hf st hg;subst hP hw hK;obtain⟨xs,hq,hx⟩:=hg;obtain⟨AX,rv,p,hz⟩:=I.tuple hq;obtain⟨f0,f1,f2,f3,f4,f5⟩:=hf it (by simp);have hl:=rv.length;exact wpAny_pyNext_tuple_end (I.ok.hd hc) st (show s.heap.IsTuple a AX.toArray from p) (by simp;lia) fun h' eb=>⟨rfl,I.turned (t':=s.toks) (fun b o hb e=>eb b o hb e) f0 f1 f3 f4 f5⟩
 self:=fun _ _ _ _ _ st h=>wpAny_pyIter_tupleiter st h
def ck(it:OK)(lo:Int)(n:Nat):Turn P w K tg (Kx lo n) [it] it (fun i h=>IsRangeIter h it (lo+(i:Nat)*1) ((n:Int)-(i:Nat)) 1) where
 mem:=by simp
 obj:=fun i h st b hb=>by
  have e:b=it:=by simpa using hb
  subst e;exact⟨_,st,fun v z=>by have z':Data.fields _=Data.cell v:=z;cases z'⟩
 keep:=fun i h h' st k=>k it (by simp) _ st
 item:=by intro X hP hw hK hc i pins s σ H E I hf st hg;subst hP hw hK;obtain⟨f0,f1,f2,f3,f4,f5⟩:=hf it (by simp);have W:=Walks.range (prog:=X.prog) (w:=X.w) (I.ok.hd hc) it lo 1 n;refine W.item i s _ _ hg st fun v h' tk hv st' kk=>?_;obtain⟨t,rfl⟩:=hv;have I1:Inv X pins σ H {s with heap:=h',toks:=tk}:=I.turned (fun b o hb e=>kk b o (by simpa using hb) e) f0 f1 f3 f4 f5;refine⟨_,rfl,Np (s:={s with heap:=h',toks:=tk}) (n:="range_iterator") st' rfl rfl (by decide) ⟨.int (lo+i),H,I1,⟨t,?_⟩,⟨rfl,rfl⟩,st',fun b hb=>(hf b hb).1⟩⟩;rw[Int.mul_one]
 done:=by intro X hP hw hK hc i pins s σ H E I hf st hg;subst hP hw hK;obtain⟨f0,f1,f2,f3,f4,f5⟩:=hf it (by simp);exact wpAny_pyNext_range_end (I.ok.hd hc) st (by have:n<=i:=hg;lia) fun h' eb=>⟨rfl,I.turned (t':=s.toks) (fun b o hb e=>eb b o hb e) f0 f1 f3 f4 f5⟩
 self:=fun _ _ _ _ _ st h=>wpAny_pyIter_rangeiter st h
def Kc(K:tW)(tl:TE):TI:=fun σ H R=>tl σ H fun x H1=>∃a,x=.ref a/\(∃xs,AL K H1 a xs)/\R (HN K a) H1
def o6(K:tW)(tl:TE):TI:=fun σ H R=>tl σ H fun x H1=>∃a,x=.ref a/\(∃xs,AS K H1 a xs)/\R (OB K a) H1
variable{tl:TE}
def Gv{l:hX}(hl:PE X l tl):PI X tg l (Kc X.K tl):=by
 intro pins s σ H R I h;refine Ad (hl pins s σ H _ I h) fun v s1 ⟨x,H1,I1,r1,q1⟩=>?_;obtain⟨a,e,⟨xs,hq⟩,q⟩:=q1;subst e;cases r1;obtain⟨AX,rv,p,hz⟩:=I1.list hq;refine wpAny_pyIter_list p.isList ?_;refine⟨s1.heap.objs.size,[s1.heap.objs.size],_,_,H1,rfl,I1.kept (t':=s1.toks) fun b o e=>BC _ e,dY a _,⟨_,CB _ rfl,rfl,rfl⟩,fun b hb=>?_,q⟩;have e:b=s1.heap.objs.size:=by simpa using hb
 subst e;exact I1.Jg (Ae _) (I1.hok.fresh (Ae _))
def kg{l:hX}(hl:PE X l tl):PI X tg l (o6 X.K tl):=by
 intro pins s σ H R I h;refine Ad (hl pins s σ H _ I h) fun v s1 ⟨x,H1,I1,r1,q1⟩=>?_;obtain⟨a,e,⟨xs,hq⟩,q⟩:=q1;subst e;cases r1;obtain⟨AX,rv,p,hz⟩:=I1.tuple hq;refine wpAny_pyIter_tuple (show s1.heap.IsTuple a AX.toArray from p) ?_;refine⟨s1.heap.objs.size,[s1.heap.objs.size],_,_,H1,rfl,I1.kept (t':=s1.toks) fun b o e=>BC _ e,dQ a _,⟨_,CB _ rfl,rfl,rfl⟩,fun b hb=>?_,q⟩;have e:b=s1.heap.objs.size:=by simpa using hb
 subst e;exact I1.Jg (Ae _) (I1.hok.fresh (Ae _))
def Wo{R:It->Hp->Prop}{lo hi:Int}{t u v:Tok}{tk:Nat}(I:Inv X pins σ H s)(h1: -(2^62)<=lo)(h2:lo<2^62)(h3: -(2^62)<=hi)(h4:hi<2^62)
 (q:R (Kx lo (hi-lo).toNat) H):bt (ax X.prog X.w) X.A (pyIter (.ref s.heap.objs.size)) (ay X pins σ tg R) E {s with heap:=s.heap.push {cls:=.type "range",data:=.fields #[.int lo t,.int hi u,.int 1 v]},toks:=tk}:=by
 refine wpAny_pyIter_range (IsRange.new ..) (small_one h1 h2 h3 h4) ?_;have I1:Inv X pins σ H {s with heap:=s.heap.push {cls:=.type "range",data:=.fields #[.int lo t,.int hi u,.int 1 v]},toks:=tk}:=I.kept fun b o e=>BC _ e;refine⟨(s.heap.push {cls:=.type "range",data:=.fields #[.int lo t,.int hi u,.int 1 v]}).objs.size,[(s.heap.push {cls:=.type "range",data:=.fields #[.int lo t,.int hi u,.int 1 v]}).objs.size],_,_,H,rfl,
  I1.kept (t':=tk) fun b o e=>BC _ e,ck _ lo (hi-lo).toNat,?_,fun b hb=>?_,q⟩
 ·have e1:lo+((0:Nat):Int)*1=lo:=by simp
  have e2:(((hi-lo).toNat:Nat):Int)-((0:Nat):Int)=Builtin.Range.rangeSize lo hi 1:=by rw[rangeSize_one];split<;>lia
  show IsRangeIter _ _ (lo+((0:Nat):Int)*1) ((((hi-lo).toNat:Nat):Int)-((0:Nat):Int)) 1;rw[e1,e2];exact CB _ rfl
 ·have e:b=(s.heap.push {cls:=.type "range",data:=.fields #[.int lo t,.int hi u,.int 1 v]}).objs.size:=by simpa using hb
  subst e;exact I1.Jg (Ae _) (I1.hok.fresh (Ae _))
def oE(ta:TA):TI:=fun σ H R=>ta σ H fun vs H1=>∃j:Int,vs=[.int j]/\ -(2^62)<=j/\j<2^62/\R (Kx 0 j.toNat) H1
def oK(ta:TA):TI:=fun σ H R=>ta σ H fun vs H1=>∃i j:Int,vs=[.int i,.int j]/\(-(2^62)<=i/\i<2^62/\ -(2^62)<=j/\j<2^62)/\R (Kx i (j-i).toNat) H1
variable{p:Pos}
def M5{a:hX}{ta:TA}(hg:Gl X "range")(hm:X.mg "range" =none)(ha:PA X [a] ta)(hs:dq [a] X.env=[(false,qh a X.env)]:=by rfl):PI X tg (.Call (.Name "range" p) [a] [] pos) (oE ta):=by
 intro pins s σ H R I h;refine Call_ (Lb I hg hm boot_range (Qy (Ad (ha pos pins s σ H _ I h) fun us s1 ⟨vs,H1,I1,r1,q1⟩=>?_) hs rfl));obtain⟨j,e,q1,q2,q⟩:=q1;subst e
 cases r1 with
 |cons r rr=>cases rr;obtain⟨t,rfl⟩:=r;exact call_range_1 (Wo I1 (by lia) (by lia) q1 q2 (by simpa using q))
def dr{a b:hX}{ta:TA}(hg:Gl X "range")(hm:X.mg "range" =none)(ha:PA X [a,b] ta)(hs:dq [a,b] X.env=[(false,qh a X.env),(false,qh b X.env)]:=by rfl)(hs2:dq [b] X.env=[(false,qh b X.env)]:=by rfl):
 PI X tg (.Call (.Name "range" p) [a,b] [] pos) (oK ta):=by
 intro pins s σ H R I h;refine Call_ (Lb I hg hm boot_range (Qy (Ad (ha pos pins s σ H _ I h) fun us s1 ⟨vs,H1,I1,r1,q1⟩=>?_) (by rw[hs,hs2]) (by rw[hs2];rfl)));obtain⟨i,j,e,⟨q1,q2,q3,q4⟩,q⟩:=q1;subst e
 cases r1 with
 |cons r rr=>
  cases rr with
  |cons r' rr=>cases rr;obtain⟨t,rfl⟩:=r;obtain⟨t',rfl⟩:=r';exact call_range_2 (Wo I1 q1 q2 q3 q4 q)
def N7(wi:TI)(g:TG)(tb:TS):TS:=fun D σ H=>wi σ H fun J H1=>∃W:Nat->Nat->St->Hp->Prop,(∃m,W 0 m σ H1)/\∀i m σ H,W i m σ H->
 (J.stop i H/\D.nx σ H)\/(J.go i H/\∃N:St->Hp->Prop,(∀σ' H',N σ' H'->∃m',m'<m/\W (i+1) m' σ' H')/\∀x H',J.Iw i H x H'->g x σ H' fun σ2 H2=>tb {D with nx:=N,ct:=N,bk:=D.nx} σ2 H2)
noncomputable def Nd(fp:List OK)(h:qi):List (OK×Obj):=fp.filterMap fun b=>(h.get? b).map fun o=>(b,o)
variable{fp:List OK}
def O5(hb:b∈fp)(e:h.get? b=some o):(b,o)∈Nd fp h:=Oe.mpr ⟨b,hb,by rw[e];rfl⟩
def dw{p:OK×Obj}(hp:p∈Nd fp h):p.1∈fp/\h.get? p.1=some p.2:=by
 obtain⟨b,hb,e⟩:=Oe.mp hp
 cases q:h.get? b with
 |none=>rw[q] at e;cases e
 |some o=>rw[q] at e;have e':(b,o)=p:=Ag e;subst e';exact⟨hb,q⟩
def Inv.pinned(I:Inv X pins σ H s)(hf:∀b∈fp,Fp X pins H b)(ho:∀b∈fp,∃o,s.heap.get? b=some o/\∀v,o.data≠.cell v):Inv X (pins++Nd fp s.heap) σ H s:=
 I.YK fun p hp=>(BS.mp hp).elim (fun z=>I.pin p (EA _ z)) fun z=>by obtain⟨hb,e⟩:=dw z;obtain⟨f0,f1,f2,_⟩:=hf p.1 hb;obtain⟨o,e',d⟩:=ho p.1 hb;rw[e] at e';cases e';exact⟨e,f0,f1,f2,d⟩
def Inv.PN{pl:List (OK×Obj)}(I:Inv X (pins++pl) σ H s):Inv X pins σ H s:=I.YK fun p hp=>I.pin p (EA _ (IM _ hp))
def DZ{iter:hX}{wi:TI}(hp:PassesOwn (ax X.prog X.w) X.A X.env X.xe)(hc:X.calm=true)(hi:PI X tg iter wi)(hg:PG X tg g)(hb:EW X body tb)
 (hs:∀x,foldedSetIterable iter X.env x=pure x:=by intro _;rfl):PS X (.For tg iter body [] pos) (N7 wi g tb):=by
 intro pins s σ H D I h;refine wpAny_For (Ad (hi pins s σ H _ I h) fun v s1 h1=>Ad h1 fun itv s2 h2=>?_) hs;obtain⟨it,fp,tn,J,H2,e,I2,T,st2,f2,W,⟨m0,w0⟩,turn⟩:=h2;subst e;have stat:∀{H':Hp},(∀b∈fp,H' b=none)->∀b∈fp,Fp X pins H' b:=fun hn b hb=>⟨hn b hb,(f2 b hb).2⟩;refine codeAny_forLoop_any (fun n s'=>∃i σ' H',Inv X pins σ' H' s'/\tn i s'.heap/\(∀b∈fp,H' b=none)/\W i n σ' H') ?_ m0 ⟨0,σ,H2,I2,st2,fun b hb=>(f2 b hb).1,w0⟩;rintro n s3 ⟨i,σ3,H3,I3,st3,fr3,w3⟩;rcases turn i n σ3 H3 w3 with⟨stop,qn⟩|⟨go,N,hN,step⟩
 ·refine K8 hp (Ad (T.done X rfl rfl rfl hc i pins s3 σ3 H3 X.xe I3 (stat fr3) st3 stop) fun r s4 ⟨hr,I4⟩=>?_);subst hr;exact Ol ⟨σ3,H3,I4,qn⟩
 ·refine K8 hp (Ad (T.item X rfl rfl rfl hc i pins s3 σ3 H3 X.xe I3 (stat fr3) st3 go) fun r s4 ⟨u,hr,h4⟩=>?_);subst hr;refine K8 hp (Ad h4 fun _ s5 ⟨x,H5,I5,r5,y5,st5,fr5⟩=>?_);have I5':=I5.pinned (stat fr5) (T.obj _ _ st5);refine K8 hp (Ad (hg _ s5 σ3 H5 x u _ I5' r5 (step x H5 y5)) fun _ s6 ⟨σ6,H6,I6,q6⟩=>?_);refine K8 hp (Ad (hb _ s6 σ6 H6 _ I6 q6) fun f s7 q7=>?_);have again:∀{σ7:St}{H7:Hp},Inv X (pins++Nd fp s5.heap) σ7 H7 s7->N σ7 H7->∃m,m<n/\∃i σ' H',Inv X pins σ' H' s7/\tn i s7.heap/\(∀b∈fp,H' b=none)/\W i m σ' H':=fun{σ7 H7} I7 n7=>by obtain⟨m',hm,w7⟩:=hN σ7 H7 n7;refine⟨m',hm,i+1,σ7,H7,I7.PN,T.keep _ _ _ st5 fun b hb o e=>(I7.pin (b,o) (EA _ (EA _ (O5 hb e)))).1,fun b hb=>?_,w7⟩;obtain⟨o,e,d⟩:=T.obj _ _ st5 b hb;exact(I7.pin (b,o) (EA _ (EA _ (O5 hb e)))).2.1
  cases f with
  |next=>obtain⟨σ7,H7,I7,n7⟩:=q7;exact again I7 n7
  |cont=>obtain⟨σ7,H7,I7,n7⟩:=q7;exact again I7 n7
  |brk=>obtain⟨σ7,H7,I7,q7⟩:=q7;exact⟨σ7,H7,I7.PN,q7⟩
  |ret v=>obtain⟨x7,σ7,H7,I7,r7,q7⟩:=q7;exact⟨x7,σ7,H7,I7.PN,r7,q7⟩
def KJ{D:Ends}(Pv:Nat->St->Hp->Prop)(h0:Pv 0 σ H)(hl:∀i σ H,i<=xs.length->Pv i σ H->AL K H a xs)
 (hs:∀i x σ H,xs[i]? =some x->Pv i σ H->g x σ H fun σ2 H2=>tb {D with nx:=Pv (i+1),ct:=Pv (i+1),bk:=D.nx} σ2 H2)(hd:∀σ H,Pv xs.length σ H->D.nx σ H):
 ∃W:Nat->Nat->St->Hp->Prop,(∃m,W 0 m σ H)/\∀i m σ H,W i m σ H->
  ((HN K a).stop i H/\D.nx σ H)\/((HN K a).go i H/\∃N:St->Hp->Prop,(∀σ' H',N σ' H'->∃m',m'<m/\W (i+1) m' σ' H')/\∀x H',(HN K a).Iw i H x H'->g x σ H' fun σ2 H2=>tb {D with nx:=N,ct:=N,bk:=D.nx} σ2 H2):=by
 refine⟨fun i m σ H=>m=xs.length-i/\i<=xs.length/\Pv i σ H,⟨xs.length,by simp,CC _,h0⟩,?_⟩;rintro i m σ H ⟨rfl,hi,p⟩;have q:=hl i σ H hi p;by_cases hlt:i<xs.length
 ·refine .inr ⟨⟨xs,xs[i],q,by simp[hlt]⟩,Pv (i+1),fun σ' H' p'=>⟨xs.length-(i+1),by lia,rfl,hlt,p'⟩,fun x H' y=>?_⟩;obtain⟨e,y⟩:=y;subst e;exact hs i x σ _ (y xs q) p
 ·have e:i=xs.length:=by lia
  subst e;exact .inl ⟨⟨xs,q,Ae _⟩,hd σ H p⟩
def jT{D:Ends}(Pv:Nat->St->Hp->Prop)(h0:Pv 0 σ H)(hl:∀i σ H,i<=xs.length->Pv i σ H->AS K H a xs)
 (hs:∀i x σ H,xs[i]? =some x->Pv i σ H->g x σ H fun σ2 H2=>tb {D with nx:=Pv (i+1),ct:=Pv (i+1),bk:=D.nx} σ2 H2)(hd:∀σ H,Pv xs.length σ H->D.nx σ H):
 ∃W:Nat->Nat->St->Hp->Prop,(∃m,W 0 m σ H)/\∀i m σ H,W i m σ H->
  ((OB K a).stop i H/\D.nx σ H)\/((OB K a).go i H/\∃N:St->Hp->Prop,(∀σ' H',N σ' H'->∃m',m'<m/\W (i+1) m' σ' H')/\∀x H',(OB K a).Iw i H x H'->g x σ H' fun σ2 H2=>tb {D with nx:=N,ct:=N,bk:=D.nx} σ2 H2):=by
 refine⟨fun i m σ H=>m=xs.length-i/\i<=xs.length/\Pv i σ H,⟨xs.length,by simp,CC _,h0⟩,?_⟩;rintro i m σ H ⟨rfl,hi,p⟩;have q:=hl i σ H hi p;by_cases hlt:i<xs.length
 ·refine .inr ⟨⟨xs,xs[i],q,by simp[hlt]⟩,Pv (i+1),fun σ' H' p'=>⟨xs.length-(i+1),by lia,rfl,hlt,p'⟩,fun x H' y=>?_⟩;obtain⟨e,y⟩:=y;subst e;exact hs i x σ _ (y xs q) p
 ·have e:i=xs.length:=by lia
  subst e;exact .inl ⟨⟨xs,q,Ae _⟩,hd σ H p⟩
def KD{lo:Int}{D:Ends}(Pv:Nat->St->Hp->Prop)(h0:Pv 0 σ H)
 (hs:∀i σ H,i<n->Pv i σ H->g (.int (lo+i)) σ H fun σ2 H2=>tb {D with nx:=Pv (i+1),ct:=Pv (i+1),bk:=D.nx} σ2 H2)(hd:∀σ H,Pv n σ H->D.nx σ H):
 ∃W:Nat->Nat->St->Hp->Prop,(∃m,W 0 m σ H)/\∀i m σ H,W i m σ H->
  ((Kx lo n).stop i H/\D.nx σ H)\/((Kx lo n).go i H/\∃N:St->Hp->Prop,(∀σ' H',N σ' H'->∃m',m'<m/\W (i+1) m' σ' H')/\∀x H',(Kx lo n).Iw i H x H'->g x σ H' fun σ2 H2=>tb {D with nx:=N,ct:=N,bk:=D.nx} σ2 H2):=by
 refine⟨fun i m σ H=>m=n-i/\i<=n/\Pv i σ H,⟨n,by simp,CC _,h0⟩,?_⟩;rintro i m σ H ⟨rfl,hi,p⟩;by_cases hlt:i<n
 ·refine .inr ⟨hlt,Pv (i+1),fun σ' H' p'=>⟨n-(i+1),by lia,rfl,hlt,p'⟩,fun x H' y=>?_⟩;obtain⟨e,y⟩:=y;subst e y;exact hs i σ _ hlt p
 ·have e:i=n:=by lia
  subst e;exact .inl ⟨Ae _,hd σ H p⟩
abbrev R2:=V->V->Hp->VK->Prop
def Br(X:Cx)(f:AD->AD->Sem AD)(r:R2):Prop:=
 ∀(pins:List (OK×Obj))(s:Ya)(σ:St)(H:Hp)(x y:V)(v u:AD)(Q:VK),Inv X pins σ H s->RelV x v->RelV y u->r x y H Q->
  bt (ax X.prog X.w) X.A (f v u) (EP X pins σ Q) X.xe s
def Uo(X:Cx)(f:AD->Sem AD)(r:V->Hp->VK->Prop):Prop:=
 ∀(pins:List (OK×Obj))(s:Ya)(σ:St)(H:Hp)(x:V)(v:AD)(Q:VK),Inv X pins σ H s->RelV x v->r x H Q->
  bt (ax X.prog X.w) X.A (f v) (EP X pins σ Q) X.xe s
def Du(X:Cx)(f:AD)(r:List V->Hp->VK->Prop):Prop:=
 ∀(pins:List (OK×Obj))(s:Ya)(σ:St)(H:Hp)(xs:List V)(us:List AD)(Q:VK),Inv X pins σ H s->Vals xs us->r xs H Q->
  bt (ax X.prog X.w) X.A (call f us) (EP X pins σ Q) X.xe s
def FK(r:R2)(ta tb:TE):TE:=fun σ H Q=>ta σ H fun x H1=>tb σ H1 fun y H2=>r x y H2 Q
def qK(r:V->Hp->VK->Prop)(ta:TE):TE:=fun σ H Q=>ta σ H fun x H1=>r x H1 Q
def rI(C:Int->Int->Prop)(g:Int->Int->V):R2:=fun x y H Q=>∃i j,x=.int i/\y=.int j/\C i j/\Q (g i j) H
def Kw(g:Int->Int->V):R2:=fun x y H Q=>∃i j,x=.int i/\y=.int j/\Q (g i j) H
def rU(g:Int->V):V->Hp->VK->Prop:=fun x H Q=>∃i,x=.int i/\Q (g i) H
section
variable{a b:hX}{tb tc:TE}
def UE(ha:PE X a ta)(hb:PE X b tb){R:V->V->Hp->Prop}(I:Inv X pins σ H s)
 (h:ta σ H fun x H1=>tb σ H1 fun y H2=>R x y H2){f:AD->AD->Sem AD}
 (hf:∀v u s2 x y H2,Inv X pins σ H2 s2->RelV x v->RelV y u->R x y H2->bt (ax X.prog X.w) X.A (f v u) Q X.xe s2):
 bt (ax X.prog X.w) X.A (qh a X.env) (fun v s₁=>bt (ax X.prog X.w) X.A (qh b X.env) (fun u s₂=>bt (ax X.prog X.w) X.A (f v u) Q X.xe s₂) X.xe s₁) X.xe s:=by
 refine Ad (ha pins s σ H _ I h) fun v s1 ⟨x,H1,I1,r1,q1⟩=>?_;refine Ad (hb pins s1 σ H1 _ I1 q1) fun u s2 ⟨y,H2,I2,r2,q2⟩=>?_;exact hf v u s2 x y H2 I2 r1 r2 q2
def Ah{op:Operator}{r:R2}(ho:Br X (qy op) r)(ha:PE X a ta)(hb:PE X b tb):PE X (.BinOp a op b pos) (FK r ta tb):=by intro pins s σ H Q I h;exact wpAny_BinOp (UE ha hb I h fun v u s2 x y H2 I2 rx ry q=>ho pins s2 σ H2 x y v u Q I2 rx ry q)
def EL{op:UnaryOp}{r:V->Hp->VK->Prop}(ho:Uo X (unaryOp op) r)(ha:PE X a ta):PE X (.UnaryOp op a pos) (qK r ta):=by intro pins s σ H Q I h;exact UnaryOp_ (Ad (ha pins s σ H _ I h) fun v s1 ⟨x,H1,I1,r1,q1⟩=>ho pins s1 σ H1 x v Q I1 r1 q1)
def Qn{f:AD->AD->Sem AD}{C:Int->Int->Prop}{g:Int->Int->Int}
 (rule:∀(i j:Int)(t u:Tok)(s:Ya)(Q:AD->Ya->Prop)(E:AD->Ya->Prop),C i j->Q (.int (g i j) s.toks) {s with toks:=s.toks+1}->bt (ax X.prog X.w) X.A (f (.int i t) (.int j u)) Q E s):
 Br X f (rI C fun i j=>.int (g i j)):=by
 intro pins s σ H x y v u Q I rx ry h;obtain⟨i,j,rfl,rfl,hc,q⟩:=h;obtain⟨t,rfl⟩:=rx;obtain⟨t',rfl⟩:=ry;exact rule i j t t' s _ _ hc ⟨.int (g i j),H,I.tok _,⟨_,rfl⟩,q⟩
def Zs{f:AD->AD->Sem AD}{g:Int->Int->Int}
 (rule:∀(i j:Int)(t u:Tok)(s:Ya)(Q:AD->Ya->Prop)(E:AD->Ya->Prop),Q (.int (g i j) s.toks) {s with toks:=s.toks+1}->bt (ax X.prog X.w) X.A (f (.int i t) (.int j u)) Q E s):
 Br X f (Kw fun i j=>.int (g i j)):=by
 intro pins s σ H x y v u Q I rx ry h;obtain⟨i,j,rfl,rfl,q⟩:=h;obtain⟨t,rfl⟩:=rx;obtain⟨t',rfl⟩:=ry;exact rule i j t t' s _ _ ⟨.int (g i j),H,I.tok _,⟨_,rfl⟩,q⟩
def T8{f:AD->AD->Sem AD}{g:Int->Int->Bool}
 (rule:∀(i j:Int)(t u:Tok)(s:Ya)(Q:AD->Ya->Prop)(E:AD->Ya->Prop),Q (.bool (g i j)) s->bt (ax X.prog X.w) X.A (f (.int i t) (.int j u)) Q E s):
 Br X f (Kw fun i j=>.bl (g i j)):=by
 intro pins s σ H x y v u Q I rx ry h;obtain⟨i,j,rfl,rfl,q⟩:=h;obtain⟨t,rfl⟩:=rx;obtain⟨t',rfl⟩:=ry;exact rule i j t t' s _ _ ⟨.bl (g i j),H,I,rfl,q⟩
def o8(i j:Int):Prop:=0<j/\j<1073741824
def p7(i j:Int):Prop:=0<=j/\j<=1000000/\i.natAbs<2^64
def UJ(i j:Int):Prop:=(-(2^64)<i/\i<2^64)\/(-(2^64)<j/\j<2^64)
def UJ.ok{i j:Int}(h:UJ i j):IntMulOk i j:=by
 rcases h with⟨h1,h2⟩|⟨h1,h2⟩
 ·exact .of_left (intBits_le_64 h1 h2)
 ·exact .of_right (intBits_le_64 h1 h2)
def Cb:Br X (qy .Add) (Kw fun i j=>.int (i+j)):=Zs fun _ _ _ _ _ _ _ q=>add_int q
def Lf:Br X (qy .Sub) (Kw fun i j=>.int (i-j)):=Zs fun _ _ _ _ _ _ _ q=>sub_int q
def Px:Br X (qy .Mult) (rI UJ fun i j=>.int (i*j)):=Qn fun _ _ _ _ _ _ _ hc q=>mul_int q hc.ok
def Hg:Br X (qy .FloorDiv) (rI o8 fun i j=>.int (i/j)):=Qn fun i j _ _ _ _ _ hc q=>by have h1:(0:Int)<j:=hc.1;have h2:j<1073741824:=hc.2;exact floordiv_int (by lia) (by rw[Int.fdiv_eq_ediv_of_nonneg i (by lia)];exact q) (.inl (PyProof.noPylong_small (by lia)))
def Bm:Br X (qy .Mod) (rI (fun _ j=>0<j) fun i j=>.int (i%j)):=Qn fun i j _ _ _ _ _ hc q=>by have h1:(0:Int)<j:=hc;exact mod_int' (by lia) (by rw[Int.fmod_eq_emod_of_nonneg i (by lia)];exact q)
def Nh:Br X (qy .Pow) (rI p7 fun i j=>.int (i^j.toNat)):=Qn fun _ _ _ _ _ _ _ hc q=>pow_int_small hc.1 hc.2.1 hc.2.2 q
def qT{f:AD->Sem AD}{g:Int->Int}
 (rule:∀(i:Int)(t:Tok)(s:Ya)(Q:AD->Ya->Prop)(E:AD->Ya->Prop),Q (.int (g i) s.toks) {s with toks:=s.toks+1}->bt (ax X.prog X.w) X.A (f (.int i t)) Q E s):
 Uo X f (rU fun i=>.int (g i)):=by
 intro pins s σ H x v Q I rx h;obtain⟨i,rfl,q⟩:=h;obtain⟨t,rfl⟩:=rx;exact rule i t s _ _ ⟨.int (g i),H,I.tok _,⟨_,rfl⟩,q⟩
def EK:Uo X (unaryOp .USub) (rU fun i=>.int (-i)):=qT fun _ _ _ _ _ q=>neg_int q
end
noncomputable def aS:V->V->Bool
 |.BB,.BB=>true|.BB,.int _=>true|.int _,.BB=>true|.BB,.bl _=>true|.bl _,.BB=>true|.BB,.str _=>true|.str _,.BB=>true
 |.int _,.int _=>true|.bl _,.bl _=>true|.str _,.str _=>true|.Fv _,.Fv _=>true
 |.int _,.str _=>true|.str _,.int _=>true|.bl _,.str _=>true|.str _,.bl _=>true
 |_,_=>false
def L8:R2:=fun x y H Q=>aS x y=true/\Q (.bl (decide (x=y))) H
def bG:R2:=fun x y H Q=>aS x y=true/\Q (.bl (!decide (x=y))) H
def YF{i j:Int}:decide (V.int i=V.int j)=(i==j):=by rw[Oq];simp
def Ym{i j:Bool}:decide (V.bl i=V.bl j)=(i==j):=by rw[Oq];simp
def Xe{i j:Str}:decide (V.str i=V.str j)=(i==j):=by rw[Oq];simp
def X5{i j:Array UInt8}:decide (V.Fv i=V.Fv j)=(i.toList==j.toList):=by rw[Oq];cases i;cases j;simp
section
variable{a b:hX}{tb tc:TE}
def CD{Q:VK}{k k':Bool}(I:Inv X pins σ H s)(q:Q (.bl k) H)(e:k=k'):EP X pins σ Q (.bool k') s:=by subst e;exact⟨.bl k,H,I,rfl,q⟩
def Ba:Br X (qg .Eq) L8:=by
 intro pins s σ H x y v u Q I rx ry h;obtain⟨hs,q⟩:=h
 cases x with
 |BB=>
  cases rx
  cases y with
  |BB=>cases ry;exact PySem.EqNone.eq_none_none (CD I q (by simp))
  |bl j=>cases ry;exact PySem.EqNone.eq_none_bool (CD I q (by simp))
  |int j=>obtain⟨t',rfl⟩:=ry;exact PySem.EqNone.eq_none_int (CD I q (by simp))
  |str j=>obtain⟨t',rfl⟩:=ry;exact PySem.EqNone.eq_none_str (CD I q (by simp))
  |_=>exact absurd (show false=true from hs) CZ
 |bl i=>
  cases rx
  cases y with
  |BB=>cases ry;exact PySem.EqNone.eq_bool_none (CD I q (by simp))
  |bl j=>cases ry;exact eq_bool (CD I q Ym)
  |str j=>obtain⟨t',rfl⟩:=ry;exact PySem.EqMixed.eq_bool_str (CD I q (by simp))
  |_=>exact absurd (show false=true from hs) CZ
 |int i=>
  obtain⟨t,rfl⟩:=rx
  cases y with
  |BB=>cases ry;exact PySem.EqNone.eq_int_none (CD I q (by simp))
  |int j=>obtain⟨t',rfl⟩:=ry;exact eq_int (CD I q YF)
  |str j=>obtain⟨t',rfl⟩:=ry;exact PySem.EqMixed.eq_int_str (CD I q (by simp))
  |_=>exact absurd (show false=true from hs) CZ
 |str i=>
  obtain⟨t,rfl⟩:=rx
  cases y with
  |BB=>cases ry;exact PySem.EqNone.eq_str_none (CD I q (by simp))
  |bl j=>cases ry;exact PySem.EqMixed.eq_str_bool (CD I q (by simp))
  |int j=>obtain⟨t',rfl⟩:=ry;exact PySem.EqMixed.eq_str_int (CD I q (by simp))
  |str j=>obtain⟨t',rfl⟩:=ry;exact eq_str (CD I q Xe)
  |_=>exact absurd (show false=true from hs) CZ
 |Fv i=>
  obtain⟨t,rfl⟩:=rx
  cases y with
  |Fv j=>obtain⟨t',rfl⟩:=ry;exact eq_bytes (CD I q X5)
  |_=>exact absurd (show false=true from hs) CZ
 |_=>cases y<;>exact absurd (show false=true from hs) CZ
def GH:Br X (qg .NotEq) bG:=by
 intro pins s σ H x y v u Q I rx ry h;obtain⟨hs,q⟩:=h
 cases x with
 |BB=>
  cases rx
  cases y with
  |BB=>cases ry;exact PySem.EqNone.ne_none_none (CD I q (by simp))
  |bl j=>cases ry;exact PySem.EqNone.ne_none_bool (CD I q (by simp))
  |int j=>obtain⟨t',rfl⟩:=ry;exact PySem.EqNone.ne_none_int (CD I q (by simp))
  |str j=>obtain⟨t',rfl⟩:=ry;exact PySem.EqNone.ne_none_str (CD I q (by simp))
  |_=>exact absurd (show false=true from hs) CZ
 |bl i=>
  cases rx
  cases y with
  |BB=>cases ry;exact PySem.EqNone.ne_bool_none (CD I q (by simp))
  |bl j=>cases ry;exact ne_bool (CD I q (BD not Ym))
  |str j=>obtain⟨t',rfl⟩:=ry;exact PySem.EqMixed.ne_bool_str (CD I q (by simp))
  |_=>exact absurd (show false=true from hs) CZ
 |int i=>
  obtain⟨t,rfl⟩:=rx
  cases y with
  |BB=>cases ry;exact PySem.EqNone.ne_int_none (CD I q (by simp))
  |int j=>obtain⟨t',rfl⟩:=ry;exact ne_int (CD I q (BD not YF))
  |str j=>obtain⟨t',rfl⟩:=ry;exact PySem.EqMixed.ne_int_str (CD I q (by simp))
  |_=>exact absurd (show false=true from hs) CZ
 |str i=>
  obtain⟨t,rfl⟩:=rx
  cases y with
  |BB=>cases ry;exact PySem.EqNone.ne_str_none (CD I q (by simp))
  |bl j=>cases ry;exact PySem.EqMixed.ne_str_bool (CD I q (by simp))
  |int j=>obtain⟨t',rfl⟩:=ry;exact PySem.EqMixed.ne_str_int (CD I q (by simp))
  |str j=>obtain⟨t',rfl⟩:=ry;exact ne_str (CD I q (BD not Xe))
  |_=>exact absurd (show false=true from hs) CZ
 |Fv i=>
  obtain⟨t,rfl⟩:=rx
  cases y with
  |Fv j=>obtain⟨t',rfl⟩:=ry;exact ne_bytes (CD I q (BD not X5))
  |_=>exact absurd (show false=true from hs) CZ
 |_=>cases y<;>exact absurd (show false=true from hs) CZ
def Hn:Br X (qg .Lt) (Kw fun i j=>.bl (decide (i<j))):=T8 fun _ _ _ _ _ _ _ q=>lt_int q
def ZQ:Br X (qg .LtE) (Kw fun i j=>.bl (decide (i<=j))):=T8 fun _ _ _ _ _ _ _ q=>le_int q
def QE:Br X (qg .Gt) (Kw fun i j=>.bl (decide (j<i))):=T8 fun _ _ _ _ _ _ _ q=>gt_int q
def eV:Br X (qg .Lt) (fun x y H Q=>∃i j,x=.str i/\y=.str j/\Q (.bl (decide (i.cps.toList<j.cps.toList))) H):=by intro pins s σ H x y v u Q I rx ry h;obtain⟨i,j,rfl,rfl,q⟩:=h;obtain⟨t,rfl⟩:=rx;obtain⟨t',rfl⟩:=ry;exact lt_str (CD I q rfl)
def Am(b:hX)(h:op≠.In:=by decide)(h2:op≠.NotIn:=by decide):behindInMarks op b=false:=by
 have e1:(op==CmpOp.In)=false:=by cases op<;>first|rfl|exact absurd rfl h
 have e2:(op==CmpOp.NotIn)=false:=by cases op<;>first|rfl|exact absurd rfl h2
 cases b<;>simp[behindInMarks,e1,e2]
def Ia{r:R2}(ho:Br X (qg op) r)(ha:PE X a ta)(hb:PE X b tb)(hm:behindInMarks op b=false):PE X (.Compare a [op] [b] pos) (FK r ta tb):=by intro pins s σ H Q I h;exact wpAny_Compare1 (UE ha hb I h fun v u s2 x y H2 I2 rx ry q=>ho pins s2 σ H2 x y v u Q I2 rx ry q) hm
def Kg(t:TE):TT:=fun σ H Q=>t σ H fun x H'=>∃k,x=.bl k/\Q k H'
def Ar{r:R2}(ho:Br X (qg op) r)(ha:PE X a ta)(hb:PE X b tb)(hm:behindInMarks op b=false):PT X (.Compare a [op] [b] pos) (Kg (FK r ta tb)):=by
 intro pins s σ H Q I h;refine wpAny_isTrue_Compare1 (Ad (ha pins s σ H _ I h) fun v s1 ⟨x,H1,I1,r1,q1⟩=>Ad (hb pins s1 σ H1 _ I1 q1) fun u s2 ⟨y,H2,I2,r2,q2⟩=>Ad (ho pins s2 σ H2 x y v u _ I2 r1 r2 q2) fun c s3 ⟨z,H3,I3,r3,k,e,q3⟩=>?_) hm;subst e;cases r3;exact MS ⟨H3,I3,q3⟩
def lX(r r':R2)(ta tb tc:TE):TE:=fun σ H Q=>ta σ H fun x H1=>tb σ H1 fun y H2=>r x y H2 fun z H3=>∃k,z=.bl k/\
 (if k=true then tc σ H3 fun w' H4=>r' y w' H4 Q else Q (.bl false) H3)
def gY{op':CmpOp}{r r':R2}(ho:Br X (qg op) r)(ho':Br X (qg op') r')(ha:PE X a ta)(hb:PE X b tb)(hc:PE X c tc)
 (hm:lastMarks [op,op'] [b,c]=false):PE X (.Compare a [op,op'] [b,c] pos) (lX r r' ta tb tc):=by
 intro pins s σ H Q I h;refine Compare_chain (Ad (ha pins s σ H _ I h) fun v s1 ⟨x,H1,I1,r1,q1⟩=>chain_link (Ad (hb pins s1 σ H1 _ I1 q1) fun u s2 ⟨y,H2,I2,r2,q2⟩=>Ad (ho pins s2 σ H2 x y v u _ I2 r1 r2 q2) fun d s3 ⟨z,H3,I3,r3,k,e,q3⟩=>?_)) hm;subst e;cases r3;refine MS ?_
 cases k with
 |false=>exact ite_ff ⟨.bl false,H3,I3,rfl,q3⟩
 |true=>exact ite_tt (chain_last (Ad (hc pins s3 σ H3 _ I3 q3) fun w' s4 ⟨z',H4,I4,r4,q4⟩=>ho' pins s4 σ H4 y z' u w' Q I4 r2 r4 q4))
def Nb:(sizeLine:Nat)<2^63:=by rw[A8];decide
def LM:Br X (qy .Add) (fun x y H Q=>∃i j,x=.str i/\y=.str j/\i.length+j.length<=sizeLine/\Q (.str (i++j)) H):=by intro pins s σ H x y v u Q I rx ry h;obtain⟨i,j,rfl,rfl,hz,q⟩:=h;obtain⟨t,rfl⟩:=rx;obtain⟨t',rfl⟩:=ry;exact add_str (fun t' tk=>⟨.str (i++j),H,I.tok _,⟨_,rfl⟩,q⟩) hz
end
variable{us:List AD}
section
variable{a b:hX}{tb tc:TE}
def vals1{x:V}(r:Vals [x] us):∃u,us=[u]/\RelV x u:=by
 cases r with
 |cons r1 r2=>cases r2;exact⟨_,rfl,r1⟩
end
variable{y:V}
section
variable{a b:hX}{tb tc:TE}
def vals2{x:V}(r:Vals [x,y] us):∃u w',us=[u,w']/\RelV x u/\RelV y w':=by
 cases r with
 |cons r1 r2=>
  cases r2 with
  |cons r3 r4=>cases r4;exact⟨_,_,rfl,r1,r3⟩
def M0:Du X (.type "int") (fun xs H Q=>(∃i,xs=[.int i]/\Q (.int i) H)\/∃k,xs=[.bl k]/\Q (.int (if k then 1 else 0)) H):=by
 intro pins s σ H xs us Q I r h;rcases h with⟨i,rfl,q⟩|⟨k,rfl,q⟩
 ·obtain⟨u,rfl,t,rfl⟩:=vals1 r;exact call_int_int ⟨.int i,H,I,⟨_,rfl⟩,q⟩
 ·obtain⟨u,rfl,r1⟩:=vals1 r;cases r1;exact call_int_bool ⟨.int (if k then 1 else 0),H,I.tok _,⟨_,rfl⟩,q⟩
end
structure Ks(h:qi)(x dx C:OK)(mA:Str->Option AD):Prop where
 obj:h.get? x=some (sN C dx)
 ns:h.Ns1 dx mA
 ne:dx≠x
variable{dx:OK}{mA:Str->Option AD}
def WA(n:h.Ns1 dx mA):∃od,h.get? dx=some od/\∀name,lookIn name od=some (mA name):=by
 obtain⟨o,es,ep,ho,hd,hk,_,hm⟩:=n;refine⟨o,ho,fun name=>?_⟩;have e:=hm name;unfold nsFind findBy at e;rw[<-Array.find?_toList] at e;unfold lookIn;rw[hd];dsimp only;split
 ·rename_i y q;rw[q] at e;exact BD some e
 ·rename_i q;rw[q] at e;have a:es.toList.any (·.refKey)=false:=by rw[List.any_eq_false];intro y hy;obtain⟨z,t,hkey⟩:=hk y (Array.mem_toList_iff.mp hy);simp[DictEntry.refKey,hkey]
  have a':¬es.toList.any (·.refKey)=true:=by rw[a];exact CZ
  rw[AF a'];exact BD some e
variable{C:OK}
def Ks.look{x:OK}(I:Ks h x dx C mA):∃od,InstAt h x (sN C dx) C (some od)/\∀name,lookIn name od=some (mA name):=
 let⟨od,ho,hl⟩:=WA I.ns
 ⟨od,⟨I.obj,rfl,rfl,ho⟩,hl⟩
variable{prog:qf}{name:Str}
section
variable{x:OK}{v:AD}
def get_map{expr:Bool}(X:K.In s.heap)(I:Ks s.heap x dx C mA)(hg:sT K C name=true)(hh:rR K C=true)
 (ha:ql K (.ref C) name=some none)(hv:mA name=some v)(hv':handedIn v=true)(h:Q v {s with toks:=s.toks+1}):
 bt (ax prog w) A (tF (.ref x) name expr) Q E s:=by
 obtain⟨od,J,hl⟩:=I.look;exact get_value X J (VB hg).1 (findObj_own hh ha rfl (by rw[hl,hv])) hv' h
end
variable{pl:Sem Bool}{f:OK}
section
variable{x:OK}{v:AD}
def gj{Q:AD×List AD->Ya->Prop}(X:K.In s.heap)(I:Ks s.heap x dx C mA)(hg:sT K C name=true)
 (hf:ql K (.ref C) name=some (some (.ref f)))(ht:isFn K (.ref f)=true)(hv:mA name=none)(h:Q (.ref f,[.ref x]) s):
 bt (ax prog w) A (sg (.ref x) name pl) Q E s:=by
 obtain⟨od,J,hl⟩:=I.look;exact method_fn X J (VB hg).1 (VB hg).2 hf (Fd.mp ht) (by show(lookIn name od).map (·.isSome)=some false;rw[hl,hv];rfl) h
def ik{ns:List Str}{Q:Unit->Ya->Prop}(X:K.In s.heap)(I:Ks s.heap x dx C mA)
 (hs:ql K (.ref C) "__setattr__" =some (some (.builtin "object.__setattr__")))(hp:plainOver K C=true)(ht:takerIn K C name=some none)(hh:rR K C=true)
 (hw:tZ mA ns)(hsz:ns.length<=sizeLine)
 (h:∀h',Ks h' x dx C (fun y=>if y=name then some v else mA y)->Heap.SameBut dx s.heap h'->Q () {s with heap:=h',toks:=s.toks+2}):
 bt (ax prog w) A (setAttr (.ref x) name v) Q E s:=by
 obtain⟨od,J,hl⟩:=I.look;refine set_plain X J hs (osa_open (s:={s with toks:=s.toks+1}) (r:=none) X J hp ht fun b=>?_);obtain⟨cd,hc,hd'⟩:=any_some hh;have hx:s.heap.get? x=some ⟨.ref C,some dx,.plain,#[]⟩:=I.obj;refine AK (Ac (AK (AK (wpAny_loadPart hx (AK (PySem.W.Looks.here (s:={s with toks:=s.toks+1}) (VC X hc) ?_))))));rw[hd'];refine Ac (a:=some dx) (AK (Ac (AK ?_)));refine wpAny_nsSet1 (s:={s with toks:=s.toks+1}) I.ns fun h' hn2 hs2=>?_;obtain⟨oD,esD,epD,hoD,hdD,hcD⟩:=hn2.count (PySem.Within.cons name v hw);refine AK (wpAny_lookBehind hoD (by rw[hdD];exact pastItsLine_dict (BJ hcD (by rw[CG];lia))) ?_);exact Ac (h _ ⟨(hs2.2 _ (DG I.ne)).trans I.obj,hn2,I.ne⟩ hs2)
end
variable{R:Result->Ya->Prop}{kw:List (Str×AD)}
section
variable{x:OK}{v:AD}
def iE{vs:List AD}(X:K.In s.heap)(hm:makesIn K C=true)
 (hi:ql K (.ref C) "__init__" =some (some (.ref f)))(hf:typeIn K (.ref f)=some (.type "function"))
 (h:rK (ax prog w) (A.under (.builtin "type.__call__" ⟨.ref C::vs,kw⟩)) (.call (.ref f) ⟨.ref (s.heap.objs.size+1)::vs,kw⟩) (InitBack (s.heap.objs.size+1) R)
  {s with heap:=(s.heap.push rN).push (sN C s.heap.objs.size)}):
 rK (ax prog w) A (.call (.ref C) ⟨vs,kw⟩) R s:=by
 obtain⟨hh,g,d,t,os⟩:=s;exact make_core (makes_of X hm) (OY X hi) (fun self=>bind_fn X self hf) (.inl rfl) h
end
noncomputable def ER(f:Str)(v:V):List (Str×V)->List (Str×V)
 |[]=>[(f,v)]
 |(g,x)::r=>if g=f then(g,v)::r else(g,x)::ER f v r
def VY(f g:Str)(v:V):∀fs:List (Str×V),(ER f v fs).lookup g=if g=f then some v else fs.lookup g
 |[]=>by
  show List.lookup g [(f,v)]=_;by_cases h:g=f
  ·have hb:(g==f)=true:=Fd.mpr h;simp only[List.lookup,hb,AG h]
  ·have hb:(g==f)=false:=Ob.mpr h;simp only[List.lookup,hb,AF h]
 |(k,x)::r=>by
  have ih:=VY f g v r;rw[show ER f v ((k,x)::r)=(if k=f then(k,v)::r else(k,x)::ER f v r) from rfl];by_cases hk:k=f
  ·rw[AG hk];by_cases h:g=k
   ·have hb:(g==k)=true:=Fd.mpr h;simp only[List.lookup,hb,AG (h.trans hk)]
   ·have hb:(g==k)=false:=Ob.mpr h;simp only[List.lookup,hb,AF (fun e:g=f=>h (e.trans hk.symm))]
  ·rw[AF hk];by_cases h:g=k
   ·have hb:(g==k)=true:=Fd.mpr h;simp only[List.lookup,hb,AF (fun e:g=f=>hk (h.symm.trans e))]
   ·have hb:(g==k)=false:=Ob.mpr h;simp only[List.lookup,hb];exact ih
def R9(f:Str)(v:V):∀fs:List (Str×V),f∈(ER f v fs).map (·.1)/\∀g,g∈fs.map (·.1)->g∈(ER f v fs).map (·.1)
 |[]=>⟨by simp[ER],fun g h=>by simp at h⟩
 |(k,x)::r=>by
  obtain⟨i1,i2⟩:=R9 f v r;rw[show ER f v ((k,x)::r)=(if k=f then(k,v)::r else(k,x)::ER f v r) from rfl];by_cases hk:k=f
  ·rw[AG hk];subst hk;exact⟨by simp,fun g h=>by simpa using h⟩
  ·rw[AF hk];refine⟨?_,fun g h=>?_⟩
   ·rw[Au];exact Cn _ i1
   ·rw[Au] at h⊢;rcases BI.mp h with e|e
    ·exact BI.mpr (.inl e)
    ·exact Cn _ (i2 g e)
def Vc(f:Str)(v:V):∀fs:List (Str×V),(ER f v fs).length<=fs.length+1
 |[]=>by simp[ER]
 |(k,x)::r=>by
  have ih:=Vc f v r;rw[show ER f v ((k,x)::r)=(if k=f then(k,v)::r else(k,x)::ER f v r) from rfl];by_cases hk:k=f
  ·rw[AG hk,CG,CG];lia
  ·rw[AF hk,CG,CG];lia
def DU.some_of{o:Option AD}(r:DU (some v) o):∃u,o=some u/\RelV v u:=by
 cases o with
 |none=>exact(show False from r).elim
 |some u=>exact⟨u,rfl,r⟩
def DU.none_of{o:Option AD}(r:DU none o):o=none:=by
 cases o with
 |none=>rfl
 |some u=>exact(show False from r).elim
def WD(r:RelV v u):handedIn u=true:=by
 cases v with
 |BB=>cases(show u=Value.none from r);rfl
 |bl b=>cases(show u=Value.bool b from r);rfl
 |int i=>obtain⟨t,e⟩:=(show∃t,u=Value.int i t from r);cases e;rfl
 |str x=>obtain⟨t,e⟩:=(show∃t,u=Value.str x t from r);cases e;rfl
 |Fv b=>obtain⟨t,e⟩:=(show∃t,u=Value.bytes b t from r);cases e;rfl
 |Iz b=>obtain⟨t,e⟩:=(show∃t,u=Value.float b t from r);cases e;rfl
 |ref a=>cases(show u=Value.ref a from r);rfl
 |ty n=>cases(show u=Value.type n from r);rfl
section
variable{fs fs':List (Str×V)}
def NO(hok:Bx P w H h)(e:H a=some (.ins C dx fs)):∃mA,Ks h a dx C mA/\(∀f,DU (fs.lookup f) (mA f))/\tZ mA (fs.map (·.1))/\fs.length<=1000/\H dx=some (.own a):=by obtain⟨d,z,ne,ob,mA,n,r,q⟩:=(show BV P w H h a (.ins C dx fs) from hok a _ e);exact⟨mA,⟨ob,n,ne⟩,r,q,z,d⟩
end
structure IA(K:tW)(C:OK):Prop where
 pg:sT K C Str.empty=true
 hd:rR K C=true
 po:plainOver K C=true
 sa:ql K (.ref C) "__setattr__" =some (some (.builtin "object.__setattr__"))
def IA.get(c:IA K C)(f:Str):sT K C f=true:=c.pg
def KZ(K:tW)(C:OK)(f:Str):Prop:=ql K (.ref C) f=some none
def KZ.oS{f:Str}(n:KZ K C f):takerIn K C f=some none:=by unfold takerIn;rw[show ql K (.ref C) f=some none from n];rfl
structure Meth(K:tW)(C:OK)(m:Str)(f:OK):Prop where
 at_:ql K (.ref C) m=some (some (.ref f))
 fn:isFn K (.ref f)=true
 kp:rC K (.ref f)=true
section
variable{fs:List (Str×V)}{f:Str}
def dH{b:Bool}(I:Inv X pins σ H s)(e:H a=some (.ins C dx fs))(c:IA X.K C)(n:KZ X.K C f)(l:fs.lookup f=some v)
 (h:∀u s',Inv X pins σ H s'->RelV v u->Q u s'):bt (ax X.prog X.w) A (tF (.ref a) f b) Q E s:=by
 obtain⟨mA,O,r,_,_,_⟩:=NO I.hok e;obtain⟨u,hu,ru⟩:=DU.some_of (v:=v) (o:=mA f) (by rw[<-l];exact r f);exact get_map I.BX O (c.get f) c.hd n hu (WD ru) (h u _ (I.tok _) ru)
def dG{m:Str}{g:OK}{Q:AD×List AD->Ya->Prop}(I:Inv X pins σ H s)(e:H a=some (.ins C dx fs))(c:IA X.K C)(k:Meth X.K C m g)(l:fs.lookup m=none)
 (h:Q (.ref g,[.ref a]) s):bt (ax X.prog X.w) A (sg (.ref a) m pl) Q E s:=by
 obtain⟨mA,O,r,_,_,_⟩:=NO I.hok e;have hn:mA m=none:=DU.none_of (by rw[<-l];exact r m);exact gj I.BX O (c.get m) k.at_ k.fn hn h
def dC{Q:Unit->Ya->Prop}(I:Inv X pins σ H s)(e:H a=some (.ins C dx fs))(c:IA X.K C)(n:KZ X.K C f)(hl:fs.length<1000)(ry:RelV y u)
 (h:∀s',Inv X pins σ (upd H a (.ins C dx (ER f y fs))) s'->Q () s'):bt (ax X.prog X.w) A (setAttr (.ref a) f u) Q E s:=by
 obtain⟨mA,O,r,wi,_,ho⟩:=NO I.hok e;have hz:(fs.map (·.1)).length<=sizeLine:=by rw[AJ,A8];lia
 refine ik I.BX O c.sa c.po n.oS c.hd wi hz fun h' O' sb=>h _ ?_;have hd:∃o,h'.get? dx=some o:=let⟨o,_,_,e',_⟩:=O'.ns;⟨o,e'⟩;refine I.write (x:=a) (e:=dx) (by rw[e];exact Cv) (.inr ho) (fun b q hb z=>(sb.2 b hb).trans z) hd ?_;refine⟨by rw[AN O.ne];exact ho,?_,O.ne,O'.obj,_,O'.ns,fun g=>?_,fun g hg=>?_⟩
 ·have:=Vc f y fs;lia
 ·show DU ((ER f y fs).lookup g) (if g=f then some u else mA g);rw[VY];by_cases q:g=f
  ·rw[AG q,AG q];exact ry
  ·rw[AF q,AF q];exact r g
 ·by_cases q:g=f
  ·rw[q];exact(R9 f y fs).1
  ·refine(R9 f y fs).2 g (wi g fun z=>hg ?_);show(if g=f then some u else mA g)=none;rw[AF q];exact z
def Inv.made(I:Inv X pins σ H s):Inv X pins σ (upd (upd H s.heap.objs.size (.own (s.heap.objs.size+1))) (s.heap.objs.size+1) (.ins C s.heap.objs.size []))
 {s with heap:=(s.heap.push rN).push (sN C s.heap.objs.size)}:=by
 have e1:(s.heap.push rN).get? s.heap.objs.size=some rN:=CB s.heap rfl;have e2:((s.heap.push rN).push (sN C s.heap.objs.size)).get? (s.heap.objs.size+1)=some (sN C s.heap.objs.size):=by
  have:=CB (s.heap.push rN) (o:=sN C s.heap.objs.size) rfl
  rwa [Gh] at this
 have e3:(s.heap.push rN).Ns s.heap.objs.size (fun _=>none):=⟨rN,#[],_,e1,rfl,(fun e he=>absurd he (by simp)),fun _=>rfl⟩;have I1:=I.laid (a:=s.heap.objs.size) (o:=.own (s.heap.objs.size+1)) (h':=s.heap.push rN) (t':=s.toks) (fun b u q=>BC _ q) (Ae _) ⟨_,e1⟩;refine I1.laid (a:=s.heap.objs.size+1) (o:=.ins C s.heap.objs.size []) (t':=s.toks) (fun b u q=>BC _ q) (Nat.le_of_eq (Gh _ _)) ?_;have ne:s.heap.objs.size≠s.heap.objs.size+1:=BO (MZ _);refine⟨by rw[AN ne,AM],CC _,ne,e2,fun _=>none,(Heap.Ns1.of_empty e3).at fun o q=>BC _ q,fun _=>Cv,fun y hy=>absurd rfl hy⟩
end
variable{env:Env}
section
variable{fs:List (Str×V)}{f:Str}
def XR{f:Str}(hb:qo e f env (qh e env)=qh e env)
 (h:bt (ax prog w) A (qh e env) (fun o s₁=>bt (ax prog w) A (tF o f true) Q E s₁) E s):bt (ax prog w) A (qh (.Attribute e f pos) env) Q E s:=
 Attribute_any_ h (by rw[arm_eval_Attribute,hb])
end
def pX(K:tW)(ta:TE)(f:Str):TE:=fun σ H Q=>ta σ H fun x H1=>∃a C dx fs v,x=.ref a/\H1 a=some (.ins C dx fs)/\IA K C/\KZ K C f/\fs.lookup f=some v/\Q v H1
def pL(K:tW)(ta tv:TE)(f:Str):TS:=fun D σ H=>tv σ H fun y H1=>ta σ H1 fun x H2=>∃a C dx fs,x=.ref a/\H2 a=some (.ins C dx fs)/\IA K C/\KZ K C f/\fs.length<1000/\
 D.nx σ (upd H2 a (.ins C dx (ER f y fs)))
section
variable{o value:hX}{f:Str}{pos':Pos}{tv:TE}
def C9(he:PE X e ta)(hb:qo e f X.env (qh e X.env)=qh e X.env):PE X (.Attribute e f pos) (pX X.K ta f):=by intro pins s σ H Q I h;refine XR hb (Ad (he pins s σ H _ I h) fun u s1 ⟨x,H1,I1,rx,a,C,dx,fs,v,ex,ea,c,n,l,q⟩=>?_);subst ex;obtain rfl:u=Value.ref a:=rx;exact dH I1 ea c n l fun u' s2 I2 ru=>⟨v,H1,I2,ru,q⟩
def ka(ha:PE X o ta)(hv:PE X value tv)(hs:sL value (some (.Attribute o f pos')) pos.line X.env=pure false):PS X (.Assign [.Attribute o f pos'] value pos) (pL X.K ta tv f):=by intro pins s σ H D I h;refine sW (Ad (hv pins s σ H _ I h) fun u s1 ⟨y,H1,I1,ry,q⟩=>Ad (ha pins s1 σ H1 _ I1 q) fun ov s2 ⟨x,H2,I2,rx,a,C,dx,fs,ex,ea,c,n,l,q2⟩=>?_) hs;subst ex;obtain rfl:ov=Value.ref a:=rx;exact dC I2 ea c n l ry fun s3 I3=>⟨σ,_,I3,q2⟩
end
section
variable{c:AD}{b:Bool}
inductive Bl(K:tW)(H:Hp):V->AD->Prop where
 |BB:Bl K H .BB (.type "NoneType")
 |bl (x:Bool):Bl K H (.bl x) (.type "bool")
 |int (i:Int):Bl K H (.int i) (.type "int")
 |str (x:Str):Bl K H (.str x) (.type "str")
 |Iz (x:UInt64):Bl K H (.Iz x) (.type "float")
 |lst {a:OK} {xs:List V} (e:H a=some (.lst xs)):Bl K H (.ref a) (.type "list")
 |BQ {a:OK} {o:Obj} {xs:List V} (e:H a=some (.BQ o (.lst xs))):Bl K H (.ref a) (.type "list")
 |tup {a:OK} {xs:List V} (e:H a=some (.tup xs)):Bl K H (.ref a) (.type "tuple")
 |dK {a:OK} {AA:List (Key×V)} (e:H a=some (.dK AA)):Bl K H (.ref a) (.type "dict")
 |dT {a:OK} {AA:List (List Key×V)} (e:H a=some (.dT AA)):Bl K H (.ref a) (.type "dict")
 |ins {a C dx:OK} {fs:List (Str×V)} (e:H a=some (.ins C dx fs)) (cl:IA K C) (ha:ql K (.ref C) "__class__" =some (some (.builtin "object.__class__")))
  (hn:sY K (.builtin "object.__class__") "__get__" =some (some (.builtin "getset_descriptor.__get__"))) (htk:takesIn K (.builtin "object.__class__")=some true)
  (hm:mroIn K C (.type "object")=some true):Bl K H (.ref a) (.ref C)
def fX{x:V}{t:AD}(I:Inv X pins σ H s)(rx:RelV x u)(ty:Bl X.K H x t)(e:sF X.K t c=some b)(h:∀tk,Q (.bool b) {s with toks:=tk}):
 bt (ax X.prog X.w) A (call (.builtin "isinstance") [u,c]) Q E s:=by
 cases ty with
 |BB=>cases(show u=Value.none from rx);exact HX kitx_none I.BX Cv e (fun z=>nomatch z) h
 |bl y=>cases(show u=Value.bool y from rx);exact HX kitx_bool I.BX Cv e (fun z=>nomatch z) h
 |int i=>obtain⟨t,q⟩:=(show∃t,u=Value.int i t from rx);cases q;exact HX kitx_int I.BX Cv e (fun z=>nomatch z) h
 |str y=>obtain⟨t,q⟩:=(show∃t,u=Value.str y t from rx);cases q;exact HX kitx_str I.BX Cv e (fun z=>nomatch z) h
 |Iz y=>obtain⟨t,q⟩:=(show∃t,u=Value.float y t from rx);cases q;exact HX kitx_float I.BX Cv e (fun z=>nomatch z) h
 |@lst a xs ea=>cases(show u=Value.ref a from rx);obtain⟨_,_,n,_,h1⟩:=(show BV X.prog X.w H s.heap a (.lst xs) from I.hok a _ ea);exact HX RG I.BX ⟨_,h1,rfl⟩ e (fun z=>nomatch z) h
 |@BQ a ob xs ea=>cases(show u=Value.ref a from rx);obtain⟨_,_,_,n,_,h1⟩:=(show BV X.prog X.w H s.heap a (.BQ ob (.lst xs)) from I.hok a _ ea);exact HX RG I.BX ⟨_,h1,rfl⟩ e (fun z=>nomatch z) h
 |@tup a xs ea=>cases(show u=Value.ref a from rx);obtain⟨_,_,_,p⟩:=(show BV X.prog X.w H s.heap a (.tup xs) from I.hok a _ ea);obtain⟨o,h1,h2,_⟩:=p;exact HX kitx_tuple I.BX ⟨o,h1,h2⟩ e (fun z=>nomatch z) h
 |@dK a AA ea=>cases(show u=Value.ref a from rx);obtain⟨_,_,vs,_,p⟩:=(show BV X.prog X.w H s.heap a (.dK AA) from I.hok a _ ea);obtain⟨o,es,ep,h1,h2,_⟩:=p;exact HX RH I.BX ⟨o,h1,h2.1⟩ e (fun z=>nomatch z) h
 |@dT a AA ea=>cases(show u=Value.ref a from rx);obtain⟨_,_,xs,_,o,es,ep,h1,h2,_⟩:=(show BV X.prog X.w H s.heap a (.dT AA) from I.hok a _ ea);exact HX RH I.BX ⟨o,h1,h2.1⟩ e (fun z=>nomatch z) h
 |@ins a C dx fs ea cl ha hn htk hm=>cases(show u=Value.ref a from rx);obtain⟨mA,O,_⟩:=NO I.hok ea;obtain⟨od,J,_⟩:=O.look;exact HX (kitx_own (cl.get _) cl.hd ha hn htk hm) I.BX J e (fun z=>nomatch z) h
end
structure Bn(k:Nat)(A:rL):Prop where
 hd:A.handled=none
 dp:A.depth+3*k+5<recursionLimit
 un:A.units+16*k+200<qr
def Bn.mono(r:Bn k A)(h:j<=k):Bn j A:=⟨r.hd,by have:=r.dp;lia,by have:=r.un;lia⟩
def Bn.deeper(r:Bn (k+1) A)(env:Env):Bn k (A.deeper env):=
 ⟨r.hd,by have:=r.dp;show A.depth+1+3*k+5<_;lia,by have:=r.un;show A.units+3+16*k+200<_;lia⟩
def cW:(A.under (.builtin "type.__call__" ⟨.ref C::us,kw⟩)).depth=A.depth+1:=by first|rfl|simp[Around.under,Code.weight,Code.isCreation,Code.isGuard,Code.isCaller,Code.frames,Code.isFrame,guardIds]
def cZ:(A.under (.builtin "type.__call__" ⟨.ref C::us,kw⟩)).units=A.units+1:=by first|rfl|simp[Around.under,Code.cUnits,Code.frames,Code.isFrame]
def Bn.make(r:Bn (k+1) A)(C:OK)(us:List AD)(kw:List (Str×AD)):Bn k (A.under (.builtin "type.__call__" ⟨.ref C::us,kw⟩)):=
 ⟨r.hd,by have:=r.dp;rw[cW];lia,by have:=r.un;rw[cZ];lia⟩
def Bn.depth(r:Bn k A):A.depth<recursionLimit:=by have:=r.dp;lia
def Bn.units(r:Bn k A):A.units+64<qr:=by have:=r.un;lia
def Bn.TC(r:Bn k A):A.units<qr:=by have:=r.un;lia
def Lw:TA:=fun _ H Q=>Q [] H
def Nm(ta:TE)(tr:TA):TA:=fun σ H Q=>ta σ H fun x H1=>tr σ H1 fun xs H2=>Q (x::xs) H2
section
variable{es:List hX}{t:TA}
def AI:PA X [] Lw:=fun _ _ _ _ H Q I h=>RI ⟨[],H,I,.nil,h⟩
def AB(ha:PE X e te)(hr:PA X es t)(hs:dq (e::es) X.env=(false,qh e X.env)::dq es X.env:=by rfl):PA X (e::es) (Nm te t):=by intro pos pins s σ H Q I h;rw[hs];show bt _ _ (spliced ((false,qh e X.env)::qt pos (dq es X.env))) _ _ s;refine MQ (Ad (ha pins s σ H _ I h) fun u s1 ⟨x,H1,I1,r1,q1⟩=>?_);exact Ad (hr pos pins s1 σ H1 _ I1 q1) fun us s2 ⟨xs,H2,I2,r2,q2⟩=>⟨x::xs,H2,I2,.cons r1 r2,q2⟩
def pB(t:TA):TE:=fun σ H Q=>t σ H fun xs H1=>xs.length<=sizeLine/\∀p,H1 p=none->Q (.ref p) (upd H1 p (.tup xs))
def Z6(t:TA):TE:=fun σ H Q=>t σ H fun xs H1=>xs.length<=sizeLine/\∀p,H1 p=none->Q (.ref p) (upd H1 p (.lst xs))
def Bs{X:Cx}{es:List hX}{t:TA}{pos:Pos}{x1}(h:PA X es t):PE X (.Tuple es x1 pos) (pB t):=by intro pins s σ H Q I hq;refine wpAny_Tuple_spliced (Ad (h pos pins s σ H _ I hq) fun us s1 ⟨xs,H1,I1,r,z,q⟩=>⟨by rw[<-r.length];exact z,?_⟩);have hf:H1 s1.heap.objs.size=none:=I1.hok.fresh (Ae _);refine⟨.ref s1.heap.objs.size,upd H1 s1.heap.objs.size (.tup xs),I1.laid (t':=s1.toks) (fun b u e=>BC _ e) (Ae _) ?_,rfl,q _ hf⟩;exact⟨z,us,r,⟨_,CB _ rfl,rfl,_,rfl⟩⟩
def CO(h:PA X es t):PE X (.List es pos) (Z6 t):=by intro pins s σ H Q I hq;refine wpAny_List_spliced (Ad (h pos pins s σ H _ I hq) fun us s1 ⟨xs,H1,I1,r,z,q⟩=>⟨by rw[<-r.length];exact z,?_⟩);have hf:H1 s1.heap.objs.size=none:=I1.hok.fresh (Ae _);refine⟨.ref s1.heap.objs.size,upd H1 s1.heap.objs.size (.lst xs),I1.laid (t':=s1.toks) (fun b u e=>BC _ e) (Ae _) ?_,rfl,q _ hf⟩;exact⟨z,us,0,r,CB _ rfl⟩
end
abbrev Sp:=List V->Hp->VK->XK->Prop
abbrev Jt:=List Env->Hp->Ya->XK->AD->Ya->Prop
structure Ko(P:qf)(w:qj)(K:tW)(mg:Str->Option AD)(base:qi)(A:rL)(outer:List Env)(s:Ya)(H:Hp):Prop where
 frames:A.frames=some outer
 mod:Mod K mg base
 bs:∀b o,base.get? b=some o->s.heap.get? b=some o/\H b=none
 GV:base.objs.size<=s.heap.objs.size
 Ej:s.heap.FunFrames base outer
 IF:∀b∈Ci outer,H b=none
 hok:Bx P w H s.heap
 bare:rY s.gens
def CE(outer:List Env)(P:qf)(w:qj)(H:Hp)(s:Ya)(Q:VK)(u:AD)(s':Ya):Prop:=
 ∃v H',s'.os=s.os/\rY s'.gens/\Un (Ci outer) [] H H' s.heap s'.heap/\Bx P w H' s'.heap/\RelV v u/\Q v H'
def CR(CX:Jt)(outer:List Env)(P:qf)(w:qj)(H:Hp)(s:Ya)(Q:VK)(E:XK)(r:Result)(s':Ya):Prop:=
 match r with
 |.ok (.ret u)=>CE outer P w H s Q u s'
 |.ok _=>False
 |.error e=>CX outer H s E e s'
structure AY(P:qf)(w:qj)(K:tW)(mg:Str->Option AD)(base:qi)(CX:Jt)(k:Nat)(f:OK)(fd:qk)(ps:List Str)(sp:Sp):Prop where
 len:∀vs H Q E,sp vs H Q E->vs.length=ps.length
 run:∀(A:rL)(outer:List Env)(s:Ya)(H:Hp)(args:Args)(us:List AD)(vs:List V)(Q:VK)(E:XK),Bn k A->Ko P w K mg base A outer s H->tG s fd args (ps.zip us)->Vals vs us->sp vs H Q E->
  rK (ax P w) A (.call (.ref f) args) (CR CX outer P w H s Q E) s
def AY.mono{P:qf}{w:qj}{K:tW}{mg:Str->Option AD}{base:qi}{CX:Jt}{j k:Nat}{f:OK}{fd:qk}{ps:List Str}{sp:Sp}(F:AY P w K mg base CX j f fd ps sp)(h:j<=k):
 AY P w K mg base CX k f fd ps sp:=⟨F.len,fun A outer s H args us vs Q E hr=>F.run A outer s H args us vs Q E (hr.mono h)⟩
variable{mg:Str->Option AD}{base:qi}{outer:List Env}
def Ko.make(e:Ko P w K mg base A outer s H)(C:OK)(us:List AD)(kw:List (Str×AD)):
 Ko P w K mg base (A.under (.builtin "type.__call__" ⟨.ref C::us,kw⟩)) outer s H:=⟨by first|exact e.frames|(simpa[Around.under,Code.envs,Code.isFrame,pushEnvs] using e.frames),e.mod,e.bs,e.GV,e.Ej,e.IF,e.hok,e.bare⟩
section
variable{s':Ya}
def Inv.Tx(I:Inv X pins σ H s):Ko X.prog X.w X.K X.mg X.base X.A X.stack s H:=
 ⟨I.ok.frames,I.ok.mod,I.bs,BJ I.ok.GV I.sz,I.stack,I.Pb,I.hok,I.bare⟩
def Inv.after{Q:VK}(I:Inv X pins σ H s)(h:CE X.stack X.prog X.w H s Q u s'):EP X pins σ Q u s':=by obtain⟨v,H',os,bare,un,hok,r,q⟩:=h;obtain⟨hh,g,d,t,os'⟩:=s';obtain rfl:os'=s.os:=os;exact⟨v,H',I.call (h':=hh) (g':=g) (d':=d) (t':=t) (ch:=[]) un hok bare (fun b z=>absurd z (by simp)),r,q⟩
end
def Nl(sp:Sp)(dvs:List V)(E:XK)(t:TA):TE:=fun σ H Q=>t σ H fun vs H1=>sp (vs++dvs) H1 Q E
def oU(C:OK)(m:Str)(sp:Sp)(dvs:List V)(E:XK)(ta:TE)(t:TA):TE:=fun σ H Q=>ta σ H fun x H1=>∃a dx fs,x=.ref a/\H1 a=some (.ins C dx fs)/\fs.lookup m=none/\
 t σ H1 fun vs H2=>sp (x::(vs++dvs)) H2 Q E
def oR(C:OK)(sp:Sp)(dvs:List V)(E:XK)(t:TA):TE:=fun σ H Q=>t σ H fun vs H1=>∀x dx,H1 x=none->H1 dx=none->dx≠x->
 sp (.ref x::(vs++dvs)) (upd (upd H1 dx (.own x)) x (.ins C dx [])) (fun v H2=>v=.BB/\Q (.ref x) H2) E
def Binds(K:tW)(fd:qk)(ps:List Str)(ds:List AD):Prop:=
 ∀(s:Ya)(us:List AD),K.In s.heap->(us++ds).length=ps.length->tG s fd ⟨us,[]⟩ (ps.zip (us++ds))
variable{fd:qk}{ps:List Str}
def Binds.all(h:∀us:List AD,us.length=ps.length->bindArgs fd ⟨us,[]⟩=pure (ps.zip us)):Binds K fd ps []:=fun s us _ hl=>by rw[Cp] at hl⊢;exact .of_eq (h us hl)
def Passes(CX:Jt)(X:Cx)(E:XK):Prop:=∀(pins:List (OK×Obj))(σ:St)(H:Hp)(s:Ya)(e:AD)(s':Ya),Inv X pins σ H s->CX X.stack H s E e s'->X.xe e s'
variable{CX:Jt}{sp:Sp}
section
variable{dvs:List V}{ds:List AD}{E:XK}{m:Str}{o:hX}{es:List hX}{t:TA}
def Py{Q:VK}{vs:List V}(F:AY X.prog X.w X.K X.mg X.base CX k f fd ps sp)(hr:Bn k X.A)(hb:Binds X.K fd ps ds)(hd:Vals dvs ds)(hx:Passes CX X E)
 (I:Inv X pins σ H s)(r:Vals vs us)(h:sp (vs++dvs) H Q E):bt (ax X.prog X.w) X.A (call (.ref f) us) (EP X pins σ Q) X.xe s:=by
 have r2:Vals (vs++dvs) (us++ds):=r.append hd;have hl:(us++ds).length=ps.length:=by rw[<-r2.length];exact F.len _ _ _ _ h
 refine Mu (LH (F.run X.A X.stack s H ⟨us,[]⟩ (us++ds) (vs++dvs) Q E hr I.Tx (hb s us I.BX hl) r2 h) fun r s' hq=>?_)
 cases r with
 |error e=>exact hx pins σ H s e s' I hq
 |ok fl=>
  cases fl with
  |ret u=>exact I.after hq
  |next=>exact False.elim hq
  |brk=>exact False.elim hq
  |cont=>exact False.elim hq
def Ca(F:AY X.prog X.w X.K X.mg X.base CX k f fd ps sp)(hr:Bn k X.A)(hg:Gl X x)(hm:X.mg x=some (.ref f))(hk:rC X.K (.ref f)=true)(hb:Binds X.K fd ps ds)(hd:Vals dvs ds)(hx:Passes CX X E)
 (ha:PA X (e::es) t)(hdb:(x==("__debug__" :Str))=false:=by decide)(he:dq (e::es) X.env=(false,qh e X.env)::dq es X.env:=by rfl)(hpl:(qt pos (dq es X.env)).any (·.1)=false:=by rfl):
 PE X (.Call (.Name x p) (e::es) [] pos) (Nl sp dvs E t):=by
 intro pins s σ H Q I h;refine MN (LZ I hg hm ?_ hdb);refine VG (h₀:=X.base) I.ok.mod.OH hk (Ad (ha pos pins s σ H _ I h) fun us s1 ⟨vs,H1,I1,r,q⟩=>⟨I1.BX,?_⟩) he hpl;exact Py F hr hb hd hx I1 r q
def XN(F:AY X.prog X.w X.K X.mg X.base CX k f fd ps sp)(hr:Bn k X.A)(hg:Gl X x)(hm:X.mg x=some (.ref f))(hk:rC X.K (.ref f)=true)(hb:Binds X.K fd ps ds)(hd:Vals dvs ds)(hx:Passes CX X E)
 (hdb:(x==("__debug__" :Str))=false:=by decide):PE X (.Call (.Name x p) [] [] pos) (Nl sp dvs E Lw):=by
 intro pins s σ H Q I h;refine MN (LZ I hg hm ?_ hdb);exact VD I.BX hk (Py (us:=[]) F hr hb hd hx I .nil h)
end
variable{apos:Pos}
section
variable{dvs:List V}{ds:List AD}{E:XK}{m:Str}{o:hX}{es:List hX}{t:TA}
def Dy(he:PE X o ta)(c:IA X.K C)(hm:Meth X.K C m f)(F:AY X.prog X.w X.K X.mg X.base CX k f fd ps sp)(hr:Bn k X.A)(hb:Binds X.K fd ps ds)(hd:Vals dvs ds)(hx:Passes CX X E)(ha:PA X (e::es) t)
 (hst:dq (e::es) X.env=(false,qh e X.env)::dq es X.env:=by rfl)(hpl:(qt pos (dq es X.env)).any (·.1)=false:=by rfl)
 (ht:qh (.Call (.Attribute o m apos) (e::es) [] pos) X.env=(do
  let ov<-qh o X.env
  standAt apos.atName
  let(f,first)<-sO [ov] (sg ov m pl)
  callWith pos f first (qt pos (dq (e::es) X.env)) (rh pos (rG [] X.env))):=by rfl):
 PE X (.Call (.Attribute o m apos) (e::es) [] pos) (oU C m sp dvs E ta t):=by
 intro pins s σ H Q I h;refine methodCall_KW (pl:=pl) (Ad (he pins s σ H _ I h) fun u s1 ⟨x,H1,I1,rx,a,dx,fs,ex,ea,l,q⟩=>?_) ht;subst ex;obtain rfl:u=Value.ref a:=rx;refine dG I1 ea c hm l ?_;refine VG (first:=[.ref a]) (h₀:=X.base) I.ok.mod.OH hm.kp (Ad (ha pos pins s1 σ H1 _ I1 q) fun us s2 ⟨vs,H2,I2,r,q2⟩=>⟨I2.BX,?_⟩) hst hpl;exact Py (us:=.ref a::us) (vs:=.ref a::vs) F hr hb hd hx I2 (.cons rfl r) q2
structure Mk(K:tW)(C f:OK):Prop where
 makes:makesIn K C=true
 init:ql K (.ref C) "__init__" =some (some (.ref f))
 fn:isFn K (.ref f)=true
 kp:rC K (.ref C)=true
def iI{Q:VK}{vs:List V}(M:Mk X.K C f)(F:AY X.prog X.w X.K X.mg X.base CX k f fd ps sp)(hr:Bn (k+1) X.A)(hb:Binds X.K fd ps ds)(hd:Vals dvs ds)
 (hx:Passes CX X E)(I:Inv X pins σ H s)(r:Vals vs us)
 (h:∀x dx,H x=none->H dx=none->dx≠x->sp (.ref x::(vs++dvs)) (upd (upd H dx (.own x)) x (.ins C dx [])) (fun v H2=>v=.BB/\Q (.ref x) H2) E):
 bt (ax X.prog X.w) X.A (call (.ref C) us) (EP X pins σ Q) X.xe s:=by
 have hq:=h (s.heap.objs.size+1) s.heap.objs.size (I.hok.fresh (Eb _)) (I.hok.fresh (Ae _)) (BO (MZ _));have I2:=Inv.made (C:=C) I;have r2:Vals (V.ref (s.heap.objs.size+1)::(vs++dvs)) (Value.ref (s.heap.objs.size+1)::(us++ds)):=.cons rfl (r.append hd);have hl:(Value.ref (s.heap.objs.size+1)::us++ds).length=ps.length:=by have e:=r2.length;rw[F.len _ _ _ _ hq] at e;exact e.symm
 refine Mu (iE (f:=f) I.BX M.makes M.init (Fd.mp M.fn) (LH (F.run _ X.stack _ _ ⟨Value.ref (s.heap.objs.size+1)::us,[]⟩ (Value.ref (s.heap.objs.size+1)::(us++ds)) _ _ E (hr.make C us [])
  (I2.Tx.make C us []) (hb _ (Value.ref (s.heap.objs.size+1)::us) I2.BX hl) r2 hq) fun r s' hq'=>?_))
 cases r with
 |error e=>exact hx pins σ _ _ e s' I2 hq'
 |ok fl=>
  cases fl with
  |ret u=>obtain⟨v,H',I3,rv,ev,q3⟩:=I2.after hq';subst ev;exact⟨rv,⟨V.ref (s.heap.objs.size+1),H',I3,rfl,q3⟩⟩
  |next=>exact False.elim hq'
  |brk=>exact False.elim hq'
  |cont=>exact False.elim hq'
def iB(M:Mk X.K C f)(F:AY X.prog X.w X.K X.mg X.base CX k f fd ps sp)(hr:Bn (k+1) X.A)(hg:Gl X x)(hm:X.mg x=some (.ref C))(hb:Binds X.K fd ps ds)(hd:Vals dvs ds)(hx:Passes CX X E)
 (hdb:(x==("__debug__" :Str))=false:=by decide):PE X (.Call (.Name x p) [] [] pos) (oR C sp dvs E Lw):=by
 intro pins s σ H Q I h;refine MN (LZ I hg hm ?_ hdb);exact VD I.BX M.kp (iI (us:=[]) M F hr hb hd hx I .nil h)
end
structure A9(N P:List Str)(sc:sV):Prop where
 kind:sc.kind=.function
 co:sc.isCoroutine=false
 gen:sc.isGenerator=false
 nd:N.Nodup
 pre:N.take P.length=P
 par:∀x∈P,sc.names.lookup x=some .local\/sc.names.lookup x=some .cell
 kh:∀y∈sc.names,y.2≠.free
def Vx{kindOf:Str->Option tP}{x:Str}:∀{binds:List (Str×AD)}{m:Str->Option AD},(∀v,(x,v)∉binds)->bindL kindOf binds m x=m x
 |[],_,_=>rfl
 |(n,v)::r,m,h=>by
  unfold bindL;rw[Vx fun w hw=>h w (Cn _ hw)];split
  ·have:x≠n:=by rintro rfl;exact h v Co
   simp[this]
  ·rfl
def WK{kindOf:Str->Option tP}{x:Str}:∀{binds:List (Str×AD)}{m:Str->Option AD},(∀v,(x,v)∉binds)->bindC kindOf binds m x=m x
 |[],_,_=>rfl
 |(n,v)::r,m,h=>by
  unfold bindC;rw[WK fun w hw=>h w (Cn _ hw)];split
  ·rfl
  ·have:x≠n:=by rintro rfl;exact h v Co
   simp[this]
theorem Vu{kindOf:Str->Option tP}{x:Str}{v:AD}:∀{P:List Str}{vs:List AD}{i:Nat}{m:Str->Option AD},P.Nodup->P[i]? =some x->vs[i]? =some v->kindOf x=some .local->
 bindL kindOf (P.zip vs) m x=some v
 |[],_,_,_,_,h,_,_=>by simp at h
 |_::_,[],_,_,_,_,h,_=>by simp at h
 |p::P,w::vs,0,m,nd,h1,h2,hk=>by simp at h1 h2;subst h1;subst h2;show bindL kindOf ((p,w)::P.zip vs) m p=_;unfold bindL;rw[Vx fun v hv=>(Ea.mp nd).1 (List.of_mem_zip hv).1,AG hk];simp
 |p::P,w::vs,i+1,m,nd,h1,h2,hk=>by show bindL kindOf ((p,w)::P.zip vs) m x=_;unfold bindL;exact Vu (i:=i) (Ea.mp nd).2 (by simpa using h1) (by simpa using h2) hk
theorem WM{kindOf:Str->Option tP}{x:Str}{v:AD}:∀{P:List Str}{vs:List AD}{i:Nat}{m:Str->Option AD},P.Nodup->P[i]? =some x->vs[i]? =some v->kindOf x≠some .local->
 bindC kindOf (P.zip vs) m x=some v
 |[],_,_,_,_,h,_,_=>by simp at h
 |_::_,[],_,_,_,_,h,_=>by simp at h
 |p::P,w::vs,0,m,nd,h1,h2,hk=>by simp at h1 h2;subst h1;subst h2;show bindC kindOf ((p,w)::P.zip vs) m p=_;unfold bindC;rw[WK fun v hv=>(Ea.mp nd).1 (List.of_mem_zip hv).1,AF hk];simp
 |p::P,w::vs,i+1,m,nd,h1,h2,hk=>by show bindC kindOf ((p,w)::P.zip vs) m x=_;unfold bindC;exact WM (i:=i) (Ea.mp nd).2 (by simpa using h1) (by simpa using h2) hk
noncomputable def start(N:List Str)(vs:List V):St:=vs.map some++List.replicate (N.length-vs.length) none
noncomputable def Jf(CX:Jt)(P:qf)(w:qj)(K:tW)(mg:Str->Option AD)(base:qi)(N:List Str)(qual:Str)(scope:sV)(f:OK)(cd:AD)(A:rL)(outer:List Env)(s:Ya)(H:Hp)(E:XK):Cx where
 prog:=P
 w:=w
 K:=K
 mg:=mg
 base:=base
 A:=A.deeper (rS qual scope s.heap.objs.size f cd)
 N:=N
 s₀:=s
 H₀:=H
 env:=rS qual scope s.heap.objs.size f cd
 outer:=outer
 stack:=rS qual scope s.heap.objs.size f cd::outer
 ex:=[]
 calm:=true
 fn:=fun _=>true
 pn:=[]
 xe:=fun e s'=>bt (ax P w) (A.deeper (rS qual scope s.heap.objs.size f cd)) (leaving (rS qual scope s.heap.objs.size f cd) e) (fun _ s''=>CX outer H s E e s'') (fun e' s''=>CX outer H s E e' s'') s'
def W4{sc:sV}(h:sc.names.lookup x=some .cell):∃c,(cellsFrom n sc.names []).lookup x=some c:=by have q:=cellsFrom_some sc.names n [] (.inl h);exact Option.isSome_iff_exists.mp q
variable{qual:Str}{scope:sV}{cd:AD}
def fV{s1:Ya}{E:XK}{vs:List V}
 (S:A9 N ps scope)(hd:A.handled=none)(e0:Ko P w K mg base A outer s H)(hl:vs.length=ps.length)(r:Vals vs us)
 (x:InCallC s s.heap.objs.size (bindL (rS qual scope s.heap.objs.size f cd).kindOf (ps.zip us) fun _=>none) (cellsFrom (s.heap.objs.size+1) scope.names []) (bindC (rS qual scope s.heap.objs.size f cd).kindOf (ps.zip us) fun _=>none) s1):
 Inv (Jf CX P w K mg base N qual scope f cd A outer s H E) [] (start N vs) H s1:=by
 have hpl:ps.length<=N.length:=by have:=BD List.length S.pre;rw[Be] at this;lia
 obtain⟨h1,tk,rfl,hk⟩:=x.done;have Jn:∀b:OK,b∉(Jf CX P w K mg base N qual scope f cd A outer s H E).ex:=fun b z=>absurd (show b∈([]:List OK) from z) (by simp);refine⟨⟨e0.mod,S.kind,rfl,rfl,Ae _,fun y z c h1 h2=>?_,fun y hy=>?_,fun y c _ h=>?_,fun _=>hd,Around.frames_deeper e0.frames,.inr ⟨rfl,rfl⟩,fun b z=>absurd z (Jn b),e0.bs,e0.GV,fun b _ _=>Jn b,fun b z=>absurd z (Jn b),e0.Ej,e0.IF⟩,
  rfl,e0.bare,Un.kept hk,⟨_,x.toInCall.ns,fun i y v h1 h2 h3=>?_⟩,fun y c h=>⟨_,x.cell y c h⟩,e0.hok.fresh (Ae _),fun y c h=>?_,fun p hp=>absurd (show p∈([]:List (OK×Obj)) from hp) (by simp),e0.hok.kept hk,?_⟩
 ·exact name_of_addr x.apart (JA h1) (JA h2)
 ·have hy:scope.names.lookup y=some .cell\/scope.names.lookup y=some .free:=hy;rcases hy with hy|hy
  ·exact W4 hy
  ·exact absurd rfl (S.kh _ (JA hy))
 ·exact F4 (x.above y c (JA h))
 ·have hi:i<vs.length:=by
   unfold start at h2;by_cases hi:i<vs.length
   ·exact hi
   ·rw[Cj (by simpa using hi)] at h2;rw[List.getElem?_replicate] at h2;split at h2<;>cases h2
  have ha:vs[i]? =some v:=by
   unfold start at h2;rw[C2 (by simpa using hi),Az] at h2
   cases e:vs[i]?with
   |none=>rw[e] at h2;cases h2
   |some a=>rw[e] at h2;cases h2;rfl
  obtain⟨u,hu,rv⟩:=r.get ha;have hp:ps[i]? =some y:=by rw[<-S.pre,List.getElem?_take_of_lt (by lia)];exact h1
  have ndP:ps.Nodup:=by rw[<-S.pre];exact S.nd.sublist (List.take_sublist _ _)
  refine⟨u,rv,?_⟩;rcases S.par y (CA hp) with k|k
  ·exact .inl ⟨k,Vu ndP hp hu k⟩
  ·obtain⟨c,e⟩:=W4 (n:=s.heap.objs.size+1) k;refine .inr ⟨.inl k,c,e,?_⟩;have q:=x.cell y c e;rw[WM ndP hp hu (by show scope.names.lookup y≠_;rw[k];decide)] at q;exact q
 ·exact e0.hok.fresh (F4 (x.above y c (JA h)))
 ·unfold start;show _=N.length;rw[An,AJ,List.length_replicate]
  lia
variable{od:Option OK}{osl:Array (Option AD)}
def ZT{params:Arguments}{dV kV doc pm cdv ct oc:AD}{an:Option OK}
 (lk:K.lookup f=some ⟨oc,od,.func (fnOf name qual params body scope dV kV doc pm an cdv ct),osl⟩)(hcd:codeIn K cdv qual=true)(S:A9 N ps scope)
 (len:∀vs H Q E,sp vs H Q E->vs.length=ps.length)
 (hbody:∀(A:rL)(outer:List Env)(s:Ya)(H:Hp)(vs:List V)(Q:VK)(E:XK),Bn k (A.deeper (rS qual scope s.heap.objs.size f cdv))->sp vs H Q E->
  ∃t,EW (Jf CX P w K mg base N qual scope f cdv A outer s H E) body t/\t {nx:=fun _ H'=>Q .BB H',rt:=Q} (start N vs) H):
 AY P w K mg base CX (k+1) f (fnOf name qual params body scope dV kV doc pm an cdv ct) ps sp:=by
 refine⟨len,fun A outer s H args us vs Q E hr e0 hb r hsp=>?_⟩;have hl:=len _ _ _ _ hsp;have KX:K.In s.heap:=e0.mod.OH.keeps fun b o e=>(e0.bs b o e).1;have lim:s.heap.NoLimit:=e0.mod.nolimit.keeps fun b o e=>(e0.bs b o e).1;have hkind:∀y∈ps.zip us,scope.names.lookup y.1=some .local\/(scope.names.lookup y.1=some .cell/\((cellsFrom (s.heap.objs.size+1) scope.names []).lookup y.1).isSome=true):=fun⟨n,v⟩ hy=>by
  rcases S.par n (List.of_mem_zip hy).1 with q|q
  ·exact .inl q
  ·exact .inr ⟨q,cellsFrom_some _ _ _ (.inl q)⟩
 refine codeAny_call_function hr.depth (KX _ _ lk) rfl S.co S.gen rfl (codeRec_of KX hcd) (hb _ _ _ _ ?_);refine wpAny_newFunctionEnv_cells S.kind hkind fun env he s1 x=>?_;subst he;refine⟨lim.keeps x.toInCall.keep,codeAny_func ?_⟩;obtain⟨t,ht,hq⟩:=hbody A outer s H vs Q E (hr.deeper _) hsp;have I:Inv (Jf CX P w K mg base N qual scope f cdv A outer s H E) [] (start N vs) H s1:=fV S hr.hd e0 hl r x;refine C8 (ht [] s1 (start N vs) H _ I hq) (fun fl s' hs=>?_) fun e s' hs=>hs;have fin:∀{σ':St}{H':Hp}{v:V}{u:AD},Inv (Jf CX P w K mg base N qual scope f cdv A outer s H E) [] σ' H' s'->RelV v u->Q v H'->CE outer P w H s Q u s':=
  fun{σ' H' v u} J rv q=>⟨v,H',J.os,J.bare,J.base,J.hok,rv,q⟩
 cases fl with
 |ret u=>obtain⟨v,σ',H',J,rv,q⟩:=hs;exact fin J rv q
 |next=>obtain⟨σ',H',J,q⟩:=hs;exact fin (v:=V.BB) (u:=Value.none) J rfl q
 |brk=>obtain⟨_,_,_,q⟩:=hs;exact False.elim q
 |cont=>obtain⟨_,_,_,q⟩:=hs;exact False.elim q
section
variable{es:List hX}{t:TA}{id:String}{r:List V->Hp->VK->Prop}
def Qu(r:List V->Hp->VK->Prop)(t:TA):TE:=fun σ H Q=>t σ H fun vs H1=>r vs H1 Q
def BZ(hc:Du X (.builtin id) r)(hg:Gl X x)(hm:X.mg x=none)(hv:qm x=some (.builtin id))(ha:PA X (e::es) t)(hn:x≠ "__name__" :=by decide)(hdb:(x==("__debug__" :Str))=false:=by decide)
 (he:dq (e::es) X.env=(false,qh e X.env)::dq es X.env:=by rfl)(hpl:(qt pos (dq es X.env)).any (·.1)=false:=by rfl):PE X (.Call (.Name x p) (e::es) [] pos) (Qu r t):=by
 intro pins s σ H Q I h;refine MN (Lb I hg hm hv ?_ hn hdb);exact PyProof.Rows.callWith_builtin1 (Ad (ha pos pins s σ H _ I h) fun us s1 ⟨vs,H1,I1,r1,q1⟩=>hc pins s1 σ H1 vs us Q I1 r1 q1) he hpl
end
variable{T:String}
section
variable{es:List hX}{t:TA}{id:String}{r:List V->Hp->VK->Prop}
def Gn(hc:Du X (.type T) r)(hg:Gl X x)(hm:X.mg x=none)(hv:qm x=some (.type T))(ha:PA X (e::es) t)(hn:x≠ "__name__" :=by decide)(hdb:(x==("__debug__" :Str))=false:=by decide)
 (he:dq (e::es) X.env=(false,qh e X.env)::dq es X.env:=by rfl)(hpl:(qt pos (dq es X.env)).any (·.1)=false:=by rfl):PE X (.Call (.Name x p) (e::es) [] pos) (Qu r t):=by
 intro pins s σ H Q I h;refine MN (Lb I hg hm hv ?_ hn hdb);exact Qy (Ad (ha pos pins s σ H _ I h) fun us s1 ⟨vs,H1,I1,r1,q1⟩=>hc pins s1 σ H1 vs us Q I1 r1 q1) he hpl
end
def ju{t:OK}{vs ws:List AD}(ht:sj s.heap t vs.toArray)(hb:sj s.heap b ws.toArray)(hv:vs≠[])
 (h1:ws=[]->Q (.ref t) s)(h2:ws≠[]->Q (.ref s.heap.objs.size) {s with heap:=s.heap.push {cls:=.type "tuple",data:=.seq (vs++ws).toArray}})
 (hsz:vs.length+ws.length<=sizeLine):bt (ax prog w) A (qy .Add (.ref t) (.ref b)) Q E s:=by
 obtain⟨⟨cls,dd,data,sl⟩,ho,hc,n,hd⟩:=id ht;obtain⟨⟨cls2,dd2,data2,sl2⟩,ho2,hc2,n2,hd2⟩:=id hb;simp only at hc hd hc2 hd2;subst hc hd hc2 hd2;have e:vs.toArray++ws.toArray=(vs++ws).toArray:=by simp
 by_cases hw:ws=[]
 ·exact concat_meets ⟨_,ho,rfl⟩ ⟨_,ho2,rfl⟩ noFill_tuple_add seq_tuple_add tj tm (tu _ _)
   (tuple_addW1 t b vs.toArray ws.toArray n n2 dd dd2 sl sl2 (by simpa using hv) (by simp[hw])) ⟨ho,ho2,h1 hw⟩
 ·refine concat_meets ⟨_,ho,rfl⟩ ⟨_,ho2,rfl⟩ noFill_tuple_add seq_tuple_add tj tm (tu _ _)
   (tuple_addW2 t b vs.toArray ws.toArray n n2 dd dd2 sl sl2 (by simpa using hv) (by simpa using hw) (by rw[CS,CS];exact hsz)) ⟨ho,ho2,?_⟩;rw[e];exact h2 hw
noncomputable def Ax(n d:Nat):Option Int->Nat
 |none=>d
 |some v=>if v<0 then(v+(n:Int)).toNat else min v.toNat n
def XG(n d:Nat):Ax n d none=d:=rfl
def JM(n d k:Nat):Ax n d (some (k:Int))=min k n:=by show(if(k:Int)<0 then((k:Int)+(n:Int)).toNat else min (k:Int).toNat n)=min k n;rw[AF (by lia),HU]
def kX(n d:Nat)(hd:d<=n)(o:Option Int):Ax n d o<=n:=by
 cases o with
 |none=>exact hd
 |some v=>
  show(if v<0 then(v+(n:Int)).toNat else min v.toNat n)<=n;by_cases hv:v<0
  ·rw[AG hv];lia
  ·rw[AF hv];exact Nat.min_le_right _ _
def XX(v:Int)(n d:Nat):(if v<0 then max (v+(n:Int)) 0 else min v (n:Int))=((Ax n d (some v):Nat):Int):=by
 show(if v<0 then max (v+(n:Int)) 0 else min v (n:Int))=(((if v<0 then(v+(n:Int)).toNat else min v.toNat n):Nat):Int);by_cases hv:v<0
 ·simp only[AG hv];lia
 ·simp only[AF hv];lia
def cb(lo hi:Option Int)(n:Nat):Builtin.Slice.sliceAdjust lo hi 1 (n:Int)=(((Ax n 0 lo:Nat):Int),((Ax n n hi:Nat):Int)):=by
 have h1:¬((1:Int)<0):=by lia
 unfold Builtin.Slice.sliceAdjust;simp only[h1,Bw];refine Prod.ext ?_ ?_
 ·cases lo with
  |none=>rfl
  |some v=>exact XX v n 0
 ·cases hi with
  |none=>rfl
  |some v=>exact XX v n n
def dN(i j:Nat):Builtin.Slice.slicePlaces (i:Int) (j:Int) 1=j-i:=by
 unfold Builtin.Slice.slicePlaces;have h1:(1:Int)>0:=by lia
 simp only[h1,CJ,Int.ediv_one];split<;>lia
def Vf{v:AD}{o:Option Int}{Q:Option Int->Ya->Prop}(p:sG v o)(h:Q o s):bt (ax prog w) A (Builtin.Slice.slicePartIndex v) Q E s:=by
 cases p with
 |none=>exact slicePart_none h
 |int i t=>exact slicePart_int h
def VO{sl:OK}{vl vu:AD}{lo hi:Option Int}{Q:Int×Int×Nat->Ya->Prop}(hs:s.heap.IsSliceOf sl vl vu .none)(pl:sG vl lo)(pu:sG vu hi)
 (h:Q (((Ax n 0 lo:Nat):Int),1,Ax n n hi-Ax n 0 lo) s):bt (ax prog w) A (Builtin.Slice.sliceApplied (.ref sl) (pure (n:Int))) Q E s:=by
 obtain⟨os,hos,hcs,hds⟩:=id hs;unfold Builtin.Slice.sliceApplied Builtin.Slice.sliceFields;refine AK (AK (J9 hos hds (x:=vl) rfl (AK (J9 hos hds (x:=vu) rfl (AK (J9 hos hds (x:=.none) rfl (Ac ?_)))))));refine AK (slicePart_none ?_);show bt _ _ (if((1:Int)==0)=true then _ else _) _ _ s;rw[AF (by decide)];refine AK (Vf pl (AK (Vf pu (AK (Ac ?_)))));show bt _ _ (match Builtin.Slice.sliceAdjust lo hi 1 (n:Int) with|(lo,hi)=>pure (lo,(1:Int),Builtin.Slice.slicePlaces lo hi 1)) _ _ s;rw[cb lo hi n];show bt _ _ (pure (((Ax n 0 lo:Nat):Int),(1:Int),Builtin.Slice.slicePlaces ((Ax n 0 lo:Nat):Int) ((Ax n n hi:Nat):Int) 1)) _ _ s;rw[dN];exact Ac h
def gX(xs:Array AD)(i k:Nat):((List.range k).filterMap fun(m:Nat)=>xs[((i:Int)+(m:Int)*1).toNat]?).toArray=((xs.toList.drop i).take k).toArray:=by
 have e:(fun(m:Nat)=>xs[((i:Int)+(m:Int)*1).toNat]?)=fun m=>xs[i+m]? :=by
  funext m;have:((i:Int)+(m:Int)*1).toNat=i+m:=by lia
  rw[this]
 rw[e];have:=pick_run xs i k;rw[List.filterMap_map] at this;have e2:((fun x=>xs[x]?)∘fun x=>i+x)=fun m=>xs[i+m]? :=rfl;rw[e2] at this;rw[this]
variable{items:Array AD}
def bY{t sl:OK}{vl vu:AD}{lo hi:Option Int}(ht:sj s.heap t items)(hs:s.heap.IsSliceOf sl vl vu .none)(pl:sG vl lo)(pu:sG vu hi)
 (hw:¬(Ax items.size 0 lo=0/\Ax items.size items.size hi=items.size))
 (h:Q (.ref s.heap.objs.size) {s with heap:=s.heap.push {cls:=.type "tuple",data:=.seq ((items.toList.drop (Ax items.size 0 lo)).take (Ax items.size items.size hi-Ax items.size 0 lo)).toArray}})
 (hsz:items.size<=sizeLine):bt (ax prog w) A (rV (.ref t) (.ref sl)) Q E s:=by
 have htake:sizeOk (.seq ((items.toList.drop (Ax items.size 0 lo)).take (Ax items.size items.size hi-Ax items.size 0 lo)).toArray):=by
  show((items.toList.drop (Ax items.size 0 lo)).take (Ax items.size items.size hi-Ax items.size 0 lo)).toArray.size<=sizeLine;rw[CS,Be,Dr,Ey]
  lia
 have hj:Ax items.size items.size hi<=items.size:=kX _ _ (Ae _) hi;obtain⟨os,hos,hcs,hds⟩:=id hs;have hTs:s.TypeIs (.ref sl) "slice" :=⟨os,hos,hcs⟩;unfold rV;try with_reducible refine Fb ?_
 first|refine AK (Ac ?_)|skip
 refine AK (wpAny_sequenceKey ht.typeIs (by decide) ?_);refine AK (Ux (name:=Str.ofString "__getitem__") ht.typeIs ME
  (MX ME ht.typeIs entry_tuple_getitem ?_ (args_tuple_getitem _ _)));show bt _ _ (Builtin.Tuple.tupleItemsOf (.ref t)>>=_) _ _ s;refine AK (tupleItemsOf_ ht ?_);refine AK (Mn hTs ?_);rw[AG (by decide)];refine AK (VO hs pl pu ?_);have hno:¬((((Ax items.size 0 lo:Nat):Int)==0&&(1:Int)==1&&(Ax items.size items.size hi-Ax items.size 0 lo)==items.size)=true):=by
  intro q;rw[FZ,FZ] at q;have q1:((Ax items.size 0 lo:Nat):Int)=0:=eq_of_beq q.1.1;have q2:Ax items.size items.size hi-Ax items.size 0 lo=items.size:=eq_of_beq q.2;exact hw ⟨by lia,by lia⟩
 show bt _ _ (if(((Ax items.size 0 lo:Nat):Int)==0&&(1:Int)==1&&(Ax items.size items.size hi-Ax items.size 0 lo)==items.size)=true then _ else _) _ _ s;rw[AF hno,gX];first
  |exact AK (m:=Builtin.Tuple.tupleExact _) (IQ (Ac ⟨_,rfl,Ac h⟩) htake)
  |exact AK (m:=Builtin.Tuple.tupleExact _) (IQ (AK (Ac (Ac ⟨_,rfl,Ac h⟩))) htake)
  |exact AK (AK (m:=Builtin.Tuple.tupleExact _) (IQ (Ac (Ac ⟨_,rfl,Ac h⟩)) htake))
  |exact AK (AK (m:=Builtin.Tuple.tupleExact _) (IQ (Ac ⟨_,rfl,Ac h⟩) htake))
abbrev TO:=St->Hp->(Option Int->Hp->Prop)->Prop
def PO(X:Cx)(e:Option hX)(t:TO):Prop:=
 ∀(pins:List (OK×Obj))(s:Ya)(σ:St)(H:Hp)(Q:Option Int->Hp->Prop),Inv X pins σ H s->t σ H Q->
  bt (ax X.prog X.w) X.A (evalPart e X.env) (fun u s'=>∃o H',Inv X pins σ H' s'/\sG u o/\Q o H') X.xe s
def je:TO:=fun _ H Q=>Q none H
def oV(t:TE):TO:=fun σ H Q=>t σ H fun x H1=>∃i,x=.int i/\Q (some i) H1
section
variable{lo hi:Option hX}{tl th:TO}{p2:Pos}
def JS:PO X none je:=by intro pins s σ H Q I h;rw[evalPart_none];exact Ac ⟨none,H,I,.none,h⟩
def DF(h:PE X e te):PO X (some e) (oV te):=by intro pins s σ H Q I hw;rw[evalPart_some];refine Ad (h pins s σ H _ I hw) fun u s1 ⟨x,H1,I1,r1,q1⟩=>?_;obtain⟨i,rfl,q⟩:=q1;obtain⟨t,rfl⟩:=r1;exact⟨some i,H1,I1,.int i t,q⟩
def K1(X:Cx)(r:V->Option Int->Option Int->Hp->VK->Prop):Prop:=
 ∀(pins:List (OK×Obj))(s:Ya)(σ:St)(H:Hp)(x:V)(v vl vu:AD)(lo hi:Option Int)(sl:OK)(Q:VK),Inv X pins σ H s->RelV x v->s.heap.IsSliceOf sl vl vu .none->sG vl lo->sG vu hi->r x lo hi H Q->
  ∃T id,typeLookup (.type T) "__getitem__" =pure (some (.builtin id))/\s.TypeIs v T/\bt (ax X.prog X.w) X.A (rV v (.ref sl)) (EP X pins σ Q) X.xe s
def qS(r:V->Option Int->Option Int->Hp->VK->Prop)(te:TE)(tl th:TO):TE:=fun σ H Q=>te σ H fun x H1=>tl σ H1 fun l H2=>th σ H2 fun u H3=>r x l u H3 Q
def Ed{r:V->Option Int->Option Int->Hp->VK->Prop}(hr:K1 X r)(he:PE X e te)(hl:PO X lo tl)(hu:PO X hi th):PE X (.Subscript e (.Slice lo hi none p2) pos) (qS r te tl th):=by intro pins s σ H Q I h;refine Subscript_ (Ad (he pins s σ H _ I h) fun v s1 ⟨x,H1,I1,r1,q1⟩=>?_);refine wpAny_Slice (Ad (hl pins s1 σ H1 _ I1 q1) fun vl s2 ⟨l,H2,I2,pl,q2⟩=>Ad (hu pins s2 σ H2 _ I2 q2) fun vu s3 ⟨u,H3,I3,pu,q3⟩=>?_);rw[evalPart_none];refine Ac ?_;have I4:Inv X pins σ H3 {s3 with heap:=s3.heap.push {cls:=.type "slice",data:=.fields #[vl,vu,.none]}}:=I3.kept (t':=s3.toks) fun b ob q=>BC _ q;obtain⟨T,id,hT,ht,hg⟩:=hr pins {s3 with heap:=s3.heap.push {cls:=.type "slice",data:=.fields #[vl,vu,.none]}} σ H3 x v vl vu l u s3.heap.objs.size Q I4 r1 (Heap.IsSliceOf.new ..) pl pu q3;show bt (ax X.prog X.w) X.A (tS e (.Slice lo hi none p2) v (.ref s3.heap.objs.size)) (EP X pins σ Q) X.xe {s3 with heap:=s3.heap.push {cls:=.type "slice",data:=.fields #[vl,vu,.none]}};exact tail_any (ops:=[.ref s3.heap.objs.size,v]) ht hT hg (by with_unfolding_all rfl)
def CP(xs:List V)(lo hi:Option Int):List V:=(xs.drop (Ax xs.length 0 lo)).take (Ax xs.length xs.length hi-Ax xs.length 0 lo)
def VZ(xs:List V)(lo hi:Option Int):(CP xs lo hi).length<=xs.length:=by
 unfold CP;rw[Be,Dr]
 lia
def aP(K:tW):V->Option Int->Option Int->Hp->VK->Prop:=fun x lo hi H Q=>∃a xs,x=.ref a/\AS K H a xs/\
 ¬(Ax xs.length 0 lo=0/\Ax xs.length xs.length hi=xs.length)/\∀p,H p=none->Q (.ref p) (upd H p (.tup (CP xs lo hi)))
def mQ:K1 X (aP X.K):=by
 intro pins s σ H x v vl vu lo hi sl Q I rx hs pl pu h;obtain⟨a,xs,rfl,hx,hw,q⟩:=h;cases rx;obtain⟨AX,r,ht,hz⟩:=I.tuple hx;have hlen:AX.toArray.size=xs.length:=by rw[CS];exact r.length.symm
 refine⟨"tuple",_,ME.lookup,ht.typeIs,?_⟩;refine bY ht hs pl pu (by rw[hlen];exact hw) ?_ (by rw[hlen];exact hz);rw[hlen];refine⟨.ref s.heap.objs.size,_,I.laid (t':=s.toks) (o:=.tup (CP xs lo hi)) (fun b ob q=>BC _ q) (Ae _) ?_,rfl,q _ (I.hok.fresh (Ae _))⟩;exact⟨BJ (VZ xs lo hi) hz,_,(r.drop (Ax xs.length 0 lo)).take (Ax xs.length xs.length hi-Ax xs.length 0 lo),IsTup.new _ _⟩
def ZL(K:tW):R2:=fun x y H Q=>∃a b xs ys,x=.ref a/\y=.ref b/\AS K H a xs/\AS K H b ys/\xs≠[]/\xs.length+ys.length<=sizeLine/\
 (ys=[]->Q (.ref a) H)/\(ys≠[]->∀p,H p=none->Q (.ref p) (upd H p (.tup (xs++ys))))
def Vals.Sv(r:Vals xs us):us=[]↔xs=[]:=by
 cases r with
 |nil=>simp
 |cons _ _=>simp
def iq:Br X (qy .Add) (ZL X.K):=by intro pins s σ H x y v u Q I rx ry h;obtain⟨a,b,xs,ys,rfl,rfl,ha,hb,hx,hz,q1,q2⟩:=h;cases rx;cases ry;obtain⟨AX,r1,p1,_⟩:=I.tuple ha;obtain⟨its2,r2,p2,_⟩:=I.tuple hb;refine ju p1 p2 (fun z=>hx (r1.Sv.mp z)) (fun z=>⟨.ref a,H,I,rfl,q1 (r2.Sv.mp z)⟩) (fun z=>?_) (by rw[<-r1.length,<-r2.length];exact hz);refine⟨.ref s.heap.objs.size,_,I.laid (t':=s.toks) (o:=.tup (xs++ys)) (fun b ob q=>BC _ q) (Ae _) ?_,rfl,q2 (fun w=>z (r2.Sv.mpr w)) _ (I.hok.fresh (Ae _))⟩;exact⟨by rw[An];exact hz,_,r1.append r2,IsTup.new _ _⟩
end
noncomputable def Kz(n:Nat)(i:Int):Option Nat:=if 0<=i then(if i<n then some i.toNat else none) else if-(n:Int)<=i then some (i+n).toNat else none
def Fq{α:Type}(xs:List α)(i:Int):Option α:=(Kz xs.length i).bind fun j=>xs[j]?
def Xu{i:Int}(h:Kz n i=some j):seqIndex? i n=some j/\j<n/\ -(n:Int)<=i/\i<n:=by
 unfold Kz at h;by_cases h0:0<=i
 ·rw[AG h0] at h;by_cases h1:i<n
  ·rw[AG h1] at h;have e:i.toNat=j:=Ag h;exact⟨by rw[seqIndex_of h0 h1,e],by lia,by lia,h1⟩
  ·rw[AF h1] at h;cases h
 ·rw[AF h0] at h;by_cases h1: -(n:Int)<=i
  ·rw[AG h1] at h;have e:(i+n).toNat=j:=Ag h;exact⟨by rw[seqIndex_neg (by lia) h1,e],by lia,h1,by lia⟩
  ·rw[AF h1] at h;cases h
def Sb{xs:List α}{i:Int}{v:α}(h:Fq xs i=some v):∃j,seqIndex? i xs.length=some j/\xs[j]? =some v/\j<xs.length/\ -(xs.length:Int)<=i/\i<xs.length:=by
 unfold Fq at h
 cases e:Kz xs.length i with
 |none=>rw[e] at h;cases h
 |some j=>rw[e] at h;obtain⟨h1,h2,h3,h4⟩:=Xu e;exact⟨j,h1,h,h2,h3,h4⟩
def Bh{xs:List α}{v:α}(h:xs[j]? =some v):Fq xs (j:Int)=some v:=by
 have hj:j<xs.length:=(BY.mp h).1;have e:Kz xs.length (j:Int)=some j:=by unfold Kz;rw[AG (by lia),AG (by lia)];simp
 unfold Fq;rw[e];exact h
def iw(b:hX):Prop:=∀o i,si b false o i=operate [o,i] (rV o i)
def HK(X:Cx)(r:R2):Prop:=
 ∀(value slice:hX)(pins:List (OK×Obj))(s:Ya)(σ:St)(H:Hp)(x y:V)(v u:AD)(Q:VK),Inv X pins σ H s->RelV x v->RelV y u->r x y H Q->
  si slice false v u=operate [v,u] (rV v u)->bt (ax X.prog X.w) X.A (tS value slice v u) (EP X pins σ Q) X.xe s
def N9(X:Cx)(id:String)(r:V->List V->Hp->VK->Prop):Prop:=
 ∀(pins:List (OK×Obj))(s:Ya)(σ:St)(H:Hp)(x:V)(xs:List V)(v:AD)(us:List AD)(Q:VK),Inv X pins σ H s->RelV x v->Vals xs us->r x xs H Q->
  bt (ax X.prog X.w) X.A (call (.builtin id) (v::us)) (EP X pins σ Q) X.xe s
variable{r:V->List V->Hp->VK->Prop}
section
variable{a b:hX}{tb:TE}{o:hX}{es:List hX}{to:TE}{t:TA}{id:String}
def HK.or{r r':R2}(h:HK X r)(h':HK X r'):HK X (fun x y H Q=>r x y H Q\/r' x y H Q):=by
 intro value slice pins s σ H x y v u Q I rx ry q hs;rcases q with q|q
 ·exact h value slice pins s σ H x y v u Q I rx ry q hs
 ·exact h' value slice pins s σ H x y v u Q I rx ry q hs
def Bz{r:R2}(hr:HK X r)(ha:PE X a ta)(hb:PE X b tb)(hs:iw b):PE X (.Subscript a b pos) (FK r ta tb):=by intro pins s σ H Q I h;exact Subscript_ (UE ha hb I h fun v u s2 x y H2 I2 rx ry q=>hr a b pins s2 σ H2 x y v u Q I2 rx ry q (hs _ _))
def QY(K:tW):R2:=fun x y H Q=>∃p xs i v,x=.ref p/\y=.int i/\AL K H p xs/\Fq xs i=some v/\Q v H
def Lp(K:tW):R2:=fun x y H Q=>∃p xs i v,x=.ref p/\y=.int i/\AS K H p xs/\Fq xs i=some v/\Q v H
def aB:R2:=fun x y H Q=>∃z i c,x=.str z/\y=.int i/\z.length<=sizeLine/\Fq z.cps.toList i=some c/\Q (.str ⟨#[c]⟩) H
def Xi:HK X (QY X.K):=by
 intro value slice pins s σ H x y v u Q I rx ry h hs;obtain⟨p,xs,i,z,rfl,rfl,hq,he,q⟩:=h;cases rx;obtain⟨t,rfl⟩:=ry;obtain⟨AX,r,pl,hz⟩:=I.list hq;obtain⟨j,h1,h2,h3,h4,h5⟩:=Sb he;obtain⟨w,ew,rw'⟩:=r.get h2;have hl:=r.length;have hn:=Nb;have fin:EP X pins σ Q w s:=⟨z,H,I,rw',q⟩;by_cases h0:0<=i
 ·have hj:i.toNat=j:=by rw[seqIndex_of h0 h5] at h1;exact Ag h1
  exact item_listR pl.isList h0 (by lia) (by rw[hj];simpa using ew) fin hs
 ·have hj:(i+(AX.toArray.size:Int)).toNat=j:=by rw[seqIndex_neg (by lia) h4] at h1;rw[CS,<-hl];exact Ag h1
  exact subscriptTail_builtinR (x:=w) pl.isList.typeIs slot_list_getitem.lookup
   (wpAny_getItem_list_neg (Q:=fun r s'=>r=w/\EP X pins σ Q r s') pl.isList (by lia) (by rw[CS]<;>lia) (by lia) (by rw[hj];simpa using ew) ⟨rfl,fin⟩) hs
def kz:HK X (Lp X.K):=by
 intro value slice pins s σ H x y v u Q I rx ry h hs;obtain⟨p,xs,i,z,rfl,rfl,hq,he,q⟩:=h;cases rx;obtain⟨t,rfl⟩:=ry;obtain⟨AX,r,pl,hz⟩:=I.tuple hq;obtain⟨j,h1,h2,h3,h4,h5⟩:=Sb he;obtain⟨w,ew,rw'⟩:=r.get h2;have hl:=r.length;have hn:=Nb;have fin:EP X pins σ Q w s:=⟨z,H,I,rw',q⟩;exact subscriptTail_builtinR (x:=w) pl.typeIs slot_tuple_getitem.lookup
  (getItem_tuple (j:=j) (Q:=fun r s'=>r=w/\EP X pins σ Q r s') pl (by lia) (by lia) (by rw[CS,<-hl];exact h1) (by simpa using ew) ⟨rfl,fin⟩) hs
def Pw:HK X aB:=by
 intro value slice pins s σ H x y v u Q I rx ry h hs;obtain⟨z,i,c,rfl,rfl,hz,he,q⟩:=h;obtain⟨t,rfl⟩:=rx;obtain⟨t',rfl⟩:=ry;obtain⟨j,h1,h2,h3,h4,h5⟩:=Sb he;have hl:z.cps.toList.length=z.length:=by simp[Str.length]
 rw[hl] at h1 h4 h5;have hn:=Nb;exact tail_any (LN s z t) slot_str_getitem.lookup (getItem_str (c:=c) (by have e1:decide (i< -(2^63:Int))=false:=BN (by lia);have e2:decide (i>=2^63)=false:=BN (by lia);rw[e1,e2,Bool.or_false]) (by rw[h1];simpa using h2) ⟨.str ⟨#[c]⟩,H,I.tok _,⟨_,rfl⟩,q⟩) hs
def qD(K:tW):R2:=fun x y H Q=>QY K x y H Q\/Lp K x y H Q\/aB x y H Q
def dO(AX:List AD)(n j:Nat)(u:AD):Obj.mapSeq (·.setIfInBounds j u) {cls:=.type "list",data:=.seq AX.toArray n}={cls:=.type "list",data:=.seq (AX.set j u).toArray n}:=by simp[Obj.mapSeq]
def Inv.lst{X:Cx}{pins:List (OK×Obj)}{σ:St}{H:Hp}{s:Ya}{p:OK}{xs:List V}(I:Inv X pins σ H s)(h:H p=some (.lst xs)):
 ∃(AX:List AD)(n:Nat),Vals xs AX/\s.heap.get? p=some {cls:=.type "list",data:=.seq AX.toArray n}/\xs.length<=sizeLine:=by
 obtain⟨z,AX,n,r,e⟩:=I.hok p _ h;exact⟨AX,n,r,e,z⟩
end
variable{AX:List AD}
section
variable{a b:hX}{tb:TE}{o:hX}{es:List hX}{to:TE}{t:TA}{id:String}
def Inv.kC{p:OK}{its':List AD}{n':Nat}{f:Obj->Obj}(I:Inv X pins σ H s)(h:H p=some (.lst xs))
 (ho:s.heap.get? p=some {cls:=.type "list",data:=.seq AX.toArray n})(hf:f {cls:=.type "list",data:=.seq AX.toArray n}={cls:=.type "list",data:=.seq its'.toArray n'})(r:Vals ys its')(hz:ys.length<=sizeLine)(t:Nat):
 Inv X pins σ (upd H p (.lst ys)) {s with heap:=s.heap.update p f,toks:=t}:=by
 have e:(s.heap.update p f).get? p=some {cls:=.type "list",data:=.seq its'.toArray n'}:=by rw[I9 f ho (by rw[hf]<;>rfl),hf]
 refine I.write (x:=p) (e:=p) (by rw[h];trivial) (.inl rfl) (fun b u hb q=>(D8 _ _ (DG hb)).trans q) ⟨_,e⟩ ?_;exact⟨hz,its',n',r,e⟩
def ou:V->V->V->Hp->(Hp->Prop)->Prop:=fun o i v H Q=>∃p xs k j,o=.ref p/\i=.int k/\H p=some (.lst xs)/\Kz xs.length k=some j/\Q (upd H p (.lst (xs.set j v)))
def set_list:Z4 X ou:=by
 intro pins s σ H o i v ov iv u Q I ro ri rv h;obtain⟨p,xs,k,j,rfl,rfl,hp,hj,q⟩:=h;cases ro;obtain⟨t,rfl⟩:=ri;obtain⟨AX,n,r,ho,hz⟩:=I.lst hp;obtain⟨h1,h2,h3,h4⟩:=Xu hj;have hl:=r.length;have hn:=Nb;have I':Inv X pins σ (upd H p (.lst (xs.set j v))) {s with heap:=s.heap.update p (Obj.mapSeq (·.setIfInBounds j u))}:=
  I.kC hp ho (dO AX n j u) (r.set rv j) (by rw[List.length_set];exact hz) s.toks;by_cases h0:0<=k
 ·have hk:k.toNat=j:=by rw[seqIndex_of h0 h4] at h1;exact Ag h1
  exact ki_setAt ho h0 (by lia) (by rw[CS,<-hl];exact h4) (by rw[hk];exact⟨_,I',q⟩)
 ·have hk:(k+(AX.toArray.size:Int)).toNat=j:=by rw[seqIndex_neg (by lia) h3] at h1;rw[CS,<-hl];exact Ag h1
  exact ki_setBack ho (by lia) (by rw[CS,<-hl];exact h3) (by lia) (by rw[hk];exact⟨_,I',q⟩)
def bj(lo hi:Option Int)(n:Nat):(rO lo hi none n).1=((Ax n 0 lo:Nat):Int)/\(rO lo hi none n).2.1=((Ax n n hi:Nat):Int)/\(rO lo hi none n).2.2=1:=by
 refine⟨?_,?_,rfl⟩
 ·cases lo with
  |none=>simp[rO,Ax]
  |some i=>
   simp only[rO,Ax,Option.getD_none,show(1:Int)>0 by decide,CJ];by_cases h:i<0
   ·simp only[h,CJ]<;>lia
   ·simp only[h,Bw]<;>lia
 ·cases hi with
  |none=>simp[rO,Ax]
  |some i=>
   simp only[rO,Ax,Option.getD_none,show(1:Int)>0 by decide,CJ];by_cases h:i<0
   ·simp only[h,CJ]<;>lia
   ·simp only[h,Bw]<;>lia
def bg(AX:List AD)(lo hi:Option Int):slicePick AX.toArray lo hi none=((AX.drop (Ax AX.length 0 lo)).take (Ax AX.length AX.length hi-Ax AX.length 0 lo)).toArray:=by obtain⟨h1,h2,h3⟩:=bj lo hi AX.toArray.size;unfold slicePick;rw[h1,h2,h3];simp only[sliceRange_one,pick_run,CS]<;>rfl
def aO(K:tW):V->Option Int->Option Int->Hp->VK->Prop:=fun x lo hi H Q=>∃a xs,x=.ref a/\AL K H a xs/\∀p,H p=none->Q (.ref p) (upd H p (.lst (CP xs lo hi)))
def PV:K1 X (aO X.K):=by intro pins s σ H x v vl vu lo hi sl Q I rx hs pl pu h;obtain⟨a,xs,rfl,hx,q⟩:=h;cases rx;obtain⟨AX,r,ht,hz⟩:=I.list hx;have hlen:=r.length;refine⟨"list",_,slot_list_getitem.lookup,ht.isList.typeIs,?_⟩;refine wpAny_getItem_list_slice ht.isList hs pl pu .none (by simp) ?_ (by rw[CS]<;>lia);rw[bg,<-hlen];refine⟨.ref s.heap.objs.size,_,I.laid (t':=s.toks) (o:=.lst (CP xs lo hi)) (fun b ob q=>BC _ q) (Ae _) ?_,rfl,q _ (I.hok.fresh (Ae _))⟩;exact⟨BJ (VZ xs lo hi) hz,_,0,(r.drop (Ax xs.length 0 lo)).take (Ax xs.length xs.length hi-Ax xs.length 0 lo),CB _ rfl⟩
noncomputable def Im:V->Bool
 |.BB=>true
 |.bl _=>true
 |.int _=>true
 |.str _=>true
 |_=>false
noncomputable def Jo:V->V->Bool
 |.BB,.BB=>true
 |.bl a,.bl b=>a==b
 |.bl a,.int b=>(if a then 1 else 0)==b
 |.int a,.bl b=>a==(if b then 1 else 0)
 |.int a,.int b=>a==b
 |.str a,.str b=>a==b
 |_,_=>false
def lj{x:V}{v:AD}(ry:RelV y u)(rx:RelV x v)(fy:Im y=true)(fx:Im x=true):SeqAt.EqAt A s u v (Jo y x):=by
 cases y with
 |BB=>
  cases ry
  cases x with
  |BB=>cases rx;exact SeqAt.EqAt.same _
  |bl b=>cases rx;exact SeqAt.EqAt.none_bool b
  |int b=>obtain⟨t,rfl⟩:=rx;exact SeqAt.EqAt.none_int b t
  |str b=>obtain⟨t,rfl⟩:=rx;exact SeqAt.EqAt.none_str b t
  |_=>exact absurd (show false=true from fx) CZ
 |bl a=>
  cases ry
  cases x with
  |BB=>cases rx;exact SeqAt.EqAt.bool_none a
  |bl b=>cases rx;exact SeqAt.EqAt.bool_bool a b
  |int b=>obtain⟨t,rfl⟩:=rx;exact SeqAt.EqAt.bool_int a b t
  |str b=>obtain⟨t,rfl⟩:=rx;exact SeqAt.EqAt.bool_str a b t
  |_=>exact absurd (show false=true from fx) CZ
 |int a=>
  obtain⟨t',rfl⟩:=ry
  cases x with
  |BB=>cases rx;exact SeqAt.EqAt.int_none a t'
  |bl b=>cases rx;exact SeqAt.EqAt.int_bool a t' b
  |int b=>obtain⟨t,rfl⟩:=rx;exact SeqAt.EqAt.int_int a t' b t
  |str b=>obtain⟨t,rfl⟩:=rx;exact SeqAt.EqAt.int_str a t' b t
  |_=>exact absurd (show false=true from fx) CZ
 |str a=>
  obtain⟨t',rfl⟩:=ry
  cases x with
  |BB=>cases rx;exact SeqAt.EqAt.str_none a t'
  |bl b=>cases rx;exact SeqAt.EqAt.str_bool a t' b
  |int b=>obtain⟨t,rfl⟩:=rx;exact SeqAt.EqAt.str_int a t' b t
  |str b=>obtain⟨t,rfl⟩:=rx;exact SeqAt.EqAt.str_str a t' b t
  |_=>exact absurd (show false=true from fx) CZ
 |_=>exact absurd (show false=true from fy) CZ
def Es(x:V)(u:AD):Bool:=match u with
 |.none=>Jo .BB x
 |.bool b=>Jo (.bl b) x
 |.int i _=>Jo (.int i) x
 |.str z _=>Jo (.str z) x
 |_=>false
def Y5{x:V}(r:RelV y u)(f:Im y=true):Es x u=Jo y x:=by
 cases y with
 |BB=>cases r;rfl
 |bl b=>cases r;rfl
 |int i=>obtain⟨t,rfl⟩:=r;rfl
 |str z=>obtain⟨t,rfl⟩:=r;rfl
 |_=>exact absurd (show false=true from f) CZ
def NT{x:V}:∀{xs:List V}{us:List AD},Vals xs us->xs.all Im=true->us.any (Es x)=xs.any fun y=>Jo y x
 |_,_,.nil,_=>rfl
 |y::xs,u::us,.cons r t,f=>by rw[LF,FZ] at f;rw[IV,IV,Y5 r f.1,NT t f.2]
def M7{A:rL}{s:Ya}{x:V}{v:AD}(rx:RelV x v)(fx:Im x=true):∀{xs:List V}{us:List AD},Vals xs us->xs.all Im=true->∀u∈us,SeqAt.EqAt A s u v (Es x u)
 |_,_,.nil,_=>fun u hu=>by cases hu
 |y::xs,u::us,.cons r t,f=>fun u' hu=>by
  rw[LF,FZ] at f;rcases BI.mp hu with rfl|hu
  ·rw[Y5 r f.1];exact lj r rx f.1 fx
  ·exact M7 rx fx t f.2 u' hu
def En(x:V)(xs:List V):Bool:=xs.any fun y=>Jo y x
def UQ(K:tW)(neg:Bool):R2:=fun x y H Q=>∃p xs,y=.ref p/\(AL K H p xs\/AS K H p xs)/\Im x=true/\xs.all Im=true/\Q (.bl (if neg then !En x xs else En x xs)) H
def fg:Br X (qg .In) (UQ X.K false):=by
 intro pins s σ H x y v u Q I rx ry h;obtain⟨p,xs,rfl,hq,fx,fs,q⟩:=h;cases ry;rcases hq with hq|hq
 ·obtain⟨AX,r,pl,hz⟩:=I.list hq;refine SeqAt.in_listAt (Es x) pl.isList (fun w hw=>M7 rx fx r fs w (by simpa using hw)) ⟨.bl _,H,I,rfl,?_⟩;rw[show AX.toArray.any (Es x)=AX.any (Es x) by simp,NT r fs];exact q
 ·obtain⟨AX,r,pl,hz⟩:=I.tuple hq;refine SeqAt.in_tupleAt (Es x) pl (fun w hw=>M7 rx fx r fs w (by simpa using hw)) ⟨.bl _,H,I,rfl,?_⟩;rw[show AX.toArray.any (Es x)=AX.any (Es x) by simp,NT r fs];exact q
def bw:Br X (qg .NotIn) (UQ X.K true):=by
 intro pins s σ H x y v u Q I rx ry h;obtain⟨p,xs,rfl,hq,fx,fs,q⟩:=h;cases ry;rcases hq with hq|hq
 ·obtain⟨AX,r,pl,hz⟩:=I.list hq;refine SeqAt.notIn_listAt (Es x) pl.isList (fun w hw=>M7 rx fx r fs w (by simpa using hw)) ⟨.bl _,H,I,rfl,?_⟩;rw[show AX.toArray.any (Es x)=AX.any (Es x) by simp,NT r fs];exact q
 ·obtain⟨AX,r,pl,hz⟩:=I.tuple hq;refine SeqAt.notIn_tupleAt (Es x) pl (fun w hw=>M7 rx fx r fs w (by simpa using hw)) ⟨.bl _,H,I,rfl,?_⟩;rw[show AX.toArray.any (Es x)=AX.any (Es x) by simp,NT r fs];exact q
def IW:Du X (.builtin "len") (fun xs H Q=>∃p ys,xs=[.ref p]/\(AL X.K H p ys\/AS X.K H p ys)/\Q (.int ys.length) H):=by
 intro pins s σ H xs us Q I r h;obtain⟨p,ys,rfl,hq,q⟩:=h;obtain⟨u,rfl,rx⟩:=vals1 r;cases rx;have hn:=Nb;rcases hq with hq|hq
 ·obtain⟨AX,r',pl,hz⟩:=I.list hq;have hlen:=r'.length;exact Calls.call_len_list pl.isList (by simp only[CS]<;>lia) ⟨.int ys.length,H,I.tok _,⟨s.toks+1,by rw[CS,hlen]⟩,q⟩
 ·obtain⟨AX,r',pl,hz⟩:=I.tuple hq;have hlen:=r'.length;exact len_tuple pl (by simp only[CS]<;>lia) ⟨.int ys.length,H,I.tok _,⟨s.toks+1,by rw[CS,hlen]⟩,q⟩
def OD(K:tW)(T:String)(x:V)(H:Hp):Prop:=match x with
 |.str _=>T="str"
 |.int _=>T="int"
 |.ref p=>(T="list" /\∃xs,AL K H p xs)\/(T="tuple" /\∃o,K.lookup p=some o/\o.cls=.type "tuple" /\o.dict=none)\/
  (T="dict" /\((∃AA,H p=some (.dK AA))\/∃AA,H p=some (.dT AA)))\/(T="set" /\∃S n,H p=some (.set S n))
 |_=>False
def Y9{x:V}{v:AD}(I:Inv X pins σ H s)(r:RelV x v)(ty:OD X.K T x H):
 s.TypeIs v T/\∀a,v=.ref a->∃ob,s.heap.get? a=some ob/\ob.dict=none:=by
 cases x with
 |str z=>obtain⟨t,rfl⟩:=r;cases(show T="str" from ty);exact⟨LN s z t,fun _ e=>nomatch e⟩
 |int i=>obtain⟨t,rfl⟩:=r;cases(show T="int" from ty);exact⟨typeIs_int s i t,fun _ e=>nomatch e⟩
 |ref p=>
  cases r;rcases ty with⟨rfl,xs,hq⟩|⟨rfl,o,hk,hc,hd⟩|⟨rfl,hk⟩|⟨rfl,S,n,hk⟩
  ·obtain⟨AX,_,pl,_⟩:=I.list hq;refine⟨pl.isList.typeIs,fun a e=>?_⟩;cases e;obtain⟨o,n,e,c,hd,_⟩:=pl;exact⟨o,e,hd⟩
  ·refine⟨⟨o,I.BX p o hk,hc⟩,fun a e=>?_⟩;cases e;exact⟨o,I.BX _ o hk,hd⟩
  ·have z:∃o,s.heap.get? p=some o/\o.ExactDict:=by
    rcases hk with⟨AA,hk⟩|⟨AA,hk⟩
    ·obtain⟨_,_,_,_,o,_,_,e,ex,_⟩:=I.hok p _ hk;exact⟨o,e,ex⟩
    ·obtain⟨_,_,_,_,o,_,_,e,ex,_⟩:=I.hok p _ hk;exact⟨o,e,ex⟩
   obtain⟨o,e,ex⟩:=z;refine⟨⟨o,e,ex.1⟩,fun a e2=>?_⟩;cases e2;exact⟨o,e,ex.2.1⟩
  ·obtain⟨o,_,_,_,e,ex,_⟩:=I.hok p _ hk;refine⟨⟨o,e,ex.1⟩,fun a e2=>?_⟩;cases e2;exact⟨o,e,ex.2.1⟩
 |_=>exact False.elim ty
def Z3(K:tW)(T:String)(r:V->List V->Hp->VK->Prop)(to:TE):TE:=fun σ H Q=>to σ H fun x H1=>OD K T x H1/\r x [] H1 Q
def Ut(K:tW)(T:String)(r:V->List V->Hp->VK->Prop)(to:TE)(t:TA):TE:=fun σ H Q=>to σ H fun x H1=>OD K T x H1/\t σ H1 fun xs H2=>r x xs H2 Q
end
variable{cpos:Pos}
section
variable{a b:hX}{tb:TE}{o:hX}{es:List hX}{to:TE}{t:TA}{id:String}
def NZ(pa:sP T)(slot:Slot T name id)(hty:typeOf (.builtin id)=pure (.type "method_descriptor"))(hm:N9 X id r)(ho:PE X o to)
 (hbase:qo o name X.env (qh o X.env)=qh o X.env:=by rfl)(hline:(apos.endLine==cpos.line)=true:=by rfl):PE X (.Call (.Attribute o name apos) [] [] cpos) (Z3 X.K T r to):=by
 intro pins s σ H Q I h;refine wpAny_Call_method0_late hbase hline (Ad (ho pins s σ H _ I h) fun v s1 ⟨x,H1,I1,r1,ty,q1⟩=>?_);obtain⟨h1,h2⟩:=Y9 I1 r1 ty;exact⟨T,id,pa,slot,hty,h1,h2,OX rfl (PySem.evalArgs_none (hm pins s1 σ H1 x [] v [] Q I1 r1 .nil q1))⟩
def Jb(pa:sP T)(slot:Slot T name id)(hty:typeOf (.builtin id)=pure (.type "method_descriptor"))(hm:N9 X id r)(ho:PE X o to)(ha:PA X (e::es) t)
 (hbase:qo o name X.env (qh o X.env)=qh o X.env:=by rfl)
 (hfew:((qt cpos (dq (e::es) X.env)).all (fun x=> !x.1)&&(rh cpos (rG [] X.env)).all (fun x=>x.1.isSome)
  &&decide ((e::es).length+([]:List rX).length+(if([]:List rX).isEmpty then 0 else 1)<30))=true:=by rfl)
 (hline:(apos.endLine==cpos.line)=true:=by rfl)(hs:dq (e::es) X.env=(false,qh e X.env)::dq es X.env:=by rfl)(hplain:(qt cpos (dq es X.env)).any (·.1)=false:=by rfl):
 PE X (.Call (.Attribute o name apos) (e::es) [] cpos) (Ut X.K T r to t):=by
 intro pins s σ H Q I h;refine wpAny_Call_method_late hbase hfew hline rfl (Ad (ho pins s σ H _ I h) fun v s1 ⟨x,H1,I1,r1,ty,q1⟩=>?_);obtain⟨h1,h2⟩:=Y9 I1 r1 ty;refine⟨T,id,pa,slot,hty,h1,h2,?_⟩;have hA:=ha cpos pins s1 σ H1 _ I1 q1;rw[hs] at hA⊢;refine OX (by show(false||(qt cpos (dq es X.env)).any (·.1))=false;rw[hplain]<;>rfl) (Q5 ?_);exact Ad hA fun us s2 ⟨vs,H2,I2,r2,q2⟩=>hm pins s2 σ H2 x vs v us Q I2 r1 r2 q2
end
def IH(X:Cx)(id:String)(r:V->List V->Hp->VK->Prop):Prop:=
 ∀(pins:List (OK×Obj))(s:Ya)(σ:St)(H:Hp)(x:V)(xs:List V)(v:AD)(us:List AD)(Q:VK),Inv X pins σ H s->RelV x v->Vals xs us->r x xs H Q->
  bt (ax X.prog X.w) X.A (call (.builtin id) (v::us)) (EP X pins σ Q) X.xe s
def Vals.one{x:V}(h:Vals [x] us):∃u,us=[u]/\RelV x u:=by
 cases h with
 |cons r t=>cases t;exact⟨_,rfl,r⟩
def Vals.two{x:V}(h:Vals [x,y] us):∃u v,us=[u,v]/\RelV x u/\RelV y v:=by
 cases h with
 |cons r t=>obtain⟨_,rfl,q⟩:=Vals.one t;exact⟨_,_,rfl,r,q⟩
def Vals.zero:∀{us:List AD},Vals [] us->us=[]
 |_,.nil=>rfl
def Vals.dropLast(h:Vals xs us):Vals xs.dropLast us.dropLast:=by
 induction h with
 |nil=>exact .nil
 |cons r t ih=>
  cases t with
  |nil=>exact .nil
  |cons q t'=>exact .cons r ih
def cj(l:List α):l.eraseIdx (l.length-1)=l.dropLast:=by
 induction l with
 |nil=>rfl
 |cons a r ih=>
  cases r with
  |nil=>rfl
  |cons b r=>
   have e:(a::b::r).length-1=((b::r).length-1)+1:=by
    have h1:(a::b::r).length=r.length+2:=rfl;have h2:(b::r).length=r.length+1:=rfl
    lia
   rw[e,List.eraseIdx_cons_succ,ih];all_goals rfl
section
variable{l:OK}{zs:List V}
def Inv.UL{its':List AD}{f:Array AD->Array AD}(I:Inv X pins σ H s)(hH:H l=some (.lst xs))
 (e:s.heap.get? l=some {cls:=.type "list",data:=.seq AX.toArray n})(hf:f AX.toArray=its'.toArray)(hv:Vals ys its')(hz:ys.length<=sizeLine):
 Inv X pins σ (upd H l (.lst ys)) {s with heap:=s.heap.update l (Obj.mapSeq f),toks:=t'}:=by
 have q:=PySem.IsL.update e f;rw[hf] at q;refine I.write (x:=l) (e:=l) (by rw[hH];exact trivial) (.inl rfl) (fun b' u hb hu=>(D8 s.heap (Obj.mapSeq f) (DG hb)).trans hu) ⟨_,q⟩ ?_;exact⟨hz,its',_,hv,q⟩
def Inv.UA(I:Inv X pins σ H s)(hv:Vals ys AX)(hz:ys.length<=sizeLine):
 Inv X pins σ (upd H s.heap.objs.size (.lst ys)) {s with heap:=s.heap.push {cls:=.type "list",data:=.seq AX.toArray},toks:=t'}:=
 I.laid (fun _ _ q=>BC _ q) (Ae _) ⟨hz,AX,0,hv,CB _ rfl⟩
def Inv.fresh(I:Inv X pins σ H s):H s.heap.objs.size=none:=I.hok.fresh (Ae _)
def Inv.Kk(I:Inv X pins σ H s)(hH:H l=some (.lst xs)):xs.length<=sizeLine/\∃(AX:List AD)(n:Nat),Vals xs AX/\xs.length=AX.length/\s.heap.get? l=some {cls:=.type "list",data:=.seq AX.toArray n}:=by obtain⟨z,AX,n,r,e⟩:=I.hok l _ hH;exact⟨z,AX,n,r,r.length,e⟩
def hU(h:n<=sizeLine):Builtin.List.listTooLong n=false:=by unfold Builtin.List.listTooLong;exact BN (by lia)
end
def jS:V->List V->Hp->VK->Prop:=fun x vs H Q=>∃l xs y,x=.ref l/\vs=[y]/\H l=some (.lst xs)/\xs.length<sizeLine/\Q .BB (upd H l (.lst (xs++[y])))
def DN:IH X "list.append" jS:=by
 intro pins s σ H x vs v us Q I rx rv h;obtain⟨l,xs,y,rfl,rfl,hH,hz,q⟩:=h;cases rx;obtain⟨u,rfl,ru⟩:=rv.one;obtain⟨z,AX,n,r,hl,e⟩:=I.Kk hH;refine KC F.slot_list_append ⟨_,e,rfl⟩ F.entry_list_append (F.args_list_append_2 _ _) (PySem.list_append l AX.toArray n u (by rw[CS];lia)) ⟨e,?_⟩;refine⟨.BB,_,I.UL (its':=AX++[u]) hH e (by simp) (r.append (.cons ru .nil)) ?_,rfl,q⟩;rw[An,Cm]
 lia
def jj:V->List V->Hp->VK->Prop:=fun x vs H Q=>∃l b xs zs,x=.ref l/\vs=[.ref b]/\H l=some (.lst xs)/\H b=some (.lst zs)/\xs.length+zs.length<=sizeLine/\Q .BB (upd H l (.lst (xs++zs)))
def fK:IH X "list.extend" jj:=by
 intro pins s σ H x vs v us Q I rx rv h;obtain⟨l,b,xs,zs,rfl,rfl,hH,hB,hz,q⟩:=h;cases rx;obtain⟨u,rfl,ru⟩:=rv.one;cases ru;obtain⟨z,AX,n,r,hl,e⟩:=I.Kk hH;obtain⟨z2,its2,n2,r2,hl2,e2⟩:=I.Kk hB;have hsz:AX.toArray.size+its2.toArray.size<=sizeLine:=by rw[CS,CS];lia
 have hlong:¬(!AX.toArray.isEmpty&&Builtin.List.listTooLong (AX.toArray.size+its2.toArray.size))=true:=by rw[hU hsz,LB];exact CZ
 refine KC F.slot_list_extend ⟨_,e,rfl⟩ F.entry_list_extend (F.args_list_extend_2 _ _)
  (AutoSeq1.list_extend_list_list_0 l AX.toArray n b its2.toArray n2 hlong (by rw[CS];lia) (by lia)) ⟨e,e2,?_⟩;refine⟨.BB,_,I.UL (its':=AX++its2) hH e (by simp) (r.append r2) ?_,rfl,q⟩;rw[An]
 lia
def pf:V->List V->Hp->VK->Prop:=fun x vs H Q=>∃l xs y,x=.ref l/\vs=[]/\H l=some (.lst xs)/\xs[xs.length-1]? =some y/\Q y (upd H l (.lst xs.dropLast))
def mF:IH X "list.pop" pf:=by
 intro pins s σ H x vs v us Q I rx rv h;obtain⟨l,xs,y,rfl,rfl,hH,hy,q⟩:=h;cases rx;have hus:=rv.zero;subst hus;obtain⟨z,AX,n,r,hl,e⟩:=I.Kk hH;obtain⟨u,hu,ru⟩:=r.get hy;have hy':AX.toArray[AX.toArray.size-1]? =some u:=by show AX.toArray[AX.length-1]? =some u;rw[<-Gd,<-hl];exact hu
 refine KC F.slot_list_pop ⟨_,e,rfl⟩ F.entry_list_pop (F.args_list_pop_1 _) (MeetsSeq.list_pop_last l AX.toArray n u hy' (by rw[CS];lia)) ⟨e,?_⟩;refine⟨y,_,I.UL (its':=AX.dropLast) hH e ?_ r.dropLast ?_,ru,q⟩
 ·show AX.toArray.eraseIdxIfInBounds (AX.toArray.size-1)=AX.dropLast.toArray;rw[CS,List.eraseIdxIfInBounds_toArray,cj]
 ·rw[List.length_dropLast]
  lia
def pY:R2:=fun x y H Q=>∃l b xs zs,x=.ref l/\y=.ref b/\H l=some (.lst xs)/\H b=some (.lst zs)/\xs.length+zs.length<=sizeLine/\∀p,H p=none->Q (.ref p) (upd H p (.lst (xs++zs)))
theorem KW:Br X (qy .Add) pY:=by
 intro pins s σ H x y v u Q I rx ry h;obtain⟨l,b,xs,zs,rfl,rfl,hH,hB,hz,q⟩:=h;cases rx;cases ry;obtain⟨z,AX,n,r,hl,e⟩:=I.Kk hH;obtain⟨z2,its2,n2,r2,hl2,e2⟩:=I.Kk hB;refine PySem.P.add_list e e2 ?_ (by rw[CS,CS];lia);have ea:AX.toArray++its2.toArray=(AX++its2).toArray:=by simp
 rw[ea];exact⟨.ref _,_,I.UA (t':=s.toks) (r.append r2) (by rw[An];lia),rfl,q _ I.fresh⟩
section
open PySem.W PySem.Calls
def bZ{P:Params}:∀(ns:List Int)(vs:List AD),WellAll P h vs (ns.map WData.int)->IntsAre vs ns:=by
 intro ns
 induction ns with
 |nil=>intro vs w;rw[LJ] at w;cases w;exact .nil
 |cons n ns ih=>
  intro vs w;rw[Au] at w
  cases w with
  |cons a b=>cases a;exact .cons _ _ (ih _ b)
def di{l:OpenLaw}(hn:l.most=some n){P:Params}{args:List WData}{vals:List AD}
 (hpre:l.row.toRowW.claim.pre args=true)(hwl:WellAll P h vals args):
 ∃a vs ns,vals=[Value.ref a]/\args=[WData.list (ns.map WData.int)]/\h.get? a=some {cls:=.type "list",data:=.seq vs.toArray}/\IntsAre vs ns/\ns.length<=n:=by
 have hsh:WShape.hasAll [] args [.list .int]=true:=(pre_splitW hpre).1;have hc:l.pre.holds [] {args:=args}=true:=(pre_splitW hpre).2;obtain⟨d,r,rfl,h1,h2⟩:=hasAllW_cons hsh;obtain rfl:=hasAllW_nil h2;obtain⟨xs,rfl,h3⟩:=hasW_list h1;obtain⟨ns,rfl⟩:=items_int h3;have hlen:ns.length<=n:=by
  unfold OpenLaw.pre at hc;have h4:(WTm.not (.lt (.lit (.int (n:Int))) (.len (.arg 0)))).holds [] {args:=[.list (ns.map .int)]}=true:=by have h4:=(holds_andW hc).1;rw[hn] at h4;exact h4
  have h5:=condW_of h4 (w_not (w_lt w_lit (w_len_list (w_arg rfl))));rw[AJ] at h5;refine Oi fun q=>?_;have q':(n:Int)<((ns.length:Nat):Int):=by lia
  first
   |(rw[Bb q'] at h5;exact absurd h5 (by decide))
   |(simp at h5;lia)
 cases hwl with
 |cons w1 w2=>
  cases w2
  cases w1 with
  |list ho hall=>exact⟨_,_,ns,rfl,rfl,ho,bZ ns _ hall,hlen⟩
def eF(l:OpenLaw)(args:List WData):l.row.toRowW.claim.post args (.bool true) args=true:=
 postW_of (r:=l.row.toRowW) (X:=(true==true))
  (show WShape.has [] (.bool true) .bool=true by first|rfl|decide|simp[WShape.has,WShape.arms,WShape.armsAll])
  (show(WTm.eq .res (.lit (.bool true))).value [] {args:=args,res:=some (.bool true),after:=args}=some (.bool (true==true)) from w_eq_bool (w_res rfl) w_lit) rfl
end
variable{XP:(Str->Option AD)->qi->Prop}
section
open PySem.W PySem.Calls
def cK{l:OpenLaw}{q:qf}{loose:List Str}{YP:qj->qi->Prop}{d:DefRec}
 (hn:l.most=some n)(hdf:d.params.defaults=[])
 (call:∀(w:qj)(s₀ s₁:Ya)(mg mb:Str->Option AD)(fa:OK)(o:Obj)(pm cd doc:AD)(a:OK)(vs:List AD)(ns:List Int),
  Ground q loose [] XP w s₀ mg mb s₁.heap->YP w s₁.heap->
  s₁.heap.get? fa=some o->o.data=.func (docDef d.name d.params d.body d.scope pm cd doc)->s₁.heap.CodeRec cd d.name->mg d.name=some (.ref fa)->
  s₁.heap.get? a=some {cls:=.type "list",data:=.seq vs.toArray}->IntsAre vs ns->ns.length<=n->s₁.gens= #[]->
  rK (ax l.prog w) sU (.call (.ref fa) ⟨[.ref a],[]⟩) (fun r s'=>r=.ok (.ret (.bool true))/\OldK s₁.heap s'.heap/\s'.os=s₁.os/\rY s'.gens) s₁):
 WalkO q loose XP YP l.row.toRowW d [] (fun f vs=>PySem.call f vs):=by
 intro w s₀ s₁ mg mb G Y fa o pm cd doc dV kV ho hd hcd hD hmg hg args vals as hpre hlay hrd hwl hlo;obtain rfl:dV=.none:=Dflts.none hD hdf;obtain rfl:kV=.none:=Dflts.noKw hD;obtain⟨a,vs,ns,rfl,rfl,hobj,hints,hlen⟩:=di hn hpre hwl;refine enter_call (LH (call w s₀ s₁ mg mb fa o pm cd doc a vs ns G Y ho (fd_plain hd) hcd hmg hobj hints hlen hg) fun r s' hq=>?_);obtain⟨rfl,h2,h3,h4⟩:=hq;exact⟨.inl ⟨.bool true,.bool true,[],rfl,fun _=>rfl,.bool true,eF l _,fun _=>⟨List.Pairwise.nil,fun _ hm=>(nomatch hm)⟩⟩,h2,h3,h4⟩
end
def V7:∀{vs:List AD}{ns:List Int},IntsAre vs ns->Vals (ns.map V.int) vs
 |_,_,.nil=>.nil
 |_,_,.cons n t h=>.cons ⟨t,rfl⟩ (V7 h)
def UK(H:Hp):Prop:=∀b,H b=none\/∃o xs,H b=some (.BQ o (.lst xs))
variable{ns:List Int}
def iJ{mb:Str->Option AD}{fa:OK}{s₁:Ya}{vs:List AD}
 (KX:K.In s₁.heap)(hns:s₁.heap.Ns dy mg)(hb:s₁.heap.Ns tL mb)(hbb:∀x:Str,x≠ "__name__" ->mb x=qm x)(hlim:s₁.heap.NoLimit)(hg:s₁.gens= #[])
 (ha:s₁.heap.get? a=some {cls:=.type "list",data:=.seq vs.toArray})(hi:IntsAre vs ns)(hl:ns.length<=sizeLine)(hr:Bn k sU)
 (F:∀base:qi,K.In base->base.Ns dy mg->AY P w K mg base CX k fa fd [x] sp)(hbind:∀(s:Ya)(u:AD),tG s fd ⟨[u],[]⟩ [(x,u)])
 (hsp:∀H:Hp,UK H->AL K H a (ns.map V.int)->sp [.ref a] H (fun v _=>v=.bl true) fun _ _ _=>False)
 (hCX:∀H e s',CX [] H s₁ (fun _ _ _=>False) e s'->False):
 rK (ax P w) sU (.call (.ref fa) ⟨[.ref a],[]⟩) (fun r s'=>r=.ok (.ret (.bool true))/\OldK s₁.heap s'.heap/\s'.os=s₁.os/\rY s'.gens) s₁:=by
 have rv:=V7 hi;have lenV:=hi.length;have core:∀H:Hp,UK H->AL K H a (ns.map V.int)->Bx P w H s₁.heap->(∀b,H b≠none->b=a)->(H a≠none->K.lookup a=none)->
  rK (ax P w) sU (.call (.ref fa) ⟨[.ref a],[]⟩) (fun r s'=>r=.ok (.ret (.bool true))/\OldK s₁.heap s'.heap/\s'.os=s₁.os/\rY s'.gens) s₁:=by
  intro H hO hS hok hA hK;have base_of:∀{b:OK}{o:Obj},s₁.heap.get? b=some o->H b=none->(Ip s₁.heap H).get? b=some o:=fun e n=>gB e n;have Jn:∀{b:OK}{o:Obj}{es:Array DictEntry}{ep:Nat},s₁.heap.get? b=some o->o.data=.dict es ep->H b=none:=fun{b o es ep} e d=>by
   cases q:H b with
   |none=>rfl
   |some u=>have e':b=a:=hA b (by rw[q];simp);subst e';rw[ha] at e;cases e;have d':Data.seq vs.toArray _=Data.dict es ep:=d;cases d'
  have nsK:∀{b:OK}{m:Str->Option AD},s₁.heap.Ns b m->(Ip s₁.heap H).Ns b m:=fun{b m} ⟨o,es,ep,e,d,r⟩=>⟨o,es,ep,base_of e (Jn e d),d,r⟩;have hKb:K.In (Ip s₁.heap H):=fun b o e=>base_of (KX b o e) (by
   cases q:H b with
   |none=>rfl
   |some u=>have e':b=a:=hA b (by rw[q];simp);subst e';rw[hK (by rw[q];simp)] at e;cases e);have hM:Mod K mg (Ip s₁.heap H):=⟨hKb,nsK hns,⟨mb,nsK hb,hbb⟩,let⟨mc,h1,h2⟩:=hlim;⟨mc,nsK h1,h2⟩⟩;have e0:Ko P w K mg (Ip s₁.heap H) sU [] s₁ H:=⟨rfl,hM,fun b o e=>jk e,Nat.le_of_eq (dc _ _),trivial,fun b hb=>absurd (show b∈([]:List OK) from hb) (by simp),hok,.of_eq hg⟩;refine LH ((F _ hKb (nsK hns)).run sU [] s₁ H ⟨[.ref a],[]⟩ [.ref a] [.ref a] _ _ hr e0 (hbind s₁ (.ref a)) (.cons rfl .nil) (hsp H hO hS)) fun r s' h=>?_
  cases r with
  |error e=>exact(hCX H e s' h).elim
  |ok fl=>
   cases fl with
   |next=>exact False.elim h
   |brk=>exact False.elim h
   |cont=>exact False.elim h
   |ret u=>
    obtain⟨v,H',os,bare,un,hok',r',q⟩:=h;have q':v=.bl true:=q;subst q';obtain rfl:u=Value.bool true:=r';refine⟨rfl,OldK.of_keep fun b o e=>?_,os,bare⟩
    cases q:H b with
    |none=>exact un.keep b o e q (by intro z;exact absurd (show b∈([]:List OK) from z) (by simp)) (by simp)
    |some u=>
     rcases hO b with z|⟨ob,xs,z⟩
     ·rw[q] at z;cases z
     ·have z2:=un.EC b ob _ z;obtain⟨e1,_⟩:=hok b _ z;obtain⟨e2,_⟩:=hok' b _ z2;rw[e] at e1;cases e1;exact e2
 cases hk:K.lookup a with
 |some o=>have e:=KX a o hk;rw[ha] at e;cases e;refine core (fun _=>none) (fun _=>.inl rfl) (.inr ⟨_,vs.toArray,_,hk,rfl,rfl,rfl,by rw[CS,lenV];exact hl,by simpa using rv⟩) (fun b u z=>by have z':(none:Option HO)=some u:=z;cases z') (fun b z=>absurd rfl z) fun z=>absurd rfl z
 |none=>
  refine core (fun b=>if b=a then some (.BQ {cls:=.type "list",data:=.seq vs.toArray} (.lst (ns.map V.int))) else none) (fun b=>?_) (.inl (.inr ⟨{cls:=.type "list",data:=.seq vs.toArray},AG rfl⟩)) (fun b u z=>?_) (fun b z=>?_) fun _=>hk
  ·by_cases hb:b=a
   ·exact .inr ⟨_,_,AG hb⟩
   ·exact .inl (AF hb)
  ·by_cases hb:b=a
   ·have z':=(AG hb).symm.trans z;cases z';subst hb;exact⟨ha,by rw[AJ];exact hl,vs,_,rv,ha⟩
   ·have z':=(AF hb).symm.trans z;cases z'
  ·by_cases hb:b=a
   ·exact hb
   ·exact absurd (AF hb) z
abbrev Aj:Jt:=fun _ _ _ _ _ _=>False
abbrev E0:XK:=fun _ _ _=>False
def BH:Passes Aj X E0:=fun _ _ _ _ _ _ _ h=>h.elim
structure Ak(K:tW)(x qual:Str)(st:g0)(f:OK)(fd:qk):Prop where
 ex:∃(oc:AD)(od:Option OK)(kV doc pm:AD)(an:Option OK)(cdv ct:AD)(osl:Array (Option AD)),
  fd=fnOf x qual (JP st) (E3 st) (Aq st) .none kV doc pm an cdv ct/\K.lookup f=some ⟨oc,od,.func fd,osl⟩/\codeIn K cdv qual=true
 kp:rC K (.ref f)=true
def Ak.ok{st:g0}(F:Ak K x qual st f fd)(S:A9 N ps (Aq st))(len:∀vs H Q E,sp vs H Q E->vs.length=ps.length)
 (hbody:∀(cdv:AD)(A:rL)(outer:List Env)(s:Ya)(H:Hp)(vs:List V)(Q:VK)(E:XK),Bn k (A.deeper (rS qual (Aq st) s.heap.objs.size f cdv))->sp vs H Q E->
  ∃t,EW (Jf Aj P w K mg base N qual (Aq st) f cdv A outer s H E).Qb (E3 st) t/\t {nx:=fun _ H'=>Q .BB H',rt:=Q} (start N vs) H):AY P w K mg base Aj (k+1) f fd ps sp:=by
 obtain⟨oc,od,kV,doc,pm,an,cdv,ct,osl,rfl,lk,hcd⟩:=F.ex;refine ZT lk hcd S len fun A outer s H vs Q E hr hsp=>?_;obtain⟨t,h,q⟩:=hbody cdv A outer s H vs Q E hr hsp;exact⟨t,h.Qb,q⟩
def Ak.binds{st:g0}(F:Ak K x qual st f fd)
 (h:∀(kV doc pm:AD)(an:Option OK)(cdv ct:AD)(us:List AD),us.length=ps.length->bindArgs (fnOf x qual (JP st) (E3 st) (Aq st) .none kV doc pm an cdv ct) ⟨us,[]⟩=pure (ps.zip us)):Binds K fd ps []:=by
 obtain⟨oc,od,kV,doc,pm,an,cdv,ct,osl,rfl,lk,hcd⟩:=F.ex;exact .all (h kV doc pm an cdv ct)
def lG{st:g0}{oc:AD}{an:Option OK}{kV doc pm cdv ct:AD}(l:K.lookup f=some ⟨oc,od,.func (fnOf x qual (JP st) (E3 st) (Aq st) .none kV doc pm an cdv ct),osl⟩)
 (c:codeIn K cdv qual=true)(k:rC K (.ref f)=true):Ak K x qual st f (fnOf x qual (JP st) (E3 st) (Aq st) .none kV doc pm an cdv ct):=⟨⟨oc,od,kV,doc,pm,an,cdv,ct,osl,rfl,l,c⟩,k⟩
def Cq(hr:Bn k A):A.units+1<qr:=VH (Nat.add_le_add_left (by decide:1<=64) _) hr.units
def pv(i:Nat)(hN:X.N[i]? =some x:=by rfl)(hv:Qe X.env.scope x:=by first|exact Aa rfl|exact Cc (Aa rfl)|exact Cc (Cc rfl))(hd:(x==("__debug__" :Str))=false:=by decide)
 (hcd:(x==("__classdict__" :Str))=false:=by decide):PE X (.Name x pos) (EU i):=Ys hN hv hd hcd
variable{B:Prop}
def BK{A:Prop}(h:B):if false=true then A else B:=by rw[AF CZ];exact h
def Bk{A:Prop}(h:A):if true=true then A else B:=by rw[AG rfl];exact h
def El{c A:Prop}[Decidable c](h1:c->A)(h2:¬c->B):if c then A else B:=by
 by_cases h:c
 ·rw[AG h];exact h1 h
 ·rw[AF h];exact h2 h
def EN{c A:Prop}[Decidable c](hc:c)(h:B):if(!decide c)=true then A else B:=by rw[Bb hc];exact BK h
def AO(H H':Hp):Prop:=∀b o,H b=some o->H' b=some o
def AO.refl(H:Hp):AO H H:=fun _ _ h=>h
variable{H2:Hp}
def AO.trans(a:AO H H1)(b:AO H1 H2):AO H H2:=fun c o h=>b c o (a c o h)
def AO.free(e:AO H H'){l:OK}(h:H' l=Option.none):H l=Option.none:=by
 cases q:H l with
 |none=>rfl
 |some o=>rw[e l o q] at h;cases h
def AO.seq(e:AO H H')(h:AL K H a xs):AL K H' a xs:=by
 rcases h with(h|⟨o,h⟩)|h
 ·exact .inl (.inl (e _ _ h))
 ·exact .inl (.inr ⟨o,e _ _ h⟩)
 ·exact .inr h
section
variable{κ:Type}[DecidableEq κ]
noncomputable def BP(AA:List (κ×V))(k:κ):Option V:=(AA.find? fun kv=>decide (kv.1=k)).map (·.2)
noncomputable def putK(AA:List (κ×V))(k:κ)(v:V):List (κ×V):=
 if(AA.any fun kv=>decide (kv.1=k))=true then AA.map (fun kv=>if kv.1=k then(kv.1,v) else kv) else AA++[(k,v)]
noncomputable def Ik(AA:List (κ×V))(k:κ):List (κ×V):=AA.filter fun kv=>decide (kv.1≠k)
def Ff{p:κ×V}{r:List (κ×V)}{k:κ}(e:p.1=k):BP (p::r) k=some p.2:=by simp[BP,C7,e]
def Fe{p:κ×V}{r:List (κ×V)}{k:κ}(e:¬p.1=k):BP (p::r) k=BP r k:=by simp[BP,C7,e]
def KL(k:κ):∀AA:List (κ×V),(AA.any fun kv=>decide (kv.1=k))=(BP AA k).isSome
 |[]=>rfl
 |p::r=>by
  rw[IV];by_cases e:p.1=k
  ·simp only[Ff e,Bb e,Bool.true_or,Option.isSome_some]
  ·rw[Fe e,BN e,Rg];exact KL k r
def Ww(k j:κ)(y:V):∀AA:List (κ×V),BP (AA.map fun kv=>if kv.1=k then(kv.1,y) else kv) j=(BP AA j).map fun x=>if j=k then y else x
 |[]=>rfl
 |p::r=>by
  have ih:=Ww k j y r;rw[Au];by_cases h:p.1=k
  ·rw[AG h];by_cases e:p.1=j
   ·rw[Ff (p:=(p.1,y)) e,Ff e,Om,AG (e.symm.trans h)]
   ·rw[Fe (p:=(p.1,y)) e,Fe e,ih]
  ·rw[AF h];by_cases e:p.1=j
   ·rw[Ff (p:=p) e,Ff e,Om,AF (fun z=>h (e.trans z))]
   ·rw[Fe (p:=p) e,Fe e,ih]
def WO(k j:κ)(y:V):∀AA:List (κ×V),BP AA k=none->BP (AA++[(k,y)]) j=if j=k then some y else BP AA j
 |[],_=>by
  by_cases e:k=j
  ·rw[AG e.symm];exact Ff (p:=(k,y)) e
  ·rw[AF (fun z=>e z.symm)];exact Fe (p:=(k,y)) e
 |p::r,hn=>by
  rw[Oj];have hk:¬p.1=k:=fun z=>by rw[Ff z] at hn;cases hn
  rw[Fe hk] at hn;have ih:=WO k j y r hn;by_cases e:p.1=j
  ·rw[Ff e,Ff e,AF (fun z=>hk (e.trans z))]
  ·rw[Fe e,Fe e,ih]
def gW(AA:List (κ×V))(k j:κ)(y:V):BP (putK AA k y) j=if j=k then some y else BP AA j:=by
 unfold putK;by_cases a:(AA.any fun kv=>decide (kv.1=k))=true
 ·rw[AG a,Ww];rw[KL] at a;by_cases e:j=k
  ·obtain⟨x,hx⟩:=Option.isSome_iff_exists.mp a;rw[AG e,e,hx,Om,AG rfl]
  ·rw[AF e]
   cases BP AA j with
   |none=>rfl
   |some x=>rw[Om,AF e]
 ·rw[AF a];refine WO k j y AA ?_;rw[KL] at a
  cases q:BP AA k with
  |none=>rfl
  |some x=>rw[q] at a;exact(a rfl).elim
def Ro(AA:List (κ×V))(k:κ)(v:V):(putK AA k v).length<=AA.length+1:=by
 unfold putK;split
 ·rw[AJ];lia
 ·rw[An,CG,Mb];lia
def DU.Mx{o:Option V}{u:Option AD}(r:DU o u):o.isSome=u.isSome:=by
 cases o with
 |none=>cases u with
  |none=>rfl
  |some _=>exact(show False from r).elim
 |some _=>cases u with
  |none=>exact(show False from r).elim
  |some _=>rfl
def DU.getD{o:Option V}{u:Option AD}{d:V}{d':AD}(r:DU o u)(rd:RelV d d'):RelV (o.getD d) (u.getD d'):=by
 cases o with
 |none=>cases u with
  |none=>exact rd
  |some _=>exact(show False from r).elim
 |some _=>cases u with
  |none=>exact(show False from r).elim
  |some _=>exact r
def KV.val{AA:List (κ×V)}{vs:List (κ×AD)}(r:KV AA vs)(k:κ):DU (BP AA k) (sC vs k):=by
 unfold KV at r
 induction r with
 |nil=>exact Cv
 |@cons p q ps qs h t ih=>
  obtain⟨h1,h2⟩:=h;by_cases e:p.1=k
  ·have e':q.1=k:=h1.symm.trans e;have b:sC (q::qs) k=some q.2:=by simp[sC,C7,e']
   rw[Ff e,b];exact h2
  ·have e':¬q.1=k:=fun z=>e (h1.trans z);have b:sC (q::qs) k=sC qs k:=by simp[sC,C7,e']
   rw[Fe e,b];exact ih
def KV.any{AA:List (κ×V)}{vs:List (κ×AD)}(r:KV AA vs)(k:κ):(AA.any fun kv=>decide (kv.1=k))=vs.any fun kv=>decide (kv.1=k):=by
 unfold KV at r
 induction r with
 |nil=>rfl
 |cons h t ih=>rw[IV,IV,ih,h.1]
def KV.T1{AA:List (κ×V)}{vs:List (κ×AD)}(r:KV AA vs)(k:κ)(ry:RelV y u):
 KV (AA.map fun kv=>if kv.1=k then(kv.1,y) else kv) (vs.map fun kv=>if kv.1=k then(kv.1,u) else kv):=by
 unfold KV at r⊢
 induction r with
 |nil=>exact .nil
 |@cons p q ps qs h t ih=>
  rw[Au,Au];refine .cons ?_ ih;obtain⟨h1,h2⟩:=h;by_cases e:p.1=k
  ·rw[AG e,AG (h1.symm.trans e)];exact⟨h1,ry⟩
  ·rw[AF e,AF (fun z=>e (h1.trans z))];exact⟨h1,h2⟩
def KV.put{AA:List (κ×V)}{vs:List (κ×AD)}(r:KV AA vs)(k:κ)(ry:RelV y u):KV (putK AA k y) (stored vs k u):=by
 unfold putK stored;rw[r.any k];by_cases e:(vs.any fun kv=>decide (kv.1=k))=true
 ·rw[AG e,AG e];exact r.T1 k ry
 ·rw[AF e,AF e];exact Paired.snoc r ⟨rfl,ry⟩
def KV.drop{AA:List (κ×V)}{vs:List (κ×AD)}(r:KV AA vs)(k:κ):KV (Ik AA k) (without vs k):=by
 unfold KV at r⊢;unfold Ik without
 induction r with
 |nil=>exact .nil
 |@cons p q ps qs h t ih=>
  obtain⟨h1,h2⟩:=h;rw[List.filter_cons,List.filter_cons];by_cases e:p.1=k
  ·have a:¬decide (p.1≠k)=true:=by simp[e]
   have b:¬decide (q.1≠k)=true:=by simp[h1.symm.trans e]
   rw[AF a,AF b];exact ih
  ·have e':¬q.1=k:=fun z=>e (h1.trans z);have a:decide (p.1≠k)=true:=by simp[e]
   have b:decide (q.1≠k)=true:=by simp[e']
   rw[AG a,AG b];exact .cons ⟨h1,h2⟩ ih
def KV.keys{AA:List (κ×V)}{vs:List (κ×AD)}(r:KV AA vs):AA.map (·.1)=vs.map (·.1):=by
 unfold KV at r
 induction r with
 |nil=>rfl
 |cons h t ih=>rw[Au,Au,ih,h.1]
def KV.length{AA:List (κ×V)}{vs:List (κ×AD)}(r:KV AA vs):AA.length=vs.length:=JF r
def gu(AA:List (κ×V))(k:κ):(Ik AA k).length<=AA.length:=EY _ _
end
def Ig{k:Key}(r:RelV (kV k) u):(CU P w).is k u=true:=by
 cases k with
 |inl i=>obtain⟨t,e⟩:=(show∃t,u=Value.int i t from r);subst e;exact cJ P w i t
 |inr x=>obtain⟨t,e⟩:=(show∃t,u=Value.str x t from r);subst e;exact cD P w x t
def lL{a b:Key}(e:kV a=kV b):a=b:=by
 cases a with
 |inl i=>cases b with
  |inl j=>have e':V.int i=V.int j:=e;injection e' with e';rw[e']
  |inr y=>exact nomatch (show V.int i=V.str y from e)
 |inr x=>cases b with
  |inl j=>exact nomatch (show V.str x=V.int j from e)
  |inr y=>have e':V.str x=V.str y:=e;injection e' with e';rw[e']
def Xd:∀{a b:List Key},a.map kV=b.map kV->a=b
 |[],[],_=>rfl
 |[],_::_,e=>by simp at e
 |_::_,[],e=>by simp at e
 |x::xs,y::ys,e=>by rw[Au,Au] at e;injection e with e1 e2;rw[lL e1,Xd e2]
def WL{P:qf}{w:qj}:∀{ks:List Key}{us:List AD},Vals (ks.map kV) us->ItemsAre (CU P w) ks us
 |[],_,r=>by rw[LJ] at r;cases r;exact .nil
 |k::ks,_,r=>by
  rw[Au] at r
  cases r with
  |cons h t=>exact .cons (Ig h) (WL t)
abbrev KT(H:Hp):List (List Key×V)->List (List Key×OK×AD)->Prop:=Paired fun p q=>p.1=q.1/\H q.2.1=some (.tup (p.1.map kV))/\RelV p.2 q.2.2
def KT.val{AA:List (List Key×V)}{xs:List (List Key×OK×AD)}(r:KT H AA xs)(k:List Key):DU (BP AA k) ((tN xs k).map (·.2)):=by
 induction r with
 |nil=>exact Cv
 |@cons p q ps qs h t ih=>
  obtain⟨h1,_,h2⟩:=h;by_cases e:p.1=k
  ·have e':q.1=k:=h1.symm.trans e;have b:tN (q::qs) k=some q.2:=by simp[tN,C7,e']
   rw[Ff e,b];exact h2
  ·have e':¬q.1=k:=fun z=>e (h1.trans z);have b:tN (q::qs) k=tN qs k:=by simp[tN,C7,e']
   rw[Fe e,b];exact ih
def KT.T1{AA:List (List Key×V)}{xs:List (List Key×OK×AD)}(r:KT H AA xs)(k:List Key)(ry:RelV y u):
 KT H (AA.map fun kv=>if kv.1=k then(kv.1,y) else kv) (xs.map (putAt k u)):=by
 induction r with
 |nil=>exact .nil
 |@cons p q ps qs h t ih=>
  rw[Au,Au];refine .cons ?_ ih;obtain⟨h1,h2,h3⟩:=h;unfold putAt;by_cases e:p.1=k
  ·rw[AG e,AG (h1.symm.trans e)];exact⟨h1,h2,ry⟩
  ·rw[AF e,AF (fun z=>e (h1.trans z))];exact⟨h1,h2,h3⟩
def KT.put{AA:List (List Key×V)}{xs:List (List Key×OK×AD)}(r:KT H AA xs)(k:List Key)(hb:H b=some (.tup (k.map kV)))(ry:RelV y u):
 KT H (putK AA k y) (storedH xs k b u):=by
 have e:(AA.any fun kv=>decide (kv.1=k))=(tN xs k).isSome:=by rw[KL,(r.val k).Mx,Option.isSome_map]
 unfold putK storedH;rw[e];by_cases q:(tN xs k).isSome=true
 ·rw[AG q,AG q];exact r.T1 k ry
 ·rw[AF q,AF q];exact Paired.snoc r ⟨rfl,hb,ry⟩
def KT.keeps{AA:List (List Key×V)}{xs:List (List Key×OK×AD)}(r:KT H AA xs)(ht:∀b ys,H b=some (.tup ys)->H' b=some (.tup ys)):KT H' AA xs:=
 Paired.UN r fun _ _ z=>⟨z.1,ht _ _ z.2.1,z.2.2⟩
def ZZ{u:HO}(ok:Bx P w H h)(e:Rd H a u):BV P w H h a u:=e.ok ok
variable{AA:List (Key×V)}
def Jc(ok:Bx P w H h)(e:Rd H a (.dK AA)):AA.length<=sizeLine/\(a==qw)=false/\∃vs,KV AA vs/\h.DictOf (CU P w) a vs:=
 show BV P w H h a (.dK AA) from ZZ ok e
def JZ(ok:Bx P w H h)(e:H a=some (.dK AA)):AA.length<=sizeLine/\(a==qw)=false/\∃vs,KV AA vs/\h.DictOf (CU P w) a vs:=Jc ok (.inl e)
def Le{ks:List Key}(ok:Bx P w H h)(e:H a=some (.tup (ks.map kV))):(sI (CU P w)).is h ks a:=by obtain⟨_,AX,r,o,h1,h2,n,h3⟩:=(show BV P w H h a (.tup (ks.map kV)) from ok a _ e);exact⟨o,AX.toArray,n,h1,h2,h3,by simpa using WL r⟩
def Ki{AA:List (List Key×V)}(ok:Bx P w H h)(e:Rd H a (.dT AA)):AA.length<=sizeLine/\(a==qw)=false/\
 ∃xs,KT H AA xs/\h.DictOfH (sI (CU P w)) a xs:=by
 obtain⟨z,y,xs,r,o,es,ep,h1,h2,h3,h4,h5⟩:=(show BV P w H h a (.dT AA) from ZZ ok e);refine⟨z,y,xs,r,o,es,ep,h1,h2,h3,h4,fun x hx=>?_,h5⟩;have all:∀{l:List (List Key×V)}{m:List (List Key×OK×AD)},KT H l m->∀x∈m,(sI (CU P w)).is h x.1 x.2.1:=by
  intro l m q
  induction q with
  |nil=>intro x hx;exact nomatch hx
  |@cons p q ps qs hq t ih=>
   intro x hx;rcases BI.mp hx with e|hx
   ·subst e;exact Le ok (by rw[<-hq.1];exact hq.2.1)
   ·exact ih x hx
 exact all r x hx
def oq{AA:List (List Key×V)}(ok:Bx P w H h)(e:H a=some (.dT AA)):AA.length<=sizeLine/\(a==qw)=false/\
 ∃xs,KT H AA xs/\h.DictOfH (sI (CU P w)) a xs:=Ki ok (.inl e)
def BW(H:Hp)(a:OK)(y:V)(r:Option V):Prop:=
 (∃AA k,Rd H a (.dK AA)/\y=kV k/\r=BP AA k)\/∃AA k b,Rd H a (.dT AA)/\y=.ref b/\H b=some (.tup (k.map kV))/\r=BP AA k
def DW(H:Hp)(a:OK)(y v:V)(H':Hp):Prop:=
 (∃AA k,H a=some (.dK AA)/\y=kV k/\AA.length<sizeLine/\H'=upd H a (.dK (putK AA k v)))\/
 ∃AA k b,H a=some (.dT AA)/\y=.ref b/\H b=some (.tup (k.map kV))/\AA.length<sizeLine/\H'=upd H a (.dT (putK AA k v))
def BW.kq{k:Key}(e:H a=some (.dK AA)):BW H a (kV k) (BP AA k):=.inl ⟨AA,k,.inl e,rfl,rfl⟩
def BW.tq{AA:List (List Key×V)}{k:List Key}(e:H a=some (.dT AA))(eb:H b=some (.tup (k.map kV))):BW H a (.ref b) (BP AA k):=.inr ⟨AA,k,b,.inl e,rfl,eb,rfl⟩
def DW.kq{k:Key}(e:H a=some (.dK AA))(hl:AA.length<sizeLine):DW H a (kV k) v (upd H a (.dK (putK AA k v))):=.inl ⟨AA,k,e,rfl,hl,rfl⟩
def DW.tq{AA:List (List Key×V)}{k:List Key}(e:H a=some (.dT AA))(eb:H b=some (.tup (k.map kV)))(hl:AA.length<sizeLine):
 DW H a (.ref b) v (upd H a (.dT (putK AA k v))):=.inr ⟨AA,k,b,e,rfl,eb,hl,rfl⟩
section
variable{r:AD}{o:Option V}
def Inv.big(I:Inv X pins σ H s):qw<s.heap.objs.size:=by have h:dy<s.heap.objs.size:=(I.mod.glob.keeps I.bk).lt;exact Nat.lt_trans (by decide) h
def fb(hu:A.units+1<qr)(I:Inv X pins σ H s)(g:BW H a y (some v))(ry:RelV y u)(h:∀w' s',Inv X pins σ H s'->RelV v w'->Q w' s'):
 bt (ax X.prog X.w) A (rV (.ref a) u) Q E s:=by
 rcases g with⟨AA,k,e,ey,l⟩|⟨AA,k,b,e,ey,eb,l⟩
 ·subst ey;obtain⟨z,hd,vs,rel,dd⟩:=Jc I.hok e;obtain⟨w',hw,rw'⟩:=DU.some_of (v:=v) (o:=sC vs k) (by rw[l];exact rel.val k);exact wpAny_getItem_of (Ig ry) dd.mapOf hw (h w' _ (I.tok _) rw')
 ·subst ey;cases(show u=Value.ref b from ry);obtain⟨z,hd,xs,rel,dd⟩:=Ki I.hok e;obtain⟨w',hw,rw'⟩:=DU.some_of (v:=v) (o:=(tN xs k).map (·.2)) (by rw[l];exact rel.val k);obtain⟨p,hp,hp2⟩:=Ju.mp hw;refine wpAny_getItem_heap (Oc hu) (Le I.hok eb) dd hp ?_;rw[hp2];exact h w' _ (I.tok _) rw'
def pS(hu:A.units+1<qr)(I:Inv X pins σ H s)(g:BW H a y o)(ry:RelV y u)(h:∀s',Inv X pins σ H s'->Q (.bool o.isSome) s'):
 bt (ax X.prog X.w) A (qg .In u (.ref a)) Q E s:=by
 rcases g with⟨AA,k,e,ey,l⟩|⟨AA,k,b,e,ey,eb,l⟩
 ·subst ey;obtain⟨z,hd,vs,rel,dd⟩:=Jc I.hok e;refine wpAny_in_of (Ig ry) hd dd.mapOf ?_;rw[<-(rel.val k).Mx,<-l];exact h _ (I.tok _)
 ·subst ey;cases(show u=Value.ref b from ry);obtain⟨z,hd,xs,rel,dd⟩:=Ki I.hok e;refine wpAny_in_heap (Oc hu) (Le I.hok eb) hd dd ?_;have q:=(rel.val k).Mx;rw[Option.isSome_map] at q;rw[<-q,<-l];exact h _ (I.tok _)
def jO(hu:A.units+1<qr)(I:Inv X pins σ H s)(g:BW H a y o)(ry:RelV y u)(h:∀s',Inv X pins σ H s'->Q (.bool (!o.isSome)) s'):
 bt (ax X.prog X.w) A (qg .NotIn u (.ref a)) Q E s:=by
 rcases g with⟨AA,k,e,ey,l⟩|⟨AA,k,b,e,ey,eb,l⟩
 ·subst ey;obtain⟨z,hd,vs,rel,dd⟩:=Jc I.hok e;refine wpAny_notIn_of (Ig ry) hd dd.mapOf ?_;rw[<-(rel.val k).Mx,<-l];exact h _ (I.tok _)
 ·subst ey;cases(show u=Value.ref b from ry);obtain⟨z,hd,xs,rel,dd⟩:=Ki I.hok e;refine wpAny_notIn_heap (Oc hu) (Le I.hok eb) hd dd ?_;have q:=(rel.val k).Mx;rw[Option.isSome_map] at q;rw[<-q,<-l];exact h _ (I.tok _)
def PX{ob:HO}(I:Inv X pins σ H s)(mu:OG (H a))(hs:Heap.SameBut a s.heap h')(he:∃q,h'.get? a=some q)(new:BV X.prog X.w (upd H a ob) h' a ob):
 Inv X pins σ (upd H a ob) {s with heap:=h',toks:=t'}:=
 I.write (x:=a) (e:=a) mu (.inl rfl) (fun b q hb z=>(hs.2 b hb).trans z) he new
def TF{vs:List (Key×AD)}(z:AA.length<=sizeLine)(hd:(a==qw)=false)(rel:KV AA vs)(dd:h'.DictOf (CU P w) a vs):
 BV P w H' h' a (.dK AA):=⟨z,hd,vs,rel,dd⟩
def fY{Q:Unit->Ya->Prop}(hu:A.units+1<qr)(I:Inv X pins σ H s)(g:DW H a y v H')(ry:RelV y u)(rv:RelV v r)(h:∀s',Inv X pins σ H' s'->Q () s'):
 bt (ax X.prog X.w) A (setItem (.ref a) u r) Q E s:=by
 rcases g with⟨AA,k,e,ey,l,eH⟩|⟨AA,k,b,e,ey,eb,l,eH⟩
 ·subst ey eH;obtain⟨z,hd,vs,rel,dd⟩:=JZ I.hok e;have hz:vs.length<=sizeLine:=by rw[<-rel.length];exact z
  have hl:(putK AA k v).length<=sizeLine:=by have:=Ro AA k v;lia
  refine wpAny_setItem_pairs (hsz:=hz) (Ig ry) dd fun h' dd' hs=>h _ ?_;have he:∃q,h'.get? a=some q:=let⟨q,_,_,hq,_⟩:=dd';⟨q,hq⟩;exact PX I (by rw[e];exact Cv) hs he (TF hl hd (rel.put k rv) dd')
 ·subst ey eH;cases(show u=Value.ref b from ry);obtain⟨z,hd,xs,rel,dd⟩:=oq I.hok e;have hz:xs.length<=sizeLine:=by rw[<-JF rel];exact z
  have hl:(putK AA k v).length<=sizeLine:=by have:=Ro AA k v;lia
  refine wpAny_setItem_heap (hsz:=hz) (Oc hu) (Le I.hok eb) dd fun h' dd' hs=>h _ ?_;obtain⟨q,es,ep,hq,h2,h3,h4,_,h5⟩:=dd';refine PX I (by rw[e];exact Cv) hs ⟨q,hq⟩ ⟨hl,hd,_,(rel.put k eb rv).keeps fun c ys ec=>?_,q,es,ep,hq,h2,h3,h4,h5⟩;rw[AN (CH ec e (fun z=>nomatch z))];exact ec
end
section
variable{k:Key}
def Zg{more:List AD}(I:Inv X pins σ H s)(e:H a=some (.dK AA))(ry:RelV (kV k) u)(l:BP AA k=some v)(hm:more=[]\/∃x,more=[x])
 (h:∀w' s',Inv X pins σ (upd H a (.dK (Ik AA k))) s'->RelV v w'->Q w' s'):bt (ax X.prog X.w) A (call (.builtin "dict.pop") (.ref a::u::more)) Q E s:=by
 obtain⟨z,hd,vs,rel,dd⟩:=JZ I.hok e;obtain⟨w',hw,rw'⟩:=DU.some_of (v:=v) (o:=sC vs k) (by rw[<-l];exact rel.val k);have hp:(keyPart u).isSome=true:=by
  cases k with
  |inl i=>obtain⟨t,q⟩:=(show∃t,u=Value.int i t from ry);subst q;rfl
  |inr x=>obtain⟨t,q⟩:=(show∃t,u=Value.str x t from ry);subst q;rfl
 have ha:argsOk "dict.pop" ⟨.ref a::u::more,[]⟩:=by
  rcases hm with q|⟨x,q⟩
  ·subst q;exact PySem.F.args_dict_pop_2 _ _
  ·subst q;exact uA _ _ _
 refine Mp Q2 dd.typeIs uB ha (meets_dict_pop_there (CU X.prog X.w) a (Ig ry) more hm hp)
  ⟨vs,w',dd,by rw[<-rel.length];exact z,hw,fun h' dd' hs=>h w' _ ?_ rw'⟩;have he:∃q,h'.get? a=some q:=let⟨q,_,_,hq,_⟩:=dd';⟨q,hq⟩;exact PX I (by rw[e];exact Cv) hs he (TF (BJ (gu AA k) z) hd (rel.drop k) dd')
def lY{r:AD}(I:Inv X pins σ H s)(e:H a=some (.dK AA))(ry:RelV (kV k) u)(l:BP AA k=none)(h:∀s',Inv X pins σ H s'->Q r s'):
 bt (ax X.prog X.w) A (call (.builtin "dict.pop") [.ref a,u,r]) Q E s:=by
 obtain⟨z,hd,vs,rel,dd⟩:=JZ I.hok e;have hn:sC vs k=none:=DU.none_of (by rw[<-l];exact rel.val k);have hp:(keyPart u).isSome=true:=by
  cases k with
  |inl i=>obtain⟨t,q⟩:=(show∃t,u=Value.int i t from ry);subst q;rfl
  |inr x=>obtain⟨t,q⟩:=(show∃t,u=Value.str x t from ry);subst q;rfl
 exact Mp Q2 dd.typeIs uB (uA _ _ _) (meets_dict_pop_default (CU X.prog X.w) a (Ig ry) hd hp r) ⟨vs,dd,hn,h _ (I.tok _)⟩
def nR(I:Inv X pins σ H s)(e:Rd H a (.dK AA))(h:∀t s',Inv X pins σ H s'->Q (.int AA.length t) s'):bt (ax X.prog X.w) A (call (.builtin "len") [.ref a]) Q E s:=by obtain⟨z,hd,vs,rel,dd⟩:=Jc I.hok e;refine call_len_dict hd dd (by rw[<-rel.length];rw[A8] at z;lia) ?_;rw[<-rel.length];exact h _ _ (I.tok _)
end
def aH(i:hX):Prop:=∀ov iv,si i false ov iv=operate [ov,iv] (rV ov iv)
def kA{value slice:hX}{id:String}
 (hl:typeLookup (.type T) "__getitem__" =pure (some (.builtin id)))(hs:aH slice)
 (h:bt (ax prog w) A (qh value env) (fun o s₁=>bt (ax prog w) A (qh slice env) (fun i s₂=>s₂.TypeIs o T/\bt (ax prog w) A (rV o i) Q E s₂) E s₁) E s):
 bt (ax prog w) A (qh (.Subscript value slice pos) env) Q E s:=by
 refine Subscript_ (C8 h (fun o s₁ h₁=>C8 h₁ (fun i s₂ h₂=>?_) fun _ _ x=>x) fun _ _ x=>x);obtain⟨hT,h₂⟩:=h₂;unfold tS;refine AK ?_;rw[getitemInPython_of_ne hT.not_modules];refine AK (wpAny_specialOf hT hl ?_);have fin:bt (ax prog w) A (si slice false o i) (fun r s₃=>bt (ax prog w) A (letTemporaryGo value o r>>=fun _=>pure r) Q E s₃) E s₂:=by rw[hs o i];exact wpAny_operating (C8 h₂ (fun r s₃ h₃=>AK (wpAny_letTemporaryGo (Ac h₃))) fun _ _ x=>x)
 first
  |exact Ac (AK fin)
  |exact AK (Ac (AK fin))
  |exact AK fin
def cF{o:Option V}(I:Inv X pins σ H s)(g:BW H a y o):s.TypeIs (.ref a) "dict" :=by
 rcases g with⟨AA,k,e,_,_⟩|⟨AA,k,b,e,_,_,_⟩
 ·obtain⟨_,_,vs,_,dd⟩:=Jc I.hok e;exact dd.typeIs
 ·obtain⟨_,_,xs,_,dd⟩:=Ki I.hok e;exact dd.typeIs
def Ja(td ty:TE):TE:=fun σ H Q=>td σ H fun x H1=>ty σ H1 fun y H2=>∃a v,x=.ref a/\BW H2 a y (some v)/\Q v H2
def o5(ty td:TE):TE:=fun σ H Q=>ty σ H fun y H1=>td σ H1 fun x H2=>∃a o,x=.ref a/\BW H2 a y o/\Q (.bl o.isSome) H2
def jn(ty td:TE):TE:=fun σ H Q=>ty σ H fun y H1=>td σ H1 fun x H2=>∃a o,x=.ref a/\BW H2 a y o/\Q (.bl (!o.isSome)) H2
def nI(td ty tv:TE):TS:=fun D σ H=>tv σ H fun v H1=>td σ H1 fun x H2=>ty σ H2 fun y H3=>∃a H4,x=.ref a/\DW H3 a y v H4/\D.nx σ H4
section
variable{o i value:hX}{pos':Pos}{td ty tv:TE}
def D1(hu:X.A.units+1<qr)(ho:PE X o td)(hi:PE X i ty)(hs:aH i):PE X (.Subscript o i pos) (Ja td ty):=by intro pins s σ H Q I h;refine kA PySem.F.slot_dict_getitem.lookup hs (Ad (ho pins s σ H _ I h) fun u s1 ⟨x,H1,I1,rx,q1⟩=>Ad (hi pins s1 σ H1 _ I1 q1) fun iv s2 ⟨y,H2,I2,ry,a,v,ex,g,q2⟩=>?_);subst ex;obtain rfl:u=Value.ref a:=rx;exact⟨cF I2 g,fb hu I2 g ry fun w' s3 I3 rw'=>⟨v,H2,I3,rw',q2⟩⟩
def YV(hu:X.A.units+1<qr)(hi:PE X i ty)(ho:PE X o td):PC X .In i o (o5 ty td):=by intro pins s σ H Q I h;refine Ad (hi pins s σ H _ I h) fun iv s1 ⟨y,H1,I1,ry,q1⟩=>Ad (ho pins s1 σ H1 _ I1 q1) fun u s2 ⟨x,H2,I2,rx,a,ov,ex,g,q2⟩=>?_;subst ex;obtain rfl:u=Value.ref a:=rx;exact pS hu I2 g ry fun s3 I3=>⟨.bl ov.isSome,H2,I3,rfl,q2⟩
def PB(hu:X.A.units+1<qr)(hi:PE X i ty)(ho:PE X o td):PC X .NotIn i o (jn ty td):=by intro pins s σ H Q I h;refine Ad (hi pins s σ H _ I h) fun iv s1 ⟨y,H1,I1,ry,q1⟩=>Ad (ho pins s1 σ H1 _ I1 q1) fun u s2 ⟨x,H2,I2,rx,a,ov,ex,g,q2⟩=>?_;subst ex;obtain rfl:u=Value.ref a:=rx;exact jO hu I2 g ry fun s3 I3=>⟨.bl (!ov.isSome),H2,I3,rfl,q2⟩
def Ee(hu:X.A.units+1<qr)(ho:PE X o td)(hi:PE X i ty)(hv:PE X value tv)(hs:sL value (some (.Subscript o i pos')) pos.line X.env=pure false):
 PS X (.Assign [.Subscript o i pos'] value pos) (nI td ty tv):=by
 intro pins s σ H D I h;refine wpAny_Assign_Subscript (Ad (hv pins s σ H _ I h) fun r s1 ⟨v,H1,I1,rv,q1⟩=>Ad (ho pins s1 σ H1 _ I1 q1) fun u s2 ⟨x,H2,I2,rx,q2⟩=>Ad (hi pins s2 σ H2 _ I2 q2) fun iv s3 ⟨y,H3,I3,ry,a,H4,ex,g,q3⟩=>?_) hs;subst ex;obtain rfl:u=Value.ref a:=rx;exact fY hu I3 g ry rv fun s4 I4=>⟨σ,H4,I4,q3⟩
end
def Wl(h:qi)(hb:qw<h.objs.size):BV P w H (h.push {cls:=.type "dict",data:=.dict #[]}) h.objs.size (.dK []):=
 ⟨CC _,Ob.mpr (DG (BO hb)),[],.nil,Heap.DictOf.new h⟩
def mB:TE:=fun _ H Q=>∀p,H p=none->Q (.ref p) (upd H p (.dK []))
def NH{X:Cx}{pos:Pos}:PE X (.Dict [] [] pos) mB:=fun pins s σ H Q I h=>wpAny_Dict_empty ⟨.ref s.heap.objs.size,_,I.laid (a:=s.heap.objs.size) (o:=.dK []) (t':=s.toks) (fun _ _ q=>BC _ q) (Ae _) (Wl s.heap I.big),rfl,h _ (I.hok.fresh (Ae _))⟩
def S8:List (TE×TE)->St->Hp->(List (V×V)->Hp->Prop)->Prop
 |[],_,H,Q=>Q [] H
 |(tk,tv)::r,σ,H,Q=>tk σ H fun x H1=>tv σ H1 fun y H2=>S8 r σ H2 fun ps H3=>Q ((x,y)::ps) H3
abbrev VV:List (V×V)->List (AD×AD)->Prop:=Paired fun p q=>RelV p.1 q.1/\RelV p.2 q.2
def OA(X:Cx)(pos:Pos)(keys:List (Option hX))(values:List hX)(trs:List (TE×TE)):Prop:=
 ∀(pins:List (OK×Obj))(s:Ya)(σ:St)(H:Hp)(Q:List (V×V)->Hp->Prop),Inv X pins σ H s->S8 trs σ H Q->
  bt (ax X.prog X.w) X.A (evalPairs (pairTrees keys values X.env pos)) (fun vs s'=>∃ps H',Inv X pins σ H' s'/\VV ps vs/\Q ps H') X.xe s
def jJ{X:Cx}{pos:Pos}:OA X pos [] [] []:=fun pins s σ H Q I h=>pairTrees_nil_walk ⟨[],H,I,.nil,h⟩
def SR{X:Cx}{pos:Pos}{k v:hX}{ks:List (Option hX)}{vs:List hX}{tk tv:TE}{trs:List (TE×TE)}(hk:PE X k tk)(hv:PE X v tv)(hr:OA X pos ks vs trs):
 OA X pos (some k::ks) (v::vs) ((tk,tv)::trs):=fun pins s σ H Q I h=>
 pairTrees_cons_walk (Ad (hk pins s σ H _ I h) fun u s1 ⟨x,H1,I1,rx,q1⟩=>Ad (hv pins s1 σ H1 _ I1 q1) fun w2 s2 ⟨y,H2,I2,ry,q2⟩=>Ad (hr pins s2 σ H2 _ I2 q2) fun ws s3 ⟨ps,H3,I3,rel,q3⟩=>⟨(x,y)::ps,H3,I3,.cons ⟨rx,ry⟩ rel,q3⟩)
def NY(AA more:List (Key×V)):List (Key×V):=more.foldl (fun acc kv=>putK acc kv.1 kv.2) AA
def KV.merge:∀{more:List (Key×V)}{rs:List (Key×AD)}{AA:List (Key×V)}{vs:List (Key×AD)},KV more rs->KV AA vs->KV (NY AA more) (merged vs rs):=by
 intro more rs AA vs r;unfold KV at r
 induction r generalizing AA vs with
 |nil=>intro q;exact q
 |@cons p q ps qs h t ih=>
  intro r0;have e:KV (putK AA p.1 p.2) (stored vs q.1 q.2):=by have:=r0.put p.1 h.2;rw[<-h.1];exact this
  exact ih e
def VR:∀(more AA:List (Key×V)),(NY AA more).length<=AA.length+more.length
 |[],AA=>by show AA.length<=AA.length+0;lia
 |p::r,AA=>by have h1:=VR r (putK AA p.1 p.2);have h2:=Ro AA p.1 p.2;show(NY (putK AA p.1 p.2) r).length<=_;rw[CG];lia
def Vr{P:qf}{w:qj}:∀{AA:List (Key×V)}{ws:List (AD×AD)},VV (AA.map fun kv=>(kV kv.1,kv.2)) ws->∃rs,Carries (CU P w) ws rs/\KV AA rs
 |[],_,r=>by rw[LJ] at r;cases r;exact⟨[],Cv,.nil⟩
 |p::AA,_,r=>by
  rw[Au] at r
  cases r with
  |@cons a b as bs h t=>obtain⟨rs,c,q⟩:=Vr (P:=P) (w:=w) t;obtain⟨b1,b2⟩:=b;exact⟨(p.1,b2)::rs,⟨Ig h.1,rfl,c⟩,.cons ⟨rfl,h.2⟩ q⟩
def ZI(trs:List (TE×TE)):TE:=fun σ H Q=>∀p,H p=none->S8 trs σ (upd H p (.dK [])) fun ps H2=>H2 p=some (.dK [])/\∃AA:List (Key×V),ps=AA.map (fun kv=>(kV kv.1,kv.2))/\AA.length<=15/\Q (.ref p) (upd H2 p (.dK (NY [] AA)))
def ip{X:Cx}{pos:Pos}{keys:List (Option hX)}{values:List hX}{trs:List (TE×TE)}(h:OA X pos keys values trs)(hall:keys.all (·.isSome)=true)(hl:keys.length=values.length)(h0:keys≠[])
 (h15:keys.length<=15):PE X (.Dict keys values pos) (ZI trs):=by
 intro pins s σ H Q I q;have hn:=I.hok.fresh (Ae s.heap.objs.size);have I1:=I.laid (a:=s.heap.objs.size) (o:=.dK []) (h':=s.heap.push {cls:=.type "dict",data:=.dict #[]}) (t':=s.toks) (fun _ _ q=>BC _ q) (Ae _) (Wl s.heap I.big);refine wpAny_Dict_walk (knd:=CU X.prog X.w) hall hl h0 h15 (Ad (h pins _ σ _ _ I1 (q _ hn)) fun ws s2 ⟨ps,H2,I2,rel,e,AA,ep,lk,q2⟩=>?_);subst ep;obtain⟨rs,c,rk⟩:=Vr (P:=X.prog) (w:=X.w) rel;obtain⟨z,hd,vs0,r0,dd⟩:=JZ I2.hok e;cases r0;refine⟨rs,c,dd,fun h' dd' hs=>⟨.ref s.heap.objs.size,_,?_,rfl,q2⟩⟩;have hz:(NY [] AA).length<=sizeLine:=by have h1:=VR AA [];rw[Mb] at h1;rw[A8];lia
 have he:∃q,h'.get? s.heap.objs.size=some q:=let⟨q,_,_,hq,_⟩:=dd';⟨q,hq⟩;exact PX I2 (by rw[e];exact Cv) hs he (TF hz hd (rk.merge .nil) dd')
structure M1(X:Cx)(o:hX)(m:Str)(apos:Pos)(e:hX)(cpos:Pos):Prop where
 base:qo o m X.env (qh o X.env)=qh o X.env
 Dl:((qt cpos (dq [e] X.env)).all (fun x=> !x.1)&&(rh cpos (rG [] X.env)).all (fun x=>x.1.isSome)
  &&decide (([e]:List hX).length+([]:List rX).length+(if([]:List rX).isEmpty then 0 else 1)<30))=true
 line:(apos.endLine==cpos.line)=true
 trees:qt cpos (dq [e] X.env)=[(false,qh e X.env)]
structure M2(X:Cx)(o:hX)(m:Str)(apos:Pos)(e f:hX)(cpos:Pos):Prop where
 base:qo o m X.env (qh o X.env)=qh o X.env
 Dl:((qt cpos (dq [e,f] X.env)).all (fun x=> !x.1)&&(rh cpos (rG [] X.env)).all (fun x=>x.1.isSome)
  &&decide (([e,f]:List hX).length+([]:List rX).length+(if([]:List rX).isEmpty then 0 else 1)<30))=true
 line:(apos.endLine==cpos.line)=true
 trees:qt cpos (dq [e,f] X.env)=[(false,qh e X.env),(false,qh f X.env)]
def Qd(H:Hp)(a:OK):Prop:=(∃AA,Rd H a (.dK AA))\/∃AA,Rd H a (.dT AA)
def TX(I:Inv X pins σ H s)(d:Qd H a):
 s.TypeIs (.ref a) "dict" /\(∀b,Value.ref a=.ref b->∃ob,s.heap.get? b=some ob/\ob.dict=none)/\(a==qw)=false:=by
 rcases d with⟨AA,e⟩|⟨AA,e⟩
 ·obtain⟨_,hd,vs,_,dd⟩:=Jc I.hok e;refine⟨dd.typeIs,fun b q=>?_,hd⟩;cases q;obtain⟨ob,_,_,h1,h2,_⟩:=dd;exact⟨ob,h1,h2.2.1⟩
 ·obtain⟨_,hd,xs,_,dd⟩:=Ki I.hok e;refine⟨dd.typeIs,fun b q=>?_,hd⟩;cases q;obtain⟨ob,_,_,h1,h2,_⟩:=dd;exact⟨ob,h1,h2.2.1⟩
section
variable{d:V}{r:AD}{o:Option V}
def kU(hu:A.units+1<qr)(I:Inv X pins σ H s)(g:BW H a y o)(ry:RelV y u)(rd:RelV d r)(h:∀w' s',Inv X pins σ H s'->RelV (o.getD d) w'->Q w' s'):
 bt (ax X.prog X.w) A (call (.builtin "dict.get") [.ref a,u,r]) Q E s:=by
 rcases g with⟨AA,k,e,ey,l⟩|⟨AA,k,b,e,ey,eb,l⟩
 ·subst ey;obtain⟨z,hd,vs,rel,dd⟩:=Jc I.hok e;refine Mp U4 dd.typeIs uC (uD _ _ _) (meets_dict_get_default (CU X.prog X.w) a (Ig ry) hd r) ⟨_,dd.mapOf,h _ _ (I.tok _) ?_⟩;rw[l];exact(rel.val k).getD rd
 ·subst ey;cases(show u=Value.ref b from ry);obtain⟨z,hd,xs,rel,dd⟩:=Ki I.hok e;refine Mp U4 dd.typeIs uC (uD _ _ _) (meetsH_dict_get_default (sI (CU X.prog X.w)) a b hd r) ⟨Oc hu,k,xs,Le I.hok eb,dd,h _ _ (I.tok _) ?_⟩;rw[l];exact(rel.val k).getD rd
end
def kZ(td ty tx:TE):TE:=fun σ H Q=>td σ H fun x H1=>∃a,x=.ref a/\Qd H1 a/\ty σ H1 fun y H2=>tx σ H2 fun z H3=>∃o,BW H3 a y o/\Q (o.getD z) H3
def lU(td ty:TE):TE:=fun σ H Q=>td σ H fun x H1=>∃a,x=.ref a/\Qd H1 a/\ty σ H1 fun y H2=>∃AA k v,H2 a=some (.dK AA)/\y=kV k/\BP AA k=some v/\Q v (upd H2 a (.dK (Ik AA k)))
def lO(td ty tx:TE):TE:=fun σ H Q=>td σ H fun x H1=>∃a,x=.ref a/\Qd H1 a/\ty σ H1 fun y H2=>tx σ H2 fun z H3=>∃AA k,H3 a=some (.dK AA)/\y=kV k/\
 (∀v,BP AA k=some v->Q v (upd H3 a (.dK (Ik AA k))))/\(BP AA k=none->Q z H3)
section
variable{o f:hX}{td ty tx:TE}
def gq(hu:X.A.units+1<qr)(ho:PE X o td)(he:PE X e ty)(hf:PE X f tx)(m:M2 X o "get" apos e f cpos):PE X (.Call (.Attribute o "get" apos) [e,f] [] cpos) (kZ td ty tx):=by
 intro pins s σ H Q I h;refine sR m.base m.Dl m.line K6 U4 PySem.F.type_dict_get (Ad (ho pins s σ H _ I h) fun u s1 ⟨x,H1,I1,rx,a,ex,d,q1⟩=>?_);subst ex;obtain rfl:u=Value.ref a:=rx;obtain⟨t1,t2,_⟩:=TX I1 d;refine⟨t1,t2,?_⟩;rw[m.trees];refine OX rfl (Q5 (MQ (Ad (he pins s1 σ H1 _ I1 q1) fun iv s2 ⟨y,H2,I2,ry,q2⟩=>MQ (Ad (hf pins s2 σ H2 _ I2 q2) fun fv s3 ⟨z,H3,I3,rz,ov,g,q3⟩=>RI ?_))));exact kU hu I3 g ry rz fun w' s4 I4 rw'=>⟨_,H3,I4,rw',q3⟩
def JL(ho:PE X o td)(he:PE X e ty)(m:M1 X o "pop" apos e cpos):PE X (.Call (.Attribute o "pop" apos) [e] [] cpos) (lU td ty):=by intro pins s σ H Q I h;refine sR m.base m.Dl m.line K6 Q2 uE (Ad (ho pins s σ H _ I h) fun u s1 ⟨x,H1,I1,rx,a,ex,d,q1⟩=>?_);subst ex;obtain rfl:u=Value.ref a:=rx;obtain⟨t1,t2,_⟩:=TX I1 d;refine⟨t1,t2,?_⟩;rw[m.trees];refine OX rfl (Q5 (MQ (Ad (he pins s1 σ H1 _ I1 q1) fun iv s2 ⟨y,H2,I2,ry,AA,k,v,ea,ey,l,q2⟩=>RI ?_)));subst ey;exact Zg I2 ea ry l (.inl rfl) fun w' s3 I3 rw'=>⟨v,_,I3,rw',q2⟩
def gH(ho:PE X o td)(he:PE X e ty)(hf:PE X f tx)(m:M2 X o "pop" apos e f cpos):PE X (.Call (.Attribute o "pop" apos) [e,f] [] cpos) (lO td ty tx):=by
 intro pins s σ H Q I h;refine sR m.base m.Dl m.line K6 Q2 uE (Ad (ho pins s σ H _ I h) fun u s1 ⟨x,H1,I1,rx,a,ex,d,q1⟩=>?_);subst ex;obtain rfl:u=Value.ref a:=rx;obtain⟨t1,t2,_⟩:=TX I1 d;refine⟨t1,t2,?_⟩;rw[m.trees];refine OX rfl (Q5 (MQ (Ad (he pins s1 σ H1 _ I1 q1) fun iv s2 ⟨y,H2,I2,ry,q2⟩=>MQ (Ad (hf pins s2 σ H2 _ I2 q2) fun fv s3 ⟨z,H3,I3,rz,AA,k,ea,ey,q3,q4⟩=>RI ?_))));subst ey
 cases l:BP AA k with
 |some v=>exact Zg I3 ea ry l (.inr ⟨fv,rfl⟩) fun w' s4 I4 rw'=>⟨v,_,I4,rw',q3 v l⟩
 |none=>exact lY I3 ea ry l fun s4 I4=>⟨z,H3,I4,rz,q4 l⟩
end
section
variable{κ:Type}[DecidableEq κ]
def gG{AA:List (κ×V)}{k:κ}(h:BP AA k=none):¬k∈AA.map (·.1):=by intro m;obtain⟨p,hp,e⟩:=BA.mp m;have q:(AA.any fun kv=>decide (kv.1=k))=true:=IT.mpr ⟨p,hp,Bb e⟩;rw[KL,h] at q;exact absurd q (by simp)
def jZ{AA:List (κ×V)}{k:κ}(h:BP AA k=some v):k∈AA.map (·.1):=by
 have q:(AA.any fun kv=>decide (kv.1=k))=true:=by rw[KL,h];all_goals rfl
 obtain⟨p,hp,e⟩:=IT.mp q;exact BA.mpr ⟨p,hp,IS e⟩
def Xq:∀{l:List κ}{k:κ},l.Nodup->¬k∈l->(l++[k]).Nodup
 |[],k,_,_=>by simp
 |a::r,k,h,hk=>by
  obtain⟨h1,h2⟩:=Ea.mp h;show(a::(r++[k])).Nodup;refine Ea.mpr ⟨fun m=>?_,Xq h2 fun m=>hk (BI.mpr (Cc m))⟩;rcases BS.mp m with q|q
  ·exact h1 q
  ·exact hk (BI.mpr (Aa (BR.mp q).symm))
end
section
variable{C:List α->Prop}{l:List α}
def len0(h:C [])(e:l.length=0):C l:=by
 cases l with
 |nil=>exact h
 |cons=>cases e
def QI(h:∀a (r:List α),r.length=n->C (a::r))(e:l.length=n+1):C l:=by
 cases l with
 |nil=>cases e
 |cons a r=>exact h a r (Nat.succ.inj e)
def EV(h:∀a,C [a])(e:l.length=1):C l:=QI (fun a _=>len0 (C:=fun r=>C (a::r)) (h a)) e
def Lr(h:∀a b,C [a,b])(e:l.length=2):C l:=QI (fun a _=>EV (C:=fun r=>C (a::r)) (h a)) e
def T7(h:∀a b c,C [a,b,c])(e:l.length=3):C l:=QI (fun a _=>Lr (C:=fun r=>C (a::r)) (h a)) e
def Z9(h:∀a b c d,C [a,b,c,d])(e:l.length=4):C l:=QI (fun a _=>T7 (C:=fun r=>C (a::r)) (h a)) e
def nQ(h:C [])(h1:∀a,C [a])(e:l.length<2):C l:=by
 cases l with
 |nil=>exact h
 |cons a r=>exact len0 (C:=fun r=>C (a::r)) (h1 a) (Nat.lt_one_iff.mp (Nat.lt_of_succ_lt_succ e))
def pZ(h:C [])(l:List α)(e:l.length=0):C l:=len0 h e
def all1(h:∀a,C [a])(l:List α)(e:l.length=1):C l:=EV h e
def all2(h:∀a b,C [a,b])(l:List α)(e:l.length=2):C l:=Lr h e
def qC(h:∀a b c,C [a,b,c])(l:List α)(e:l.length=3):C l:=T7 h e
def pT(h:∀a b c d,C [a,b,c,d])(l:List α)(e:l.length=4):C l:=Z9 h e
end
variable{ifs:List hX}
def cM{elt target iter:hX}{it acc:AD}(J:Nat->Ya->Prop)
 (turn:∀n s,J n s->bt (ax prog w) A (rJ it) (fun r s1=>match r with
  |none=>R (.ok .next) s1
  |some v=>bt (ax prog w) A (rP target it v) (fun _ s1'=>bt (ax prog w) A (tO target env v) (fun _ s2=>
   bt (ax prog w) A (forIn ifs true fun c r=>if r=true then do let ok<-isTrue c env (qh c env);pure (ForInStep.yield ok) else pure (ForInStep.yield r)) (fun ok s3=>
    if ok=true then bt (ax prog w) A (qh elt env) (fun x s4=>bt (ax prog w) A (call (.builtin "list.append") [acc,x]) (fun _ s5=>∃m,m<n/\J m s5) (fun _ _=>False) s4) (fun _ _=>False) s3
    else∃m,m<n/\J m s3) (fun _ _=>False) s2) (fun _ _=>False) s1') (fun _ _=>False) s1) (fun _ _=>False) s)
 (n:Nat)(h:J n s):rK (ax prog w) A (.compLoop (.ListComp elt [⟨target,iter,ifs,0⟩] scope pos) 0 it acc env) R s:=by
 refine codeAny_loop rfl J (fun n s hJ=>?_) n h;show bt (ax prog w) A ((compTurn (.ListComp elt [⟨target,iter,ifs,0⟩] scope pos) 0 it acc env).onRaise (fun x=>do noteFrame x env;theTreesLotGoes x)) _ _ s;refine wpAny_noted ?_;rw[compTurn_list];refine AK (Ov (AK (C8 (turn n s hJ) (fun r s1 h1=>?_) fun _ _ q=>q.elim)))
 cases r with
 |none=>exact Ac h1
 |some v=>
  refine AK (C8 h1 (fun _ s1' h0=>?_) fun _ _ q=>q.elim);refine AK (C8 h0 (fun _ s2 h2=>?_) fun _ _ q=>q.elim);refine AK (C8 h2 (fun ok s3 h3=>?_) fun _ _ q=>q.elim)
  cases ok with
  |false=>exact Ac ⟨rfl,h3⟩
  |true=>refine AK (AK (C8 h3 (fun x s4 h4=>?_) fun _ _ q=>q.elim));refine AK (C8 h4 (fun _ s5 h5=>?_) fun _ _ q=>q.elim);exact Ac (Ac ⟨rfl,h5⟩)
noncomputable def D4(ix:List Nat)(σ:St):St:=ix.map fun j=>(σ[j]?).join
noncomputable def EB(X:Cx)(Nc:List Str)(scope:sV)(cl:List (Str×OK))(C:OK)(s₀:Ya)(H₀:Hp)(fp:List OK)(pins:List (OK×Obj)):Cx:=
 {X with N:=Nc,s₀:=s₀,H₀:=H₀,env:=compEnvC scope cl C X.env,outer:=X.stack,stack:=X.stack,ex:=fp,fn:=fun _=>false,pn:=X.pn++pins,xe:=fun _ _=>False}
structure KS(X:Cx)(ts cap:List Str)(ix:List Nat)(scope:sV)(cl:List (Str×OK)):Prop where
 calm:X.calm=true
 pE:closureFor scope X.env=pure cl
 cell:∀y∈scope.names,y.2≠.cell
 kind:scope.kind=.function
 names:∀y∈scope.names,y.2=.local->scope.names.lookup y.1=some .local
 sub:∀y c,cl.lookup y=some c->X.env.cells.lookup y=some c
 has:∀y,((rQ scope X.env).names.lookup y=some .cell\/(rQ scope X.env).names.lookup y=some .free)->∃c,cl.lookup y=some c
 len:ix.length=cap.length
 qW:∀(i:Nat)(y:Str)(j:Nat),cap[i]? =some y->ix[i]? =some j->X.N[j]? =some y
 Ua:∀y∈cap,Qe X.env.scope y/\X.env.kindOf y≠some .local/\((rQ scope X.env).names.lookup y=some .cell\/(rQ scope X.env).names.lookup y=some .free)
def Iy(ts:List Str)(ix:List Nat)(σ:St)(σ2:St):Prop:=∃a:St,a.length=ts.length/\σ2=a++D4 ix σ
def Lm(ts:List Str)(ix:List Nat)(σ:St)(J:It)(g:TG)(ti:TT)(te:TE)(D:OK)(Q:VK)(H1:Hp):Prop:=∃W:Nat->Nat->Hp->Prop,(∃m,W 0 m (upd H1 D (.lst [])))/\∀i m H,W i m H->
 (J.stop i H/\Q (.ref D) H)\/(J.go i H/\∃N:Hp->Prop,(∀H',N H'->∃m',m'<m/\W (i+1) m' H')/\∀x H',J.Iw i H x H'->g x (ts.map (fun _=>none)++D4 ix σ) H' fun σ2 H2=>Iy ts ix σ σ2/\ti σ2 H2 fun b H3=>if b=true then te σ2 H3 fun y H4=>∃ys,H4 D=some (.lst ys)/\ys.length<sizeLine/\N (upd H4 D (.lst (ys++[y]))) else N H3)
def Tt(ts:List Str)(ix:List Nat)(wi:TI)(g:TG)(ti:TT)(te:TE):TE:=fun σ H Q=>wi σ H fun J H1=>∀D,H1 D=none->Lm ts ix σ J g ti te D Q H1
variable{ts:List Str}{ix:List Nat}{ti:TT}{D:OK}
def F5{Q:VK}(Pv:Nat->Hp->Prop)(h0:Pv 0 (upd H1 D (.lst [])))(hl:∀i H,i<=xs.length->Pv i H->AL K H a xs)
 (hs:∀i x H,xs[i]? =some x->Pv i H->g x (ts.map (fun _=>none)++D4 ix σ) H fun σ2 H2=>Iy ts ix σ σ2/\ti σ2 H2 fun b H3=>if b=true then te σ2 H3 fun y H4=>∃ys,H4 D=some (.lst ys)/\ys.length<sizeLine/\Pv (i+1) (upd H4 D (.lst (ys++[y]))) else Pv (i+1) H3)
 (hd:∀H,Pv xs.length H->Q (.ref D) H):Lm ts ix σ (HN K a) g ti te D Q H1:=by
 refine⟨fun i m H=>m=xs.length-i/\i<=xs.length/\Pv i H,⟨xs.length,by simp,CC _,h0⟩,?_⟩;rintro i m H ⟨rfl,hi,p⟩;have q:=hl i H hi p;by_cases h1:i<xs.length
 ·refine .inr ⟨⟨xs,xs[i],q,by simp[h1]⟩,Pv (i+1),fun H' p'=>⟨xs.length-(i+1),by lia,rfl,h1,p'⟩,fun x H' y=>?_⟩;obtain⟨e,y⟩:=y;subst e;exact hs i x _ (y xs q) p
 ·obtain rfl:i=xs.length:=by lia
  exact .inl ⟨⟨xs,q,Ae _⟩,hd H p⟩
def FH:Iy [x] ix σ ((([x]:List Str).map (fun _=>(none:Option V))++D4 ix σ).set 0 (some v)):=⟨[some v],rfl,rfl⟩
def OE(X:Cx)(ifs:List hX)(ti:TT):Prop:=
 ∀(h0:List (OK×Obj))(s:Ya)(σ:St)(H:Hp)(Q:Bool->Hp->Prop),Inv X h0 σ H s->ti σ H Q->
  bt (ax X.prog X.w) X.A (forIn ifs true fun c r=>if r=true then do let ok<-isTrue c X.env (qh c X.env);pure (ForInStep.yield ok) else pure (ForInStep.yield r)) (TP X h0 σ Q) X.xe s
def pJ:TT:=fun _ H Q=>Q true H
def Gs:OE X [] pJ:=fun _ _ _ H _ I h=>wpAny_tests_nil ⟨H,I,h⟩
def La{t:TT}(h:PT X c t):OE X [c] t:=fun h0 s σ H Q I q=>wpAny_tests_one (h h0 s σ H Q I q)
section
variable{cap:List Str}{cl:List (Str×OK)}
def gF(h:(D4 ix σ)[i]? =some (some v)):∃j,ix[i]? =some j/\σ[j]? =some (some v):=by
 unfold D4 at h;rw[Az] at h
 cases e:ix[i]?with
 |none=>rw[e] at h;cases h
 |some j=>
  rw[e] at h;have h':(σ[j]?).join=some v:=Ag h;refine⟨j,rfl,?_⟩
  cases e2:σ[j]?with
  |none=>rw[e2] at h';cases h'
  |some o=>rw[e2] at h';have h2:o=some v:=h';rw[h2]
def Inv.block{tk:Nat}(ok:KS X ts cap ix scope cl)(I:Inv X pins σ H s)(hf:∀b∈fp,Fp X pins H b)(hfs:∀b∈fp,b<s.heap.objs.size)
 (hn:h'.Ns s.heap.objs.size (fun _=>none))(hk:∀b o,s.heap.get? b=some o->h'.get? b=some o):
 Inv (EB X (ts++cap) scope cl s.heap.objs.size s H fp pins) [] (ts.map (fun _=>none)++D4 ix σ) H {s with heap:=h',toks:=tk}:=by
 have nC:∀y c,cl.lookup y=some c->c<s.heap.objs.size:=fun y c e=>by obtain⟨v,z⟩:=I.cell y c (ok.sub y c e);exact z.lt
 refine⟨⟨I.ok.mod,?_,I.ok.glob,I.ok.blt,Ae _,?_,?_,?_,I.ok.hd,I.ok.frames,.inl rfl,?_,?_,?_,?_,?_,I.stack,I.Pb⟩,rfl,I.bare,Un.kept hk,⟨_,hn,?_⟩,?_,I.hok.fresh (Ae _),?_,?_,I.hok.kept hk,?_⟩
 ·exact ok.kind
 ·exact fun x y c h1 h2=>I.ok.inj x y c (ok.sub x c h1) (ok.sub y c h2)
 ·exact fun y hy=>ok.has y hy
 ·exact fun y c hy=>absurd hy (by simp[EB])
 ·intro b hb;exact⟨BO (hfs b hb),fun y c e=>(hf b hb).2.2.2.2.1 y c (ok.sub y c e)⟩
 ·exact fun b o e=>I.bs b o e
 ·exact BJ I.ok.GV I.sz
 ·intro b o e hb;rcases(hf b hb).2.2.2.1 with z|z
  ·exact I.ok.Ku b o e z
  ·exact absurd (C5 (A2 e) (BJ I.ok.GV z)) (Ml _)
 ·intro b hb hz;rcases BI.mp (I.Nj b hz) with z|z
  ·exact(hf b hb).2.1 z
  ·exact(hf b hb).2.2.1 z
 ·intro i x v e1 e2 e3;have h0:(ts++cap)[i]? =some x:=e1;by_cases hi:i<ts.length
  ·rw[C2 (by simpa using hi),Az] at e2
   cases e:ts[i]?with
   |none=>rw[e] at e2;cases e2
   |some y=>rw[e] at e2;cases e2
  ·rw[Cj (by simpa using hi),AJ] at e2;rw[Cj (by lia)] at h0;obtain⟨j,hj,hv⟩:=gF e2;have hm:x∈cap:=CA h0;obtain⟨m,h5,hl⟩:=I.loc;obtain⟨Ua,nl,fr⟩:=ok.Ua x hm;obtain⟨u,r,l⟩:=hl j x v (ok.qW _ x j h0 hj) hv Ua;refine⟨u,r,?_⟩;rcases l with⟨k,_⟩|⟨_,c,hc,z⟩
   ·exact absurd k nl
   ·obtain⟨c',h3⟩:=ok.has x fr;have e:=ok.sub x c' h3;rw[hc] at e;cases e;obtain⟨o,ho,hd⟩:=z;exact .inr ⟨fr,c,h3,o,hk c o ho,hd⟩
 ·intro x c e;obtain⟨v,o,ho,hd⟩:=I.cell x c (ok.sub x c e);exact⟨v,o,hk c o ho,hd⟩
 ·intro x c e;exact I.DH x c (ok.sub x c e)
 ·intro p hp;have h4:p∈X.pn++pins:=by simpa[EB] using hp
  obtain⟨e,n,ne,nf,d⟩:=I.pin p h4;refine⟨hk _ _ e,n,BO (A2 e),fun hz=>?_,d⟩;rcases BI.mp (I.Nj p.1 hz) with z|z
  ·exact ne z
  ·exact nf z
 ·show(ts.map (fun _=>none)++D4 ix σ).length=(ts++cap).length;rw[An,AJ,An];unfold D4;rw[AJ,ok.len]
def Inv.YM{Nc:List Str}{σc:St}{s':Ya}{h'':qi}{pc:List (OK×Obj)}(I:Inv X pins σ H s)(hf:∀b∈fp,Fp X pins H b)
 (B:Inv (EB X Nc scope cl s.heap.objs.size s H fp pins) pc σc H' s')(hs:Heap.SameBut s.heap.objs.size s'.heap h''):Inv X pins σ H' {s' with heap:=h''}:=by
 have e1:(EB X Nc scope cl s.heap.objs.size s H fp pins).fs=Ci X.stack:=rfl;have B0:Un (Ci X.stack) fp H H' s.heap s'.heap:=B.base;have nz:∀b o,s.heap.get? b=some o->b≠s.heap.objs.size:=fun b o e=>BO (A2 e);have fr:H' s.heap.objs.size=none:=B.free;refine I.P9 (ch:=fp) (s':={s' with heap:=h''}) (show s'.os=s.os from B.os) ⟨fun b o e n hb hx=>?_,fun b o e n hb hx=>?_,B0.free,fun b o e hx=>?_,B0.Em,B0.EC,B0.Ek⟩ (fun b u e=>?_) B.bare (fun b hb=>?_)
 ·exact(hs.2 b (nz b o e)).trans (B0.keep b o e n hb hx)
 ·obtain⟨sl,q⟩:=B0.slot b o e n hb hx;exact⟨sl,(hs.2 b (nz b o e)).trans q⟩
 ·obtain⟨o',q⟩:=B0.there b o e hx;exact⟨o',(hs.2 b (nz b o e)).trans q⟩
 ·refine(B.hok b u e).ES (fun c v hc q=>(hs.2 c ?_).trans q) (fun _ q=>q) fun _ _ q=>q;rcases hc with z|z
  ·subst z;exact fun z=>by rw[z,fr] at e;cases e
  ·exact fun z'=>by rw[z',fr] at z;cases z
 ·obtain⟨_,f1,_,f3,f4,f5⟩:=hf b hb;exact⟨f3,f1,f4,f5⟩
end
variable{use:Option (AD->Sem Unit)}
section
variable{cap:List Str}{cl:List (Str×OK)}
def Vs{elt iter:hX}{pos2:Pos}{wi:TI}{R:AD->Ya->Prop}{Q:VK}(ok:KS X ts cap ix scope cl)(hi:PI X tg iter wi)
 (hg:∀C s₀ H₀ fp pins,PG (EB X (ts++cap) scope cl C s₀ H₀ fp pins) tg g)(ht:∀C s₀ H₀ fp pins,OE (EB X (ts++cap) scope cl C s₀ H₀ fp pins) ifs ti)
 (he:∀C s₀ H₀ fp pins,PE (EB X (ts++cap) scope cl C s₀ H₀ fp pins) elt te)(hs:∀x,foldedSetIterable iter X.env x=pure x)(I:Inv X pins σ H s)(h:Tt ts ix wi g ti te σ H Q)
 (fin:∀(D:OK)(H3 H4:Hp)(s3 s5:Ya)(fp:List OK),Inv X pins σ H3 s3->(∀b∈fp,Fp X pins H3 b)->Inv (EB X (ts++cap) scope cl s3.heap.objs.size s3 H3 fp pins) [] (ts.map (fun _=>none)++D4 ix σ) H4 s5->Q (.ref D) H4->
  compPost (ax X.prog X.w) X.A X.xe use R (.ref D) s3.heap.objs.size (.ok .next) s5):
 bt (ax X.prog X.w) X.A (comprehension (.ListComp elt [⟨tg,iter,ifs,0⟩] scope pos) scope X.env pos2 (newList []) false (qh iter X.env) use) R X.xe s:=by
 refine wpAny_comprehension_free (use:=use) rfl hs ok.pE ok.kind ok.names (Ad (hi pins s σ H _ I h) fun v s1 h1=>Ad h1 fun q5 s2 h2=>?_);obtain⟨it,fp,tn,J,H2,e,I2,T,e6,f2,hW⟩:=h2;subst e;refine IQ (wpAny_newFunctionEnv ok.cell (by intro y hy;simp at hy) (fun h1 s0 e9=>?_) ok.kind);dsimp only at s0 e9⊢;have nD:H2 s2.heap.objs.size=none:=I2.hok.fresh (Ae _);obtain⟨W,⟨m0,w0⟩,h7⟩:=hW s2.heap.objs.size nD;have I3:=I2.UA (t':=s2.toks) (ys:=[]) (AX:=[]) .nil (CC _);have h4:∀b∈fp,b<s2.heap.objs.size:=fun b hb=>by obtain⟨o,e,_⟩:=T.obj _ _ e6 b hb;exact A2 e
 have e3:∀b∈fp,Fp X pins (upd H2 s2.heap.objs.size (.lst [])) b:=fun b hb=>⟨by rw[AN (BO (h4 b hb))];exact(f2 b hb).1,(f2 b hb).2⟩;generalize e1:({s2 with heap:=s2.heap.push {cls:=.type "list",data:=.seq ([]:List AD).toArray},toks:=s2.toks}:Ya)=s3 at I3;have h6:s3.heap=s2.heap.push {cls:=.type "list",data:=.seq ([]:List AD).toArray}:=by rw[<-e1]
 have q6:s3.toks=s2.toks:=by rw[<-e1]
 have e4:s3.heap.objs.size=s2.heap.objs.size+1:=by rw[h6,Gh]
 have k3:∀b o,s2.heap.get? b=some o->s3.heap.get? b=some o:=fun b o e=>by rw[h6];exact BC _ e
 have r0:∀b o,s3.heap.get? b=some o->h1.get? b=some o:=fun b o e=>by have q:=e9.2 b (by rw[<-h6];exact BO (A2 e));rw[q];rw[<-h6];exact BC _ e
 have hC:(s2.heap.push {cls:=.type "list",data:=.seq ([]:List AD).toArray}).objs.size=s3.heap.objs.size:=by rw[h6]
 have B:Inv (EB X (ts++cap) scope cl s3.heap.objs.size s3 (upd H2 s2.heap.objs.size (.lst [])) fp pins) [] (ts.map (fun _=>none)++D4 ix σ) (upd H2 s2.heap.objs.size (.lst [])) {s3 with heap:=h1,toks:=s2.toks}:=
  I3.block ok e3 (fun b hb=>C5 (h4 b hb) (by rw[e4];exact Eb _)) (by rw[<-hC];exact s0) r0;let Xc:=EB X (ts++cap) scope cl s3.heap.objs.size s3 (upd H2 s2.heap.objs.size (.lst [])) fp pins;have h3:∀{H':Hp},(∀b∈fp,H' b=none)->∀b∈fp,Fp Xc [] H' b:=fun{H'} hn b hb=>by
  obtain⟨_,f1,q0,f3,f4,f5⟩:=f2 b hb;refine⟨hn b hb,?_,fun hz=>?_,.inl hb,fun x c e=>f4 x c (ok.sub x c e),fun p hp=>?_⟩
  ·have r8:b<s3.heap.objs.size:=C5 (h4 b hb) (by rw[e4];exact Eb _);exact BO r8
  ·rcases BI.mp (I2.Nj b hz) with z|z
   ·exact f1 z
   ·exact q0 z
  ·have r7:p∈X.pn++pins:=by
    have r5:p∈(X.pn++pins)++[]:=hp
    rwa [Cp] at r5
   exact f5 p r7
 have e8:tn 0 h1:=T.keep 0 s2.heap h1 e6 fun b hb o e=>r0 b o (k3 b o e);have e0:∀st:Ya,st={s3 with heap:=h1,toks:=s2.toks}->
  rK (ax X.prog X.w) X.A (.compLoop (.ListComp elt [⟨tg,iter,ifs,0⟩] scope pos) 0 (.ref it) (.ref s2.heap.objs.size) (compEnvC scope cl s3.heap.objs.size X.env)) (compPost (ax X.prog X.w) X.A X.xe use R (.ref s2.heap.objs.size) s3.heap.objs.size) st:=by
  rintro st rfl;refine cM (fun n s'=>∃i H',Inv Xc [] (ts.map (fun _=>none)++D4 ix σ) H' s'/\tn i s'.heap/\(∀b∈fp,H' b=none)/\W i n H') ?_ m0 ⟨0,_,B,e8,fun b hb=>(e3 b hb).1,w0⟩;rintro n s4 ⟨i,H4,B4,e5,r1,w4⟩;rcases h7 i n H4 w4 with⟨h8,q⟩|⟨go,N,hN,step⟩
  ·refine Ad (T.done Xc rfl rfl rfl ok.calm i [] s4 _ H4 _ B4 (h3 r1) e5 h8) fun r s5 ⟨hr,B5⟩=>?_;subst hr;exact fin _ _ H4 s3 s5 fp I3 e3 B5 q
  ·refine Ad (T.item Xc rfl rfl rfl ok.calm i [] s4 _ H4 (fun _ _=>False) B4 (h3 r1) e5 go) fun r s5 ⟨u,hr,h5⟩=>?_;subst hr;refine Ad h5 fun _ s6 ⟨x,H6,B6,r6,y6,h9,r9⟩=>?_;have q2:=B6.pinned (h3 r9) (T.obj _ _ h9);refine Ad (hg _ _ _ _ _ _ s6 _ H6 x u _ q2 r6 (step x H6 y6)) fun _ s7 ⟨σ7,H7,B7,r2,q7⟩=>?_;refine Ad (ht _ _ _ _ _ _ s7 σ7 H7 _ B7 q7) fun b s8 ⟨H8,B8,q8⟩=>?_;have h0:∀{H9:Hp}{s9:Ya},Inv Xc ([]++Nd fp s6.heap) σ7 H9 s9->N H9->
    ∃m,m<n/\∃i H',Inv Xc [] (ts.map (fun _=>none)++D4 ix σ) H' s9/\tn i s9.heap/\(∀b∈fp,H' b=none)/\W i m H':=fun{H9 s9} B9 hm=>by
    obtain⟨m',lt,w9⟩:=hN _ hm;obtain⟨a,la,e7⟩:=r2;subst e7;refine⟨m',lt,i+1,H9,(B9.PN).weak ?_ ?_,T.keep _ _ _ h9 fun b hb o e=>(B9.pin (b,o) (EA _ (EA _ (O5 hb e)))).1,fun b hb=>?_,w9⟩
    ·rw[An,An,AJ,la]
    ·intro j v e;by_cases hj:j<ts.length
     ·rw[C2 (by simpa using hj),Az] at e
      cases e2:ts[j]?with
      |none=>rw[e2] at e;cases e
      |some y=>rw[e2] at e;cases e
     ·rw[Cj (by simpa using hj),AJ] at e;rw[Cj (by lia),la];exact e
    ·obtain⟨o,e,d⟩:=T.obj _ _ h9 b hb;exact(B9.pin (b,o) (EA _ (EA _ (O5 hb e)))).2.1
   cases b with
   |false=>exact h0 B8 (by simpa using q8)
   |true=>
    have r3:te σ7 H8 fun y H4=>∃ys,H4 s2.heap.objs.size=some (.lst ys)/\ys.length<sizeLine/\N (upd H4 s2.heap.objs.size (.lst (ys++[y]))):=by simpa using q8
    refine Ad (he _ _ _ _ _ _ s8 σ7 H8 _ B8 r3) fun y s9 ⟨yv,H9,B9,ry,ys,hD,hl,q9⟩=>?_;exact Ad (DN _ s9 σ7 H9 (.ref s2.heap.objs.size) [yv] (.ref s2.heap.objs.size) [y] (fun _ H'=>N H') B9 rfl (.cons ry .nil) ⟨_,ys,yv,rfl,rfl,hD,hl,q9⟩) fun _ q4 ⟨_,t0,q3,_,r4⟩=>h0 q3 r4
 have q1:({s2 with heap:=h1,toks:=s2.toks+([]:List (Str×AD)).length}:Ya)={s3 with heap:=h1,toks:=s2.toks}:=by rw[<-e1];rfl
 have L:=e0 _ q1;rw[<-hC] at L;exact codeAny_compStart_list L (T.self X.A 0 _ _ _ e8 L)
def E4{elt iter:hX}{wi:TI}(ok:KS X ts cap ix scope cl)(hi:PI X tg iter wi)
 (hg:∀C s₀ H₀ fp pins,PG (EB X (ts++cap) scope cl C s₀ H₀ fp pins) tg g)(ht:∀C s₀ H₀ fp pins,OE (EB X (ts++cap) scope cl C s₀ H₀ fp pins) ifs ti)
 (he:∀C s₀ H₀ fp pins,PE (EB X (ts++cap) scope cl C s₀ H₀ fp pins) elt te)(hs:∀x,foldedSetIterable iter X.env x=pure x:=by intro _;rfl):
 PE X (.ListComp elt [⟨tg,iter,ifs,0⟩] scope pos) (Tt ts ix wi g ti te):=by
 intro pins s σ H Q I h;rw[eval_ListComp];refine Vs (use:=none) (Q:=Q) ok hi hg ht he hs I h fun D H3 H4 s3 s5 fp I3 h2 B5 q=>?_;obtain⟨m,h1,_⟩:=B5.loc;exact⟨m,h1,fun h' h0=>⟨.ref D,H4,I3.YM h2 B5 h0,rfl,q⟩⟩
def Su{y:Str}{elt iter:hX}{spos py:Pos}{wi:TI}(ok:KS X ts cap ix scope cl)(hN:X.N.Nodup)(hy:X.N[i]? =some y)(hl:X.env.scope.names.lookup y=some .local)(hi:PI X tg iter wi)
 (hg:∀C s₀ H₀ fp pins,PG (EB X (ts++cap) scope cl C s₀ H₀ fp pins) tg g)(ht:∀C s₀ H₀ fp pins,OE (EB X (ts++cap) scope cl C s₀ H₀ fp pins) ifs ti)
 (he:∀C s₀ H₀ fp pins,PE (EB X (ts++cap) scope cl C s₀ H₀ fp pins) elt te)(hs:∀x,foldedSetIterable iter X.env x=pure x:=by intro _;rfl)
 (hsw:sL (.ListComp elt [⟨tg,iter,ifs,0⟩] scope pos) (some (.Name y py)) spos.line X.env=pure true:=by rfl):
 PS X (.Assign [.Name y py] (.ListComp elt [⟨tg,iter,ifs,0⟩] scope pos) spos) (QS (Tt ts ix wi g ti te) (DT i)):=by
 intro pins s σ H D I h;rw[exec_Assign_Name_used _ _ _ _ hsw];refine AK (Ov (AK ?_));show bt _ X.A (do let _<-comprehension (.ListComp elt [⟨tg,iter,ifs,0⟩] scope pos) scope X.env _ (newList []) false (qh iter X.env) (some (tO (.Name y py) X.env))) _ _ s;refine AK (C8 (Vs (R:=fun _ s'=>SP X pins D .next s') (Q:=fun x H1=>DT i x σ H1 D.nx) ok hi hg ht he hs I h fun D' H3 H4 s3 s5 fp I3 h2 B5 q=>?_) (fun _ s' hq=>Ac (Ac hq)) fun _ _ e=>e);have I5:Inv X pins σ H4 s5:=I3.YM h2 B5 (Heap.SameBut.refl ..);obtain⟨m,h0,_⟩:=B5.loc;have hC:s3.heap.objs.size<s5.heap.objs.size:=h0.lt;show bt _ X.A (tO (.Name y py) X.env (.ref D')) _ _ s5;refine wpAny_assign_Name (V9 I5 hN hy (.inl hl) (v:=.ref D') rfl (fun s' I' hb=>?_) (.inr hl));obtain⟨a,sb,ha⟩:=hb;have ea:a≠s3.heap.objs.size:=by
  rcases ha with e|e
  ·rw[e];exact BO I3.lt
  ·obtain⟨v,z⟩:=I3.cell y a e;exact BO z.lt
 refine⟨m,h0.sameBut sb (DG ea),fun h' h1=>?_⟩;refine⟨_,H4,I'.turned (t':=s'.toks) (it:=s3.heap.objs.size) (fun b o hb e=>(h1.2 b hb).trans e) B5.free (Fc I3.lt) (.inr I3.sz) (fun x c e=>?_) (fun p hp=>?_),q⟩
 ·obtain⟨v,z⟩:=I3.cell x c e;exact BO z.lt
 ·exact BO (A2 (I3.pin p hp).1)
end
def Qf(z:Str):It:=⟨fun i _=>i<z.cps.size,fun i H v H'=>H'=H/\∃c,z.cps[i]? =some c/\v=.str ⟨#[c]⟩,fun i _=>z.cps.size<=i⟩
def WY(it:OK)(ty:String)(z:Str)(t:Tok)(hty:ty="str_ascii_iterator" \/ty="str_iterator"):
 Turn P w K tg (Qf z) [it] it (fun i h=>h.IsStrIter it ty z t i) where
 mem:=by simp
 obj:=fun i h st b hb=>by
  obtain rfl:b=it:=by simpa using hb
  obtain⟨o,e,c,d⟩:=st;exact⟨o,e,fun v q=>by rw[d] at q;cases q⟩
 keep:=fun i h h' st k=>by obtain⟨o,e,r⟩:=st;exact⟨o,k it (by simp) o e,r⟩
 item:=by
  intro X hP hw hK hc i h0 s σ H E I hf st hg;subst hP hw hK;obtain⟨f0,f1,f2,f3,f4,f5⟩:=hf it (by simp);have hi:i<z.cps.size:=hg;have h3:∀(c:Nat)(u:Tok)(h':qi)(tk:Nat),z.cps[i]? =some c->h'.IsStrIter it ty z t (i+1)->(∀b o,b≠it->s.heap.get? b=some o->h'.get? b=some o)->
   ∃v,some (Value.str ⟨#[c]⟩ u)=some v/\bt (ax X.prog X.w) X.A (rP tg (.ref it) v) (fun _ s2=>∃x H',Inv X h0 σ H' s2/\RelV x v/\(Qf z).Iw i H x H'/\s2.heap.IsStrIter it ty z t (i+1)/\∀b∈[it],H' b=none) E {s with heap:=h',toks:=tk}:=by
   intro c u h' tk hc h1 kk;have I1:Inv X h0 σ H {s with heap:=h',toks:=tk}:=I.turned (fun b o hb e=>kk b o hb e) f0 f1 f3 f4 f5;obtain⟨o,e,ec,d⟩:=id h1;refine⟨_,rfl,Np (s:={s with heap:=h',toks:=tk}) (n:=ty) e ec d ?_ ⟨.str ⟨#[c]⟩,H,I1,⟨u,rfl⟩,⟨rfl,c,hc,rfl⟩,h1,fun b hb=>(hf b hb).1⟩⟩;rcases hty with e|e<;>subst e<;>decide
  rcases hty with e|e
  ·subst e;have W:=Walks.strAscii (prog:=X.prog) (w:=X.w) (I.ok.hd hc) it z t;refine W.item i s _ _ hi st fun v h' tk hv h1 kk=>?_;obtain⟨c,u,h2,rfl⟩:=hv;exact h3 c u h' tk h2 h1 fun b o hb e=>kk b o (by simpa using hb) e
  ·subst e;have W:=Walks.strWide (prog:=X.prog) (w:=X.w) (I.ok.hd hc) it z t;refine W.item i s _ _ hi st fun v h' tk hv h1 kk=>?_;obtain⟨c,u,h2,rfl⟩:=hv;exact h3 c u h' tk h2 h1 fun b o hb e=>kk b o (by simpa using hb) e
 done:=by
  intro X hP hw hK hc i h0 s σ H E I hf st hg;subst hP hw hK;obtain⟨f0,f1,f2,f3,f4,f5⟩:=hf it (by simp);have hi:z.cps[i]? =none:=by have:z.cps.size<=i:=hg;simp only[Array.getElem?_eq_none_iff];exact this
  rcases hty with e|e
  ·subst e;exact wpAny_pyNext_ascii_end (I.ok.hd hc) st hi fun h' eb=>⟨rfl,I.turned (t':=s.toks) (fun b o hb e=>eb b o hb e) f0 f1 f3 f4 f5⟩
  ·subst e;exact wpAny_pyNext_wide_end (I.ok.hd hc) st hi fun h' eb=>⟨rfl,I.turned (t':=s.toks) (fun b o hb e=>eb b o hb e) f0 f1 f3 f4 f5⟩
 self:=fun _ _ _ _ _ st h=>by
  rcases hty with e|e
  ·subst e;exact wpAny_pyIter_striter_ascii st h
  ·subst e;exact wpAny_pyIter_striter_wide st h
def pj(tl:TE):TI:=fun σ H R=>tl σ H fun x H1=>∃z,x=.str z/\R (Qf z) H1
def Yd{l:hX}(hl:PE X l tl):PI X tg l (pj tl):=by
 intro h0 s σ H R I h;refine Ad (hl h0 s σ H _ I h) fun v s1 ⟨x,H1,I1,r1,q1⟩=>?_;obtain⟨z,e,q⟩:=q1;subst e;obtain⟨t,rfl⟩:=r1;have fp:∀b∈[s1.heap.objs.size],Fp X h0 H1 b:=fun b hb=>by
  obtain rfl:b=s1.heap.objs.size:=by simpa using hb
  exact I1.Jg (Ae _) (I1.hok.fresh (Ae _))
 cases ha:z.cps.all (·<128)
 ·exact wpAny_pyIter_wide ha ⟨s1.heap.objs.size,[s1.heap.objs.size],_,_,H1,rfl,I1.kept (t':=s1.toks) fun b o e=>BC _ e,WY _ "str_iterator" z t (.inr rfl),⟨_,CB _ rfl,rfl,rfl⟩,fp,q⟩
 ·exact wpAny_pyIter_ascii ha ⟨s1.heap.objs.size,[s1.heap.objs.size],_,_,H1,rfl,I1.kept (t':=s1.toks) fun b o e=>BC _ e,WY _ "str_ascii_iterator" z t (.inl rfl),⟨_,CB _ rfl,rfl,rfl⟩,fp,q⟩
theorem Vt:Br X (qg .LtE) (fun x y H Q=>∃i j,x=.str i/\y=.str j/\Q (.bl (!decide (j.cps.toList<i.cps.toList))) H):=by intro h0 s σ H x y v u Q I rx ry h;obtain⟨i,j,rfl,rfl,q⟩:=h;obtain⟨t,rfl⟩:=rx;obtain⟨t',rfl⟩:=ry;exact P.le_str (CD I q rfl)
def Vh:Br X (qy .Mult) (fun x y H Q=>∃z k,x=.str z/\y=.int k/\MulOk z k/\Q (.str (Txt.mul z k)) H):=by intro h0 s σ H x y v u Q I rx ry h;obtain⟨z,k,rfl,rfl,hm,q⟩:=h;obtain⟨t,rfl⟩:=rx;obtain⟨t',rfl⟩:=ry;exact SB.mul hm fun h1 k'=>⟨.str _,H,I.tok _,⟨_,rfl⟩,q⟩
def Zk(f:Str->Str->Bool):V->List V->Hp->VK->Prop:=fun x vs H Q=>∃z y,x=.str z/\vs=[.str y]/\Q (.bl (f z y)) H
def du:IH X "str.startswith" (Zk Txt.startswith):=by intro h0 s σ H x vs v us Q I rx rv h;obtain⟨z,y,rfl,rfl,q⟩:=h;obtain⟨t,rfl⟩:=rx;obtain⟨u,rfl,ru⟩:=rv.one;obtain⟨t',rfl⟩:=ru;exact SC.startswith ⟨.bl _,H,I,rfl,q⟩
def j4:IH X "str.endswith" (Zk Txt.endswith):=by intro h0 s σ H x vs v us Q I rx rv h;obtain⟨z,y,rfl,rfl,q⟩:=h;obtain⟨t,rfl⟩:=rx;obtain⟨u,rfl,ru⟩:=rv.one;obtain⟨t',rfl⟩:=ru;exact SC.endswith ⟨.bl _,H,I,rfl,q⟩
def WC:∀l:List (Str×Tok),Vals (l.map fun p=>V.str p.1) (strValues l)
 |[]=>.nil
 |p::r=>.cons ⟨p.2,rfl⟩ (WC r)
def lT:V->List V->Hp->VK->Prop:=fun x vs H Q=>∃z y,x=.str z/\vs=[.str y]/\(y.length==0)=false/\z.length+2<=sizeLine/\∀D,H D=none->Q (.ref D) (upd H D (.lst ((Txt.split z y).map V.str)))
def W2:IH X "str.split" lT:=by
 intro h0 s σ H x vs v us Q I rx rv h;obtain⟨z,y,rfl,rfl,hy,hz,q⟩:=h;obtain⟨t,rfl⟩:=rx;obtain⟨u,rfl,ru⟩:=rv.one;obtain⟨t',rfl⟩:=ru;have h3:(Txt.split z y).length<=sizeLine:=by
  have h5:1<=y.length:=by
   rcases Nat.eq_zero_or_pos y.length with e|e
   ·rw[e] at hy;cases hy
   ·exact e
  have:=Mo z y h5
  lia
 have h4:∀(l:List (Str×Tok))(tk:Nat),l.map (·.1)=Txt.split z y->EP X h0 σ Q (.ref s.heap.objs.size) {s with heap:=s.heap.push {cls:=.type "list",data:=.seq (strValues l).toArray},toks:=tk}:=fun l tk e=>by
  have el:(l.map fun p=>V.str p.1)=(Txt.split z y).map V.str:=by rw[<-e,Bo];rfl
  have hl:(l.map fun p=>V.str p.1).length<=sizeLine:=by rw[el,AJ];exact h3
  refine⟨.ref s.heap.objs.size,_,I.UA (t':=tk) (WC l) hl,rfl,?_⟩;rw[el];exact q _ I.fresh
 have hn:(Builtin.Str.partsBetween z (Builtin.Str.occurrences z y 0 z.length (z.length+1)) y.length).length<=sizeLine:=by have e1:=StrLaws.occ_length_le z y 0 z.length (z.length+1);rw[length_partsBetween];lia
 by_cases h1:(decide (z.length<y.length)||decide (Builtin.Str.strKind z<Builtin.Str.strKind y))=true
 ·refine KC F.slot_str_split (LN _ _ _) F.entry_str_split (VL _ _) (meets_str_split_cannot_occur z y t t' h1) ?_;exact h4 [(z,t)] s.toks (by unfold Txt.split;rw[AG h1];rfl)
 ·by_cases h2:(Builtin.Str.occurrences z y 0 z.length (z.length+1)).isEmpty=true
  ·refine KC F.slot_str_split (LN _ _ _) F.entry_str_split (VL _ _) (meets_str_split_not_found z y t t' (by simpa using h1) hy h2) ?_;exact h4 [(z,t)] s.toks (by unfold Txt.split;rw[AF h1,AG h2];rfl)
  ·refine KC F.slot_str_split (LN _ _ _) F.entry_str_split (VL _ _) (meets_str_split_sep z y t t' (by simpa using h1) hy (by simpa using h2) (by lia) hn) ?_;have:=h4 (numbered s.toks (Builtin.Str.partsBetween z (Builtin.Str.occurrences z y 0 z.length (z.length+1)) y.length)) (s.toks+(Builtin.Str.partsBetween z (Builtin.Str.occurrences z y 0 z.length (z.length+1)) y.length).length)
    (by rw[numbered_texts];unfold Txt.split;rw[AF h1,AF h2]);rw[<-strsFrom_eq] at this;exact this
def pq:V->Option Int->Option Int->Hp->VK->Prop:=fun x lo hi H Q=>∃z,x=.str z/\z.length<=sizeLine/\Q (.str (Txt.slice z lo hi)) H
def Li:K1 X pq:=by
 intro h1 s σ H x v vl vu lo hi sl Q I rx hs pl pu h;obtain⟨z,rfl,hz,q⟩:=h;obtain⟨t,rfl⟩:=rx;refine⟨"str",_,F.slot_str_getitem.lookup,LN _ _ _,?_⟩;have h0:∀t' k,EP X h1 σ Q (.str (Txt.slice z lo hi) t') {s with toks:=k}:=fun t' k=>⟨.str _,H,I.tok _,⟨_,rfl⟩,q⟩;have le:=BJ (Oy z lo hi) hz
 cases pl with
 |none=>
  cases pu with
  |none=>exact Qz (l:=none) (u:=none) (st:=none) hs rfl (RU ⟨le,h0⟩)
  |int j uj=>exact Qz (l:=none) (u:=some (j,uj)) (st:=none) hs rfl (RU ⟨le,h0⟩)
 |int i ui=>
  cases pu with
  |none=>exact Qz (l:=some (i,ui)) (u:=none) (st:=none) hs rfl (RU ⟨le,h0⟩)
  |int j uj=>exact Qz (l:=some (i,ui)) (u:=some (j,uj)) (st:=none) hs rfl (RU ⟨le,h0⟩)
def df(hu:X.A.units<qr):Br X (qg .NotEq) (fun x y H Q=>∃a b xs,x=.ref a/\y=.ref b/\AL X.K H a xs/\AL X.K H b []/\Q (.bl (!xs.isEmpty)) H):=by
 intro h2 s σ H x y v u Q I rx ry h;obtain⟨a,b,xs,rfl,rfl,ha,hb,q⟩:=h;cases rx;cases ry;obtain⟨h4,r,pl,hz⟩:=I.list ha;obtain⟨h3,r2,h0,h5⟩:=I.list hb;cases r2;have hl:=r.length
 cases xs with
 |nil=>cases r;refine SeqAt.RcNeAt.lists (e:=fun _=>true) pl.isList h0.isList rfl hu (fun j h1=>absurd h1 (by simp)) _ _ _ _ ?_;exact⟨.bl false,H,I,rfl,q⟩
 |cons x xs=>refine SeqAt.RcNeAt.lists_lengths pl.isList h0.isList ?_ hu _ _ _ _ ⟨.bl true,H,I,rfl,q⟩;cases r;simp
def fG(hu:X.A.units<qr):Br X (qg .Eq) (fun x y H Q=>∃a b xs,x=.ref a/\y=.ref b/\AL X.K H a xs/\AL X.K H b []/\Q (.bl xs.isEmpty) H):=by
 intro h2 s σ H x y v u Q I rx ry h;obtain⟨a,b,xs,rfl,rfl,ha,hb,q⟩:=h;cases rx;cases ry;obtain⟨h4,r,pl,hz⟩:=I.list ha;obtain⟨h3,r2,h0,h5⟩:=I.list hb;cases r2;have hl:=r.length
 cases xs with
 |nil=>cases r;refine SeqAt.eq_listAt (e:=fun _=>true) pl.isList h0.isList rfl hu (fun j h1=>absurd h1 (by simp)) ?_;exact⟨.bl true,H,I,rfl,q⟩
 |cons x xs=>refine SeqAt.eq_list_lengthsAt pl.isList h0.isList ?_ hu ⟨.bl false,H,I,rfl,q⟩;cases r;simp
def fu:Du X (.builtin "isinstance") (fun xs H Q=>∃x c t b,xs=[x,.ty c]/\Bl X.K H x t/\sF X.K t (.type c)=some b/\Q (.bl b) H):=by intro h0 s σ H xs us Q I r h;obtain⟨x,c,t,b,rfl,ty,e,q⟩:=h;obtain⟨u,w',rfl,rx,rc⟩:=vals2 r;cases rc;exact fX I rx ty e fun tk=>⟨.bl b,H,I.tok _,rfl,q⟩
def W8:∀{cs:List String}{us:List AD},Vals (cs.map V.ty) us->us=cs.map Value.type
 |[],_,.nil=>rfl
 |_::_,_,.cons r t=>by rw[Au,<-W8 t];cases r;rfl
def fQ:Du X (.builtin "isinstance") (fun xs H Q=>∃(x:V)(p:OK)(cs:List String)(t:AD)(b:Bool),xs=[x,.ref p]/\H p=some (.tup (cs.map V.ty))/\Bl X.K H x t/\kitAny X.K t (cs.map Value.type)=some b/\Q (.bl b) H):=by
 intro h4 s σ H xs us Q I r h;obtain⟨x,p,cs,t,b,rfl,hp,ty,e,q⟩:=h;obtain⟨u,w',rfl,rx,rc⟩:=vals2 r;cases rc;obtain⟨_,h7,rv,o,h1,h2,n,h3⟩:=(show BV X.prog X.w H s.heap p (.tup (cs.map V.ty)) from I.hok p _ hp);have ei:=W8 rv;subst ei;obtain⟨oc,od,h6,h5⟩:=o;simp only at h2 h3;subst h2 h3;have h0:∀tk,EP X h4 σ Q (.bool b) {s with toks:=tk}:=fun tk=>⟨.bl b,H,I.tok _,rfl,q⟩
 cases ty with
 |BB=>cases(show u=Value.none from rx);exact HW kitx_none I.BX Cv h1 e (fun z=>nomatch z) h0
 |bl y=>cases(show u=Value.bool y from rx);exact HW kitx_bool I.BX Cv h1 e (fun z=>nomatch z) h0
 |int i=>obtain⟨t,q⟩:=(show∃t,u=Value.int i t from rx);cases q;exact HW kitx_int I.BX Cv h1 e (fun z=>nomatch z) h0
 |str y=>obtain⟨t,q⟩:=(show∃t,u=Value.str y t from rx);cases q;exact HW kitx_str I.BX Cv h1 e (fun z=>nomatch z) h0
 |Iz y=>obtain⟨t,q⟩:=(show∃t,u=Value.float y t from rx);cases q;exact HW kitx_float I.BX Cv h1 e (fun z=>nomatch z) h0
 |@lst a xs ea=>cases(show u=Value.ref a from rx);obtain⟨_,_,n,_,g1⟩:=(show BV X.prog X.w H s.heap a (.lst xs) from I.hok a _ ea);exact HW RG I.BX ⟨_,g1,rfl⟩ h1 e (fun z=>nomatch z) h0
 |@BQ a ob xs ea=>cases(show u=Value.ref a from rx);obtain⟨_,_,_,n,_,g1⟩:=(show BV X.prog X.w H s.heap a (.BQ ob (.lst xs)) from I.hok a _ ea);exact HW RG I.BX ⟨_,g1,rfl⟩ h1 e (fun z=>nomatch z) h0
 |@tup a xs ea=>cases(show u=Value.ref a from rx);obtain⟨_,_,_,p⟩:=(show BV X.prog X.w H s.heap a (.tup xs) from I.hok a _ ea);obtain⟨o,g1,g2,_⟩:=p;exact HW kitx_tuple I.BX ⟨o,g1,g2⟩ h1 e (fun z=>nomatch z) h0
 |@dK a AA ea=>cases(show u=Value.ref a from rx);obtain⟨_,_,vs,_,p⟩:=(show BV X.prog X.w H s.heap a (.dK AA) from I.hok a _ ea);obtain⟨o,es,ep,g1,g2,_⟩:=p;exact HW RH I.BX ⟨o,g1,g2.1⟩ h1 e (fun z=>nomatch z) h0
 |@dT a AA ea=>cases(show u=Value.ref a from rx);obtain⟨_,_,xs,_,o,es,ep,g1,g2,_⟩:=(show BV X.prog X.w H s.heap a (.dT AA) from I.hok a _ ea);exact HW RH I.BX ⟨o,g1,g2.1⟩ h1 e (fun z=>nomatch z) h0
 |@ins a C dx fs ea cl ha hn htk hm=>cases(show u=Value.ref a from rx);obtain⟨mA,O,_⟩:=NO I.hok ea;obtain⟨od,J,_⟩:=O.look;exact HW (kitx_own (cl.get _) cl.hd ha hn htk hm) I.BX J h1 e (fun z=>nomatch z) h0
def all_range(bs:List Bool):∀n:Nat,n=bs.length->(List.range n).all (fun i=>bs.getD i true)=bs.all id:=by
 rintro n rfl;rw[Oq,Ma,Ma];constructor
 ·intro h b hb;obtain⟨i,hi,e⟩:=F2.mp hb;have:=h i (HZ.mpr hi);rw[Ck,Ap hi] at this;rw[<-e];exact this
 ·intro h i hi;have h0:=HZ.mp hi;rw[Ck,Ap h0];exact h _ (EZ h0)
def iL(hc:X.calm=true):Du X (.builtin "all") (fun xs H Q=>∃(p:OK)(bs:List Bool),xs=[.ref p]/\AL X.K H p (bs.map V.bl)/\Q (.bl (bs.all id)) H):=by
 intro h5 s σ H xs us Q I r h;obtain⟨p,bs,rfl,hq,q⟩:=h;obtain⟨u,rfl,rx⟩:=vals1 r;cases rx;obtain⟨h0,rv,pl,hz⟩:=I.list hq;have h1:=rv.length;obtain⟨o,ho,h7,n,h6⟩:=id pl.isList;have ne:p≠s.heap.objs.size:=BO (A2 ho);have hh:X.A.in1.handled=none:=I.ok.hd hc;have tr:TruthOf X.prog X.w X.A.in1 (fun i v=>h0.toArray[i]? =some v) (fun i=>bs.getD i true):=by
  intro i v s' Q' E' hv hQ;have h2:h0[i]? =some v:=by simpa using hv
  have hi:i<h0.length:=(BY.mp h2).1;rw[AJ] at h1;have hb:bs[i]? =some bs[i]:=Ap (by lia);obtain⟨u',h3,ru⟩:=rv.get (i:=i) (x:=.bl bs[i]) (by rw[Az,hb];rfl);rw[h2] at h3;cases h3;cases ru;have h4:Q' (bs.getD i true) s':=hQ;rw[Ck,hb] at h4;exact Ac h4
 refine call_all_walk (wpAny_pyIter_list pl.isList ?_);refine⟨s.heap.objs.size,[s.heap.objs.size,p],[s.heap.objs.size],h0.toArray.size,fun i v=>h0.toArray[i]? =some v,fun i h=>h.IsListIter s.heap.objs.size p i/\h.IsList p h0.toArray,fun i=>bs.getD i true,rfl,Walks.list hh _ p ne h0.toArray,
  ⟨⟨_,CB _ rfl,rfl,rfl⟩,⟨o,BC _ ho,h7,n,h6⟩⟩,tr,fun h' tk kk=>?_⟩;rw[all_range bs h0.toArray.size (by rw[AJ] at h1;simp[h1])];exact⟨.bl _,H,I.kept (fun b ob e=>kk b ob (by simpa using BO (A2 e)) (BC _ e)),rfl,q⟩
def Fm(h:AL [] H a xs):AL K H a xs:=h.elim .inl fun⟨_,_,_,e,_⟩=>nomatch e
def Iu(h:AS [] H a xs):AS K H a xs:=h.elim .inl fun⟨_,_,_,e,_⟩=>nomatch e
def Cr:HK X (QY []):=fun _ _ _ _ _ _ _ _ _ _ _ I r r' ⟨p,xs,i,v,a,b,q,c⟩=>Xi _ _ _ _ _ _ _ _ _ _ _ I r r' ⟨p,xs,i,v,a,b,Fm q,c⟩
def QU:HK X (Lp []):=fun _ _ _ _ _ _ _ _ _ _ _ I r r' ⟨p,xs,i,v,a,b,q,c⟩=>kz _ _ _ _ _ _ _ _ _ _ _ I r r' ⟨p,xs,i,v,a,b,Iu q,c⟩
def A3{a:hX}{i:Int}{j}(ha:PE X a ta):PE X (.Subscript a (.Constant (.int i) j p) pos) (FK (Lp []) ta (tC (.int i))):=Bz QU ha AV fun _ _=>rfl
def HE{a:hX}{i:Int}{j}(ha:PE X a ta):PE X (.Subscript a (.Constant (.int i) j p) pos) (FK (QY []) ta (tC (.int i))):=Bz Cr ha AV fun _ _=>rfl
def Bn.mn(r:Bn k A)(h:j<=k:=by decide):Bn j A:=r.mono h
def Tz:K1 X (aP []):=fun _ _ _ _ _ _ _ _ _ _ _ _ I r a b c ⟨p,xs,e,q,z⟩=>mQ _ _ _ _ _ _ _ _ _ _ _ _ I r a b c ⟨p,xs,e,Iu q,z⟩
def T3:K1 X (aO []):=fun _ _ _ _ _ _ _ _ _ _ _ _ I r a b c ⟨p,xs,e,q,z⟩=>PV _ _ _ _ _ _ _ _ _ _ _ _ I r a b c ⟨p,xs,e,Fm q,z⟩
def EM:Du X (.builtin "len") (fun xs H Q=>∃p ys,xs=[.ref p]/\(AL [] H p ys\/AS [] H p ys)/\Q (.int ys.length) H):=
 fun _ _ _ _ _ _ _ I r ⟨p,ys,e,q,z⟩=>IW _ _ _ _ _ _ _ I r ⟨p,ys,e,q.imp Fm Iu,z⟩
def Z5:Br X (qg .In) (UQ [] false):=fun _ _ _ _ _ _ _ _ _ I r r' ⟨p,xs,e,q,z⟩=>fg _ _ _ _ _ _ _ _ _ I r r' ⟨p,xs,e,q.imp Fm Iu,z⟩
def pK(hu:X.A.units<qr):Br X (qg .Eq) (fun x y H Q=>∃a b xs,x=.ref a/\y=.ref b/\AL [] H a xs/\AL [] H b []/\Q (.bl xs.isEmpty) H):=
 fun _ _ _ _ _ _ _ _ _ I r r' ⟨p,b,xs,e,e',q,q',z⟩=>fG hu _ _ _ _ _ _ _ _ _ I r r' ⟨p,b,xs,e,e',Fm q,Fm q',z⟩
def aI{x:V}(h:OD [] T x H):OD K T x H:=by
 cases x;case ref p=>exact h.imp (fun⟨e,xs,q⟩=>⟨e,xs,Fm q⟩) (·.imp (fun⟨_,_,e,_⟩=>nomatch e) id)
 all_goals exact h
def bL(t:TE):TE:=fun σ H Q=>∃Q0:VK,t σ H Q0/\∀v H1,Q0 v H1->Q v H1
def PE.mc{t:TE}(h:PE X e t):PE X e (bL t):=fun h0 s σ H Q I ⟨Q0,z,m⟩=>Ad (h h0 s σ H Q0 I z) fun _ _ ⟨v,H1,i,r,q⟩=>⟨v,H1,i,r,m _ _ q⟩
section
variable{o:hX}{es:List hX}{to:TE}{t:TA}{id:String}
def Dh(pa:sP T)(slot:Slot T name id)(hty:typeOf (.builtin id)=pure (.type "method_descriptor"))(hm:N9 X id r)(ho:PE X o to)(ha:PA X (e::es) t)
 (hbase:qo o name X.env (qh o X.env)=qh o X.env:=by rfl)
 (hfew:((qt cpos (dq (e::es) X.env)).all (fun x=> !x.1)&&(rh cpos (rG [] X.env)).all (fun x=>x.1.isSome)
  &&decide ((e::es).length+([]:List rX).length+(if([]:List rX).isEmpty then 0 else 1)<30))=true:=by rfl)
 (hline:(apos.endLine==cpos.line)=true:=by rfl)(hs:dq (e::es) X.env=(false,qh e X.env)::dq es X.env:=by rfl)(hplain:(qt cpos (dq es X.env)).any (·.1)=false:=by rfl):
 PE X (.Call (.Attribute o name apos) (e::es) [] cpos) (Ut [] T r to t):=
 fun h0 s σ H Q I h=>Jb pa slot hty hm ho.mc ha hbase hfew hline hs hplain h0 s σ H Q I ⟨_,h,fun _ _ ⟨y,z⟩=>⟨aI y,z⟩⟩
end
def oQ{it:OK}{tn:Nat->qi->Prop}(T:Turn P w K tg (HN K a) fp it tn):Turn P w K tg (HN [] a) fp it tn where
 mem:=T.mem
 obj:=T.obj
 keep:=T.keep
 item:=fun X a1 a2 a3 a4 i h0 s σ H E I f t ⟨xs,x,q,e⟩=>C8 (T.item X a1 a2 a3 a4 i h0 s σ H E I f t ⟨xs,x,Fm q,e⟩) (fun r s1 ⟨u,hu,z⟩=>⟨u,hu,C8 z (fun _ s2 ⟨x,H',I',rx,⟨e,y⟩,z⟩=>⟨x,H',I',rx,⟨e,fun xs q=>y xs (Fm q)⟩,z⟩) fun _ _ z=>z⟩) fun _ _ z=>z
 done:=fun X a1 a2 a3 a4 i h0 s σ H E I f t ⟨xs,q,e⟩=>T.done X a1 a2 a3 a4 i h0 s σ H E I f t ⟨xs,Fm q,e⟩
 self:=T.self
def Fn{l:hX}(hl:PE X l tl):PI X tg l (Kc [] tl):=fun h0 s σ H R I h=>
 Ad (Gv (tg:=tg) hl.mc h0 s σ H (fun J H1=>∃a,J=HN X.K a/\R (HN [] a) H1) I (show Kc X.K (bL tl) σ H _ from⟨_,h,fun _ _ ⟨a,e,⟨xs,q⟩,z⟩=>⟨a,e,⟨xs,Fm q⟩,⟨a,rfl,z⟩⟩⟩)) fun _ _ z=>Ad z fun _ _ ⟨it,fp,tn,_,H',e,i,T,t0,f,a,ej,z⟩=>⟨it,fp,tn,HN [] a,H',e,i,oQ (ej▸T),t0,f,z⟩
structure Hv(P:qf)(w:qj)(K:tW)(mg:Str->Option AD)(base:qi)(x:Str)(k:Nat)(ps:List Str)(sp:Sp):Prop where
 ex:∃f fd,AY P w K mg base Aj k f fd ps sp/\Binds K fd ps []/\mg x=some (.ref f)/\rC K (.ref f)=true
section
variable{E:XK}{es:List hX}{t:TA}
def DL(h:Hv X.prog X.w X.K X.mg X.base x k ps sp)(hr:Bn k X.A)(hg:Gl X x)(hx:Passes Aj X E)(ha:PA X (e::es) t)(hdb:(x==("__debug__" :Str))=false:=by decide)
 (he:dq (e::es) X.env=(false,qh e X.env)::dq es X.env:=by rfl)(hpl:(qt pos (dq es X.env)).any (·.1)=false:=by rfl):PE X (.Call (.Name x p) (e::es) [] pos) (Nl sp [] E t):=by
 obtain⟨_,_,G,b,m,k⟩:=h.ex;exact Ca G hr hg m k b .nil hx ha hdb he hpl
end
def bX{t sl:OK}{vl vu:AD}{lo hi:Option Int}(ht:sj s.heap t items)(hs:s.heap.IsSliceOf sl vl vu .none)(pl:sG vl lo)(pu:sG vu hi)
 (hw:Ax items.size 0 lo=0/\Ax items.size items.size hi=items.size)(h:Q (.ref t) s):bt (ax prog w) A (rV (.ref t) (.ref sl)) Q E s:=by
 obtain⟨os,h1,h2,h4⟩:=id hs;have h3:s.TypeIs (.ref sl) "slice" :=⟨os,h1,h2⟩;unfold rV;try with_reducible refine Fb ?_
 first|refine AK (Ac ?_)|skip
 refine AK (wpAny_sequenceKey ht.typeIs (by decide) ?_);refine AK (Ux (name:=Str.ofString "__getitem__") ht.typeIs ME
  (MX ME ht.typeIs entry_tuple_getitem ?_ (args_tuple_getitem _ _)));show bt _ _ (Builtin.Tuple.tupleItemsOf (.ref t)>>=_) _ _ s;refine AK (tupleItemsOf_ ht ?_);refine AK (Mn h3 ?_);rw[AG (by decide)];refine AK (VO hs pl pu ?_);have h0:(((Ax items.size 0 lo:Nat):Int)==0&&(1:Int)==1&&(Ax items.size items.size hi-Ax items.size 0 lo)==items.size)=true:=by
  rw[hw.1,hw.2,Nat.sub_zero,HV items.size];rfl
 show bt _ _ (if(((Ax items.size 0 lo:Nat):Int)==0&&(1:Int)==1&&(Ax items.size items.size hi-Ax items.size 0 lo)==items.size)=true then _ else _) _ _ s;rw[AG h0];unfold Builtin.Tuple.tupleIsExact;refine AK (AK (Mn ht.typeIs (Ac ?_)));rw[AG (by decide)];refine AK (Gm ?_);first
  |exact Ac ⟨_,rfl,Ac h⟩
  |exact AK (Ac (Ac ⟨_,rfl,Ac h⟩))
  |exact AK (Ac ⟨_,rfl,Ac h⟩)
  |trace_state
def oz:V->Option Int->Option Int->Hp->VK->Prop:=fun x lo hi H Q=>∃a xs,x=.ref a/\AS [] H a xs/\(Ax xs.length 0 lo=0/\Ax xs.length xs.length hi=xs.length->Q (.ref a) H)/\
 (¬(Ax xs.length 0 lo=0/\Ax xs.length xs.length hi=xs.length)->∀p,H p=none->Q (.ref p) (upd H p (.tup (CP xs lo hi))))
def qa:K1 X oz:=by
 intro h0 s σ H x v vl vu lo hi sl Q I rx hs pl pu h;obtain⟨a,xs,rfl,hx,q1,q2⟩:=h;by_cases hw:Ax xs.length 0 lo=0/\Ax xs.length xs.length hi=xs.length
 ·cases rx;obtain⟨h2,r,ht,hz⟩:=I.tuple (Iu (K:=X.K) hx);have h1:h2.toArray.size=xs.length:=by rw[CS];exact r.length.symm
  refine⟨"tuple",_,ME.lookup,ht.typeIs,?_⟩;exact bX ht hs pl pu (by rw[h1];exact hw) ⟨.ref a,H,I,rfl,q1 hw⟩
 ·exact Tz h0 s σ H _ v vl vu lo hi sl Q I rx hs pl pu ⟨a,xs,rfl,hx,hw,q2 hw⟩
def nV:Br X (qy .Add) (ZL []):=fun _ _ _ _ _ _ _ _ _ I r r' ⟨a,b,xs,ys,e,e',h,h',z⟩=>iq _ _ _ _ _ _ _ _ _ I r r' ⟨a,b,xs,ys,e,e',Iu h,Iu h',z⟩
inductive Dt where
 |bl (b:Bool)|int (i:Int)|str (x:Str)|lst (xs:List Dt)|tup (xs:List Dt)
mutual
noncomputable def Dt.sz:Dt->Nat
 |.lst xs=>1+Dt.CW xs
 |.tup xs=>1+Dt.CW xs
 |_=>1
noncomputable def Dt.CW:List Dt->Nat
 |[]=>0
 |d::r=>d.sz+Dt.CW r
end
def Dt.Y0:∀d:Dt,1<=d.sz
 |.lst _=>by unfold Dt.sz;lia
 |.tup _=>by unfold Dt.sz;lia
 |.bl _=>by unfold Dt.sz;lia
 |.int _=>by unfold Dt.sz;lia
 |.str _=>by unfold Dt.sz;lia
def Dt.PZ:∀a b:List Dt,Dt.CW (a++b)=Dt.CW a+Dt.CW b
 |[],b=>by rw[Oo];simp[Dt.CW]
 |d::r,b=>by rw[Oj];simp only[Dt.CW];rw[Dt.PZ r b];lia
def Dt.KQ:∀a:List Dt,a.length<=Dt.CW a
 |[]=>by simp
 |d::r=>by
  have h1:=d.Y0;have h2:=Dt.KQ r;simp only[Dt.CW,CG]
  lia
inductive Rep(H:Hp):Dt->V->Prop where
 |bl (b:Bool):Rep H (.bl b) (.bl b)
 |int (i:Int):Rep H (.int i) (.int i)
 |str (x:Str):Rep H (.str x) (.str x)
 |lst {ds:List Dt} {a:OK} {xs:List V} (h:H a=some (.lst xs)) (hl:ds.length=xs.length) (r:∀(i:Nat) d x,ds[i]? =some d->xs[i]? =some x->Rep H d x):Rep H (.lst ds) (.ref a)
 |tup {ds:List Dt} {a:OK} {xs:List V} (h:H a=some (.tup xs)) (hl:ds.length=xs.length) (r:∀(i:Nat) d x,ds[i]? =some d->xs[i]? =some x->Rep H d x):Rep H (.tup ds) (.ref a)
def Rep.same(s:AO H H'){d:Dt}{x:V}(r:Rep H d x):Rep H' d x:=by
 induction r with
 |bl b=>exact .bl b
 |int i=>exact .int i
 |str x=>exact .str x
 |lst h hl _ ih=>exact .lst (s _ _ h) hl ih
 |tup h hl _ ih=>exact .tup (s _ _ h) hl ih
def Af{o:HO}(h:H a=none):AO H (upd H a o):=fun b u e=>by rw[AN (A7 e h)];exact e
def AO.upd{o:HO}(s:AO H H')(h:H a=none):AO H (upd H' a o):=fun b u e=>by rw[AN (A7 e h)];exact s b u e
def HD{c A:Prop}[Decidable c](hc:¬c)(h:A):if(!decide c)=true then A else B:=by rw[BN hc];exact Bk h
def Bp{c A:Prop}[Decidable c](hc:c)(h:A):if decide c=true then A else B:=by rw[Bb hc];exact Bk h
def B1{c A:Prop}[Decidable c](hc:¬c)(h:B):if decide c=true then A else B:=by rw[BN hc];exact BK h
def JJ(hc:X.calm=true)(hk:scope.kind=.function)(h:scope.names.all (fun p=>p.2 !=.cell&&p.2 !=.free)=true)
 (hn:∀y∈scope.names,y.2=.local->scope.names.lookup y.1=some .local):KS X ts [] [] scope []:=by
 have h0:∀y∈scope.names,y.2≠.cell/\y.2≠.free:=fun y hy=>by have:=Ma.mp h y hy;simpa using this
 have er:rQ scope X.env=scope:=by
  unfold rQ;have:(scope.names.map fun(p:Str×tP)=>if(p.2==NameKind.free&&X.env.scope.kind==.function&&X.env.kindOf p.1==some .cell)=true then(p.1,NameKind.cell) else(p.1,p.2))=scope.names:=by
   refine map_eq_self fun y hy=>?_;have e:(y.2==NameKind.free)=false:=by simpa using(h0 y hy).2
   rw[e];rfl
  exact BD (fun n=>{scope with names:=n}) this
 refine⟨hc,closureFor_none fun y hy=>(h0 y hy).2,fun y hy=>(h0 y hy).1,hk,hn,fun y c e=>(nomatch e),fun y hy=>?_,rfl,fun i y j e=>absurd e (by simp),fun y hy=>absurd hy (by simp)⟩;rw[er] at hy;rcases hy with hy|hy
 ·exact absurd rfl (h0 _ (JA hy)).1
 ·exact absurd rfl (h0 _ (JA hy)).2
variable{z:Str}
def XM{Q:VK}(Pv:Nat->Hp->Prop)(h0:Pv 0 (upd H1 D (.lst [])))
 (hs:∀i c H,z.cps.toList[i]? =some c->Pv i H->g (.str ⟨#[c]⟩) (ts.map (fun _=>none)++D4 ix σ) H fun σ2 H2=>Iy ts ix σ σ2/\ti σ2 H2 fun b H3=>if b=true then te σ2 H3 fun y H4=>∃ys,H4 D=some (.lst ys)/\ys.length<sizeLine/\Pv (i+1) (upd H4 D (.lst (ys++[y]))) else Pv (i+1) H3)
 (hd:∀H,Pv z.cps.toList.length H->Q (.ref D) H):Lm ts ix σ (Qf z) g ti te D Q H1:=by
 have el:z.cps.toList.length=z.cps.size:=by simp
 rw[el] at hd;refine⟨fun i m H=>m=z.cps.size-i/\i<=z.cps.size/\Pv i H,⟨z.cps.size,by simp,CC _,h0⟩,?_⟩;rintro i m H ⟨rfl,hi,p⟩;by_cases hlt:i<z.cps.size
 ·refine .inr ⟨hlt,Pv (i+1),fun H' p'=>⟨z.cps.size-(i+1),by lia,rfl,hlt,p'⟩,fun x H' y=>?_⟩;obtain⟨e,c,hc,ex⟩:=y;subst e ex;exact hs i c _ (by simpa using hc) p
 ·obtain rfl:i=z.cps.size:=by lia
  exact .inl ⟨Ae _,hd H p⟩
def K2:([x]++[]:List Str).Nodup:=by simp
noncomputable def Ex(H:Hp)(D:OK):Hp:=fun b=>if b=D then none else H b
def Ex.upd{o:HO}:Ex (upd H D o) D=Ex H D:=by
 funext b;unfold Ex;by_cases e:b=D
 ·rw[AG e,AG e]
 ·rw[AF e,AF e,AN e]
def Ex.sub:AO (Ex H D) H:=fun b o e=>by
 unfold Ex at e;by_cases z:b=D
 ·rw[AG z] at e;cases e
 ·rw[AF z] at e;exact e
def Ex.mono(s:AO H H'):AO (Ex H D) (Ex H' D):=fun b o e=>by
 unfold Ex at e⊢;by_cases z:b=D
 ·rw[AG z] at e;cases e
 ·rw[AF z] at e⊢;exact s b o e
def Ex.at{o:HO}(h:H b=some o)(n:b≠D):Ex H D b=some o:=by unfold Ex;rw[AF n];exact h
def Ex.of_none(s:AO H H')(h:H D=none):AO H (Ex H' D):=fun b o e=>by unfold Ex;rw[AF (A7 e h)];exact s b o e
def Ab(H:Hp)(ds:List Dt)(xs:List V):Prop:=ds.length=xs.length/\∀(i:Nat) d x,ds[i]? =some d->xs[i]? =some x->Rep H d x
def Ab.nil:Ab H [] []:=⟨rfl,fun i d x e=>by simp at e⟩
def Ab.same{H H':Hp}(s:AO H H'){ds:List Dt}{xs:List V}(r:Ab H ds xs):Ab H' ds xs:=⟨r.1,fun i d x h1 h2=>(r.2 i d x h1 h2).same s⟩
variable{ds:List Dt}
def Ab.snoc{d:Dt}{x:V}(r:Ab H ds xs)(q:Rep H d x):Ab H (ds++[d]) (xs++[x]):=by
 obtain⟨hl,r⟩:=r;refine⟨by rw[An,An,hl];rfl,fun i d' x' h1 h2=>?_⟩;by_cases hi:i<ds.length
 ·rw[C2 hi] at h1;rw[C2 (by lia)] at h2;exact r i d' x' h1 h2
 ·have DD:i<(ds++[d]).length:=(BY.mp h1).1;rw[An,Cm] at DD;obtain rfl:i=ds.length:=by lia
  rw[Cj (Ae _),E1] at h1;rw[Cj (by lia),<-hl,E1] at h2;simp at h1 h2;subst h1 h2;exact q
def Rep.IE(h:H a=some (.lst xs))(r:Ab H ds xs):Rep H (.lst ds) (.ref a):=.lst h r.1 r.2
def Rep.FT(h:H a=some (.tup xs))(r:Ab H ds xs):Rep H (.tup ds) (.ref a):=.tup h r.1 r.2
noncomputable def QP:hX->Option Str
 |.Constant (.str x) _ _=>some x
 |_=>none
def Je:List hX->Option (List Str)
 |[]=>some []
 |c::r=>(QP c).bind fun x=>(Je r).map (x::·)
def il(h:QP c=some x):∃k p,c=.Constant (.str x) k p:=by
 cases c;case Constant c k p=>
  cases c;case str y=>cases h;exact⟨_,_,rfl⟩
  all_goals cases h
 all_goals cases h
def Zn(xs:List Str):TA:=fun _ H Q=>Q (xs.map V.str) H
def PY{X:Cx}:∀{es:List hX}{xs:List Str},Je es=some xs->PA X es (Zn xs)
 |[],xs,h=>by have e:xs=[]:=(Ag h).symm;subst e;exact AI
 |c::r,xs,h=>by
  have h':(QP c).bind (fun x=>(Je r).map (x::·))=some xs:=h
  cases ec:QP c with
  |none=>rw[ec] at h';cases h'
  |some x=>
   cases e:Je r with
   |none=>rw[ec,e] at h';cases h'
   |some ys=>rw[ec,e] at h';have e2:xs=x::ys:=(Ag h').symm;subst e2;obtain⟨_,_,rfl⟩:=il ec;exact AB AZ (PY e)
def jH{X:Cx}(i:Nat)(es:List hX)(xs:List Str)(h:Je es=some xs)(x:Str)(p pos pos':Pos)(hN:X.N.Nodup)(hi:X.N[i]? =some x)(hx:Loc X.env.scope x)(hf:X.fn x=true):
 PS X (.Assign [.Name x pos'] (.List es p) pos) (QS (Z6 (Zn xs)) (DT i)):=Av hN hi hx (CO (@PY X es xs h)) rfl (.inl hf)
def JK{y:Str}{c:OK}(hc:X.calm=true)(hk:scope.kind=.function)(h:scope.names.all (fun p=>p.2 !=.cell&&(p.2 !=.free||p.1==y))=true)
 (hn:∀z∈scope.names,z.2=.local->scope.names.lookup z.1=some .local)(hcl:closureFor scope X.env=pure [(y,c)])(hce:X.env.cells.lookup y=some c)(hx:X.env.kindOf y=some .cell)(hj:X.N[j]? =some y)
 (hr:(rQ scope X.env).names.lookup y=some .cell):KS X ts [y] [j] scope [(y,c)]:=by
 have h0:∀z∈scope.names,z.2≠.cell/\(z.2=.free->z.1=y):=fun z hz=>by have:=Ma.mp h z hz;simp only[FZ,Bool.or_eq_true,bne_iff_ne,Fd] at this;exact⟨this.1,fun e=>this.2.elim (fun q=>absurd e q) id⟩
 have h1:∀z k,(rQ scope X.env).names.lookup z=some k->(k=.cell\/k=.free)->z=y:=fun z k hz h4=>by
  have hm:=JA hz;obtain⟨q,hq,e⟩:=BA.mp (show(z,k)∈scope.names.map _ from hm);obtain⟨n,kq⟩:=q;have h3:=h0 (n,kq) hq;by_cases hf:kq=.free
  ·have e1:n=y:=h3.2 hf;have e2:n=z:=by have:=BD Prod.fst e;revert this;dsimp only;split<;>exact id
   rw[<-e2,e1]
  ·have e3:(n,kq)=(z,k):=by
    rw[<-e];dsimp only;rw[AF (by
     intro zz;have:(kq==NameKind.free)=true:=by simp only[FZ] at zz;exact zz.1.1
     exact hf (by simpa using this))]
   have e4:kq=k:=BD Prod.snd e3;rcases h4 with z1|z1
   ·exact absurd (e4.trans z1) h3.1
   ·exact absurd (e4.trans z1) hf
 refine⟨hc,hcl,fun z hz=>(h0 z hz).1,hk,hn,fun z a e=>?_,fun z hz=>?_,rfl,fun i z k e1 e2=>?_,fun z hz=>?_⟩
 ·by_cases h2:z=y
  ·rw[h2] at e⊢;rw[Gf,HV] at e;rw[<-Ag e];exact hce
  ·rw[Gf,K9 h2] at e;cases e
 ·have e:z=y:=hz.elim (fun q=>h1 z _ q (.inl rfl)) fun q=>h1 z _ q (.inr rfl);rw[e];exact⟨c,by rw[Gf,HV]⟩
 ·cases i with
  |zero=>
   have e3:z=y:=by simpa using e1.symm
   have e4:k=j:=by simpa using e2.symm
   rw[e3,e4];exact hj
  |succ i=>simp at e1
 ·have e:z=y:=BR.mp hz;rw[e];exact⟨.inr (.inl hx),(by rw[hx];intro q;cases q),.inl hr⟩
def IB{y:Str}(h:x≠y):([x]++[y]:List Str).Nodup:=by simp[h]
def Ye(a:String)(h:a="list" \/a="tuple"):kitAny K (.type a) (["list","tuple"].map Value.type)=some true:=by rcases h with e|e<;>subst e<;>kernel_rfl
def Sy(a:String)(h:a="str" \/a="int" \/a="bool"):kitAny K (.type a) (["list","tuple"].map Value.type)=some false:=by rcases h with e|e|e<;>subst e<;>kernel_rfl
def Hf(a:String):sF K (.type a) (.type a)=some true:=by unfold sF;rw[AG (by simp)]
def Zd:sF K (.type "list") (.type "tuple")=some false:=by kernel_rfl
def ZY:sF K (.type "tuple") (.type "list")=some false:=by kernel_rfl
def nj:sF K (.type "int") (.type "str")=some false:=by kernel_rfl
def mh:sF K (.type "bool") (.type "str")=some false:=by kernel_rfl
def ZX:sF K (.type "int") (.type "bool")=some false:=by kernel_rfl
def GG:qm "isinstance" =some (.builtin "isinstance"):=by left
def IY:qm "list" =some (.type "list"):=by left
def SG:qm "tuple" =some (.type "tuple"):=by left
def YO:qm "str" =some (.type "str"):=by left
def Lc:qm "int" =some (.type "int"):=by left
def Sh:qm "bool" =some (.type "bool"):=by left
structure Own(mg:Str->Option AD):Prop where
 GX:mg "isinstance" =none
 lst:mg "list" =none
 tup:mg "tuple" =none
 str:mg "str" =none
 int:mg "int" =none
 bl:mg "bool" =none
 len:mg "len" =none
 IK:mg "range" =none
def EF(H H':Hp)(ds:List Dt)(ps:List OK):Prop:=ds.length=ps.length/\∀(i:Nat) d p,ds[i]? =some d->ps[i]? =some p->∃x y,H' p=some (.tup [x,y])/\Rep H d x/\Rep H d y
def EF.same{ps:List OK}(k:∀b xs,H1 b=some (.tup xs)->H2 b=some (.tup xs))(s:EF H H1 ds ps):EF H H2 ds ps:=
 ⟨s.1,fun i d p h1 h2=>let⟨x,y,a,b,c⟩:=s.2 i d p h1 h2;⟨x,y,k _ _ a,b,c⟩⟩
def EF.snoc{ps:List OK}{d:Dt}{p:OK}{x:V}(s:EF H H1 ds ps)(h:H1 p=some (.tup [x,y]))(rx:Rep H d x)(ry:Rep H d y):EF H H1 (ds++[d]) (ps++[p]):=by
 obtain⟨hl,r⟩:=s;refine⟨by rw[An,An,hl];rfl,fun i d' x' h1 h2=>?_⟩;by_cases hi:i<ds.length
 ·rw[C2 hi] at h1;rw[C2 (by lia)] at h2;exact r i d' x' h1 h2
 ·have DD:i<(ds++[d]).length:=(BY.mp h1).1;rw[An,Cm] at DD;obtain rfl:i=ds.length:=by lia
  rw[Cj (Ae _),E1] at h1;rw[Cj (by lia),<-hl,E1] at h2;simp at h1 h2;subst h1 h2;exact⟨x,y,h,rx,ry⟩
def EF.lJ{ps:List OK}{p:OK}(s:EF H H1 ds (ps++[p])):∃ds' d x y,ds=ds'++[d]/\EF H H1 ds' ps/\H1 p=some (.tup [x,y])/\Rep H d x/\Rep H d y:=by
 obtain⟨hl,r⟩:=s;rcases List.eq_nil_or_concat ds with e|⟨ds',d,e⟩
 ·subst e;simp at hl
 ·rw[List.concat_eq_append] at e;subst e;have h0:ds'.length=ps.length:=by simpa using hl
  obtain⟨x,y,a,b,c⟩:=r ds'.length d p (by simp) (by rw[h0];simp);refine⟨ds',d,x,y,rfl,⟨h0,fun i d1 p1 h1 h2=>r i d1 p1 ?_ ?_⟩,a,b,c⟩
  ·rw[C2 (BY.mp h1).1];exact h1
  ·rw[C2 (BY.mp h2).1];exact h2
def Inv.WB(I:Inv X pins σ H s)(hf:∀b∈fp,Fp X pins H b)
 (k:∀b o,b∉fp->s.heap.get? b=some o->h'.get? b=some o)(th:∀b∈fp,∃o,h'.get? b=some o)(rv:Vals xs us)(hz:xs.length<=sizeLine)(ht:sj h' s.heap.objs.size us.toArray):
 Inv X pins σ (upd H s.heap.objs.size (.tup xs)) {s with heap:=h',toks:=t'}:=by
 have hn:H s.heap.objs.size=none:=I.hok.fresh (Ae _);have nt:∀b o,s.heap.get? b=some o->b≠s.heap.objs.size:=fun b o e=>BO (A2 e);have tf:∀b u,H b=some u->b∉fp:=fun b u e z=>by rw[(hf b z).1] at e;cases e
 have tn:∀b u,H b=some u->b≠s.heap.objs.size:=fun b u e z=>by rw[z,hn] at e;cases e
 refine I.step (g':=s.gens) (d':=s.drawn) (ch:=fp) (fun b hb=>?_) (fun b o _ _ hc e _=>k b o hc e) (fun b o _ _ hc e _=>⟨o.slots,k b o hc e⟩) (fun b o _ e n=>by rw[AN (nt b o e)];exact n)
  (fun b o hc e=>⟨o,k b o hc e⟩) (fun b ys e=>by rw[AN (tn _ _ e)];exact e) (fun b o u e=>by rw[AN (tn _ _ e)];exact e) (fun b ps e=>⟨#[],by rw[AN (tn _ _ e),e];simp⟩) (fun m hm=>?_) (fun b u e=>?_) I.bare
 ·obtain⟨_,f1,_,f3,f4,f5⟩:=hf b hb;exact⟨f3,f1,f4,f5⟩
 ·obtain⟨o,es,ep,ho,r⟩:=hm;exact⟨o,es,ep,k _ o (fun z=>(hf _ z).2.1 rfl) ho,r⟩
 ·by_cases hb:b=s.heap.objs.size
  ·subst hb;rw[AM] at e;cases e;exact⟨hz,us,rv,ht⟩
  ·rw[AN hb] at e;refine(I.hok b u e).ES (fun c v hc q=>k c v ?_ q) (fun c q=>?_) fun c ys q=>?_
   ·rcases hc with z|z
    ·rw[z];exact tf b u e
    ·exact tf c _ z
   ·rw[AN (tn _ _ q)];exact q
   ·rw[AN (tn _ _ q)];exact q
def MC(K:tW)(a:OK):It:=
 ⟨fun i H=>∃xs x,AL K H a xs/\xs[i]? =some x,fun i H v H'=>∃p,v=.ref p/\H p=none/\∀xs,AL K H a xs->∃x,xs[i]? =some x/\H'=upd H p (.tup [.int i,x]),fun i H=>∃xs,AL K H a xs/\xs.length<=i⟩
variable{elts:List hX}{tpos:Pos}
def zy:0<=sizeLine:=by decide
def zw:1<=sizeLine:=by decide
def zv:2<=sizeLine:=by decide
def z_0:3<=sizeLine:=by decide
def z_1:4<=sizeLine:=by decide
def ee{x1:Nat}(a e it:OK)(hne:e≠it):
 Turn P w K (.Tuple elts x1 tpos) (MC K a) [e,it] e (fun i h=>(∃old,IsEnum h e it i old)/\h.IsListIter it a i) where
 mem:=by simp
 obj:=fun i h st b hb=>by
  obtain⟨⟨old,he⟩,o,ho,hc,hd⟩:=st;have h0:b=e\/b=it:=by simpa using hb
  rcases h0 with z|z
  ·subst z;exact⟨_,he,fun v q=>by have q':Data.fields _=Data.cell v:=q;cases q'⟩
  ·subst z;exact⟨o,ho,fun v q=>by rw[hd] at q;cases q⟩
 keep:=fun i h h' st k=>by obtain⟨⟨old,he⟩,hi⟩:=st;exact⟨⟨old,k e (by simp) _ he⟩,hi.at fun o z=>k it (by simp) o z⟩
 item:=by
  intro X hP hw hK hc i h4 s σ H E I hf st hg;subst hP hw hK;obtain⟨⟨old,he⟩,hi⟩:=st;obtain⟨xs,x,hq,hx⟩:=hg;obtain⟨h5,rv,p,hz⟩:=I.list hq;obtain⟨u,hu,ru⟩:=rv.get hx;have hn:H s.heap.objs.size=none:=I.hok.fresh (Ae _);have le:e<s.heap.objs.size:=A2 he;obtain⟨oi,h6,_⟩:=id hi;refine wpAny_pyNext_enum_item he hi p.isList (x:=u) (by simpa using hu) hne fun h1 eo i1 t1 z1 k1=>⟨_,rfl,?_⟩;refine wpAny_letOwnedTupleGo_enum eo fun h2 e2 sb=>?_;have h3:Heap.SameBut e h1 h2:=sb;have k2:∀b o,b∉[e,it]->s.heap.get? b=some o->h2.get? b=some o:=fun b o hb z=>by
   have h0:b≠e/\b≠it:=by simpa using hb
   exact(h3.2 b h0.1).trans (k1 b o h0.1 h0.2 z)
  have i2:h2.IsListIter it a (i+1):=by obtain⟨o,z,r⟩:=i1;exact⟨o,(h3.2 it (DG hne)).trans z,r⟩
  have t2:sj h2 s.heap.objs.size [Value.int i s.toks,u].toArray:=⟨_,(h3.2 _ (Fc le)).trans t1,rfl,_,rfl⟩;have I2:=I.WB (h':=h2) (t':=s.toks+1) (xs:=[.int i,x]) hf k2 (fun b hb=>by
   have h0:b=e\/b=it:=by simpa using hb
   rcases h0 with z|z
   ·rw[z];exact⟨_,e2⟩
   ·rw[z];obtain⟨o,z,_⟩:=i2;exact⟨o,z⟩) (.cons ⟨_,rfl⟩ (.cons ru .nil)) (by exact zv) t2;refine⟨.ref s.heap.objs.size,_,I2,rfl,⟨_,rfl,hn,fun ys hy=>⟨x,by rw[I.XF hy hq];exact hx,rfl⟩⟩,⟨⟨u,?_⟩,i2⟩,fun b hb=>?_⟩
  ·have:IsEnum h2 e it ((i:Int)+1) u:=e2;exact this
  ·have h0:b≠s.heap.objs.size:=by
    have h7:b=e\/b=it:=by simpa using hb
    rcases h7 with z|z
    ·rw[z];exact BO le
    ·rw[z];exact BO (A2 h6)
   rw[AN h0];exact(hf b hb).1
 done:=by intro X hP hw hK hc i h4 s σ H E I hf st hg;subst hP hw hK;obtain⟨⟨old,he⟩,hi⟩:=st;obtain⟨xs,hq,hx⟩:=hg;obtain⟨h5,rv,p,hz⟩:=I.list hq;obtain⟨f0,f1,f2,f3,f4,f5⟩:=hf it (by simp);have hl:=rv.length;exact wpAny_pyNext_enum_end (I.ok.hd hc) he hi p.isList (by simp;lia) fun h' eb=>⟨rfl,I.turned (t':=s.toks) (fun b o hb e=>eb b o hb e) f0 f1 f3 f4 f5⟩
 self:=fun _ _ _ _ _ st h=>by obtain⟨⟨old,he⟩,_⟩:=st;exact wpAny_pyIter_enum he h
def nE(K:tW)(ta:TA):TI:=fun σ H R=>ta σ H fun vs H1=>∃a,vs=[.ref a]/\(∃xs,AL K H1 a xs)/\R (MC K a) H1
def Xs{x1:Nat}{a:hX}{ta:TA}(hg:Gl X "enumerate")(hm:X.mg "enumerate" =none)(ha:PA X [a] ta)(hs:dq [a] X.env=[(false,qh a X.env)]:=by rfl):
 PI X (.Tuple elts x1 tpos) (.Call (.Name "enumerate" p) [a] [] pos) (nE X.K ta):=by
 intro h0 s σ H R I h;refine Call_ (Lb I hg hm boot_enumerate (Qy (Ad (ha pos h0 s σ H _ I h) fun us s1 ⟨vs,H1,I1,r1,q1⟩=>?_) hs rfl));obtain⟨l,e,⟨xs,hq⟩,q⟩:=q1;subst e;obtain⟨u,rfl,ru⟩:=vals1 r1;cases ru;obtain⟨h2,rv,p,hz⟩:=I1.list hq;refine call_enumerate_list p.isList fun h' he hi h3 kk=>wpAny_pyIter_enum he ?_;refine⟨s1.heap.objs.size+1,[s1.heap.objs.size+1,s1.heap.objs.size],_,_,H1,rfl,I1.kept (t':=s1.toks) kk,ee l _ _ (Fc (MZ _)),⟨⟨_,he⟩,hi⟩,fun b hb=>?_,q⟩;have h1:b=s1.heap.objs.size+1\/b=s1.heap.objs.size:=by simpa using hb
 rcases h1 with z|z
 ·rw[z];exact I1.Jg (Eb _) (I1.hok.fresh (Eb _))
 ·rw[z];exact I1.Jg (Ae _) (I1.hok.fresh (Ae _))
def iY{D:Ends}(Pv:Nat->St->Hp->Prop)(h0:Pv 0 σ H)(hl:∀i σ H,i<=xs.length->Pv i σ H->AL K H a xs)
 (hs:∀i x p σ H,xs[i]? =some x->H p=none->Pv i σ H->g (.ref p) σ (upd H p (.tup [.int i,x])) fun σ2 H2=>tb {D with nx:=Pv (i+1),ct:=Pv (i+1),bk:=D.nx} σ2 H2)(hd:∀σ H,Pv xs.length σ H->D.nx σ H):
 ∃W:Nat->Nat->St->Hp->Prop,(∃m,W 0 m σ H)/\∀i m σ H,W i m σ H->
  ((MC K a).stop i H/\D.nx σ H)\/((MC K a).go i H/\∃N:St->Hp->Prop,(∀σ' H',N σ' H'->∃m',m'<m/\W (i+1) m' σ' H')/\∀x H',(MC K a).Iw i H x H'->g x σ H' fun σ2 H2=>tb {D with nx:=N,ct:=N,bk:=D.nx} σ2 H2):=by
 refine⟨fun i m σ H=>m=xs.length-i/\i<=xs.length/\Pv i σ H,⟨xs.length,by simp,CC _,h0⟩,?_⟩;rintro i m σ H ⟨rfl,hi,p⟩;have q:=hl i σ H hi p;by_cases h1:i<xs.length
 ·refine .inr ⟨⟨xs,xs[i],q,by simp[h1]⟩,Pv (i+1),fun σ' H' p'=>⟨xs.length-(i+1),by lia,rfl,h1,p'⟩,fun v H' y=>?_⟩;obtain⟨pa,ev,hp,y⟩:=y;obtain⟨x,hx,eH⟩:=y xs q;subst ev eH;exact hs i x pa σ H hx hp p
 ·obtain rfl:i=xs.length:=by lia
  exact .inl ⟨⟨xs,q,Ae _⟩,hd σ H p⟩
def KV.vals{κ:Type}:∀{AA:List (κ×V)}{ws:List (κ×AD)},KV AA ws->Vals (AA.map (·.2)) (ws.map (·.2))
 |_,_,.nil=>.nil
 |_,_,.cons r t=>.cons r.2 (KV.vals t)
def bx(r:Vals (ns.map V.int) us){v:AD}(e:us[i]? =some v):∃t,v=.int (ns.getD i 0) t:=by have hl:=r.length;rw[AJ] at hl;have hi:i<us.length:=(BY.mp e).1;have hn:ns[i]? =some ns[i]:=Ap (by lia);obtain⟨u,hu,t,et⟩:=r.get (i:=i) (x:=.int ns[i]) (by rw[Az,hn];rfl);rw[e] at hu;cases hu;rw[Ck,hn];exact⟨t,et⟩
noncomputable def Gz(p d:OK):HO:=.ext fun h=>h.IsValuesView p d
def jm:V->List V->Hp->VK->Prop:=fun x vs H Q=>∃d h0,x=.ref d/\vs=[]/\H d=some (.dK h0)/\∀p,H p=none->Q (.ref p) (upd H p (Gz p d))
def WW:IH X "dict.values" jm:=by intro h0 s σ H x vs v us Q I rx rv h;obtain⟨d,h4,rfl,rfl,hd,q⟩:=h;cases rx;cases rv;obtain⟨z,hm,ws,h3,dd⟩:=JZ I.hok hd;refine Mp Uw dd.typeIs PySem.F.entry_dict_values (PySem.F.args_dict_values_1 _) (meets_dict_values (CU X.prog X.w) d hm) ⟨⟨ws,dd⟩,?_⟩;refine⟨.ref s.heap.objs.size,_,I.laid (t':=s.toks) (o:=Gz s.heap.objs.size d) (fun b o e=>BC _ e) (Ae _) ?_,rfl,q _ I.fresh⟩;have hv:(s.heap.push {cls:=.type "dict_values",data:=.fields #[.ref d]}).IsValuesView s.heap.objs.size d:=⟨_,CB _ rfl,rfl,rfl⟩;exact⟨hv,⟨_,CB _ rfl⟩,fun h1 h2 a k=>let⟨o,e,r⟩:=a;⟨o,k o e,r⟩⟩
def dz(hc:X.calm=true):Du X (.builtin "min") (fun xs H Q=>∃(p d:OK)(AA:List (Key×V))(ns:List Int),xs=[.ref p]/\H p=some (Gz p d)/\H d=some (.dK AA)/\AA.map (·.2)=ns.map V.int/\ns≠[]/\
 ∀m,m∈ns->(∀n∈ns,m<=n)->Q (.int m) H):=by
 intro h5 s σ H xs us Q I r h;obtain⟨p,d,AA,ns,rfl,hp,hd,hv,h7,q⟩:=h;obtain⟨u,rfl,rx⟩:=vals1 r;cases rx;obtain⟨z,hm,ws,h4,dd⟩:=JZ I.hok hd;obtain⟨h6,_⟩:=(show BV X.prog X.w H s.heap p (Gz p d) from I.hok p _ hp);have h0:s.heap.IsValuesView p d:=h6;obtain⟨ep,da⟩:=dd.dictAt;have hh:X.A.in1.handled=none:=I.ok.hd hc;have rv:=KV.vals h4;rw[hv] at rv;have h8:ws.length=ns.length:=by
  have h1:=rv.length;rw[AJ,AJ] at h1
  lia
 have vi:∀(i:Nat)(v:AD),(∃k:Key,ws[i]? =some (k,v))->∃t,v=.int (ns.getD i 0) t:=fun i v ⟨k,e⟩=>bx rv (by rw[Az,e];rfl);obtain⟨od,_,h2,_⟩:=id da;have nd:d≠s.heap.objs.size:=BO (A2 h2);have np:0<ns.length:=List.length_pos_iff.mpr h7;refine call_min_walk (wpAny_pyIter_values h0 da ?_);refine⟨s.heap.objs.size,[s.heap.objs.size,d],[s.heap.objs.size],ws.length,fun i v=>∃k:Key,ws[i]? =some (k,v),_,fun i j=>decide (ns.getD i 0<ns.getD j 0),rfl,Walks.dictValues hh _ d nd ws ep,
  ⟨⟨_,CB _ rfl,rfl,rfl⟩,da.at' fun o e=>BC _ e⟩,fun b hb=>?_,by lia,CmpOf.ints_lt (fun i=>ns.getD i 0) vi,fun v h' tk hP kk=>?_⟩
 ·have h9:b=s.heap.objs.size\/b=d:=by simpa using hb
  rw[Gh];rcases h9 with e|e
  ·rw[e];exact MZ _
  ·rw[e];exact Og (A2 h2)
 ·obtain⟨a1,a2⟩:=argBest_lt (fun i=>ns.getD i 0) (ws.length-1);obtain⟨t,et⟩:=vi _ v hP;generalize argBest (fun i j=>decide (ns.getD i 0<ns.getD j 0)) (ws.length-1)=ix at a1 a2 et;subst et;have h3:ix<ns.length:=by lia
  refine⟨.int (ns.getD ix 0),H,I.kept (fun b ob e=>kk b ob (by simpa using BO (A2 e)) (BC _ e)),⟨t,rfl⟩,q _ ?_ fun n hn=>?_⟩
  ·rw[Ck,Ap h3];exact EZ h3
  ·obtain⟨j,hj,e⟩:=F2.mp hn;have:=a2 j (by lia);have ej:ns.getD j 0=n:=by rw[Ck,Ap hj];exact e
   rw[<-ej];exact this
section
open PySem.W
section
variable(r:Nat->Nat)
noncomputable def Qw(i j:Nat):Bool:=decide (r i<r j)
end
structure Nz(α:Type) where
 lt:α->α->Bool
 bB:∀a,lt a a=false
 tr:∀a b c,lt a b=true->lt b c=true->lt a c=true
 BM:∀a b,lt a b=false->lt b a=false->a=b
noncomputable def JY{α:Type}(O:Nz α)(l:List α)(a:α):Nat:=l.countP fun b=>O.lt b a
def Rh{α:Type}{p q:α->Bool}:∀{l:List α},(∀x∈l,p x=true->q x=true)->l.countP p<=l.countP q
 |[],_=>Ae _
 |x::r,h=>by
  have ih:=Rh (l:=r) fun y hy=>h y (Cn _ hy);rw[RO,RO];have hx:=h x Co
  cases e1:p x with
  |false=>simp;lia
  |true=>rw[hx e1];simp;lia
def VS{α:Type}{p q:α->Bool}:∀{l:List α}{a:α},a∈l->(∀x∈l,p x=true->q x=true)->p a=false->q a=true->l.countP p<l.countP q
 |x::r,a,ha,h,h1,h2=>by
  rw[RO,RO];rcases BI.mp ha with e|e
  ·subst e;have ih:=Rh (l:=r) fun y hy=>h y (Cn _ hy);rw[h1,h2];simp
   lia
  ·have ih:=VS e (fun y hy=>h y (Cn _ hy)) h1 h2;have hx:=h x Co
   cases e1:p x with
   |false=>simp;lia
   |true=>rw[hx e1];simp;lia
def Pf(O:Nz α)(l:List α){a b:α}(ha:a∈l):O.lt a b=decide (JY O l a<JY O l b):=by
 cases e:O.lt a b with
 |true=>have:JY O l a<JY O l b:=VS ha (fun x _ hx=>O.tr x a b hx e) (O.bB a) e;rw[Bb this]
 |false=>
  have:JY O l b<=JY O l a:=Rh fun x _ hx=>by
   cases e2:O.lt b a with
   |true=>exact O.tr x b a hx e2
   |false=>rw[O.BM a b e e2];exact hx
  rw[BN (by lia)]
noncomputable def LX(h:qi)(a:OK)(vs:List AD):qi:=((h.update a (Obj.mapSeq fun _=> #[])).push (qu "tuple" vs.toArray 0)).push (qu "list" #[] 0)
noncomputable def Fl(vs:List AD)(p:List Nat):List AD:=p.map fun i=>vs.getD i Value.none
def Nw(prog:qf)(w:qj)(A:rL)(vs:List AD)(r:Nat->Nat)(s3:Ya):Prop:=
 bt (ax prog w) A (keyKind' vs.toArray) (fun κ s'=>s'=s3/\∀i j C,i<vs.length->j<vs.length->C (Qw r i j) s3->kas_ask prog w A κ vs i j C s3) (fun _ _=>False) s3
noncomputable def EE:Key->Key->Bool
 |.inl i,.inl j=>decide (i<j)
 |.inr x,.inr y=>decide (x.cps.toList<y.cps.toList)
 |.inl _,.inr _=>true
 |.inr _,.inl _=>false
def VU{a b:Str}(h:a.cps.toList=b.cps.toList):a=b:=by cases a;cases b;congr 1;exact Jz.mp h
def YA:∀a,EE a a=false
 |.inl i=>BN (by lia)
 |.inr x=>BN (List.lt_irrefl _)
def Yp:∀a b c,EE a b=true->EE b c=true->EE a c=true
 |.inl i,.inl j,.inl k,h1,h2=>Bb (Int.lt_trans (IS h1) (IS h2))
 |.inl _,.inl _,.inr _,_,_=>rfl
 |.inl _,.inr _,.inr _,_,_=>rfl
 |.inr x,.inr y,.inr z,h1,h2=>Bb (List.lt_trans (IS h1) (IS h2))
 |.inl _,.inr _,.inl _,_,h2=>by cases h2
 |.inr _,.inl _,_,h1,_=>by cases h1
 |.inr _,.inr _,.inl _,_,h2=>by cases h2
def Xk:∀a b,EE a b=false->EE b a=false->a=b
 |.inl i,.inl j,h1,h2=>by
  have e1:¬i<j:=Od h1;have e2:¬j<i:=Od h2;have e:i=j:=by lia
  rw[e]
 |.inr x,.inr y,h1,h2=>by have e1:¬x.cps.toList<y.cps.toList:=Od h1;have e2:¬y.cps.toList<x.cps.toList:=Od h2;rw[VU (List.le_antisymm (List.not_lt.mp e2) (List.not_lt.mp e1))]
 |.inl _,.inr _,h1,_=>by cases h1
 |.inr _,.inl _,_,h2=>by cases h2
def DJ:List Key->List Key->Bool
 |[],[]=>false
 |[],_::_=>true
 |_::_,[]=>false
 |a::r,b::t=>if a=b then DJ r t else EE a b
def XQ:∀a,DJ a a=false
 |[]=>rfl
 |a::r=>by show(if a=a then DJ r r else EE a a)=false;rw[AG rfl];exact XQ r
def Xy:∀a b c,DJ a b=true->DJ b c=true->DJ a c=true
 |[],[],_,h,_=>by cases h
 |[],_::_,[],_,h=>by cases h
 |[],_::_,_::_,_,_=>rfl
 |_::_,[],_,h,_=>by cases h
 |_::_,_::_,[],_,h=>by cases h
 |a::r,b::t,c::u,h1,h2=>by
  have h4:(if a=b then DJ r t else EE a b)=true:=h1;have h0:(if b=c then DJ t u else EE b c)=true:=h2;show(if a=c then DJ r u else EE a c)=true;by_cases e1:a=b
  ·rw[AG e1] at h4;by_cases e2:b=c
   ·rw[AG e2] at h0;rw[AG (e1.trans e2)];exact Xy r t u h4 h0
   ·rw[AF e2] at h0;rw[AF (by rw[e1];exact e2),e1];exact h0
  ·rw[AF e1] at h4;by_cases e2:b=c
   ·rw[AG e2] at h0;rw[AF (by rw[<-e2];exact e1),<-e2];exact h4
   ·rw[AF e2] at h0;have h3:=Yp a b c h4 h0;by_cases e3:a=c
    ·rw[e3,YA] at h3;cases h3
    ·rw[AF e3];exact h3
def Wc:∀a b,DJ a b=false->DJ b a=false->a=b
 |[],[],_,_=>rfl
 |[],_::_,h,_=>by cases h
 |_::_,[],_,h=>by cases h
 |a::r,b::t,h1,h2=>by
  have h3:(if a=b then DJ r t else EE a b)=false:=h1;have h0:(if b=a then DJ t r else EE b a)=false:=h2;by_cases e:a=b
  ·rw[AG e] at h3;rw[AG e.symm] at h0;rw[e,Wc r t h3 h0]
  ·rw[AF e] at h3;rw[AF (fun z=>e z.symm)] at h0;exact absurd (Xk a b h3 h0) e
def lexOrd:Nz (List Key):=⟨DJ,XQ,Xy,Wc⟩
noncomputable def kd:Key->Bool
 |.inl _=>true
 |.inr _=>false
def lI{a b:Key}{v:AD}(ha:RelV (kV a) u)(hb:RelV (kV b) v)(h:kd a=kd b){Q:Bool->Ya->Prop}(q:Q (decide (a=b)) s):bt (ax prog w) A (eqBool u v) Q E s:=by
 match a,b,h with
 |.inl i,.inl j,_=>obtain⟨t,rfl⟩:=ha;obtain⟨t',rfl⟩:=hb;refine SeqAt.EqAt.int_int i t j t' prog w E Q ?_;rw[<-ZC];exact q
 |.inr x,.inr y,_=>obtain⟨t,rfl⟩:=ha;obtain⟨t',rfl⟩:=hb;refine SeqAt.EqAt.str_str x t y t' prog w E Q ?_;rw[Yj] at q;rw[Bool.beq_eq_decide_eq];exact q
 |.inl _,.inr _,h=>cases h
 |.inr _,.inl _,h=>cases h
def lW{a b:Key}{v:AD}(ha:RelV (kV a) u)(hb:RelV (kV b) v)(h:kd a=kd b)(c:Bool){Q:Bool->Ya->Prop}(q:Q (EE a b) s):bt (ax prog w) A (oneLt' c u v) Q E s:=by
 match a,b,h with
 |.inl i,.inl j,_=>
  obtain⟨t,rfl⟩:=ha;obtain⟨t',rfl⟩:=hb
  cases c with
  |true=>exact oneLt_int q
  |false=>exact kat_one _ _ (lt_int q)
 |.inr x,.inr y,_=>
  obtain⟨t,rfl⟩:=ha;obtain⟨t',rfl⟩:=hb
  cases c with
  |true=>exact oneLt_str q
  |false=>exact kat_one _ _ (lt_str q)
 |.inl _,.inr _,h=>cases h
 |.inr _,.inl _,h=>cases h
def YT{c:Bool}{Q:Bool->Ya->Prop}:∀(ks ls:List Key)(us vs:List AD)(i:Nat),Vals (ks.map kV) us->Vals (ls.map kV) vs->ks.map kd=ls.map kd->Q (DJ ks ls) s->KatLex prog w A c false Q (us.zip vs) i s
 |[],[],_,_,_,.nil,.nil,_,q=>q
 |[],_::_,_,_,_,_,_,h,_=>by cases h
 |_::_,[],_,_,_,_,_,h,_=>by cases h
 |a::ks,b::ls,_,_,i,.cons ra rs,.cons rb rt,h,q=>by
  have h1:kd a=kd b:=U1 h;have h2:ks.map kd=ls.map kd:=List.tail_eq_of_cons_eq h;refine kat_cons (lI ra rb h1 ?_);have q':Q (if a=b then DJ ks ls else EE a b) s:=q;by_cases e:a=b
  ·rw[Bb e];rw[AG e] at q';exact kat_yes (YT ks ls _ _ (i+1) rs rt h2 q')
  ·rw[BN e];rw[AF e] at q';exact kat_no (lW ra rb h1 _ q')
def YU(h:qi)(ps:List (OK×List Key)):Prop:=∀p∈ps,∃us:List AD,Vals (p.2.map kV) us/\sj h p.1 us.toArray
def Vq{h:qi}:∀{ps:List (OK×List Key)},YU h ps->(∀p∈ps,p.2≠[])->∃fs:List AD,KatTups h (ps.map fun p=>Value.ref p.1) fs/\fs.length=ps.length/\∀v∈fs,∃p∈ps,∃a r,p.2=a::r/\RelV (kV a) v
 |[],_,_=>⟨[],KatTups.nil,rfl,fun v hv=>by cases hv⟩
 |p::ps,ht,hne=>by
  obtain⟨fs,t,hl,hf⟩:=Vq (ps:=ps) (fun q hq=>ht q (Cn _ hq)) fun q hq=>hne q (Cn _ hq);obtain⟨us,rv,o,h1,h2,n,h3⟩:=ht p Co
  cases e:p.2 with
  |nil=>exact absurd e (hne p Co)
  |cons a r=>
   rw[e] at rv
   cases rv with
   |@cons _ u _ us' ra rr=>
    refine⟨u::fs,KatTups.cons h1 h2 h3 (by simp) t,by rw[CG,CG,hl],fun v hv=>?_⟩;rcases BI.mp hv with z|z
    ·rw[z];exact⟨p,Co,a,r,e,ra⟩
    ·obtain⟨q,hq,x⟩:=hf v z;exact⟨q,Cn _ hq,x⟩
noncomputable def FC(ps:List (OK×List Key))(i:Nat):List Key:=(ps.getD i (0,[])).2
def Kq(ps:List (OK×List Key))(i:Nat):Nat:=JY lexOrd (ps.map (·.2)) (FC ps i)
def WS{ps:List (OK×List Key)}(h:i<ps.length):FC ps i∈ps.map (·.2):=by unfold FC;rw[Ck,Ap h];exact BA.mpr ⟨ps[i],EZ h,rfl⟩
def gS{ps:List (OK×List Key)}{sh:List Bool}(ht:YU s.heap ps)(hsh:∀p∈ps,p.2.map kd=sh)(hne:sh≠[])(h2:2<=ps.length):
 Nw prog w A (ps.map fun p=>Value.ref p.1) (Kq ps) s:=by
 have h0:∀p∈ps,p.2≠[]:=fun p hp e=>hne (by rw[<-hsh p hp,e];rfl);obtain⟨fs,t,hl,hf⟩:=Vq ht h0;obtain⟨c,cr,ec⟩:∃c cr,sh=c::cr:=by
  cases sh with
  |nil=>exact absurd rfl hne
  |cons c cr=>exact⟨c,cr,rfl⟩
 have go:∀T:AD,(∀v∈fs,Looks (ax prog w) s.heap (typeOf v) T)->(T==T)=true->(T !=Value.type "tuple")=true->Nw prog w A (ps.map fun p=>Value.ref p.1) (Kq ps) s:=fun T hT e1 e2=>by
  refine kat_kind t (by lia) hT e1 ⟨rfl,fun i j C hi hj q=>?_⟩;rw[AJ] at hi hj;rw[e2];unfold kas_ask;have gi:∀k,k<ps.length->(ps.map fun p=>Value.ref p.1).getD k Value.none=Value.ref (ps.getD k (0,[])).1:=fun k hk=>by rw[Ck,Az,Ap hk,Ck,Ap hk];rfl
  have mi:∀k,k<ps.length->ps.getD k (0,[])∈ps:=fun k hk=>by rw[Ck,Ap hk];exact EZ hk
  rw[gi i hi,gi j hj];obtain⟨us,ru,ox,x1,x2,nx,x3⟩:=ht _ (mi i hi);obtain⟨vs,rv,oy,y1,y2,ny,y3⟩:=ht _ (mi j hj);have hs:(ps.getD i (0,[])).2.map kd=(ps.getD j (0,[])).2.map kd:=by rw[hsh _ (mi i hi),hsh _ (mi j hj)]
  refine kat_lt x1 x3 y1 y3 ?_;have el:decide (us.toArray.size<vs.toArray.size)=false:=by
   have l1:=ru.length;have l2:=rv.length;have l3:=BD List.length hs;rw[AJ] at l1 l2;rw[AJ,AJ] at l3;refine BN ?_;rw[CS,CS]
   lia
  rw[el];refine YT _ _ us vs 0 ru rv hs ?_;have e3:=Pf lexOrd (ps.map (·.2)) (a:=FC ps i) (b:=FC ps j) (WS hi);have e4:Qw (Kq ps) i j=DJ (FC ps i) (FC ps j):=e3.symm;rw[e4] at q;exact q
 cases c with
 |true=>
  refine go (.type "int") (fun v hv=>?_) (by decide) (by decide);obtain⟨p,hp,a,r,e,ra⟩:=hf v hv;have:=hsh p hp;rw[e,ec] at this
  match a,U1 this with
  |.inl i,_=>obtain⟨t,rfl⟩:=ra;exact Looks.of_pure rfl
 |false=>
  refine go (.type "str") (fun v hv=>?_) (by decide) (by decide);obtain⟨p,hp,a,r,e,ra⟩:=hf v hv;have:=hsh p hp;rw[e,ec] at this
  match a,U1 this with
  |.inr i,_=>obtain⟨t,rfl⟩:=ra;exact Looks.of_pure rfl
def V6:∀{ps:List (OK×List Key)}{us:List AD},Vals (ps.map fun p=>V.ref p.1) us->us=ps.map fun p=>Value.ref p.1
 |[],_,.nil=>rfl
 |_::_,_,.cons r t=>by rw[Au,<-V6 t];cases r;rfl
def Vp:∀ps:List (OK×List Key),Vals (ps.map fun p=>V.ref p.1) (ps.map fun p=>Value.ref p.1)
 |[]=>.nil
 |_::r=>.cons rfl (Vp r)
def Pl:∀{xs:List V}{us:List AD},xs.length=us.length->(∀(i:Nat) x u,xs[i]? =some x->us[i]? =some u->RelV x u)->Vals xs us
 |[],[],_,_=>.nil
 |x::xs,u::us,hl,h=>.cons (h 0 x u rfl rfl) (Pl (by simpa using hl) fun i x u h1 h2=>h (i+1) x u (by simpa using h1) (by simpa using h2))
 |[],_::_,hl,_=>by cases hl
 |_::_,[],hl,_=>by cases hl
def OC(a b:Str):Bool:=EE (Sum.inr a) (Sum.inr b)
def Hk:Nz Str:=⟨OC,fun a=>YA _,fun a b c=>Yp _ _ _,fun a b h1 h2=>Sum.inr.inj (Xk _ _ h1 h2)⟩
def MA(zs:List Str)(i:Nat):Nat:=JY Hk zs (zs.getD i "")
end
variable{zs:List Str}
section
open PySem.W
def Lh(r:Vals (zs.map V.str) us)(hk:k<zs.length):∃t,us.getD k Value.none=.str (zs.getD k "") t:=by
 have e:(zs.map V.str)[k]? =some (V.str (zs.getD k "")):=by rw[Az,Ap hk,Ck,Ap hk];rfl
 obtain⟨u,hu,t,ht⟩:=r.get e;exact⟨t,by rw[Ck,hu];exact ht⟩
def Wi(hk:k<zs.length):zs.getD k ""∈zs:=by rw[Ck,Ap hk];exact EZ hk
def iA(r:Vals (zs.map V.str) us)(h2:2<=us.length):Nw prog w A us (MA zs) s:=by
 have hl:zs.length=us.length:=by rw[<-r.length,AJ]
 refine kas_kind (T:=.type "str") h2 (fun v hv=>?_) (by decide) (by decide) ⟨rfl,fun i j C hi hj q=>?_⟩
 ·obtain⟨k,hk,e⟩:=F2.mp hv;obtain⟨t,et⟩:=Lh r (k:=k) (by lia);rw[Ck,Ap hk] at et;have:v=.str (zs.getD k "") t:=by rw[<-e];exact et
  rw[this];exact Looks.of_pure rfl
 ·unfold kas_ask;obtain⟨t1,e1⟩:=Lh r (k:=i) (by lia);obtain⟨t2,e2⟩:=Lh r (k:=j) (by lia);rw[e1,e2];refine kas_lt_str ?_;have e3:=Pf Hk zs (a:=zs.getD i "") (b:=zs.getD j "") (Wi (by lia));have e4:Qw (MA zs) i j=decide ((zs.getD i "").cps.toList<(zs.getD j "").cps.toList):=e3.symm;rw[e4] at q;exact q
def lM(K:tW):List V->Hp->VK->Prop:=fun xs H Q=>∃(l:OK)(zs:List Str),xs=[.ref l]/\AL K H l (zs.map V.str)/\zs.length<64/\
 ∀(D:OK)(ys:List Str),H D=none->ys.Perm zs->ys.Pairwise (fun a b=>OC b a=false)->Q (.ref D) (upd H D (.lst (ys.map V.str)))
def S7:List V->Hp->VK->Prop:=fun xs H Q=>∃(d:OK)(h0:List (Key×V)),xs=[.ref d]/\H d=some (.dK h0)/\∀l,H l=none->Q (.ref l) (upd H l (.lst (h0.map fun kv=>kV kv.1)))
def Ms(hc:X.calm=true):Du X (.type "list") S7:=by
 intro h6 s σ H xs us Q I r h;obtain⟨d,h3,rfl,hd,q⟩:=h;obtain⟨u,rfl,rx⟩:=vals1 r;cases rx;obtain⟨z,hm,ws,h5,dd⟩:=JZ I.hok hd;obtain⟨ep,da⟩:=dd.dictAt;have hh:X.A.handled=none:=I.ok.hd hc;have h8:=h5.length;refine kdl_call (kdl_dict hm) hh da (by lia) fun h' tk h0 c' kp e h4=>?_;have hv:Vals (h3.map fun kv=>kV kv.1) h0.toList:=by
  refine Pl (by have h1:h0.toList.length=h0.size:=Ey;have h2:=h4.1;rw[AJ];lia) fun i x u h1 h2=>?_;rw[Gd] at h2;obtain⟨k,y,ek,is⟩:=h4.2 i u h2;have hk:(h3.map (·.1))[i]? =some k:=by rw[h5.keys,Az,ek];rfl
  have hx:(h3.map fun kv=>kV kv.1)[i]? =some (kV k):=by rw[show(h3.map fun kv=>kV kv.1)=(h3.map (·.1)).map kV by rw[Bo];rfl,Az,hk];rfl
  rw[hx] at h1;cases Ag h1;have h7:Kh k u=true:=is;rcases Gi h7 with⟨i,t,rfl,rfl⟩|⟨z,t,rfl,rfl⟩
  ·exact⟨t,rfl⟩
  ·exact⟨t,rfl⟩
 refine⟨.ref s.heap.objs.size,_,I.laid (t':=tk) (o:=.lst (h3.map fun kv=>kV kv.1)) kp (Ae _) ⟨by rw[AJ];lia,h0.toList,c',hv,by rw[Array.toArray_toList];exact e⟩,rfl,q _ I.fresh⟩
end
def KR(a b:Str):(a++b).length=a.length+b.length:=by show(a.cps++b.cps).size=_;simp[Str.length]
def JH{c:TT}{t u v:TS}{D:Ends}(G:St->Hp->Prop)(hG:∀σ H,G σ H->v D σ H)(h:(∀σ H,G σ H->v D σ H)->HF c t u {D with nx:=v D} σ H):Jj (HF c t u) v D σ H:=h hG
def blank_eq:(" " :Str)=⟨#[32]⟩:=by left
def dn(n:Int):(Txt.mul " " n).cps.toList=List.replicate n.toNat 32:=by rw[blank_eq];exact mul_one_list 32 n
def bq(n:Int)(h0:0<=n)(h:n<=10):MulOk " " n:=mulOk_of 1 10 (by left) (by lia) (by lia) (by decide) (by decide)
def VQ(n:Int):(Txt.mul " " n).length=n.toNat:=by have h:=BD List.length (dn n);rw[List.length_replicate] at h;simpa[Str.length] using h
def F9(xs:List α)(n:Nat)(hn:xs.length=n)(h0:0<n)(i:Int):∃v∈xs,Fq xs (i%(n:Int))=some v:=by
 have h1:0<=i%(n:Int):=Mc _ (by lia);have h2:i%(n:Int)<n:=MP _ (by lia);have e:i%(n:Int)=((i%(n:Int)).toNat:Int):=by lia
 have hl:(i%(n:Int)).toNat<xs.length:=by lia
 refine⟨xs[(i%(n:Int)).toNat],EZ hl,?_⟩;have:=Bh (xs:=xs) (j:=(i%(n:Int)).toNat) (v:=xs[(i%(n:Int)).toNat]) (Ap hl);rw[<-e] at this;exact this
def Y6:Sp:=fun vs H Q _=>∃a p m:Int,vs=[.int a,.int p,.int m]/\0<p/\0<m/\∀z:Int,Q (.int z) H
def Zr:Sp:=fun vs H Q _=>∃s:Int,vs=[.int s]/\∀z:Str,z.length=3->Q (.str z) H
noncomputable def sought:List Str:=["oak","oaks","elm","cat","[]","[a]","Oak","oa","elmelmelm"]
def Wb:Sp:=fun vs H Q _=>vs=[]/\∀(p:OK)(H':Hp),AO H H'->H' p=some (.tup (sought.map V.str))->Q (.ref p) H'
def XJ:Sp:=fun vs H Q _=>∃c k:Int,vs=[.int c,.int k]/\∀(z:Str)(H':Hp),z.length<=1000->AO H H'->Q (.str z) H'
def km:A9 ["_law_number","_law_prime","_law_many"] ["_law_number","_law_prime","_law_many"] (Aq P6):=by left
def i7(F:Ak K "_law_draw" "_law_draw" P6 f fd):AY P w K mg base Aj 1 f fd ["_law_number","_law_prime","_law_many"] Y6:=by
 refine F.ok km ?_ ?_
 ·rintro _ _ _ _ ⟨_,_,_,rfl,_⟩;rfl
 ·rintro _ A _ s H _ Q E hr ⟨a,p,m,rfl,hp,hm,q⟩;refine⟨_,AU (As (Ah Bm (Ah Bm (Ah Px (pv 0) AV) (pv 1)) (pv 2))),?_⟩;exact⟨_,rfl,_,_,rfl,rfl,.inr ⟨by decide,by decide⟩,_,rfl,_,_,rfl,rfl,hp,_,rfl,_,_,rfl,rfl,hm,q _⟩
noncomputable def ae:Str:="abcdefghijklmnopqrstuvwxyzABCDEFGHIJKLMNOPQRSTUVWXYZ0123456789"
noncomputable def bU:Str:="!#$&()*+,-./:;<=>?\x40[]^_`{|}~'"
def OF:Str:=ae++bU
def Tb:A9 ["_law_spot","_law_signs"] ["_law_spot"] (Aq QQ):=by left
def Tg:("w" :Str).length=1:=by left
def XY:OF.cps.toList.length=91:=by left
def lB(F:Ak K "_law_odd_word" "_law_odd_word" QQ f fd):AY P w K mg base Aj 1 f fd ["_law_spot"] Zr:=by
 refine F.ok Tb ?_ ?_
 ·rintro _ _ _ _ ⟨_,rfl,_⟩;rfl
 ·rintro _ A _ s H _ Q E hr ⟨i,rfl,q⟩;refine⟨_,AR (Av (i:=1) Tb.nd rfl (Aa rfl) AZ) (AR (Av (i:=1) Tb.nd rfl (Aa rfl) (Ah LM (pv 1) AZ))
   (AU (As (Ah LM (Ah LM AZ (Bz Pw (pv 1) (Ah Bm (pv 0) AV) (fun _ _=>rfl))) (Bz Pw (pv 1) (Ah Bm (Ah Hg (pv 0) AV) AV) (fun _ _=>rfl)))))),?_⟩;refine⟨_,rfl,ae,bU,rfl,rfl,by left,?_⟩;obtain⟨v1,_,e1⟩:=F9 OF.cps.toList 91 XY (by decide) i;obtain⟨v2,_,e2⟩:=F9 OF.cps.toList 91 XY (by decide) (i/91);refine⟨_,rfl,_,rfl,_,_,rfl,rfl,(by show(0:Int)<91;decide),OF,_,v1,rfl,rfl,by left,e1,_,_,rfl,rfl,by rw[Tg];show 1+1<=sizeLine;decide,?_⟩;refine⟨_,rfl,_,rfl,_,_,rfl,rfl,⟨by decide,by decide⟩,_,_,rfl,rfl,(by show(0:Int)<91;decide),OF,_,v2,rfl,rfl,by left,e2,_,_,rfl,rfl,by rw[KR,Tg];show 1+1+1<=sizeLine;decide,?_⟩;exact q _ (by rw[KR,KR,Tg];rfl)
def Sq:List hX:=match(E3 NK).getD 0 (.Pass ⟨0,0,0,0⟩) with|.Return (some (.Tuple v _ _)) _=>v|_=>[]
def cg:Je Sq=some sought:=by left
def iF:A9 [] [] (Aq NK):=by left
def fN(F:Ak K "_law_sought" "_law_sought" NK f fd):AY P w K mg base Aj 1 f fd [] Wb:=by
 refine F.ok iF ?_ ?_
 ·rintro _ _ _ _ ⟨rfl,_⟩;rfl
 ·rintro _ A _ s H _ Q E hr ⟨rfl,q⟩;refine⟨_,@AU _ _ _ (@As _ _ _ _ (@Bs _ Sq _ _ _ (@PY _ Sq sought cg))),?_⟩;exact⟨by show 9<=sizeLine;decide,fun p hp=>q p _ (Af hp) AM⟩
noncomputable def Tq:List Str:=["oak","[a]","elm","[b]","ash","[cat]","oak","[catalogue]","[]","a[b]","[zed]","Oak"]
noncomputable def oH:List Str:=["oaks","oa","elmelmelm","oakum"]
def menu:List Str:=Tq++oH
def iK:menu.length=16:=by left
def cn:∀z∈menu,z.length<=11:=by left
def Z7:List hX:=match(E3 Pe).getD 0 (.Pass ⟨0,0,0,0⟩) with|.Assign _ (.List v _) _=>v|_=>[]
def jI:Je Z7=some Tq:=by left
def Gr:A9 ["_law_cell","_law_k","_law_menu","_law_rest","_law_text","_law_left","_law_j","_law_word"] ["_law_cell","_law_k"] (Aq Pe):=by left
def eN{fD fO:OK}{fdD fdO:qk}(F:Ak K "_law_penned" "_law_penned" Pe f fd)(O:Own mg)
 (FD:Ak K "_law_draw" "_law_draw" P6 fD fdD)(bD:Binds K fdD ["_law_number","_law_prime","_law_many"] [])(mD:mg "_law_draw" =some (.ref fD))
 (FO:Ak K "_law_odd_word" "_law_odd_word" QQ fO fdO)(bO:Binds K fdO ["_law_spot"] [])(mO:mg "_law_odd_word" =some (.ref fO)):AY P w K mg base Aj 2 f fd ["_law_cell","_law_k"] XJ:=by
 have GD:AY P w K mg base Aj 1 fD fdD ["_law_number","_law_prime","_law_many"] Y6:=i7 FD;have GO:AY P w K mg base Aj 1 fO fdO ["_law_spot"] Zr:=lB FO;refine F.ok Gr ?_ ?_
 ·rintro _ _ _ _ ⟨_,_,rfl,_⟩;rfl
 ·rintro _ A _ s H _ Q E hr ⟨c,k,rfl,q⟩;refine⟨_,@AR _ _ _ _ _ (@jH _ 2 Z7 Tq jI _ _ _ _ Gr.nd rfl (Aa rfl) rfl)
   (AR (Av (i:=2) Gr.nd rfl (Aa rfl) (Ah KW (pv 2) (CO (AB AZ (AB AZ (AB AZ (AB AZ AI)))))))
   (AR (Av (i:=3) Gr.nd rfl (Aa rfl) (Ah Hg (pv 0) AV))
   (AR (Av (i:=4) Gr.nd rfl (Aa rfl) (Bz Cr (CO (AB AZ (AB AZ AI))) (Ah Bm (pv 3) AV) (fun _ _=>rfl)))
   (AR (Av (i:=5) Gr.nd rfl (Aa rfl) (Ca GD hr rfl mD FD.kp bD .nil BH (AB (Ah Cb (pv 0) (Ah Px AV (pv 1))) (AB AV (AB AV AI)))))
   (AR (DZ DX rfl (M5 rfl O.IK (AB (Bz Cr (CO (AB (Ah Bm (Ah Cb (pv 3) (pv 1)) AV) (AB AV AI))) (Gn M0 rfl O.int Lc (AB (Ia Ba (Ah Bm (pv 0) AV) AV (Am _)) AI)) (fun _ _=>rfl)) AI)) (Bg (i:=6) Gr.nd rfl (Aa rfl))
    (AR (Av (i:=7) Gr.nd rfl (Aa rfl) (Bz Cr (pv 2) (Ah Bm (Ah Cb (Ah Cb (pv 5) (Ah Px AV (pv 6))) (pv 1)) AV) (fun _ _=>rfl)))
    (AR (A0 (Ar Ba (Ah Bm (Ah Cb (pv 5) (pv 6)) AV) AV (Am _)) (AU (Av (i:=7) Gr.nd rfl (Aa rfl) (Ca GO hr rfl mO FO.kp bO .nil BH (AB (Ah Cb (pv 5) (pv 3)) AI)))) BE)
    (AR (Av (i:=4) Gr.nd rfl (Aa rfl) (Ah LM (Ah LM (pv 4) (pv 7)) (Ah Vh AZ (Bz Cr (CO (AB AV (AB AV (AB AV (AB AV (AB AV AI)))))) (Ah Bm (Ah Cb (pv 5) (pv 6)) AV) (fun _ _=>rfl)))))
    (AU (Av (i:=5) Gr.nd rfl (Aa rfl) (Ah Hg (pv 5) AV)))))))
   (AU (As (pv 4)))))))),?_⟩;refine⟨by show 12<=sizeLine;decide,fun m0 h1=>⟨_,rfl,by exact z_1,fun l4 h2=>?_⟩⟩;have h9:m0≠l4:=A7 AM h2;refine⟨m0,l4,_,_,rfl,rfl,(by rw[AN h9];exact AM),AM,by show 16<=sizeLine;decide,fun m hm=>?_⟩;generalize h7:upd (upd (upd H m0 _) l4 _) m _=Hm;have e7:H m=none:=((Af h1).trans (Af h2)).free hm;have sM:AO H Hm:=by rw[<-h7];exact(((AO.refl H).upd h1).upd ((Af h1).free h2)).upd e7
  have mM:Hm m=some (.lst (menu.map V.str)):=by rw[<-h7];exact AM
  refine⟨_,rfl,_,_,rfl,rfl,⟨by decide,by decide⟩,by exact zv,fun l2 s1=>?_⟩;obtain⟨v0,e4,e0⟩:=F9 [V.str "",V.str " "] 2 rfl (by decide) (c/16);have s2:AO Hm (upd Hm l2 (.lst [V.str "",V.str " "])):=Af s1;have e5:∃t0:Str,v0=.str t0/\t0.length<=1:=by
   rcases BI.mp e4 with e|e
   ·exact⟨"",e,by left⟩
   ·exact⟨" ",by simpa using e,by left⟩
  obtain⟨t0,rfl,s7⟩:=e5;refine⟨_,rfl,_,_,rfl,rfl,(by show(0:Int)<2;decide),l2,_,_,.str t0,rfl,rfl,AL.of AM,e0,?_⟩;refine⟨_,rfl,_,rfl,_,_,rfl,rfl,.inl ⟨by decide,by decide⟩,_,_,rfl,rfl,_,_,_,rfl,by decide,by decide,fun h0=>?_⟩;have h4:=s2 _ _ mM;have h3:=sM.trans s2;generalize upd Hm l2 (.lst [V.str "",V.str " "])=H2 at h4 h3;refine⟨_,rfl,_,rfl,_,_,rfl,rfl,_,_,rfl,rfl,(by show(0:Int)<7;decide),by exact zv,fun l3 s0=>?_⟩;have e8:0<=(c/16+k)%7/\(c/16+k)%7<7:=⟨Mc _ (by decide),MP _ (by decide)⟩;have s3:AO H2 (upd H2 l3 (.lst [V.int ((c/16+k)%7),V.int 24])):=Af s0;have s4:∀b:Bool,∃nn:Int,0<=nn/\nn<=24/\Fq [V.int ((c/16+k)%7),V.int 24] (if b=true then 1 else 0)=some (.int nn):=fun b=>by
   cases b with
   |false=>exact⟨((c/16+k)%7),e8.1,by lia,rfl⟩
   |true=>exact⟨24,by decide,by decide,rfl⟩
  obtain⟨nn,s6,e6,en⟩:=s4 (decide (V.int (c%37)=V.int 4));refine⟨_,rfl,_,_,rfl,rfl,(by show(0:Int)<37;decide),rfl,.inr ⟨_,rfl,l3,_,_,.int nn,rfl,rfl,AL.of AM,en,nn,rfl,by lia,by lia,?_⟩⟩;have e1:=s3 _ _ h4;have h8:=h3.trans s3;refine KD (lo:=0) (n:=nn.toNat) (fun i σ H'=>∃(t:Str)(left:Int)(v6 v7:Option V),σ=[some (.int c),some (.int k),some (.ref m),some (.int (c/16)),some (.str t),some (.int left),v6,v7]/\AO (upd H2 l3 (.lst [V.int ((c/16+k)%7),V.int 24])) H'/\t.length<=1+16*i)
   ⟨t0,h0,none,none,rfl,AO.refl _,by lia⟩ ?_ ?_
  ·rintro i σ H' hi ⟨t,left,v6,v7,rfl,sm,tl⟩;obtain⟨vw,e3,ew⟩:=F9 (menu.map V.str) 16 (by rw[AJ];exact iK) (by decide) (left+5*(0+(i:Int))+k);obtain⟨wd,e2,rfl⟩:=BA.mp e3;have h5:=cn wd e2;refine⟨_,rfl,_,rfl,_,rfl,_,_,rfl,rfl,.inl ⟨by decide,by decide⟩,_,_,rfl,rfl,_,rfl,_,_,rfl,rfl,_,_,rfl,rfl,(by show(0:Int)<16;decide),m,_,_,.str wd,rfl,rfl,AL.of (sm _ _ e1),ew,?_⟩;dsimp only[DT];refine JH (fun σ H2=>∃wd:Str,wd.length<=11/\σ=[some (.int c),some (.int k),some (.ref m),some (.int (c/16)),some (.str t),some (.int left),some (.int (0+(i:Int))),some (.str wd)]/\H2=H') ?_ ?_
   ·rintro σ H2 ⟨wd,h5,rfl,rfl⟩;obtain⟨vb,h6,eb⟩:=F9 [V.int 1,V.int 1,V.int 1,V.int 2,V.int 5] 5 rfl (by decide) (left+(0+(i:Int)));have hb:∃nb:Int,vb=.int nb/\0<=nb/\nb<=5:=by simp only[BI,JC,KO] at h6;rcases h6 with e|e|e|e|e<;>exact⟨_,e,by decide,by decide⟩
    obtain⟨nb,rfl,s5,s8⟩:=hb;refine⟨_,rfl,_,rfl,t,wd,rfl,rfl,by rw[A8];lia,by show 5<=sizeLine;decide,fun l5 e9=>?_⟩;refine⟨_,rfl,_,rfl,_,_,rfl,rfl,_,_,rfl,rfl,(by show(0:Int)<5;decide),l5,_,_,.int nb,rfl,rfl,AL.of AM,eb," ",nb,rfl,rfl,bq nb s5 (by lia),t++wd,_,rfl,rfl,by rw[KR,VQ,A8];lia,?_⟩;exact⟨_,rfl,_,_,rfl,rfl,⟨by decide,by decide⟩,_,_,_,_,rfl,sm.trans (Af e9),by rw[KR,KR,VQ];lia⟩
   ·intro hG;refine⟨_,rfl,_,rfl,_,_,rfl,rfl,_,_,rfl,rfl,(by show(0:Int)<13;decide),rfl,_,rfl,El (fun _=>?_) (fun _=>?_)⟩
    ·exact⟨_,rfl,_,rfl,_,_,rfl,rfl,_,rfl,fun z hz=>hG _ _ ⟨z,by lia,rfl,rfl⟩⟩
    ·exact hG _ _ ⟨wd,h5,rfl,rfl⟩
  ·rintro σ H' ⟨t,left,v6,v7,rfl,sm,tl⟩;exact⟨_,rfl,q t H' (by lia) (h8.trans sm)⟩
inductive Aw where
 |write (n t:Str)|rename (n o:Str)|join (n o:Str)|cut (n:Str) (p:Int) (o:Str)|drop (n:Str)|text (n:Str)|back (o:Str)|find (ws:List Str) (far:Int)
noncomputable def Aw.dt:Aw->Dt
 |.write n t=>.tup [.str "write",.str n,.str t]
 |.rename n o=>.tup [.str "rename",.str n,.str o]
 |.join n o=>.tup [.str "join",.str n,.str o]
 |.cut n p o=>.tup [.str "cut",.str n,.int p,.str o]
 |.drop n=>.tup [.str "drop",.str n]
 |.text n=>.tup [.str "text",.str n]
 |.back o=>.tup [.str "back",.str o]
 |.find ws far=>.tup [.str "find",.tup (ws.map Dt.str),.int far]
def Aw.Good:Aw->Prop
 |.write n t=>n.length<=40/\t.length<=1000
 |.rename n o=>n.length<=40/\o.length<=40
 |.join n o=>n.length<=40/\o.length<=40
 |.cut n _ o=>n.length<=40/\o.length<=40
 |.drop n=>n.length<=40
 |.text n=>n.length<=40
 |.back o=>o.length<=40
 |.find ws _=>ws.length<=9/\∀z∈ws,z.length<=9
def YB:Sp:=fun vs H Q _=>∃(a:OK)(ns:List Int),vs=[.ref a]/\AL [] H a (ns.map V.int)/\ns.length<=63/\
 ∀(L:OK)(ds:List Aw)(xs:List V)(H':Hp),AO H H'->H L=none->H' L=some (.lst xs)->Ab (Ex H' L) (ds.map Aw.dt) xs->ds.length=ns.length->(∀d∈ds,d.Good)->Q (.ref L) H'
structure LI(H H':Hp)(nm M:OK)(xs:List V)(ds:List Aw):Prop where
 same:AO H H'
 Qv:H' nm=some (.lst [.str "a",.str "b",.str "cat",.str "catalogue"])
 Dk:H' M=some (.lst xs)
 Uk:H M=none
 ne:nm≠M
 rep:Ab (Ex H' M) (ds.map Aw.dt) xs
 good:∀d∈ds,d.Good
def LI.ext{nm M:OK}{ds:List Aw}(h:LI H H' nm M xs ds)(s:AO H' H2):LI H H2 nm M xs ds:=
 ⟨h.same.trans s,s _ _ h.Qv,s _ _ h.Dk,h.Uk,h.ne,h.rep.same (Ex.mono s),h.good⟩
def LI.new{nm M l:OK}{o:HO}{ds:List Aw}(h:LI H H' nm M xs ds)(hl:H' l=none):LI H (upd H' l o) nm M xs ds:=h.ext (Af hl)
def LI.push{nm M:OK}{ds:List Aw}{d:Aw}{x:V}(h:LI H H' nm M xs ds)(r:Rep (Ex H' M) d.dt x)(g:d.Good):LI H (upd H' M (.lst (xs++[x]))) nm M (xs++[x]) (ds++[d]):=by
 refine⟨h.same.upd h.Uk,by rw[AN h.ne];exact h.Qv,AM,h.Uk,h.ne,?_,fun e he=>?_⟩
 ·rw[Ex.upd,BF];exact h.rep.snoc r
 ·rcases BS.mp he with z|z
  ·exact h.good e z
  ·rw[BR.mp z];exact g
def LU:∀ws:List Str,Ab H (ws.map Dt.str) (ws.map V.str):=fun ws=>by
 refine⟨by rw[AJ,AJ],fun i d x h1 h2=>?_⟩;rw[Az] at h1 h2
 cases e:ws[i]?with
 |none=>rw[e] at h1;cases h1
 |some z=>
 rw[e] at h1 h2;cases Ag h1;cases Ag h2;exact .str z
noncomputable def UY:Str:="abcdefghijklmnopqrstuvwxyz"
def ir:UY.cps.toList.length=26:=by left
noncomputable def Qp:Str:=Txt.mul "e" 40
def jP:Qp.length=40:=by left
def lK:MulOk "e" 40:=mulOk_of 1 40 (by left) (by decide) (by decide) (by decide) (by decide)
def bp:∀z∈sought,z.length<=9:=by left
def iU(ws:List Str)(lo hi:Option Int):∃vs:List Str,CP (ws.map V.str) lo hi=vs.map V.str/\vs.length<=ws.length/\∀z∈vs,z∈ws:=by
 unfold CP;refine⟨(ws.drop (Ax (ws.map V.str).length 0 lo)).take (Ax (ws.map V.str).length (ws.map V.str).length hi-Ax (ws.map V.str).length 0 lo),by rw[LD,Mm],?_,fun z hz=>Jv (FX hz)⟩;rw[Be,Dr]
 lia
def DY:A9 ["_law_cells","_law_names","_law_made","_law_k","_law_rest","_law_pick","_law_name","_law_near","_law_other","_law_place","_law_odd","_law_stop","_law_words","_law_far"] ["_law_cells"] (Aq TB):=by left
def iS{fS:OK}{fdS:qk}(F:Ak K "_law_deeds" "_law_deeds" TB f fd)(O:Own mg)
 (HP:Hv P w K mg base "_law_penned" 2 ["_law_cell","_law_k"] XJ)
 (FS:Ak K "_law_sought" "_law_sought" NK fS fdS)(bS:Binds K fdS [] [])(mS:mg "_law_sought" =some (.ref fS)):AY P w K mg base Aj 3 f fd ["_law_cells"] YB:=by
 have GS:AY P w K mg base Aj 1 fS fdS [] Wb:=fN FS;refine F.ok DY ?_ ?_
 ·rintro _ _ _ _ ⟨_,_,rfl,_⟩;rfl
 ·rintro _ A _ s H _ Q E hr ⟨a,ns,rfl,hS,a3,q⟩;have t6:Bn 1 _:=hr.mono (by decide);refine⟨_,(AR (Av (i:=1) DY.nd rfl (Aa rfl) (CO (AB AZ (AB AZ (AB AZ (AB AZ AI)))))) (AR (Av (i:=2) DY.nd rfl (Aa rfl) (CO AI)) (AR (DZ DX rfl (M5 rfl O.IK (AB (BZ EM rfl O.len Cu (AB (pv 0) AI)) AI)) (Bg (i:=3) DY.nd rfl (Aa rfl))
   (AR (Av (i:=4) DY.nd rfl (Aa rfl) (Ah Hg (Bz Cr (pv 0) (pv 3) (fun _ _=>rfl)) AV)) (AR (Av (i:=5) DY.nd rfl (Aa rfl) (Ah Bm (Ah Cb (Bz Cr (pv 0) (pv 3) (fun _ _=>rfl)) (Ah Px AV (pv 3))) AV)) (AR (Av (i:=6) DY.nd rfl (Aa rfl) (Bz Cr (pv 1) (Ah Bm (Ah Cb (pv 4) (pv 3)) AV) (fun _ _=>rfl))) (AR (Av (i:=7) DY.nd rfl (Aa rfl) (Bz Cr (pv 0) (Ah Bm (Ah Cb (pv 3) AV) (BZ EM rfl O.len Cu (AB (pv 0) AI))) (fun _ _=>rfl))) (AR (Av (i:=8) DY.nd rfl (Aa rfl) (Bz Cr (Ah KW (pv 1) (CO (AB AZ (AB (Ah Vh AZ AV) AI)))) (Ah Bm (Ah Cb (pv 7) (Ah Hg (pv 3) AV)) AV) (fun _ _=>rfl))) (AR (Av (i:=9) DY.nd rfl (Aa rfl) (Ah Bm (Ah Cb (Ah Hg (pv 7) AV) (pv 3)) AV)) (AR (A0 (Ar Ba (Ah Bm (Bz Cr (pv 0) (pv 3) (fun _ _=>rfl)) AV) AV (Am _))
   (AU (Av (i:=9) DY.nd rfl (Aa rfl) (Bz Cr (CO (AB (EL EK AV) (AB (Ah Nh AV AV) (AB (Ah Lf (EL EK AV) (Ah Bm (pv 4) (Ah Nh AV AV))) (AB (Ah Bm (pv 7) AV) AI))))) (Ah Bm (pv 4) AV) (fun _ _=>rfl))))
   BE) (AR (Av (i:=10) DY.nd rfl (Aa rfl) (Ah LM AZ (Bz Pw AZ (Ah Bm (pv 4) AV) (fun _ _=>rfl)))) (AR (Av (i:=6) DY.nd rfl (Aa rfl) (Bz Cr (CO (AB (pv 6) (AB (pv 10) AI))) (Gn M0 rfl O.int Lc (AB (Ia Ba (Ah Bm (Bz Cr (pv 0) (pv 3) (fun _ _=>rfl)) AV) AV (Am _)) AI)) (fun _ _=>rfl))) (AR (Av (i:=8) DY.nd rfl (Aa rfl) (Bz Cr (CO (AB (pv 8) (AB (pv 10) AI))) (Gn M0 rfl O.int Lc (AB (Ia Ba (Ah Bm (Bz Cr (pv 0) (pv 3) (fun _ _=>rfl)) AV) AV (Am _)) AI)) (fun _ _=>rfl))) (AR (A0 (Ar Ba (Ah Bm (Bz Cr (pv 0) (pv 3) (fun _ _=>rfl)) AV) AV (Am _))
   (AU (Av (i:=8) DY.nd rfl (Aa rfl) (Bz Cr (CO (AB AZ (AB AZ (AB AZ (AB AZ AI))))) (Ah Bm (pv 4) AV) (fun _ _=>rfl))))
   BE) (AU (A0 (Ar Hn (pv 5) AV (Am _))
   (AR (A0 (Ar Ba (Ah Bm (Bz Cr (pv 0) (pv 3) (fun _ _=>rfl)) AV) AV (Am _))
   (AU (Av (i:=6) DY.nd rfl (Aa rfl) (pv 8)))
   BE) (AU (Bf (Dh DE Dq Dm DN (pv 2) (AB (Bs (AB AZ (AB (pv 6) (AB (DL HP hr rfl BH (AB (Bz Cr (pv 0) (pv 3) (fun _ _=>rfl)) (AB (pv 3) AI))) AI)))) AI)))))
   (AU (A0 (Ar Hn (pv 5) AV (Am _))
   (AU (Bf (Dh DE Dq Dm DN (pv 2) (AB (Bs (AB AZ (AB (pv 6) (AB (pv 8) AI)))) AI))))
   (AU (A0 (Ar Hn (pv 5) AV (Am _))
   (AU (Bf (Dh DE Dq Dm DN (pv 2) (AB (Bs (AB AZ (AB (pv 6) (AB (pv 8) AI)))) AI))))
   (AU (A0 (Ar Hn (pv 5) AV (Am _))
   (AU (Bf (Dh DE Dq Dm DN (pv 2) (AB (Bs (AB AZ (AB (pv 6) (AB (pv 9) (AB (pv 8) AI))))) AI))))
   (AU (A0 (Ar Ba (pv 5) AV (Am _))
   (AU (Bf (Dh DE Dq Dm DN (pv 2) (AB (Bs (AB AZ (AB (pv 6) AI))) AI))))
   (AU (A0 (Ar Ba (pv 5) AV (Am _))
   (AU (Bf (Dh DE Dq Dm DN (pv 2) (AB (Bs (AB AZ (AB (pv 6) AI))) AI))))
   (AU (A0 (Ar Ba (pv 5) AV (Am _))
   (AU (Bf (Dh DE Dq Dm DN (pv 2) (AB (Bs (AB AZ (AB (pv 8) AI))) AI))))
   (AR (Av (i:=11) DY.nd rfl (Aa rfl) (Ah Cb (Ah Bm (pv 4) AV) (Ah Bm (Ah Cb (pv 7) (pv 3)) AV))) (AR (Av (i:=12) DY.nd rfl (Aa rfl) (Ed Tz (XN GS t6 rfl mS FS.kp bS .nil BH) (DF (Ah Bm (pv 4) AV)) (DF (pv 11)))) (AR (Av (i:=13) DY.nd rfl (Aa rfl) (CO (AB (Ah Bm (Ah Cb (Ah Hg (pv 7) AV) (pv 3)) AV) (AB (EL EK AV) (AB (Ah Nh AV AV) (AB (Ah Bm (pv 7) AV) AI)))))) (AR (Av (i:=13) DY.nd rfl (Aa rfl) (Bz Cr (pv 13) (Ah Bm (Bz Cr (pv 0) (Ah Bm (Ah Cb (pv 3) AV) (BZ EM rfl O.len Cu (AB (pv 0) AI))) (fun _ _=>rfl)) AV) (fun _ _=>rfl))) (AU (Bf (Dh DE Dq Dm DN (pv 2) (AB (Bs (AB AZ (AB (pv 12) (AB (pv 13) AI)))) AI)))))))))))))))))))))))))))))))))) (AU (As (pv 2)))))),?_⟩;refine⟨by exact z_1,fun nm a0=>⟨by exact zy,fun M hM=>?_⟩⟩;have s1:AO H (upd H nm (.lst [.str "a",.str "b",.str "cat",.str "catalogue"])):=Af a0;have s8:H M=none:=s1.free hM;have r6:nm≠M:=A7 AM hM;have q4:(ns.map V.int).length=ns.length:=AJ ..;have r8:LI H (upd (upd H nm (.lst [.str "a",.str "b",.str "cat",.str "catalogue"])) M (.lst [])) nm M [] []:=
   ⟨s1.upd s8,by rw[AN r6];exact AM,AM,s8,r6,Ab.nil,fun d hd=>by cases hd⟩;refine⟨_,rfl,a,_,rfl,.inl (r8.same.seq hS),((ns.map V.int).length:Int),rfl,by lia,by lia,?_⟩;refine KD (lo:=0) (n:=(ns.map V.int).length) (fun i σ H'=>∃(xs:List V)(ds:List Aw)(v3 v4 v5 v6 v7 v8 v9 e2 h7 h6 h5:Option V),σ=[some (.ref a),some (.ref nm),some (.ref M),v3,v4,v5,v6,v7,v8,v9,e2,h7,h6,h5]/\LI H H' nm M xs ds/\xs.length=i/\ds.length=i)
   ⟨[],[],none,none,none,none,none,none,none,none,none,none,none,rfl,r8,rfl,rfl⟩ ?_ ?_
  ·rintro i σ H' hi ⟨xs,ds,v3,v4,v5,v6,v7,v8,v9,e2,h7,h6,h5,rfl,li,s5,s7⟩;rw[q4] at hi;have h4:∀{H2:Hp},LI H H2 nm M xs ds->AL [] H2 a (ns.map V.int):=fun l=>l.same.seq hS;generalize ev:ns.getD i 0=c;have e0:Fq (ns.map V.int) (0+(i:Int))=some (.int c):=by rw[Int.zero_add];refine Bh ?_;rw[Az,Ap hi,<-ev,Ck,Ap hi];rfl
   have h9:∀j:Int,∃z:Int,Fq (ns.map V.int) (j%((ns.map V.int).length:Nat))=some (.int z):=fun j=>by obtain⟨v,hv,e⟩:=F9 (ns.map V.int) (ns.map V.int).length rfl (by lia) j;obtain⟨z,_,rfl⟩:=BA.mp hv;exact⟨z,e⟩
   have e7:(0:Int)<((ns.map V.int).length:Nat):=by lia
   refine⟨_,rfl,_,rfl,a,_,_,.int c,rfl,rfl,h4 li,e0,_,_,rfl,rfl,⟨by decide,by decide⟩,?_⟩;refine⟨_,rfl,_,rfl,a,_,_,.int c,rfl,rfl,h4 li,e0,_,rfl,_,_,rfl,rfl,.inl ⟨by decide,by decide⟩,_,_,rfl,rfl,_,_,rfl,rfl,(by show(0:Int)<16;decide),?_⟩;obtain⟨vn,q2,en⟩:=F9 [V.str "a",V.str "b",V.str "cat",V.str "catalogue"] 4 rfl (by decide) (c/16+(0+(i:Int)));have a1:∃n0:Str,vn=.str n0/\n0.length<=40:=by simp only[BI,JC,KO] at q2;rcases q2 with e|e|e|e<;>exact⟨_,e,by left⟩
   obtain⟨n0,rfl,t3⟩:=a1;refine⟨_,rfl,_,rfl,_,rfl,_,_,rfl,rfl,_,_,rfl,rfl,(by show(0:Int)<4;decide),nm,_,_,.str n0,rfl,rfl,AL.of li.Qv,en,?_⟩;obtain⟨h0,e9⟩:=h9 (0+(i:Int)+1);refine⟨_,rfl,_,rfl,_,_,rfl,rfl,_,rfl,a,_,rfl,.inl (h4 li),_,_,rfl,rfl,e7,a,_,_,.int h0,rfl,rfl,h4 li,e9,?_⟩;refine⟨_,rfl,"e",40,rfl,rfl,lK,by exact zv,fun l2 a5=>?_⟩;have s4:=li.new (o:=.lst [V.str "zed",V.str Qp]) a5;refine⟨nm,l2,_,_,rfl,rfl,s4.Qv,AM,by show 6<=sizeLine;decide,fun l6 a4=>?_⟩;have e6:=s4.new (o:=.lst ([V.str "a",V.str "b",V.str "cat",V.str "catalogue"]++[V.str "zed",V.str Qp])) a4;obtain⟨vo,q1,eo⟩:=F9 ([V.str "a",V.str "b",V.str "cat",V.str "catalogue"]++[V.str "zed",V.str Qp]) 6 rfl (by decide) (h0+(0+(i:Int))/2);have t9:∃o0:Str,vo=.str o0/\o0.length<=40:=by
    simp only[BS,BI,JC,KO] at q1;rcases q1 with(e|e|e|e)|e|e
    ·exact⟨_,e,by left⟩
    ·exact⟨_,e,by left⟩
    ·exact⟨_,e,by left⟩
    ·exact⟨_,e,by left⟩
    ·exact⟨_,e,by left⟩
    ·exact⟨_,e,by rw[jP];exact Ae _⟩
   obtain⟨o0,rfl,t1⟩:=t9;refine⟨_,rfl,_,rfl,_,_,rfl,rfl,⟨by decide,by decide⟩,_,_,rfl,rfl,_,_,rfl,rfl,(by show(0:Int)<6;decide),l6,_,_,.str o0,rfl,rfl,AL.of AM,eo,?_⟩;clear li s4;change LI H (upd (upd H' l2 (.lst [V.str "zed",V.str (Txt.mul "e" 40)])) l6 (.lst ([V.str "a",V.str "b",V.str "cat",V.str "catalogue"]++[V.str "zed",V.str (Txt.mul "e" 40)]))) nm M xs ds at e6;generalize upd (upd H' l2 (.lst [V.str "zed",V.str (Txt.mul "e" 40)])) l6 (.lst ([V.str "a",V.str "b",V.str "cat",V.str "catalogue"]++[V.str "zed",V.str (Txt.mul "e" 40)]))=H6 at e6;refine⟨_,rfl,_,_,rfl,rfl,⟨by decide,by decide⟩,_,rfl,_,_,rfl,rfl,_,_,rfl,rfl,(by show(0:Int)<8;decide),?_⟩;dsimp only[DT];refine JH (fun σ H7=>∃pl:Int,σ=[some (.ref a),some (.ref nm),some (.ref M),some (.int (0+(i:Int))),some (.int (c/16)),some (.int ((c+5*(0+(i:Int)))%16)),some (.str n0),some (.int h0),some (.str o0),some (.int pl),e2,h7,h6,h5]/\LI H H7 nm M xs ds) ?_ ?_
   ·rintro σ H7 ⟨pl,rfl,li⟩;have e1:∀(d:Aw)(r0:List Dt)(es:List V)(tp:OK)(H9:Hp)(w3 w4 w5 w6 w7 w8 w9 r5 r4 r3 r2:Option V),LI H H9 nm M xs ds->H9 tp=none->d.dt=.tup r0->Ab (Ex H9 M) r0 es->d.Good->
     ∃(r1:List V)(q8:List Aw)(v3 v4 v5 v6 v7 v8 v9 e2 h7 h6 h5:Option V),([some (.ref a),some (.ref nm),some (.ref M),w3,w4,w5,w6,w7,w8,w9,r5,r4,r3,r2]:St)=[some (.ref a),some (.ref nm),some (.ref M),v3,v4,v5,v6,v7,v8,v9,e2,h7,h6,h5]/\
      LI H (upd (upd H9 tp (.tup es)) M (.lst (xs++[V.ref tp]))) nm M r1 q8/\r1.length=i+1/\q8.length=i+1:=by
     intro d r0 es tp H9 w3 w4 w5 w6 w7 w8 w9 r5 r4 r3 r2 l9 h3 ed rp gd;have s2:tp≠M:=(A7 l9.Dk h3).symm;have lt:=l9.new (o:=.tup es) h3;refine⟨_,_,_,_,_,_,_,_,_,_,_,_,_,rfl,lt.push (d:=d) ?_ gd,by rw[An,s5];rfl,by rw[An,s7];rfl⟩;rw[ed];exact Rep.FT (Ex.at AM s2) (rp.same (Ex.mono (Af h3)))
    have h8:xs.length<sizeLine:=by rw[s5,A8];lia
    obtain⟨ch,_,b2⟩:=F9 UY.cps.toList 26 ir (by decide) (c/16);refine⟨_,rfl,_,_,rfl,rfl,(by show(0:Int)<26;decide),UY,_,ch,rfl,rfl,by left,b2,_,_,rfl,rfl,by show 1+1<=sizeLine;decide,?_⟩;have e4:(("p" :Str)++(⟨#[ch]⟩:Str)).length<=40:=by rw[KR];show 1+1<=40;decide
    have e8:∀(b:Bool)(x y:Str),x.length<=40->y.length<=40->∃z:Str,z.length<=40/\Fq [V.str x,V.str y] (if b=true then 1 else 0)=some (V.str z):=fun b x y hx hy=>by
     cases b with
     |false=>exact⟨x,hx,rfl⟩
     |true=>exact⟨y,hy,rfl⟩
    obtain⟨n1,e3,b1⟩:=e8 (decide (V.int (c%23)=V.int 7)) n0 _ t3 e4;obtain⟨o1,lo1,b0⟩:=e8 (decide (V.int (c%23)=V.int 8)) o0 _ t1 e4;refine⟨_,rfl,_,rfl,by exact zv,fun l8 q6=>⟨_,rfl,_,rfl,a,_,_,.int c,rfl,rfl,h4 (li.new q6),e0,_,_,rfl,rfl,(by show(0:Int)<23;decide),rfl,.inr ⟨_,rfl,l8,_,_,.str n1,rfl,rfl,AL.of AM,b1,?_⟩⟩⟩;have r7:=li.new (o:=.lst [V.str n0,V.str (("p" :Str)++(⟨#[ch]⟩:Str))]) q6;refine⟨_,rfl,_,rfl,by exact zv,fun l9 q5=>⟨_,rfl,_,rfl,a,_,_,.int c,rfl,rfl,h4 (r7.new q5),e0,_,_,rfl,rfl,(by show(0:Int)<23;decide),rfl,.inr ⟨_,rfl,l9,_,_,.str o1,rfl,rfl,AL.of AM,b0,?_⟩⟩⟩;have s3:=r7.new (o:=.lst [V.str o0,V.str (("p" :Str)++(⟨#[ch]⟩:Str))]) q5;dsimp only[DT];refine JH (fun σ H7=>∃o2:Str,o2.length<=40/\σ=[some (.ref a),some (.ref nm),some (.ref M),some (.int (0+(i:Int))),some (.int (c/16)),some (.int ((c+5*(0+(i:Int)))%16)),some (.str n1),some (.int h0),some (.str o2),some (.int pl),some (.str (("p" :Str)++(⟨#[ch]⟩:Str))),h7,h6,h5]/\LI H H7 nm M xs ds) ?_ ?_
    ·rintro σ HA ⟨o2,Ga,rfl,li⟩;refine⟨_,rfl,_,_,rfl,rfl,_,rfl,El (fun _=>?_) (fun _=>?_)⟩
     ·
      refine JH (fun σ H7=>∃n2:Str,n2.length<=40/\σ=[some (.ref a),some (.ref nm),some (.ref M),some (.int (0+(i:Int))),some (.int (c/16)),some (.int ((c+5*(0+(i:Int)))%16)),some (.str n2),some (.int h0),some (.str o2),some (.int pl),some (.str (("p" :Str)++(⟨#[ch]⟩:Str))),h7,h6,h5]/\H7=HA) ?_ ?_
      ·rintro σ H7 ⟨n2,t2,rfl,rfl⟩;refine⟨_,rfl,.inl ⟨rfl,_,AL.of li.Dk⟩,_,rfl,_,rfl,_,rfl,a,_,_,.int c,rfl,rfl,h4 li,e0,_,rfl,c,_,rfl,fun t H9 lt s9=>⟨by exact z_0,fun tp h3=>⟨M,xs,.ref tp,rfl,rfl,((li.ext s9).new h3).Dk,h8,?_⟩⟩⟩;exact e1 (.write n2 t) _ _ tp H9 _ _ _ _ _ _ _ _ _ _ _ (li.ext s9) h3 rfl (Ab.snoc (Ab.snoc (Ab.snoc Ab.nil (.str _)) (.str _)) (.str _)) ⟨t2,lt⟩
      ·intro hG;refine⟨_,rfl,_,rfl,a,_,_,.int c,rfl,rfl,h4 li,e0,_,_,rfl,rfl,(by show(0:Int)<29;decide),rfl,_,rfl,El (fun _=>?_) (fun _=>?_)⟩
       ·exact⟨_,rfl,hG _ _ ⟨o2,Ga,rfl,rfl⟩⟩
       ·exact hG _ _ ⟨n1,e3,rfl,rfl⟩
     refine⟨_,rfl,_,_,rfl,rfl,_,rfl,El (fun _=>?_) (fun _=>?_)⟩
     ·exact⟨_,rfl,.inl ⟨rfl,_,AL.of li.Dk⟩,_,rfl,_,rfl,by exact z_0,fun tp h3=>⟨M,xs,.ref tp,rfl,rfl,(li.new h3).Dk,h8,e1 (.rename n1 o2) _ _ tp HA _ _ _ _ _ _ _ _ _ _ _ li h3 rfl (Ab.snoc (Ab.snoc (Ab.snoc Ab.nil (.str _)) (.str _)) (.str _)) ⟨e3,Ga⟩⟩⟩
     refine⟨_,rfl,_,_,rfl,rfl,_,rfl,El (fun _=>?_) (fun _=>?_)⟩
     ·exact⟨_,rfl,.inl ⟨rfl,_,AL.of li.Dk⟩,_,rfl,_,rfl,by exact z_0,fun tp h3=>⟨M,xs,.ref tp,rfl,rfl,(li.new h3).Dk,h8,e1 (.join n1 o2) _ _ tp HA _ _ _ _ _ _ _ _ _ _ _ li h3 rfl (Ab.snoc (Ab.snoc (Ab.snoc Ab.nil (.str _)) (.str _)) (.str _)) ⟨e3,Ga⟩⟩⟩
     refine⟨_,rfl,_,_,rfl,rfl,_,rfl,El (fun _=>?_) (fun _=>?_)⟩
     ·exact⟨_,rfl,.inl ⟨rfl,_,AL.of li.Dk⟩,_,rfl,_,rfl,_,rfl,by exact z_1,fun tp h3=>⟨M,xs,.ref tp,rfl,rfl,(li.new h3).Dk,h8,e1 (.cut n1 pl o2) _ _ tp HA _ _ _ _ _ _ _ _ _ _ _ li h3 rfl (Ab.snoc (Ab.snoc (Ab.snoc (Ab.snoc Ab.nil (.str _)) (.str _)) (.int _)) (.str _)) ⟨e3,Ga⟩⟩⟩
     refine⟨_,rfl,rfl,_,rfl,El (fun _=>?_) (fun _=>?_)⟩
     ·exact⟨_,rfl,.inl ⟨rfl,_,AL.of li.Dk⟩,_,rfl,by exact zv,fun tp h3=>⟨M,xs,.ref tp,rfl,rfl,(li.new h3).Dk,h8,e1 (.drop n1) _ _ tp HA _ _ _ _ _ _ _ _ _ _ _ li h3 rfl (Ab.snoc (Ab.snoc Ab.nil (.str _)) (.str _)) e3⟩⟩
     refine⟨_,rfl,rfl,_,rfl,El (fun _=>?_) (fun _=>?_)⟩
     ·exact⟨_,rfl,.inl ⟨rfl,_,AL.of li.Dk⟩,_,rfl,by exact zv,fun tp h3=>⟨M,xs,.ref tp,rfl,rfl,(li.new h3).Dk,h8,e1 (.text n1) _ _ tp HA _ _ _ _ _ _ _ _ _ _ _ li h3 rfl (Ab.snoc (Ab.snoc Ab.nil (.str _)) (.str _)) e3⟩⟩
     refine⟨_,rfl,rfl,_,rfl,El (fun _=>?_) (fun _=>?_)⟩
     ·exact⟨_,rfl,.inl ⟨rfl,_,AL.of li.Dk⟩,_,rfl,by exact zv,fun tp h3=>⟨M,xs,.ref tp,rfl,rfl,(li.new h3).Dk,h8,e1 (.back o2) _ _ tp HA _ _ _ _ _ _ _ _ _ _ _ li h3 rfl (Ab.snoc (Ab.snoc Ab.nil (.str _)) (.str _)) Ga⟩⟩
     have b3:0<=c/16%7/\c/16%7<7:=⟨Mc _ (by decide),MP _ (by decide)⟩;have b4:0<=(h0+(0+(i:Int)))%4/\(h0+(0+(i:Int)))%4<4:=⟨Mc _ (by decide),MP _ (by decide)⟩;refine⟨_,rfl,_,_,rfl,rfl,(by show(0:Int)<7;decide),_,rfl,_,rfl,_,_,rfl,rfl,_,_,rfl,rfl,(by show(0:Int)<4;decide),_,_,rfl,rfl,?_⟩;refine⟨rfl,fun p HB sB t8=>⟨_,rfl,_,_,rfl,rfl,(by show(0:Int)<7;decide),_,rfl,_,rfl,_,rfl,p,_,rfl,AS.of t8,?_,fun t ht=>?_⟩⟩
     ·rintro⟨h1,h2⟩;have a8:(if c/16%7<0 then(c/16%7+((9:Nat):Int)).toNat else min (c/16%7).toNat 9)=0:=h1;have a7:(if c/16%7+(h0+(0+(i:Int)))%4<0 then(c/16%7+(h0+(0+(i:Int)))%4+((9:Nat):Int)).toNat else min (c/16%7+(h0+(0+(i:Int)))%4).toNat 9)=9:=h2;rw[AF (by lia)] at a8 a7
      lia
     obtain⟨ws,a9,t0,q9⟩:=iU sought (some (c/16%7)) (some (c/16%7+(h0+(0+(i:Int)))%4));have t4:=(li.ext sB).new (o:=.tup (CP (sought.map V.str) (some (c/16%7)) (some (c/16%7+(h0+(0+(i:Int)))%4)))) ht;have a6:=(li.ext sB).Dk;have s2:t≠M:=(A7 a6 ht).symm;have t5:(upd HB t (.tup (CP (sought.map V.str) (some (c/16%7)) (some (c/16%7+(h0+(0+(i:Int)))%4))))) t=some (.tup (ws.map V.str)):=by rw[AM,a9]
     refine⟨_,rfl,_,_,rfl,rfl,⟨by decide,by decide⟩,_,rfl,_,_,rfl,rfl,_,_,rfl,rfl,(by show(0:Int)<6;decide),_,rfl,_,_,rfl,rfl,⟨by decide,by decide,by left⟩,_,rfl,_,_,rfl,rfl,(by show(0:Int)<40;decide),by exact z_1,fun fl q7=>?_⟩;obtain⟨z,ez⟩:=h9 (0+(i:Int)+2);obtain⟨vf,q3,ef⟩:=F9 [V.int ((h0/4+(0+(i:Int)))%6),V.int (-1),V.int (10^Int.toNat 9),V.int (h0%40)] 4 rfl (by decide) z;have s6:∃s0:Int,vf=.int s0:=by simp only[BI,JC,KO] at q3;rcases q3 with e|e|e|e<;>exact⟨_,e⟩
     obtain⟨s0,rfl⟩:=s6;have e5:=t4.new (o:=.lst [V.int ((h0/4+(0+(i:Int)))%6),V.int (-1),V.int (10^Int.toNat 9),V.int (h0%40)]) q7;refine⟨_,rfl,_,rfl,_,rfl,_,_,rfl,rfl,_,rfl,a,_,rfl,.inl (h4 e5),_,_,rfl,rfl,e7,a,_,_,.int z,rfl,rfl,h4 e5,ez,_,_,rfl,rfl,(by show(0:Int)<4;decide),fl,_,_,.int s0,rfl,rfl,AL.of AM,ef,?_⟩;refine⟨_,rfl,.inl ⟨rfl,_,AL.of e5.Dk⟩,_,rfl,_,rfl,by exact z_0,fun tp h3=>⟨M,xs,.ref tp,rfl,rfl,(e5.new h3).Dk,h8,?_⟩⟩;exact e1 (.find ws s0) _ _ tp _ _ _ _ _ _ _ _ _ _ _ _ e5 h3 rfl (Ab.snoc (Ab.snoc (Ab.snoc Ab.nil (.str _)) (Rep.FT (Ex.at ((Af q7) _ _ t5) s2) (LU ws))) (.int _)) ⟨t0,fun z hz=>bp z (q9 z hz)⟩
    ·intro hG;refine⟨_,rfl,_,rfl,a,_,_,.int c,rfl,rfl,h4 s3,e0,_,_,rfl,rfl,(by show(0:Int)<29;decide),rfl,_,rfl,El (fun _=>?_) (fun _=>?_)⟩
     ·obtain⟨vx,r9,ex⟩:=F9 [V.str "",V.str "A",V.str "a1",V.str "[a]"] 4 rfl (by decide) (c/16);have hx:∃o2:Str,vx=.str o2/\o2.length<=40:=by simp only[BI,JC,KO] at r9;rcases r9 with e|e|e|e<;>exact⟨_,e,by left⟩
      obtain⟨o2,rfl,Ga⟩:=hx;exact⟨by exact z_1,fun lx a2=>⟨_,rfl,_,_,rfl,rfl,(by show(0:Int)<4;decide),lx,_,_,.str o2,rfl,rfl,AL.of AM,ex,hG _ _ ⟨o2,Ga,rfl,s3.new a2⟩⟩⟩
     ·exact hG _ _ ⟨o1,lo1,rfl,s3⟩
   ·intro hG;refine⟨_,rfl,_,rfl,a,_,_,.int c,rfl,rfl,h4 e6,e0,_,_,rfl,rfl,(by show(0:Int)<31;decide),rfl,_,rfl,El (fun _=>?_) (fun _=>?_)⟩
    ·refine⟨_,rfl,_,_,rfl,rfl,⟨by decide,by decide,by left⟩,_,rfl,_,rfl,_,_,rfl,rfl,⟨by decide,by decide,by left⟩,_,_,rfl,rfl,(by show(0:Int)<10^Int.toNat 60;decide+kernel),_,_,rfl,rfl,_,rfl,_,_,rfl,rfl,(by show(0:Int)<30;decide),by exact z_1,fun l hl=>?_⟩;obtain⟨vp,q0,ep⟩:=F9 [V.int (-1),V.int (10^Int.toNat 9),V.int (-2-c/16%10^Int.toNat 60),V.int (h0%30)] 4 rfl (by decide) (c/16);have t7:∃pl:Int,vp=.int pl:=by simp only[BI,JC,KO] at q0;rcases q0 with e|e|e|e<;>exact⟨_,e⟩
     obtain⟨pl,rfl⟩:=t7;exact⟨_,rfl,_,_,rfl,rfl,(by show(0:Int)<4;decide),l,_,_,.int pl,rfl,rfl,AL.of AM,ep,hG _ _ ⟨pl,rfl,e6.new hl⟩⟩
    ·exact hG _ _ ⟨_,rfl,e6⟩
  ·rintro σ H' ⟨xs,ds,v3,v4,v5,v6,v7,v8,v9,e2,h7,h6,h5,rfl,li,s5,s7⟩;exact⟨_,rfl,q M ds xs H' li.same s8 li.Dk li.rep (by rw[s7,q4]) li.good⟩
def CY{o:hX}{td:TE}{j}(hu:X.A.units+1<qr)(ho:PE X o td):PE X (.Subscript o (.Constant (.str x) j p) pos) (Ja td (tC (.str x))):=D1 hu ho AZ fun _ _=>rfl
section
variable[DecidableEq α]{f:α->Key}{g:β->V}(hf:∀a b,f a=f b->a=b)
include hf
noncomputable def AH(l:List (α×β))(k:α):Option β:=(l.find? fun p=>decide (p.1=k)).map (·.2)
noncomputable def AW(l:List (α×β))(k:α)(v:β):List (α×β):=if(l.any fun p=>decide (p.1=k))=true then l.map (fun p=>if p.1=k then(p.1,v) else p) else l++[(k,v)]
noncomputable def AQ(l:List (α×β))(k:α):List (α×β):=l.filter fun p=>decide (p.1≠k)
noncomputable def GL(f:α->Key)(g:β->V)(l:List (α×β)):List (Key×V):=l.map fun p=>(f p.1,g p.2)
def nB(a b:α):decide (f a=f b)=decide (a=b):=by
 by_cases h:a=b
 ·rw[h];simp
 ·rw[BN h,BN (fun z=>h (hf a b z))]
def Ec(k:α):∀l:List (α×β),BP (GL f g l) (f k)=(AH l k).map g
 |[]=>rfl
 |p::l=>by
  show BP ((f p.1,g p.2)::GL f g l) (f k)=_;by_cases h:p.1=k
  ·rw[Ff (by rw[h])];unfold AH;rw[C7,Bb h];rfl
  ·rw[Fe (fun z=>h (hf _ _ z)),Ec k l];unfold AH;rw[C7,BN h]
def JG(k:α)(v:β)(l:List (α×β)):putK (GL f g l) (f k) (g v)=GL f g (AW l k v):=by
 unfold putK AW GL;have e:((l.map fun p=>(f p.1,g p.2)).any fun kv=>decide (kv.1=f k))=l.any fun p=>decide (p.1=k):=by rw[Oz];congr 1;funext p;exact nB hf p.1 k
 rw[e];by_cases h:(l.any fun p=>decide (p.1=k))=true
 ·rw[AG h,AG h,Bo,Bo];refine Ew fun p _=>?_;show(if f p.1=f k then(f p.1,g v) else(f p.1,g p.2))=(f (if p.1=k then(p.1,v) else p).1,g (if p.1=k then(p.1,v) else p).2);by_cases hp:p.1=k
  ·rw[AG (by rw[hp]),AG hp]
  ·rw[AF (fun z=>hp (hf _ _ z)),AF hp]
 ·rw[AF h,AF h,BF];rfl
def KI(k:α)(l:List (α×β)):Ik (GL f g l) (f k)=GL f g (AQ l k):=by
 unfold Ik AQ GL;rw[List.filter_map];congr 1;refine List.filter_congr fun p _=>?_;show decide (f p.1≠f k)=decide (p.1≠k);by_cases h:p.1=k
 ·rw[h];simp
 ·have h2:f p.1≠f k:=fun z=>h (hf _ _ z);rw[Bb h2,Bb (show p.1≠k from h)]
end
def E5:∀a b:Int,(Sum.inl a:Key)=Sum.inl b->a=b:=fun _ _ h=>O4 h
def Ef:∀a b:Str,(Sum.inr a:Key)=Sum.inr b->a=b:=fun _ _ h=>Sum.inr.inj h
structure Wd where
 to:Bool
 nm:Str
 no:Int
noncomputable def Wd.vq(w:Wd):List V:=[.str (if w.to then "to" else "word"),.str w.nm,.int w.no]
structure Nk where
 names:List (Str×Int)
 texts:List (Int×List Wd)
 made:Int
abbrev GZ(l:List (Str×Int)):List (Key×V):=GL Sum.inr V.int l
abbrev CN(l:List (Int×OK×List OK)):List (Key×V):=GL Sum.inl (fun p:OK×List OK=>V.ref p.1) l
noncomputable def FQ(an at_:OK)(made:Int):List (Key×V):=[(.inr "names",.ref an),(.inr "texts",.ref at_),(.inr "made",.int made)]
def QH(H:Hp)(t:Int×OK×List OK)(p:Int×List Wd):Prop:=t.1=p.1/\H t.2.1=some (.lst (t.2.2.map V.ref))/\t.2.2.length=p.2.length/\∀(j:Nat) w wd,t.2.2[j]? =some w->p.2[j]? =some wd->H w=some (.lst wd.vq)
structure qN(a b c:OK):Prop where
 xy:a≠b
 xz:a≠c
 yz:b≠c
structure C0(H0 H:Hp)(a an at_:OK)(tx:List (Int×OK×List OK))(n:Nk):Prop where
 same:AO H0 H
 ha:H a=some (.dK (FQ an at_ n.made))
 hn:H an=some (.dK (GZ n.names))
 ht:H at_=some (.dK (CN tx))
 len:tx.length=n.texts.length
 Eo:∀(i:Nat) t p,tx[i]? =some t->n.texts[i]? =some p->QH H t p
 fa:H0 a=none
 fn:H0 an=none
 ft:H0 at_=none
 fw:∀t∈tx,∀w∈t.2.2,H0 w=none
 ap:qN a an at_
def Cy(H0 H:Hp)(a:OK)(n:Nk):Prop:=∃an h0 tx,C0 H0 H a an h0 tx n
structure Fits(n:Nk):Prop where
 Ct:(n.names.map (·.1)).Nodup
 Ce:(n.texts.map (·.1)).Nodup
 names:n.names.length<=1000
 texts:n.texts.length<=1000
 words:∀p∈n.texts,p.2.length<=100000
noncomputable def Nk.Iq(n:Nk)(g:Wd->Wd):Nk:={n with texts:=n.texts.map fun p=>(p.1,p.2.map g)}
variable{H0:Hp}{an at_:OK}
def C0.ext{tx:List (Int×OK×List OK)}{n:Nk}(h:C0 H0 H a an at_ tx n)(s:AO H H'):C0 H0 H' a an at_ tx n:=
 ⟨h.same.trans s,s _ _ h.ha,s _ _ h.hn,s _ _ h.ht,h.len,fun i t p h1 h2=>let⟨q1,q2,q3,q4⟩:=h.Eo i t p h1 h2;⟨q1,s _ _ q2,q3,fun j w wd e1 e2=>s _ _ (q4 j w wd e1 e2)⟩,h.fa,h.fn,h.ft,h.fw,h.ap⟩
def C0.keys{tx:List (Int×OK×List OK)}{n:Nk}(h:C0 H0 H a an at_ tx n):tx.map (·.1)=n.texts.map (·.1):=by
 apply K7;intro i;rw[Az,Az]
 cases e1:tx[i]?with
 |none=>rw[F1 (by rw[<-h.len];exact OO.mp e1)];rfl
 |some t=>
  have hi:i<n.texts.length:=by rw[<-h.len];exact(BY.mp e1).1
  rw[Ap hi];exact BD some (h.Eo i t _ e1 (Ap hi)).1
variable{m:Int}
def M9:BP (FQ an at_ m) (.inr "texts")=some (.ref at_):=rfl
def ic:BP (FQ an at_ m) (.inr "names")=some (.ref an):=rfl
def iu:BP (FQ an at_ m) (.inr "made")=some (.int m):=rfl
def kl{k:Int}:putK (FQ an at_ m) (.inr "made") (.int k)=FQ an at_ k:=rfl
structure aT(a at_ L:OK)(A:List (Key×V))(tx:List (Int×OK×List OK))(H:Hp):Prop where
 ha:H a=some (.dK A)
 hA:BP A (.inr "texts")=some (.ref at_)
 ht:H at_=some (.dK (CN tx))
 hL:H L=some (.lst (tx.map fun t=>V.int t.1))
 hl:∀t∈tx,H t.2.1=some (.lst (t.2.2.map V.ref))
 nd:(tx.map (·.1)).Nodup
def JR{α β:Type}[DecidableEq α]:∀{l:List (α×β)}{i:Nat}{p:α×β},(l.map (·.1)).Nodup->l[i]? =some p->AH l p.1=some p.2
 |[],i,p,_,h=>by simp at h
 |q::l,0,p,_,h=>by
  have e:q=p:=by simpa using h
  subst e;unfold AH;rw[C7,Bb rfl];rfl
 |q::l,i+1,p,nd,h=>by
  have h':l[i]? =some p:=by simpa using h
  have h0:=Ea.mp nd;have h1:¬q.1=p.1:=fun z=>h0.1 (by have:q.1=p.1:=z;show q.1∈l.map (·.1);rw[this];exact BA.mpr ⟨p,CA h',rfl⟩);have:=JR h0.2 h';unfold AH at this⊢;rw[C7,BN h1];exact this
def Vj{D:Ends}{A:List (Key×V)}{tx:List (Int×OK×List OK)}
 (Iv:OK->Nat->Nat->St->Hp->Prop)(s0:σ[0]? =some (some (.ref a)))
 (ha:H a=some (.dK A))(hA:BP A (.inr "texts")=some (.ref at_))(ht:H at_=some (.dK (CN tx)))
 (h0:∀L,H L=none->Iv L 0 0 σ (upd H L (.lst (tx.map fun t=>V.int t.1))))
 (hw:∀L p q σ H,Iv L p q σ H->aT a at_ L A tx H/\σ[0]? =some (some (.ref a))/\i<σ.length)(hi:0<i)
 (st:∀L p t q w σ H (D':Ends),tx[p]? =some t->t.2.2[q]? =some w->Iv L p q σ H->(∀σ' H',Iv L p (q+1) σ' H'->D'.nx σ' H')->tb D' (σ.set j (some (.ref w))) H)
 (set:∀L p t σ H,tx[p]? =some t->Iv L p 0 σ H->Iv L p 0 (σ.set i (some (.int t.1))) H)
 (nxt:∀L p t σ H,tx[p]? =some t->Iv L p t.2.2.length σ H->Iv L (p+1) 0 σ H)(hd:∀L σ H,Iv L tx.length 0 σ H->D.nx σ H):
 N7 (Kc [] (Qu S7 (Nm (Ja (EU 0) (tC (.str "texts"))) Lw))) (DT i) (N7 (Kc [] (Ja (Ja (EU 0) (tC (.str "texts"))) (EU i))) (DT j) tb) D σ H:=by
 have gt:∀{H:Hp},H a=some (.dK A)->BW H a (.str "texts") (some (.ref at_)):=fun h=>by have:=BW.kq (k:=.inr "texts") h;rw[hA] at this;exact this
 refine⟨_,s0,a,_,rfl,gt ha,at_,_,rfl,ht,fun L hL=>?_⟩;have ek:((CN tx).map fun kv=>kV kv.1)=tx.map fun t=>V.int t.1:=by show(tx.map _).map _=_;rw[Bo];rfl
 rw[ek];refine⟨L,rfl,⟨_,AL.of AM⟩,?_⟩;refine KJ (K:=[]) (a:=L) (xs:=tx.map fun t=>V.int t.1) (fun p σ H=>Iv L p 0 σ H) (h0 L hL) (fun p σ H _ iv=>AL.of (hw _ _ _ _ _ iv).1.hL) ?_ (fun σ H iv=>hd L σ H (by rw[AJ] at iv;exact iv));intro p x σ1 H1 hx iv;rw[Az] at hx
 cases et:tx[p]?with
 |none=>rw[et] at hx;cases hx
 |some t=>
 rw[et] at hx;obtain rfl:V.int t.1=x:=Ag hx;obtain⟨wk,z0,zi⟩:=hw _ _ _ _ _ iv;have h1:=set _ _ _ _ _ et iv;obtain⟨h5,h2,h4⟩:=hw _ _ _ _ _ h1;have gv:BW H1 at_ (.int t.1) (some (.ref t.2.1)):=by have:=BW.kq (k:=.inl t.1) wk.ht;rw[Ec E5,JR wk.nd et] at this;exact this
 refine⟨_,h2,a,_,rfl,gt wk.ha,_,by rw[OV zi],at_,_,rfl,gv,t.2.1,rfl,⟨_,AL.of (wk.hl t (CA et))⟩,?_⟩;refine KJ (K:=[]) (a:=t.2.1) (xs:=t.2.2.map V.ref) (fun q σ H=>Iv L p q σ H) h1 (fun q σ H _ iv=>AL.of ((hw _ _ _ _ _ iv).1.hl t (CA et))) ?_ (fun σ H iv=>nxt _ _ _ _ _ et (by rw[AJ] at iv;exact iv));intro q x σ2 H2 hx h3;rw[Az] at hx
 cases ew:t.2.2[q]?with
 |none=>rw[ew] at hx;cases hx
 |some w=>
 rw[ew] at hx;obtain rfl:V.ref w=x:=Ag hx;exact st _ _ _ _ _ _ _ _ et ew h3 fun σ' H' z=>z
def Zo{a b:Wd}(h:a.vq=b.vq):a=b:=by
 obtain⟨t1,n1,k1⟩:=a;obtain⟨t2,n2,k2⟩:=b;unfold Wd.vq at h;simp only[List.cons.injEq,V.str.injEq,V.int.injEq,and_true] at h;obtain⟨h1,h2,h3⟩:=h;subst h2 h3;cases t1<;>cases t2
 ·rfl
 ·exact absurd (show("word" :Str)="to" from h1) (by left)
 ·exact absurd (show("to" :Str)="word" from h1) (by left)
 ·rfl
def WX(as:List OK)(w:Wd):as.map V.ref≠w.vq:=fun h=>by
 cases as with
 |nil=>cases h
 |cons x xs=>exact absurd (IU h).1 (by intro z;cases z)
def eI(l:List β)(f:β->Int)(w:Wd):(l.map fun t=>V.int (f t))≠w.vq:=fun h=>by
 cases l with
 |nil=>cases h
 |cons x xs=>exact absurd (IU h).1 (by intro z;cases z)
def Y4{o:HO}(h:H a=some o):upd H a o=H:=by
 funext b;unfold upd;by_cases e:b=a
 ·rw[AG e,e,h]
 ·rw[AF e]
structure MI(H0 H:Hp)(a an at_ L:OK)(tx:List (Int×OK×List OK))(n:Nk)(g:Wd->Wd)(p q:Nat)(H':Hp):Prop where
 wk:aT a at_ L (FQ an at_ n.made) tx H'
 same:AO H0 H'
 hn:H' an=some (.dK (GZ n.names))
 c1:∀(i:Nat) t pp (j:Nat) w wd,tx[i]? =some t->n.texts[i]? =some pp->t.2.2[j]? =some w->pp.2[j]? =some wd->H' w=some (.lst wd.vq)\/H' w=some (.lst (g wd).vq)
 c2:∀(i:Nat) t pp (j:Nat) w wd,tx[i]? =some t->n.texts[i]? =some pp->t.2.2[j]? =some w->pp.2[j]? =some wd->(i<p\/(i=p/\j<q))->H' w=some (.lst (g wd).vq)
variable{L:OK}
def MI.set{tx:List (Int×OK×List OK)}{n:Nk}{g:Wd->Wd}{p q:Nat}{w:OK}{wd wc:Wd}{t:Int×OK×List OK}{pp:Int×List Wd}(idem:∀w,g (g w)=g w)(nk:C0 H0 H a an at_ tx n)
 (m:MI H0 H a an at_ L tx n g p q H')(et:tx[p]? =some t)(ep:n.texts[p]? =some pp)(ew:t.2.2[q]? =some w)(ed:pp.2[q]? =some wd)(hc:H' w=some (.lst wc.vq))(hg:g wc=g wd):MI H0 H a an at_ L tx n g p (q+1) (upd H' w (.lst (g wc).vq)):=by
 have h8:H0 w=none:=nk.fw t (CA et) w (CA ew);have h0:∀b o,H' b=some o->o≠.lst wc.vq->(upd H' w (.lst (g wc).vq)) b=some o:=fun b o h1 h2=>by rw[AN (CH h1 hc h2)];exact h1
 have h7:H w=some (.lst wd.vq):=(nk.Eo p t pp et ep).2.2.2 q w wd ew ed;refine⟨⟨h0 _ _ m.wk.ha (by intro z;cases z),m.wk.hA,h0 _ _ m.wk.ht (by intro z;cases z),h0 _ _ m.wk.hL (by intro z;exact eI tx (·.1) wc (HO.lst.inj z)),fun t' h9=>h0 _ _ (m.wk.hl t' h9) (by intro z;exact WX _ wc (HO.lst.inj z)),m.wk.nd⟩,
  m.same.upd h8,h0 _ _ m.hn (by intro z;cases z),fun i t' h4 j w' h3 e1 e2 e3 e4=>?_,fun i t' h4 j w' h3 e1 e2 e3 e4 e0=>?_⟩
 ·by_cases h5:w'=w
  ·subst h5;have h6:H w'=some (.lst h3.vq):=(nk.Eo i t' h4 e1 e2).2.2.2 j w' h3 e3 e4;rw[h7] at h6;have:wd=h3:=Zo (HO.lst.inj (Ag h6));subst this;exact .inr (by rw[AM,hg])
  ·rw[AN h5];exact m.c1 i t' h4 j w' h3 e1 e2 e3 e4
 ·by_cases h5:w'=w
  ·subst h5;have h6:H w'=some (.lst h3.vq):=(nk.Eo i t' h4 e1 e2).2.2.2 j w' h3 e3 e4;rw[h7] at h6;have:wd=h3:=Zo (HO.lst.inj (Ag h6));subst this;rw[AM,hg]
  ·rw[AN h5];rcases e0 with h|⟨h1,h2⟩
   ·exact m.c2 i t' h4 j w' h3 e1 e2 e3 e4 (.inl h)
   ·by_cases hj:j<q
    ·exact m.c2 i t' h4 j w' h3 e1 e2 e3 e4 (.inr ⟨h1,hj⟩)
    ·have e5:j=q:=by lia
     subst h1 e5;rw[et] at e1;cases Ag e1;rw[ew] at e3;exact absurd (Ag e3).symm h5
def XC{D:Ends}{tx:List (Int×OK×List OK)}{n:Nk}(S:St->Prop)(g:Wd->Wd)(idem:∀w,g (g w)=g w)
 (hS:S σ)(S0:∀σ,S σ->σ[0]? =some (some (.ref a))/\i<σ.length)(Si:∀σ v,S σ->S (σ.set i v))(Sj:∀σ v,S σ->S (σ.set j v))(hi:0<i)(nk:C0 H0 H a an at_ tx n)(Ce:(n.texts.map (·.1)).Nodup)
 (bd:∀σ H' (D':Ends) w wd,S σ->H' w=some (.lst wd.vq)->D'.nx (σ.set j (some (.ref w))) (upd H' w (.lst (g wd).vq))->tb D' (σ.set j (some (.ref w))) H')
 (hd:∀σ H',S σ->C0 H0 H' a an at_ tx (n.Iq g)->D.nx σ H'):
 N7 (Kc [] (Qu S7 (Nm (Ja (EU 0) (tC (.str "texts"))) Lw))) (DT i) (N7 (Kc [] (Ja (Ja (EU 0) (tC (.str "texts"))) (EU i))) (DT j) tb) D σ H:=by
 have h0:∀{p t},tx[p]? =some t->∃pp,n.texts[p]? =some pp:=fun{p t} e=>by
  have hp:p<n.texts.length:=by rw[<-nk.len];exact(BY.mp e).1
  exact⟨_,Ap hp⟩
 refine Vj (a:=a) (at_:=at_) (A:=FQ an at_ n.made) (tx:=tx) (fun L p q σ H'=>S σ/\MI H0 H a an at_ L tx n g p q H') (S0 σ hS).1 nk.ha M9 nk.ht (fun L hL=>⟨hS,?_⟩) (fun L p q σ H' h=>⟨h.2.wk,S0 σ h.1⟩) hi
  (fun L p t q w σ H' D' et ew h kn=>?_) (fun L p t σ H' et h=>⟨Si _ _ h.1,h.2⟩) (fun L p t σ H' et h=>⟨h.1,h.2.wk,h.2.same,h.2.hn,h.2.c1,fun i t' h6 j w' h5 e1 e2 e3 e4 h3=>?_⟩) (fun L σ H' h=>hd σ H' h.1 ?_)
 ·have s:AO H (upd H L (.lst (tx.map fun t=>V.int t.1))):=Af hL;have h1:=nk.ext s;refine⟨⟨h1.ha,M9,h1.ht,AM,fun t ht=>?_,by rw[nk.keys];exact Ce⟩,h1.same,h1.hn,fun i t pp j w wd e1 e2 e3 e4=>.inl ((h1.Eo i t pp e1 e2).2.2.2 j w wd e3 e4),fun i t pp j w wd e1 e2 e3 e4 h3=>by lia⟩;obtain⟨i,h8,e⟩:=F2.mp ht;have e1:tx[i]? =some t:=by rw[Ap h8,e]
  obtain⟨pp,ep⟩:=h0 e1;exact(h1.Eo i t pp e1 ep).2.1
 ·obtain⟨pp,ep⟩:=h0 et;have hq:q<pp.2.length:=by rw[<-(nk.Eo p t pp et ep).2.2.1];exact(BY.mp ew).1
  have ed:pp.2[q]? =some pp.2[q]:=Ap hq;rcases h.2.c1 p t pp q w _ et ep ew ed with hc|hc
  ·exact bd σ H' D' w _ h.1 hc (kn _ _ ⟨Sj _ _ h.1,h.2.set idem nk et ep ew ed hc rfl⟩)
  ·exact bd σ H' D' w _ h.1 hc (kn _ _ ⟨Sj _ _ h.1,h.2.set idem nk et ep ew ed hc (idem _)⟩)
 ·rcases h3 with h3|⟨_,h3⟩
  ·by_cases h7:i=p
   ·subst h7;rw[et] at e1;cases Ag e1;exact h.2.c2 i t h6 j w' h5 et e2 e3 e4 (.inr ⟨rfl,(BY.mp e3).1⟩)
   ·exact h.2.c2 i t' h6 j w' h5 e1 e2 e3 e4 (.inl (by lia))
  ·lia
 ·have m:=h.2;refine⟨m.same,m.wk.ha,m.hn,m.wk.ht,by show _=(n.texts.map _).length;rw[AJ];exact nk.len,fun i t p' e1 e2=>?_,nk.fa,nk.fn,nk.ft,nk.fw,nk.ap⟩;have h4:(n.texts.map fun p=>(p.1,p.2.map g))[i]? =some p':=e2;rw[Az] at h4;obtain⟨pp,ep⟩:=h0 e1;rw[ep] at h4;cases Ag h4;obtain⟨q1,q2,q3,q4⟩:=nk.Eo i t pp e1 ep;refine⟨q1,m.wk.hl t (CA e1),by show _=(pp.2.map g).length;rw[AJ];exact q3,fun j w wd e3 e4=>?_⟩;have h2:(pp.2.map g)[j]? =some wd:=e4;rw[Az] at h2
  cases e5:pp.2[j]?with
  |none=>rw[e5] at h2;cases h2
  |some wo=>
  rw[e5] at h2;cases Ag h2;exact m.c2 i t pp j w wo e1 ep e3 e5 (.inl (BY.mp e1).1)
noncomputable def CL(name:Str)(no:Int)(w:Wd):Wd:=if w.to=true/\w.no= -1/\w.nm=name then{w with no:=no} else w
noncomputable def CK(no:Int)(name:Str)(other:Int)(w:Wd):Wd:=if w.to=true/\w.no=no then{w with nm:=name,no:=other} else w
def dD(name:Str)(no:Int)(w:Wd):CL name no (CL name no w)=CL name no w:=by
 unfold CL;by_cases h:w.to=true/\w.no= -1/\w.nm=name
 ·rw[AG h];by_cases h2:w.to=true/\no= -1/\w.nm=name
  ·rw[AG h2]
  ·rw[AF h2]
 ·rw[AF h,AF h]
def cQ(no:Int)(name:Str)(other:Int)(w:Wd):CK no name other (CK no name other w)=CK no name other w:=by
 unfold CK;by_cases h:w.to=true/\w.no=no
 ·rw[AG h];by_cases h2:w.to=true/\other=no
  ·rw[AG h2]
  ·rw[AF h2]
 ·rw[AF h,AF h]
def Nk.named(n:Nk)(name:Str)(no:Int):Nk:=({n with names:=AW n.names name no}:Nk).Iq (CL name no)
def Nk.turned(n:Nk)(no:Int)(name:Str)(other:Int):Nk:=n.Iq (CK no name other)
noncomputable def Nk.flat(n:Nk):List Wd:=n.texts.flatMap (·.2)
noncomputable def HC(no:Int)(w:Wd):Bool:=w.to&&decide (w.no=no)
def Nk.led(n:Nk)(no:Int):Nat:=n.flat.countP (HC no)
def C0.tab{tx:List (Int×OK×List OK)}{n:Nk}{o:HO}(h:C0 H0 H a an at_ tx n)(hb:H b=some (.dK AA)):∀(i:Nat) t p,tx[i]? =some t->n.texts[i]? =some p->QH (upd H b o) t p:=fun i t p h1 h2=>by
 obtain⟨q1,q2,q3,q4⟩:=h.Eo i t p h1 h2;exact⟨q1,by rw[AN (CH q2 hb (by intro z;cases z))];exact q2,q3,fun j w wd e1 e2=>by have:=q4 j w wd e1 e2;rw[AN (CH this hb (by intro z;cases z))];exact this⟩
def C0.putN{tx:List (Int×OK×List OK)}{n:Nk}(h:C0 H0 H a an at_ tx n)(nm:List (Str×Int)):C0 H0 (upd H an (.dK (GZ nm))) a an at_ tx {n with names:=nm}:=
 ⟨h.same.upd h.fn,by rw[AN h.ap.xy];exact h.ha,AM,by rw[AN h.ap.yz.symm];exact h.ht,h.len,h.tab h.hn,h.fa,h.fn,h.ft,h.fw,h.ap⟩
def C0.Lq{tx:List (Int×OK×List OK)}{n:Nk}(h:C0 H0 H a an at_ tx n)(k:Int):C0 H0 (upd H a (.dK (FQ an at_ k))) a an at_ tx {n with made:=k}:=
 ⟨h.same.upd h.fa,AM,by rw[AN h.ap.xy.symm];exact h.hn,by rw[AN h.ap.xz.symm];exact h.ht,h.len,h.tab h.ha,h.fa,h.fn,h.ft,h.fw,h.ap⟩
def any_keys{α γ:Type}[DecidableEq α]{l:List (α×β)}{m:List (α×γ)}(e:l.map (·.1)=m.map (·.1))(k:α):(l.any fun p=>decide (p.1=k))=m.any fun p=>decide (p.1=k):=by
 have h1:(l.any fun p=>decide (p.1=k))=(l.map (·.1)).any fun x=>decide (x=k):=by rw[Oz];rfl
 have h2:(m.any fun p=>decide (p.1=k))=(m.map (·.1)).any fun x=>decide (x=k):=by rw[Oz];rfl
 rw[h1,h2,e]
def C0.N1{tx:List (Int×OK×List OK)}{n:Nk}(h:C0 H0 H a an at_ tx n)(k:Int){l:OK}{ws:List OK}{CQ:List Wd}(hl:H l=some (.lst (ws.map V.ref)))(el:ws.length=CQ.length)
 (hw:∀(j:Nat) w wd,ws[j]? =some w->CQ[j]? =some wd->H w=some (.lst wd.vq))(hf:∀w∈ws,H0 w=none):
 C0 H0 (upd H at_ (.dK (CN (AW tx k (l,ws))))) a an at_ (AW tx k (l,ws)) {n with texts:=AW n.texts k CQ}:=by
 have new:QH (upd H at_ (.dK (CN (AW tx k (l,ws))))) (k,l,ws) (k,CQ):=⟨rfl,by rw[AN (CH hl h.ht (by intro z;cases z))];exact hl,el,fun j w wd e1 e2=>by have:=hw j w wd e1 e2;rw[AN (CH this h.ht (by intro z;cases z))];exact this⟩;have ek:=any_keys h.keys k;refine⟨h.same.upd h.ft,by rw[AN h.ap.xz];exact h.ha,by rw[AN h.ap.yz];exact h.hn,AM,?_,fun i t p h1 h2=>?_,h.fa,h.fn,h.ft,fun t ht w h3=>?_,h.ap⟩
 ·unfold AW;by_cases c:(tx.any fun p=>decide (p.1=k))=true
  ·rw[AG c,AG (by rw[<-ek];exact c),AJ,AJ];exact h.len
  ·rw[AF c,AF (by rw[<-ek];exact c),An,An,h.len];rfl
 ·have h0:(AW n.texts k CQ)[i]? =some p:=h2;unfold AW at h1 h0;by_cases c:(tx.any fun p=>decide (p.1=k))=true
  ·rw[AG c,Az] at h1;rw[AG (by rw[<-ek];exact c),Az] at h0
   cases e1:tx[i]?with
   |none=>rw[e1] at h1;cases h1
   |some t0=>
   cases e2:n.texts[i]?with
   |none=>rw[e2] at h0;cases h0
   |some p0=>
   rw[e1] at h1;rw[e2] at h0;have q:=h.tab (o:=.dK (CN (AW tx k (l,ws)))) h.ht i t0 p0 e1 e2;have f1:(if t0.1=k then(t0.1,(l,ws)) else t0)=t:=Ag h1;have f2:(if p0.1=k then(p0.1,CQ) else p0)=p:=Ag h0;by_cases hk:t0.1=k
   ·rw[AG hk] at f1;rw[AG (by rw[<-q.1];exact hk)] at f2;rw[<-f1,<-f2,hk,<-q.1,hk];exact new
   ·rw[AF hk] at f1;rw[AF (by rw[<-q.1];exact hk)] at f2;rw[<-f1,<-f2];exact q
  ·rw[AF c] at h1;rw[AF (by rw[<-ek];exact c)] at h0;by_cases hi:i<tx.length
   ·rw[C2 hi] at h1;rw[C2 (by rw[<-h.len];exact hi)] at h0;exact h.tab h.ht i t p h1 h0
   ·have DD:i<(tx++[(k,l,ws)]).length:=(BY.mp h1).1;rw[An,Cm] at DD;obtain rfl:i=tx.length:=by lia
    rw[Cj (Ae _),E1] at h1;rw[Cj (by rw[h.len];exact Ae _),h.len,E1] at h0;rw[<-Ag h1,<-Ag h0];exact new
 ·unfold AW at ht;by_cases c:(tx.any fun p=>decide (p.1=k))=true
  ·rw[AG c] at ht;obtain⟨t0,h4,e⟩:=BA.mp ht;by_cases hk:t0.1=k
   ·rw[AG hk] at e;rw[<-e] at h3;exact hf w h3
   ·rw[AF hk] at e;rw[<-e] at h3;exact h.fw t0 h4 w h3
  ·rw[AF c] at ht;rcases BS.mp ht with z|z
   ·exact h.fw t z w h3
   ·rw[BR.mp z] at h3;exact hf w h3
noncomputable def GU:Nk:=⟨[],[],0⟩
def Xg:Sp:=fun vs H Q _=>vs=[]/\∀(a:OK)(H':Hp),Cy H H' a GU->Q (.ref a) H'
def S3:Sp:=fun vs H Q _=>∃(a:OK)(h0:Str)(no:Int)(H0:Hp)(n:Nk),vs=[.ref a,.str h0,.int no]/\Cy H0 H a n/\Fits n/\∀H',Cy H0 H' a (n.named h0 no)->Q .BB H'
def SV:Sp:=fun vs H Q _=>∃(a:OK)(no:Int)(h1:Str)(h0:Int)(H0:Hp)(n:Nk),vs=[.ref a,.int no,.str h1,.int h0]/\Cy H0 H a n/\Fits n/\∀H',Cy H0 H' a (n.turned no h1 h0)->Q .BB H'
def Th:Sp:=fun vs H Q _=>∃(a:OK)(no:Int)(H0:Hp)(n:Nk),vs=[.ref a,.int no]/\Cy H0 H a n/\Fits n/\∀H',AO H H'->Q (.int (n.led no)) H'
def E2(h:H a=some (.dK (FQ an at_ m))):BW H a (.str "names") (some (.ref an)):=by have:=BW.kq (k:=.inr "names") h;rw[ic] at this;exact this
def Gk(h:H a=some (.dK (FQ an at_ m))):BW H a (.str "texts") (some (.ref at_)):=by have:=BW.kq (k:=.inr "texts") h;rw[M9] at this;exact this
def fU(h:H a=some (.dK (FQ an at_ m))):BW H a (.str "made") (some (.int m)):=by have:=BW.kq (k:=.inr "made") h;rw[iu] at this;exact this
def iW{X:Cx}{pos:Pos}{k1 k2 k3 v1 v2 v3:hX}{trs:List (TE×TE)}(h:OA X pos [some k1,some k2,some k3] [v1,v2,v3] trs):PE X (.Dict [some k1,some k2,some k3] [v1,v2,v3] pos) (ZI trs):=@ip X pos [some k1,some k2,some k3] [v1,v2,v3] trs h rfl rfl (RP _ _) (by show 3<=15;decide)
def jD:A9 [] [] (Aq Pq):=by left
def gK(F:Ak K "_law_begun" "_law_begun" Pq f fd):AY P w K mg base Aj 1 f fd [] Xg:=by
 refine F.ok jD ?_ ?_
 ·rintro _ _ _ _ ⟨rfl,_⟩;rfl
 ·rintro _ A _ s H _ Q E hr ⟨rfl,q⟩;refine⟨_,@AU _ _ _ (@As _ _ _ _ (@iW _ _ _ _ _ _ _ _ _ (@SR _ _ _ _ _ _ _ _ _ (@AZ _ _ _ _) (@NH _ _) (@SR _ _ _ _ _ _ _ _ _ (@AZ _ _ _ _) (@NH _ _) (@SR _ _ _ _ _ _ _ _ _ (@AZ _ _ _ _) (@AV _ _ _ _) (@jJ _ _)))))),?_⟩;intro a ha an h2 h0 h1;have n1:a≠an:=A7 AM h2;have h3:(upd (upd H a (.dK [])) an (.dK [])) a=some (.dK []):=by rw[AN n1];exact AM
  have n2:a≠h0:=A7 h3 h1;have n3:an≠h0:=A7 AM h1;have h5:H an=none:=(Af ha).free h2;have h4:H h0=none:=((Af ha).trans (Af h2)).free h1;refine⟨by rw[AN n2];exact h3,[(.inr "names",.ref an),(.inr "texts",.ref h0),(.inr "made",.int 0)],rfl,by show 3<=15;decide,q a _ ⟨an,h0,[],?_⟩⟩;refine⟨(((AO.refl H).upd ha).upd h5).upd h4|>.upd ha,?_,?_,?_,rfl,fun i t p e=>(by simp at e),ha,h5,h4,fun t ht=>(by cases ht),⟨n1,n2,n3⟩⟩
  ·rw[AM];rfl
  ·rw[AN n1.symm,AN n3];exact AM
  ·rw[AN n2.symm];exact AM
def S1:A9 ["_law_nook","_law_name","_law_number","_law_one","_law_word"] ["_law_nook","_law_name","_law_number"] (Aq NX):=by left
def XB(F:Ak K "_law_named" "_law_named" NX f fd)(O:Own mg):AY P w K mg base Aj 1 f fd ["_law_nook","_law_name","_law_number"] S3:=by
 refine F.ok S1 ?_ ?_
 ·rintro _ _ _ _ ⟨_,_,_,_,_,rfl,_⟩;rfl
 ·rintro _ A _ s H _ Q E hr ⟨a,h0,no,H0,n,rfl,⟨an,h8,tx,nk⟩,h5,q⟩;have h4:=Cq hr;refine⟨_,(AR (Ee h4 (CY h4 (pv 0)) (pv 1) (pv 2) rfl) (AU (DZ DX rfl (Fn (Gn (Ms rfl) rfl O.lst IY (AB (CY h4 (pv 0)) AI))) (Bg (i:=3) S1.nd rfl (Aa rfl))
   (AU (DZ DX rfl (Fn (D1 h4 (CY h4 (pv 0)) (pv 3) (fun _ _=>rfl))) (Bg (i:=4) S1.nd rfl (Aa rfl))
   (AU (A0 (PW.pt (Eh (Ar Ba (HE (pv 4)) AZ (Am _)) (Eh (Ar Ba (HE (pv 4)) (EL EK AV) (Am _)) (GB (Ar Ba (HE (pv 4)) (pv 1) (Am _))))))
   (AU (TJ (pv 2) (TN (pv 4) AV set_list)))
   BE))))))),?_⟩;have hl:(GZ n.names).length<sizeLine:=by
   show(n.names.map _).length<_;have:=h5.names;rw[AJ,A8]
   lia
  have dp:=DW.kq (k:=.inr h0) (v:=.int no) nk.hn hl;rw[JG Ef] at dp;refine⟨_,rfl,_,rfl,a,_,rfl,E2 nk.ha,_,rfl,an,_,rfl,dp,?_⟩;have h7:=nk.putN (AW n.names h0 no);refine XC (fun σ=>∃v3 v4,σ=[some (.ref a),some (.str h0),some (.int no),v3,v4]) (CL h0 no) (dD h0 no) ⟨none,none,rfl⟩ ?_ ?_ ?_ (by decide) h7 h5.Ce ?_ ?_
  ·rintro σ ⟨v3,v4,rfl⟩;exact⟨rfl,by show 3<5;decide⟩
  ·rintro σ v ⟨v3,v4,rfl⟩;exact⟨_,_,rfl⟩
  ·rintro σ v ⟨v3,v4,rfl⟩;exact⟨_,_,rfl⟩
  ·rintro _ H' D' w wd ⟨v3,v4,rfl⟩ hw kn;obtain⟨to,nm,h3⟩:=wd;have same:CL h0 no ⟨to,nm,h3⟩=⟨to,nm,h3⟩->D'.nx [some (.ref a),some (.str h0),some (.int no),v3,some (.ref w)] H':=fun e=>by rw[e,Y4 hw] at kn;exact kn
   cases to with
   |false=>refine⟨_,rfl,w,_,_,.str "word",rfl,rfl,AL.of hw,rfl,rfl,_,rfl,B1 (by intro z;exact absurd (V.str.inj z) (by left)) (BK (same ?_))⟩;unfold CL;rw[AF (by simp)]
   |true=>
    refine⟨_,rfl,w,_,_,.str "to",rfl,rfl,AL.of hw,rfl,rfl,_,rfl,Bp rfl ⟨_,rfl,w,_,_,.int h3,rfl,rfl,AL.of hw,rfl,_,rfl,rfl,_,rfl,?_⟩⟩;by_cases h1:h3= -1
    ·refine Bp (by rw[h1]) ⟨_,rfl,w,_,_,.str nm,rfl,rfl,AL.of hw,rfl,_,rfl,rfl,_,rfl,?_⟩;by_cases h2:nm=h0
     ·refine Bp (by rw[h2]) ⟨_,rfl,_,rfl,w,_,_,2,rfl,rfl,hw,rfl,?_⟩;have eg:CL h0 no ⟨true,nm,h3⟩=⟨true,nm,no⟩:=by unfold CL;rw[AG ⟨rfl,h1,h2⟩]
      rw[eg] at kn;exact kn
     ·refine B1 (by intro z;exact h2 (V.str.inj z)) (same ?_);unfold CL;rw[AF (fun z=>h2 z.2.2)]
    ·refine B1 (by intro z;exact h1 (V.int.inj z)) (BK (same ?_));unfold CL;rw[AF (fun z=>h1 z.2.1)]
  ·rintro σ H' ⟨v3,v4,rfl⟩ h6;exact q H' ⟨an,h8,tx,h6⟩
def SK:A9 ["_law_nook","_law_number","_law_name","_law_other","_law_one","_law_word"] ["_law_nook","_law_number","_law_name","_law_other"] (Aq NS):=by left
def WI(F:Ak K "_law_turned" "_law_turned" NS f fd)(O:Own mg):AY P w K mg base Aj 1 f fd ["_law_nook","_law_number","_law_name","_law_other"] SV:=by
 refine F.ok SK ?_ ?_
 ·rintro _ _ _ _ ⟨_,_,_,_,_,_,rfl,_⟩;rfl
 ·rintro _ A _ s H _ Q E hr ⟨a,no,h2,h0,H0,n,rfl,⟨an,h7,tx,nk⟩,h6,q⟩;have h4:=Cq hr;refine⟨_,(AU (DZ DX rfl (Fn (Gn (Ms rfl) rfl O.lst IY (AB (CY h4 (pv 0)) AI))) (Bg (i:=4) SK.nd rfl (Aa rfl))
   (AU (DZ DX rfl (Fn (D1 h4 (CY h4 (pv 0)) (pv 4) (fun _ _=>rfl))) (Bg (i:=5) SK.nd rfl (Aa rfl))
   (AU (A0 (PW.pt (Eh (Ar Ba (HE (pv 5)) AZ (Am _)) (GB (Ar Ba (HE (pv 5)) (pv 1) (Am _)))))
   (AR (TJ (pv 2) (TN (pv 5) AV set_list)) (AU (TJ (pv 3) (TN (pv 5) AV set_list))))
   BE)))))),?_⟩;refine XC (fun σ=>∃v4 v5,σ=[some (.ref a),some (.int no),some (.str h2),some (.int h0),v4,v5]) (CK no h2 h0) (cQ no h2 h0) ⟨none,none,rfl⟩ ?_ ?_ ?_ (by decide) nk h6.Ce ?_ ?_
  ·rintro σ ⟨v3,v4,rfl⟩;exact⟨rfl,by show 4<6;decide⟩
  ·rintro σ v ⟨v3,v4,rfl⟩;exact⟨_,_,rfl⟩
  ·rintro σ v ⟨v3,v4,rfl⟩;exact⟨_,_,rfl⟩
  ·rintro _ H' D' w wd ⟨v3,v4,rfl⟩ hw kn;obtain⟨to,nm,h3⟩:=wd;have same:CK no h2 h0 ⟨to,nm,h3⟩=⟨to,nm,h3⟩->D'.nx [some (.ref a),some (.int no),some (.str h2),some (.int h0),v3,some (.ref w)] H':=fun e=>by rw[e,Y4 hw] at kn;exact kn
   cases to with
   |false=>refine⟨_,rfl,w,_,_,.str "word",rfl,rfl,AL.of hw,rfl,rfl,_,rfl,B1 (by intro z;exact absurd (V.str.inj z) (by left)) (BK (same ?_))⟩;unfold CK;rw[AF (by simp)]
   |true=>
    refine⟨_,rfl,w,_,_,.str "to",rfl,rfl,AL.of hw,rfl,rfl,_,rfl,Bp rfl ⟨_,rfl,w,_,_,.int h3,rfl,rfl,AL.of hw,rfl,_,rfl,rfl,_,rfl,?_⟩⟩;by_cases h1:h3=no
    ·refine Bp (by rw[h1]) ⟨_,rfl,_,rfl,w,_,_,1,rfl,rfl,hw,rfl,_,rfl,_,rfl,w,_,_,2,rfl,rfl,AM,rfl,?_⟩;have eg:CK no h2 h0 ⟨true,nm,h3⟩=⟨true,h2,h0⟩:=by unfold CK;rw[AG ⟨rfl,h1⟩]
     rw[eg] at kn;rw[JT];exact kn
    ·refine B1 (by intro z;exact h1 (V.int.inj z)) (same ?_);unfold CK;rw[AF (fun z=>h1 z.2)]
  ·rintro σ H' ⟨v3,v4,rfl⟩ h5;exact q H' ⟨an,h7,tx,h5⟩
def Nt:A9 ["_law_nook","_law_number","_law_many","_law_one","_law_word"] ["_law_nook","_law_number"] (Aq N5):=by left
noncomputable def upTo(n:Nk)(p q:Nat):List Wd:=(n.texts.take p).flatMap (·.2)++(((n.texts[p]?).map (·.2)).getD []).take q
def Y8(F:Ak K "_law_led" "_law_led" N5 f fd)(O:Own mg):AY P w K mg base Aj 1 f fd ["_law_nook","_law_number"] Th:=by
 refine F.ok Nt ?_ ?_
 ·rintro _ _ _ _ ⟨_,_,_,_,rfl,_⟩;rfl
 ·rintro _ A _ s H _ Q E hr ⟨a,no,H0,n,rfl,⟨an,at_,tx,nk⟩,h7,q⟩;have h5:=Cq hr;refine⟨_,(AR (Av (i:=2) Nt.nd rfl (Aa rfl) AV) (AR (DZ DX rfl (Fn (Gn (Ms rfl) rfl O.lst IY (AB (CY h5 (pv 0)) AI))) (Bg (i:=3) Nt.nd rfl (Aa rfl))
   (AU (DZ DX rfl (Fn (D1 h5 (CY h5 (pv 0)) (pv 3) (fun _ _=>rfl))) (Bg (i:=4) Nt.nd rfl (Aa rfl))
   (AU (Av (i:=2) Nt.nd rfl (Aa rfl) (Ah Cb (pv 2) (Gn M0 rfl O.int Lc (AB (Pu (Ia Ba (HE (pv 4)) AZ (Am _)) (Pt (Ia Ba (HE (pv 4)) (pv 1) (Am _)))) AI)))))))) (AU (As (pv 2))))),?_⟩;have h0:∀{p t},tx[p]? =some t->∃pp,n.texts[p]? =some pp:=fun{p t} e=>by
   have hp:p<n.texts.length:=by rw[<-nk.len];exact(BY.mp e).1
   exact⟨_,Ap hp⟩
  refine Vj (a:=a) (at_:=at_) (A:=FQ an at_ n.made) (tx:=tx) (fun L p q σ H'=>∃(v3 v4:Option V),σ=[some (.ref a),some (.int no),some (.int ((upTo n p q).countP (HC no):Nat)),v3,v4]/\AO H H'/\H' L=some (.lst (tx.map fun t=>V.int t.1))) rfl nk.ha M9 nk.ht
   (fun L hL=>⟨none,none,rfl,Af hL,AM⟩) ?_ (by decide) ?_ ?_ ?_ ?_
  ·rintro L p q σ H' ⟨v3,v4,rfl,sm,hL⟩;have h3:=nk.ext sm;refine⟨⟨h3.ha,M9,h3.ht,hL,fun t ht=>?_,by rw[nk.keys];exact h7.Ce⟩,rfl,by show 3<5;decide⟩;obtain⟨i,h6,e⟩:=F2.mp ht;have e1:tx[i]? =some t:=by rw[Ap h6,e]
   obtain⟨pp,ep⟩:=h0 e1;exact(h3.Eo i t pp e1 ep).2.1
  ·rintro L p t q w σ H' D' et ew ⟨v3,v4,rfl,sm,hL⟩ kn;obtain⟨pp,ep⟩:=h0 et;have h3:=nk.ext sm;have hq:q<pp.2.length:=by rw[<-(nk.Eo p t pp et ep).2.2.1];exact(BY.mp ew).1
   have ed:pp.2[q]? =some pp.2[q]:=Ap hq;have hw:=(h3.Eo p t pp et ep).2.2.2 q w _ ew ed;generalize pp.2[q]=wd at ed hw;have eu:upTo n p (q+1)=upTo n p q++[wd]:=by unfold upTo;rw[ep];show _++pp.2.take (q+1)=(_++pp.2.take q)++[wd];rw[C6,ed,Bu];rfl
   have h4:D'.nx [some (.ref a),some (.int no),some (.int (((upTo n p q).countP (HC no):Nat)+(if HC no wd=true then 1 else 0))),v3,some (.ref w)] H':=by
    have h1:=kn [some (.ref a),some (.int no),some (.int ((upTo n p (q+1)).countP (HC no):Nat)),v3,some (.ref w)] H' ⟨_,_,rfl,sm,hL⟩;rw[eu,List.countP_append,List.countP_singleton] at h1;have e2:(((upTo n p q).countP (HC no)+(if HC no wd=true then 1 else 0):Nat):Int)=((upTo n p q).countP (HC no):Nat)+(if HC no wd=true then 1 else 0):=by cases HC no wd<;>rfl
    rw[e2] at h1;exact h1
   obtain⟨to,nm,h2⟩:=wd
   cases to with
   |false=>refine⟨_,rfl,_,rfl,w,_,_,.str "word",rfl,rfl,AL.of hw,rfl,rfl,_,rfl,B1 (by intro z;exact absurd (V.str.inj z) (by left)) (.inr ⟨_,rfl,_,_,rfl,rfl,h4⟩)⟩
   |true=>
    refine⟨_,rfl,_,rfl,w,_,_,.str "to",rfl,rfl,AL.of hw,rfl,rfl,_,rfl,Bp rfl ⟨_,rfl,w,_,_,.int h2,rfl,rfl,AL.of hw,rfl,_,rfl,rfl,.inr ⟨_,rfl,_,_,rfl,rfl,?_⟩⟩⟩;have e3:HC no ⟨true,nm,h2⟩=decide (V.int h2=V.int no):=by
     show(true&&decide (h2=no))=_;rw[Bool.true_and];by_cases h:h2=no
     ·rw[h];simp
     ·rw[BN h,BN (fun z=>h (V.int.inj z))]
    rw[e3] at h4;exact h4
  ·rintro L p t σ H' et ⟨v3,v4,rfl,sm,hL⟩;exact⟨_,_,rfl,sm,hL⟩
  ·rintro L p t σ H' et ⟨v3,v4,rfl,sm,hL⟩;obtain⟨pp,ep⟩:=h0 et;have eu:upTo n p t.2.2.length=upTo n (p+1) 0:=by unfold upTo;rw[ep,C6,ep,(nk.Eo p t pp et ep).2.2.1,LA,Cp];show _++pp.2.take pp.2.length=(_++[pp]).flatMap _;rw[CT,List.flatMap_append];show _++pp.2=_++(pp.2++[]);rw[Cp]
   rw[eu];exact⟨_,_,rfl,sm,hL⟩
  ·rintro L σ H' ⟨v3,v4,rfl,sm,hL⟩;have eu:upTo n tx.length 0=n.flat:=by unfold upTo Nk.flat;rw[nk.len,CT,LA,Cp]
   rw[eu];exact⟨_,rfl,q H' sm⟩
theorem fF:Br X (qg .Gt) (fun x y H Q=>∃i j,x=.str i/\y=.str j/\Q (.bl (decide (j.cps.toList<i.cps.toList))) H):=by intro h0 s σ H x y v u Q I rx ry h;obtain⟨i,j,rfl,rfl,q⟩:=h;obtain⟨t,rfl⟩:=rx;obtain⟨t',rfl⟩:=ry;exact P.gt_str (CD I q rfl)
noncomputable def Dx(c:Nat):Bool:=decide (([c]:List Nat)<("a" :Str).cps.toList)||decide (("z" :Str).cps.toList<([c]:List Nat))
def DI(z:Str):Bool:=(!decide (z=""))&&(z.cps.toList.filter Dx).isEmpty
def SH:Sp:=fun vs H Q _=>∃z:Str,vs=[.str z]/\z.length<=100000/\∀H',AO H H'->Q (.bl (DI z)) H'
def Nk.added(n:Nk)(name:Str):Nk:=({n with made:=n.made+1,texts:=AW n.texts n.made []}:Nk).named name n.made
def X9:Sp:=fun vs H Q _=>∃(a:OK)(h0:Str)(H0:Hp)(n:Nk),vs=[.ref a,.str h0]/\Cy H0 H a n/\Fits n/\n.texts.length<1000/\AH n.texts n.made=none/\∀H',Cy H0 H' a (n.added h0)->Q (.int n.made) H'
def NB{α β:Type}[DecidableEq α]{k:α}:∀{l:List (α×β)},AH l k=none->k∉l.map (·.1)
 |[],_=>by simp
 |p::l,h=>by
  unfold AH at h;rw[C7] at h;by_cases e:p.1=k
  ·rw[Bb e] at h;cases h
  ·rw[BN e] at h;have:=NB (l:=l) (k:=k) h;rw[Au,BI];rintro(z|z)
   ·exact e z.symm
   ·exact this z
def Hb{α:Type}[DecidableEq α]{k:α}{v:β}{l:List (α×β)}(h:AH l k=none):AW l k v=l++[(k,v)]:=by unfold AW;rw[AF];intro z;obtain⟨p,hp,e⟩:=IT.mp z;exact NB h (BA.mpr ⟨p,hp,IS e⟩)
def Fits.pF{n:Nk}{k:Int}(h:Fits n)(hk:AH n.texts k=none)(hl:n.texts.length<1000):Fits {n with made:=m,texts:=AW n.texts k []}:=by
 refine⟨h.Ct,?_,h.names,?_,fun p hp=>?_⟩
 ·show((AW n.texts k []).map (·.1)).Nodup;rw[Hb hk,BF,Oh];refine⟨h.Ce,by simp,fun x hx y hy z=>?_⟩;have:y=k:=by simpa using hy
  rw[this] at z;rw[z] at hx;exact NB hk hx
 ·show(AW n.texts k []).length<=1000;rw[Hb hk,An,Cm]
  lia
 ·have h0:p∈AW n.texts k []:=hp;rw[Hb hk] at h0;rcases BS.mp h0 with z|z
  ·exact h.words p z
  ·rw[BR.mp z];exact CC _
def XT:A9 ["_law_nook","_law_name","_law_number"] ["_law_nook","_law_name"] (Aq TL):=by left
def gL{fNa:OK}{fdNa:qk}(F:Ak K "_law_added" "_law_added" TL f fd)(O:Own mg)
 (FNa:Ak K "_law_named" "_law_named" NX fNa fdNa)(bNa:Binds K fdNa ["_law_nook","_law_name","_law_number"] [])(mNa:mg "_law_named" =some (.ref fNa)):AY P w K mg base Aj 2 f fd ["_law_nook","_law_name"] X9:=by
 have e4:AY P w K mg base Aj 1 fNa fdNa ["_law_nook","_law_name","_law_number"] S3:=XB FNa O;refine F.ok XT ?_ ?_
 ·rintro _ _ _ _ ⟨_,_,_,_,rfl,_⟩;rfl
 ·rintro _ A _ s H _ Q E hr ⟨a,h2,H0,n,rfl,⟨an,h4,tx,nk⟩,e3,e1,h3,q⟩;have h0:=Cq hr;refine⟨_,(AR (Av (i:=2) XT.nd rfl (Aa rfl) (CY h0 (pv 0))) (AR (Ee h0 (pv 0) AZ (Ah Cb (pv 2) AV) rfl) (AR (Ee h0 (CY h0 (pv 0)) (pv 2) (CO AI) rfl) (AR (Bf (Ca e4 hr rfl mNa FNa.kp bNa .nil BH (AB (pv 0) (AB (pv 1) (AB (pv 2) AI))))) (AU (As (pv 2))))))),?_⟩;have h7:=DW.kq (k:=.inr "made") (v:=.int (n.made+1)) nk.ha (by show 3<sizeLine;decide);rw[kl] at h7;refine⟨_,rfl,a,_,rfl,fU nk.ha,_,rfl,_,_,rfl,rfl,_,rfl,a,_,rfl,h7,?_⟩;have h5:=nk.Lq (n.made+1);generalize upd H a (.dK (FQ an h4 (n.made+1)))=H1 at h5;refine⟨by exact zy,fun l hl=>?_⟩;have h1:=h5.ext (Af (o:=.lst []) hl);have e0:(CN tx).length<sizeLine:=by
   show(tx.map _).length<_;rw[AJ,nk.len,A8]
   lia
  have h6:=DW.kq (k:=.inl n.made) (v:=.ref l) h1.ht e0;have e2:putK (CN tx) (.inl n.made) (.ref l)=CN (AW tx n.made (l,[])):=JG (g:=fun p:OK×List OK=>V.ref p.1) E5 n.made (l,[]) tx;rw[e2] at h6;refine⟨_,rfl,a,_,rfl,Gk h1.ha,_,rfl,h4,_,rfl,h6,?_⟩;have h8:=h1.N1 n.made (l:=l) (ws:=[]) (CQ:=[]) AM rfl (fun j w wd e=>by simp at e) (fun w hw=>by cases hw);exact⟨_,rfl,_,rfl,_,rfl,a,h2,n.made,H0,_,rfl,⟨an,h4,_,h8⟩,e3.pF h3 e1,fun H' h9=>⟨_,rfl,q H' h9⟩⟩
def gI:A9 ["_law_text"] ["_law_text"] (Aq NU):=by left
def WV(F:Ak K "_law_is_name" "_law_is_name" NU f fd):AY P w K mg base Aj 1 f fd ["_law_text"] SH:=by
 refine F.ok gI ?_ ?_
 ·rintro _ _ _ _ ⟨_,rfl,_⟩;rfl
 ·rintro _ A _ s H _ Q E hr ⟨x,rfl,hx,k⟩;have hu:=hr.TC;refine⟨_,(AU (As (Pu (Ia GH (pv 0) AZ (Am _)) (Pt (Ia (pK hu) (E4 (ts:=["_law_sign"]) (cap:=[]) (ix:=[]) (JJ rfl rfl (by left) (by left)) (Yd (pv 0)) (fun _ _ _ _ _=>Bg (i:=0) K2 rfl (Aa rfl) (Cc rfl)) (fun _ _ _ _ _=>(La (PW.pt (Ie (Ar eV (pv 0) AZ (Am _)) (Ib (Ar fF (pv 0) AZ (Am _))))))) (fun _ _ _ _ _=>(pv 0))) (CO AI) (Am _)))))),?_⟩;refine⟨_,rfl,rfl,_,rfl,?_⟩;by_cases e:x=""
  ·refine EN (by rw[e]) ?_;have:DI x=false:=by unfold DI;rw[Bb e];rfl
   have q:=k H (AO.refl H);rw[this] at q;exact q
  ·refine HD (fun z=>e (V.str.inj z)) ?_;have en:DI x=(x.cps.toList.filter Dx).isEmpty:=by unfold DI;rw[BN e];rfl
   have el:x.cps.toList.length<=100000:=by simpa[Str.length] using hx
   refine⟨_,rfl,x,rfl,fun D hD=>XM (fun i H'=>AO H H'/\H' D=some (.lst (((x.cps.toList.take i).filter Dx).map fun c=>V.str ⟨#[c]⟩))) ⟨Af hD,AM⟩ ?_ ?_⟩
   ·rintro i c H' hc ⟨sm,h0⟩;have h3:i<x.cps.toList.length:=(BY.mp hc).1;have et:x.cps.toList.take (i+1)=x.cps.toList.take i++[c]:=by rw[C6,hc];rfl
    have put:Dx c=true->∃ys,H' D=some (.lst ys)/\ys.length<sizeLine/\AO H (upd H' D (.lst (ys++[V.str ⟨#[c]⟩])))/\(upd H' D (.lst (ys++[V.str ⟨#[c]⟩]))) D=some (.lst (((x.cps.toList.take (i+1)).filter Dx).map fun c=>V.str ⟨#[c]⟩)):=fun hb=>by
     refine⟨_,h0,?_,sm.upd hD,?_⟩
     ·have:=EY Dx (x.cps.toList.take i);rw[Be] at this;rw[AJ,A8]
      lia
     ·rw[AM,et,MO,BF];have:[c].filter Dx=[c]:=by simp[hb]
      rw[this];rfl
    have skip:Dx c=false->AO H H'/\H' D=some (.lst (((x.cps.toList.take (i+1)).filter Dx).map fun c=>V.str ⟨#[c]⟩)):=fun hb=>by
     refine⟨sm,?_⟩;rw[h0,et,MO];have:[c].filter Dx=[]:=by simp[hb]
     rw[this,Cp]
    refine⟨FH,_,rfl,_,_,rfl,rfl,_,rfl,?_⟩;by_cases h1:([c]:List Nat)<("a" :Str).cps.toList
    ·exact Bp h1 (Bk ⟨_,rfl,put (by unfold Dx;rw[Bb h1];rfl)⟩)
    ·refine B1 h1 ⟨_,rfl,_,_,rfl,rfl,_,rfl,?_⟩;by_cases h2:("z" :Str).cps.toList<([c]:List Nat)
     ·exact Bp h2 ⟨_,rfl,put (by unfold Dx;rw[Bb h2,Bool.or_true])⟩
     ·exact B1 h2 (skip (by unfold Dx;rw[BN h1,BN h2];rfl))
   ·rintro H' ⟨sm,h0⟩;rw[CT] at h0;refine⟨by exact zy,fun q hq=>⟨D,q,_,rfl,rfl,AL.of ((Af hq) _ _ h0),AL.of AM,?_⟩⟩;have h1:=k _ (sm.trans (Af (o:=.lst []) hq));have h2:((x.cps.toList.filter Dx).map fun c=>V.str ⟨#[c]⟩).isEmpty=(x.cps.toList.filter Dx).isEmpty:=by cases x.cps.toList.filter Dx<;>rfl
    rw[h2,<-en];exact h1
def eS{c:TT}{t u:TS}{D:Ends}(G:Hp->Prop)(hG:∀H2,G H2->u D σ H2)(h:(∀H2,G H2->u D σ H2)->HF c t u D σ H):HF c t u D σ H:=h hG
def fL(t p:Str)(h:p∈Txt.split t " "):p.length<=t.length:=by
 have hw:=Mo t " " (by decide);have h2:p.length<=((Txt.split t " ").map (·.length)).sum:=by
  generalize Txt.split t " " =L at h
  induction L with
  |nil=>cases h
  |cons a r ih=>
   rw[Au,Bv];rcases BI.mp h with e|e
   ·subst e;lia
   ·have:=ih e;lia
 have h3:1<=(Txt.split t " ").length:=OU h
 lia
noncomputable def inner(p:Str):Str:=Txt.slice p (some 1) (some (-1))
def Hq(p:Str):Bool:=decide (V.str (Txt.slice p none (some 1))=V.str "[")&&(decide (V.str (Txt.slice p (some (-1)) none)=V.str "]")&&DI (inner p))
def D5(names:List (Str×Int))(p:Str):Option Wd:=if Hq p=true then some ⟨true,inner p,(AH names (inner p)).getD (-1)⟩ else if p="" then none else some ⟨false,p,-1⟩
def GF(names:List (Str×Int))(z:Str):List Wd:=(Txt.split z " ").filterMap (D5 names)
structure IJ(H H':Hp)(ws:List OK)(CQ:List Wd):Prop where
 len:ws.length=CQ.length
 at_:∀(j:Nat) w wd,ws[j]? =some w->CQ[j]? =some wd->H' w=some (.lst wd.vq)
 new:∀w∈ws,H w=none
def Vi:Sp:=fun vs H Q _=>∃(a:OK)(z:Str)(H0:Hp)(n:Nk),vs=[.ref a,.str z]/\Cy H0 H a n/\z.length<=1000/\
 ∀(L:OK)(ws:List OK)(H':Hp),AO H H'->H L=none->H' L=some (.lst (ws.map V.ref))->IJ H H' ws (GF n.names z)->Q (.ref L) H'
def IJ.snoc{ws:List OK}{CQ:List Wd}{w:OK}{wd:Wd}{o:HO}(h:IJ H H2 ws CQ)(hw:H2 w=none)(hn:H w=none)(hL:H2 L=some (.lst (ws.map V.ref))):IJ H (upd (upd H2 w (.lst wd.vq)) L o) (ws++[w]) (CQ++[wd]):=by
 have h0:w≠L:=(A7 hL hw).symm;refine⟨by rw[An,An,h.len];rfl,fun j x xd h1 h2=>?_,fun x hx=>?_⟩
 ·by_cases hj:j<ws.length
  ·rw[C2 hj] at h1;rw[C2 (by rw[<-h.len];exact hj)] at h2;have:=h.at_ j x xd h1 h2;rw[AN (CH this hL (by intro z;exact WX _ xd (HO.lst.inj z).symm)),AN (A7 this hw)];exact this
  ·have h3:j<(ws++[w]).length:=(BY.mp h1).1;rw[An,Cm] at h3;obtain rfl:j=ws.length:=by lia
   rw[Cj (Ae _),E1] at h1;rw[Cj (by rw[h.len];exact Ae _),h.len,E1] at h2;cases Ag h1;cases Ag h2;rw[AN h0,AM]
 ·rcases BS.mp hx with z|z
  ·exact h.new x z
  ·rw[BR.mp z];exact hn
def IJ.ext{H3:Hp}{ws:List OK}{CQ:List Wd}(h:IJ H H2 ws CQ)(s:AO H2 H3):IJ H H3 ws CQ:=⟨h.len,fun j w wd h1 h2=>s _ _ (h.at_ j w wd h1 h2),h.new⟩
def Ru:A9 ["_law_nook","_law_text","_law_words","_law_one"] ["_law_nook","_law_text"] (Aq R8):=by left
def cH{fIs:OK}{fdIs:qk}(F:Ak K "_law_penned_in" "_law_penned_in" R8 f fd)(FIs:Ak K "_law_is_name" "_law_is_name" NU fIs fdIs)(bIs:Binds K fdIs ["_law_text"] [])(mIs:mg "_law_is_name" =some (.ref fIs)):
 AY P w K mg base Aj 2 f fd ["_law_nook","_law_text"] Vi:=by
 have e8:AY P w K mg base Aj 1 fIs fdIs ["_law_text"] SH:=WV FIs;refine F.ok Ru ?_ ?_
 ·rintro _ _ _ _ ⟨_,_,_,_,rfl,_⟩;rfl
 ·rintro _ A _ s H _ Q E hr ⟨a,z,H0,n,rfl,⟨an,s1,tx,nk⟩,hz,q⟩;have e2:=Cq hr;refine⟨_,(AR (Av (i:=2) Ru.nd rfl (Aa rfl) (CO AI)) (AR (DZ DX rfl (Fn (Dh OT uF uG W2 (pv 1) (AB AZ AI))) (Bg (i:=3) Ru.nd rfl (Aa rfl))
   (AU (A0 (PW.pt (Eh (Ar Ba (Ed Li (pv 3) JS (DF AV)) AZ (Am _)) (Eh (Ar Ba (Ed Li (pv 3) (DF (EL EK AV)) JS) AZ (Am _)) (GB (Eg (Ca e8 hr rfl mIs FIs.kp bIs .nil BH (AB (Ed Li (pv 3) (DF AV) (DF (EL EK AV))) AI)))))))
   (AU (Bf (Dh DE Dq Dm DN (pv 2) (AB (CO (AB AZ (AB (Ed Li (pv 3) (DF AV) (DF (EL EK AV))) (AB (gq e2 (CY e2 (pv 0)) (Ed Li (pv 3) (DF AV) (DF (EL EK AV))) (EL EK AV) ⟨rfl,rfl,rfl,rfl⟩) AI)))) AI))))
   (AU (A0 (Ar GH (pv 3) AZ (Am _))
   (AU (Bf (Dh DE Dq Dm DN (pv 2) (AB (CO (AB AZ (AB (pv 3) (AB (EL EK AV) AI)))) AI))))
   BE))))) (AU (As (pv 2))))),?_⟩;have e9:(Txt.split z " ").length<=1001:=by
   have:=Mo z " " (by decide)
   lia
  refine⟨by exact zy,fun L hL=>⟨_,rfl,rfl,z,_,rfl,rfl,by left,by rw[A8];lia,fun D0 e5=>?_⟩⟩;have h9:L≠D0:=A7 AM e5;have h8:H D0=none:=(Af hL).free e5;refine⟨D0,rfl,⟨_,AL.of AM⟩,?_⟩;refine KJ (K:=[]) (a:=D0) (xs:=(Txt.split z " ").map V.str) (fun i σ H'=>∃(ws:List OK)(v3:Option V),σ=[some (.ref a),some (.str z),some (.ref L),v3]/\AO H H'/\H' D0=some (.lst ((Txt.split z " ").map V.str))/\H' L=some (.lst (ws.map V.ref))/\IJ H H' ws (((Txt.split z " ").take i).filterMap (D5 n.names))/\ws.length<=i)
   ⟨[],none,rfl,((AO.refl H).upd hL).upd h8,AM,by rw[AN h9];exact AM,⟨rfl,fun j w wd e=>by simp at e,fun w hw=>by cases hw⟩,Ae _⟩ (fun i σ H' _ ⟨_,_,_,_,h,_⟩=>AL.of h) ?_ ?_
  ·rintro i x σ H' hx ⟨ws,v3,rfl,sm,h5,h0,pw,wl⟩;rw[Az] at hx
   cases ep:(Txt.split z " ")[i]?with
   |none=>rw[ep] at hx;cases hx
   |some pc=>
   rw[ep] at hx;obtain rfl:V.str pc=x:=Ag hx;have hi:i<(Txt.split z " ").length:=(BY.mp ep).1;have s0:=fL z pc (CA ep);have h4:pc.length<=sizeLine:=by rw[A8];lia
   have li:(inner pc).length<=100000:=by have:=Oy pc (some 1) (some (-1));unfold inner;lia
   have e7:((Txt.split z " ").take (i+1)).filterMap (D5 n.names)=((Txt.split z " ").take i).filterMap (D5 n.names)++(D5 n.names pc).toList:=by rw[C6,ep,Q3];show _++[pc].filterMap _=_;cases e:D5 n.names pc<;>simp[e]
   have e4:(ws.map V.ref).length<sizeLine:=by rw[AJ,A8];lia
   have e6:∀(wd:Wd)(es:List V)(H2:Hp)(w:OK),D5 n.names pc=some wd->es=wd.vq->AO H' H2->H2 w=none->∃(h6:List OK)(v3:Option V),([some (V.ref a),some (.str z),some (.ref L),some (.str pc)]:St)=[some (.ref a),some (.str z),some (.ref L),v3]/\AO H (upd (upd H2 w (.lst es)) L (.lst (ws.map V.ref++[V.ref w])))/\
    (upd (upd H2 w (.lst es)) L (.lst (ws.map V.ref++[V.ref w]))) D0=some (.lst ((Txt.split z " ").map V.str))/\(upd (upd H2 w (.lst es)) L (.lst (ws.map V.ref++[V.ref w]))) L=some (.lst (h6.map V.ref))/\
    IJ H (upd (upd H2 w (.lst es)) L (.lst (ws.map V.ref++[V.ref w]))) h6 (((Txt.split z " ").take (i+1)).filterMap (D5 n.names))/\h6.length<=i+1:=by
    rintro wd es H2 w e rfl s2 hw;have e1:H w=none:=(sm.trans s2).free hw;refine⟨ws++[w],_,rfl,((sm.trans s2).upd e1).upd hL,?_,by rw[AM,BF];rfl,?_,by rw[An,Cm];lia⟩
    ·rw[AN h9.symm,AN (A7 (s2 _ _ h5) hw)];exact s2 _ _ h5
    ·rw[e7,e];exact(pw.ext s2).snoc hw e1 (s2 _ _ h0)
   refine eS (fun H2=>AO H' H2/\Hq pc=false) ?_ ?_
   ·rintro H2 ⟨s2,e3⟩;refine⟨_,rfl,rfl,_,rfl,?_⟩;by_cases e0:pc=""
    ·refine EN (by rw[e0]) ?_;have er:D5 n.names pc=none:=by unfold D5;rw[e3,AF (by decide),AG e0]
     exact⟨ws,_,rfl,sm.trans s2,s2 _ _ h5,s2 _ _ h0,by rw[e7,er];show IJ _ _ _ (_++[]);rw[Cp];exact pw.ext s2,by lia⟩
    ·refine HD (fun z=>e0 (V.str.inj z)) ⟨_,rfl,.inl ⟨rfl,_,AL.of (s2 _ _ h0)⟩,_,rfl,_,rfl,by exact z_0,fun w hw=>⟨L,_,.ref w,rfl,rfl,(Af hw) _ _ (s2 _ _ h0),e4,?_⟩⟩;have er:D5 n.names pc=some ⟨false,pc,-1⟩:=by unfold D5;rw[e3,AF (by decide),AF e0]
     exact e6 _ _ H2 w er rfl s2 hw
   ·intro hG;refine⟨_,rfl,_,rfl,pc,rfl,h4,rfl,_,rfl,?_⟩;by_cases h1:V.str (Txt.slice pc none (some 1))=V.str "["
    ·refine Bp h1 ⟨_,rfl,_,rfl,_,rfl,pc,rfl,h4,rfl,_,rfl,?_⟩;by_cases h2:V.str (Txt.slice pc (some (-1)) none)=V.str "]"
     ·refine Bp h2 ⟨_,rfl,_,rfl,_,rfl,_,rfl,pc,rfl,h4,inner pc,rfl,li,fun H2 s2=>⟨_,rfl,?_⟩⟩
      cases h3:DI (inner pc) with
      |false=>exact BK (hG H2 ⟨s2,by unfold Hq;rw[h3,LB,LB]⟩)
      |true=>
       have hp:Hq pc=true:=by unfold Hq;rw[h3,Bb h1,Bb h2];rfl
       have h7:=nk.ext (sm.trans s2);have dg:=BW.kq (k:=.inr (inner pc)) h7.hn;rw[Ec Ef] at dg;refine Bk ⟨_,rfl,.inl ⟨rfl,_,AL.of (s2 _ _ h0)⟩,_,rfl,_,rfl,_,rfl,_,rfl,pc,rfl,h4,_,rfl,a,_,rfl,E2 h7.ha,an,rfl,.inl ⟨_,.inl h7.hn⟩,_,rfl,_,rfl,_,rfl,_,rfl,pc,rfl,h4,_,rfl,_,dg,by exact z_0,fun w hw=>⟨L,_,.ref w,rfl,rfl,(Af hw) _ _ (s2 _ _ h0),e4,?_⟩⟩;have er:D5 n.names pc=some ⟨true,inner pc,(AH n.names (inner pc)).getD (-1)⟩:=by unfold D5;rw[AG hp]
       refine e6 _ _ H2 w er ?_ s2 hw;show[V.str "to",V.str (inner pc),((AH n.names (inner pc)).map V.int).getD (V.int (-1))]=[V.str "to",V.str (inner pc),V.int ((AH n.names (inner pc)).getD (-1))];cases AH n.names (inner pc)<;>rfl
     ·exact B1 h2 (BK (hG _ ⟨AO.refl _,by unfold Hq;rw[BN h2,Mf,LB]⟩))
    ·exact B1 h1 (BK (hG _ ⟨AO.refl _,by unfold Hq;rw[BN h1,Mf]⟩))
  ·rintro σ H' ⟨ws,v3,rfl,sm,h5,h0,pw,wl⟩;rw[AJ,CT] at pw;exact⟨_,rfl,q L ws H' sm hL h0 pw⟩
noncomputable def nameOf(names:List (Str×Int))(no:Int):Str:=((names.find? fun p=>decide (p.2=no)).map (·.1)).getD ""
def Sf{α β γ:Type}[DecidableEq α]{R:(α×β)->(α×γ)->Prop}(hR:∀t p,R t p->t.1=p.1)(k:α):∀(l:List (α×β))(m:List (α×γ)),l.length=m.length->(∀(i:Nat) t p,l[i]? =some t->m[i]? =some p->R t p)->
 (AQ l k).length=(AQ m k).length/\∀(i:Nat) t p,(AQ l k)[i]? =some t->(AQ m k)[i]? =some p->R t p
 |[],[],_,_=>⟨rfl,fun i t p e=>by simp[AQ] at e⟩
 |t0::l,p0::m,hl,h=>by
  have h0:=h 0 t0 p0 rfl rfl;obtain⟨e1,e2⟩:=Sf hR k l m (by simpa using hl) fun i t p a b=>h (i+1) t p (by simpa using a) (by simpa using b);have ek:=hR _ _ h0;by_cases c:t0.1=k
  ·have d1:AQ (t0::l) k=AQ l k:=by unfold AQ;rw[FV];simp[c]
   have d2:AQ (p0::m) k=AQ m k:=by unfold AQ;rw[FV];simp[<-ek,c]
   rw[d1,d2];exact⟨e1,e2⟩
  ·have d1:AQ (t0::l) k=t0::AQ l k:=by unfold AQ;rw[Et];simp[c]
   have d2:AQ (p0::m) k=p0::AQ m k:=by unfold AQ;rw[Et];simp[<-ek,c]
   rw[d1,d2];refine⟨by rw[CG,CG,e1],fun i t p a b=>?_⟩
   cases i with
   |zero=>
    have a':t0=t:=by simpa using a
    have b':p0=p:=by simpa using b
    rw[<-a',<-b'];exact h0
   |succ i=>exact e2 i t p (by simpa using a) (by simpa using b)
 |[],_::_,hl,_=>by cases hl
 |_::_,[],hl,_=>by cases hl
def C0.P2{tx:List (Int×OK×List OK)}{n:Nk}(h:C0 H0 H a an at_ tx n)(k:Int):C0 H0 (upd H at_ (.dK (CN (AQ tx k)))) a an at_ (AQ tx k) {n with texts:=AQ n.texts k}:=by obtain⟨e1,e2⟩:=Sf (R:=QH (upd H at_ (.dK (CN (AQ tx k))))) (fun t p r=>r.1) k tx n.texts h.len (h.tab h.ht);exact⟨h.same.upd h.ft,by rw[AN h.ap.xz];exact h.ha,by rw[AN h.ap.yz];exact h.hn,AM,e1,e2,h.fa,h.fn,h.ft,fun t ht=>h.fw t (Gg.mp ht).1,h.ap⟩
def GC{α β:Type}[DecidableEq α]{k:α}{v:β}:∀{l:List (α×β)},AH l k=some v->∃i:Nat,l[i]? =some (k,v)
 |[],h=>by cases h
 |p::l,h=>by
  unfold AH at h;rw[C7] at h;by_cases e:p.1=k
  ·rw[Bb e] at h;have hv:p.2=v:=Ag h;exact⟨0,by rw[<-e,<-hv];rfl⟩
  ·rw[BN e] at h;obtain⟨i,hi⟩:=GC (l:=l) h;exact⟨i+1,by simpa using hi⟩
def C0.find{tx:List (Int×OK×List OK)}{n:Nk}(h:C0 H0 H a an at_ tx n)(Ce:(n.texts.map (·.1)).Nodup){k:Int}{CQ:List Wd}(hk:AH n.texts k=some CQ):
 ∃(l:OK)(ws:List OK),AH tx k=some (l,ws)/\H l=some (.lst (ws.map V.ref))/\ws.length=CQ.length/\(∀(j:Nat) w wd,ws[j]? =some w->CQ[j]? =some wd->H w=some (.lst wd.vq))/\∀w∈ws,H0 w=none:=by
 obtain⟨i,hi⟩:=GC hk;have hl:i<tx.length:=by rw[h.len];exact(BY.mp hi).1
 have et:tx[i]? =some tx[i]:=Ap hl;generalize tx[i]=t at et;obtain⟨q1,q2,q3,q4⟩:=h.Eo i t _ et hi;obtain⟨k',l,ws⟩:=t;have h0:k'=k:=q1;subst h0;exact⟨l,ws,JR (by rw[h.keys];exact Ce) et,q2,q3,q4,h.fw _ (CA et)⟩
def EG{α β:Type}[DecidableEq α]{k j:α}(hne:j≠k):∀l:List (α×β),AH (AQ l k) j=AH l j
 |[]=>rfl
 |p::l=>by
  have ih:=EG hne l;by_cases c:p.1=k
  ·have d1:AQ (p::l) k=AQ l k:=by unfold AQ;rw[FV];simp[c]
   rw[d1,ih];unfold AH;rw[C7,BN (fun z=>hne (z.symm.trans c))]
  ·have d1:AQ (p::l) k=p::AQ l k:=by unfold AQ;rw[Et];simp[c]
   rw[d1];unfold AH at ih⊢;rw[C7,C7]
   cases decide (p.1=j) with
   |true=>rfl
   |false=>exact ih
def DP{α:Type}[DecidableEq α]{k:α}{l:List (α×β)}(h:(l.map (·.1)).Nodup):((AQ l k).map (·.1)).Nodup:=by unfold AQ;exact h.sublist (List.filter_sublist.map _)
def XD{α:Type}[DecidableEq α]{k:α}{v w:β}{l:List (α×β)}(h:AH l k=some w):(AW l k v).map (·.1)=l.map (·.1):=by
 unfold AW;obtain⟨i,hi⟩:=GC h;rw[AG (IT.mpr ⟨_,CA hi,Bb rfl⟩),Bo];refine Ew fun p _=>?_;show(if p.1=k then(p.1,v) else p).1=p.1;by_cases c:p.1=k
 ·rw[AG c]
 ·rw[AF c]
def Nk.joined(n:Nk)(no:Int)(other:Str)(gone:Int)(w1 w2:List Wd):Nk:=({n with names:=AQ n.names other,texts:=AW (AQ n.texts gone) no (w1++w2)}:Nk).turned gone "" no
def Wg:Sp:=fun vs H Q _=>∃(a:OK)(no:Int)(h0:Str)(H0:Hp)(n:Nk)(h1:Int)(w1 w2:List Wd),vs=[.ref a,.int no,.str h0]/\Cy H0 H a n/\Fits n/\AH n.names h0=some h1/\AH n.texts no=some w1/\AH n.texts h1=some w2/\no≠h1/\(w1++w2).length<=100000/\
 ∀H',Cy H0 H' a (n.joined no h0 h1 w1 w2)->Q (.int ((n.joined no h0 h1 w1 w2).led no)) H'
def Fits.map{n:Nk}{g:Wd->Wd}(h:Fits n):Fits (n.Iq g):=by
 have ek:(n.Iq g).texts.map (·.1)=n.texts.map (·.1):=by show(n.texts.map _).map _=_;rw[Bo];rfl
 refine⟨h.Ct,by rw[ek];exact h.Ce,h.names,?_,fun p hp=>?_⟩
 ·show(n.texts.map _).length<=1000;rw[AJ];exact h.texts
 ·obtain⟨q,hq,e⟩:=BA.mp (show p∈n.texts.map _ from hp);rw[<-e];show(q.2.map g).length<=_;rw[AJ];exact h.words q hq
variable{no:Int}
def Fits.join{n:Nk}{gone:Int}{other:Str}{w1 w2:List Wd}(h:Fits n)(h1:AH n.texts no=some w1)(hne:no≠gone)(hl:(w1++w2).length<=100000):Fits {n with names:=AQ n.names other,texts:=AW (AQ n.texts gone) no (w1++w2)}:=by
 have hg:AH (AQ n.texts gone) no=some w1:=by rw[EG hne];exact h1
 refine⟨DP h.Ct,?_,BJ (EY _ _) h.names,?_,fun p hp=>?_⟩
 ·show((AW (AQ n.texts gone) no (w1++w2)).map (·.1)).Nodup;rw[XD hg];exact DP h.Ce
 ·show(AW (AQ n.texts gone) no (w1++w2)).length<=1000;have:=BD List.length (XD (v:=w1++w2) hg);rw[AJ,AJ] at this;rw[this];exact BJ (EY _ _) h.texts
 ·have h0:p∈AW (AQ n.texts gone) no (w1++w2):=hp;unfold AW at h0;by_cases c:((AQ n.texts gone).any fun p=>decide (p.1=no))=true
  ·rw[AG c] at h0;obtain⟨q,hq,e⟩:=BA.mp h0;by_cases d:q.1=no
   ·rw[AG d] at e;rw[<-e];exact hl
   ·rw[AF d] at e;rw[<-e];exact h.words q (Gg.mp hq).1
  ·rw[AF c] at h0;rcases BS.mp h0 with z|z
   ·exact h.words p (Gg.mp z).1
   ·rw[BR.mp z];exact hl
def Wt:A9 ["_law_nook","_law_number","_law_other","_law_gone"] ["_law_nook","_law_number","_law_other"] (Aq Sk):=by left
def fh{fTu fLe:OK}{fdTu fdLe:qk}(F:Ak K "_law_joined" "_law_joined" Sk f fd)(O:Own mg)
 (FTu:Ak K "_law_turned" "_law_turned" NS fTu fdTu)(bTu:Binds K fdTu ["_law_nook","_law_number","_law_name","_law_other"] [])(mTu:mg "_law_turned" =some (.ref fTu))
 (FLe:Ak K "_law_led" "_law_led" N5 fLe fdLe)(bLe:Binds K fdLe ["_law_nook","_law_number"] [])(mLe:mg "_law_led" =some (.ref fLe)):AY P w K mg base Aj 2 f fd ["_law_nook","_law_number","_law_other"] Wg:=by
 have r6:AY P w K mg base Aj 1 fTu fdTu ["_law_nook","_law_number","_law_name","_law_other"] SV:=WI FTu O;have r7:AY P w K mg base Aj 1 fLe fdLe ["_law_nook","_law_number"] Th:=Y8 FLe O;refine F.ok Wt ?_ ?_
 ·rintro _ _ _ _ ⟨_,_,_,_,_,_,_,_,rfl,_⟩;rfl
 ·rintro _ A _ s H _ Q E hr ⟨a,no,h4,H0,n,h0,w1,w2,rfl,⟨an,h7,tx,nk⟩,e8,r4,s7,s9,r1,e3,q⟩;have h9:=Cq hr;refine⟨_,(AR (Av (i:=3) Wt.nd rfl (Aa rfl) (JL (CY h9 (pv 0)) (pv 2) ⟨rfl,rfl,rfl,rfl⟩)) (AR (Ee h9 (CY h9 (pv 0)) (pv 1) (Ah KW (D1 h9 (CY h9 (pv 0)) (pv 1) (fun _ _=>rfl)) (JL (CY h9 (pv 0)) (pv 3) ⟨rfl,rfl,rfl,rfl⟩)) rfl) (AR (Bf (Ca r6 hr rfl mTu FTu.kp bTu .nil BH (AB (pv 0) (AB (pv 3) (AB AZ (AB (pv 1) AI)))))) (AU (As (Ca r7 hr rfl mLe FLe.kp bLe .nil BH (AB (pv 0) (AB (pv 1) AI)))))))),?_⟩;have v1:BP (GZ n.names) (.inr h4)=some (.int h0):=by rw[Ec Ef,r4];rfl
  refine⟨_,rfl,a,_,rfl,E2 nk.ha,an,rfl,.inl ⟨_,.inl nk.hn⟩,_,rfl,_,.inr h4,_,nk.hn,rfl,v1,?_⟩;rw[KI Ef];have h5:=nk.putN (AQ n.names h4);generalize upd H an (.dK (GZ (AQ n.names h4)))=H1 at h5;obtain⟨l1,h8,g1,r3,EV,r5,s1⟩:=h5.find (show(n.texts.map (·.1)).Nodup from e8.Ce) s7;obtain⟨l2,e0,g2,r2,Lr,s2,s0⟩:=h5.find (show(n.texts.map (·.1)).Nodup from e8.Ce) s9;have d1:BW H1 h7 (.int no) (some (.ref l1)):=by have:=BW.kq (k:=.inl no) h5.ht;rw[Ec E5,g1] at this;exact this
  have v2:BP (CN tx) (.inl h0)=some (.ref l2):=by rw[Ec E5,g2];rfl
  refine⟨_,rfl,a,_,rfl,Gk h5.ha,_,rfl,h7,_,rfl,d1,_,rfl,a,_,rfl,Gk h5.ha,h7,rfl,.inl ⟨_,.inl h5.ht⟩,_,rfl,_,.inl h0,_,h5.ht,rfl,v2,?_⟩;rw[KI E5];have s5:=h5.P2 h0;have keep:∀b xs,H1 b=some (.lst xs)->(upd H1 h7 (.dK (CN (AQ tx h0)))) b=some (.lst xs):=fun b xs e=>by rw[AN (CH e h5.ht (by intro z;cases z))];exact e
  have e5:=keep _ _ r3;have e4:=keep _ _ r2;have e7:=fun j w wd (e1:h8[j]? =some w)(e2:w1[j]? =some wd)=>keep _ _ (r5 j w wd e1 e2);have h6:=fun j w wd (e1:e0[j]? =some w)(e2:w2[j]? =some wd)=>keep _ _ (s2 j w wd e1 e2);generalize upd H1 h7 (.dK (CN (AQ tx h0)))=H2 at s5 e5 e4 e7 h6;rw[An] at e3;refine⟨l1,l2,_,_,rfl,rfl,e5,e4,by rw[AJ,AJ,A8];lia,fun l hl=>?_⟩;have s3:AO H2 (upd H2 l (.lst (h8.map V.ref++e0.map V.ref))):=Af hl;have e9:=s5.ext s3;have r0:(CN (AQ tx h0)).length<sizeLine:=by
   show((AQ tx h0).map _).length<_;have h1:=EY (fun p:Int×OK×List OK=>decide (p.1≠h0)) tx;have h2:=e8.texts;have h3:=nk.len;rw[AJ,A8];show(tx.filter _).length<_
   lia
  have dp:=DW.kq (k:=.inl no) (v:=.ref l) e9.ht r0;have e2:putK (CN (AQ tx h0)) (.inl no) (.ref l)=CN (AW (AQ tx h0) no (l,h8++e0)):=JG (g:=fun p:OK×List OK=>V.ref p.1) E5 no (l,h8++e0) (AQ tx h0);rw[e2] at dp;refine⟨_,rfl,a,_,rfl,Gk e9.ha,_,rfl,h7,_,rfl,dp,?_⟩;have s8:=e9.N1 no (l:=l) (ws:=h8++e0) (CQ:=w1++w2) (by rw[AM,BF]) (by rw[An,An,EV,Lr]) (fun j w wd e1 e2=>?_) (fun w hw=>(BS.mp hw).elim (s1 w) (s0 w))
  ·have e6:Fits {n with names:=AQ n.names h4,texts:=AW (AQ n.texts h0) no (w1++w2)}:=e8.join s7 r1 (by rw[An];exact e3);refine⟨_,rfl,_,rfl,_,rfl,a,h0,"",no,H0,_,rfl,⟨an,h7,_,s8⟩,e6,fun H5 s4=>?_⟩;exact⟨_,rfl,_,rfl,a,no,H0,_,rfl,s4,e6.map,fun H6 s6=>q H6 (let⟨x,y,z,nk⟩:=s4;⟨x,y,z,nk.ext s6⟩)⟩
  ·by_cases hj:j<h8.length
   ·rw[C2 hj] at e1;rw[C2 (by lia)] at e2;exact s3 _ _ (e7 j w wd e1 e2)
   ·rw[Cj (by lia)] at e1;rw[Cj (by lia),<-EV] at e2;exact s3 _ _ (h6 _ w wd e1 e2)
def cU(hu:X.A.units<qr):Br X (qg .Eq) (fun x y H Q=>∃a b xs,x=.ref a/\y=.ref b/\AS [] H a xs/\AS [] H b []/\Q (.bl xs.isEmpty) H):=by intro h3 s σ H x y v u Q I rx ry h;obtain⟨a,b,xs,rfl,rfl,ha,hb,q⟩:=h;cases rx;cases ry;obtain⟨h5,r,pl,hz⟩:=I.tuple (Iu ha);obtain⟨h4,r2,h0,h6⟩:=I.tuple (Iu hb);cases r2;refine SeqAt.eq_tupleAt (e:=fun _=>true) pl h0 hu (fun j h1 h2=>absurd h2 (by simp)) ⟨.bl xs.isEmpty,H,I,?_,q⟩;cases r<;>rfl
def Bi(r:Rep H (.str z) v):v=.str z:=by cases r;rfl
def ja{z:Int}(r:Rep H (.int z) v):v=.int z:=by cases r;rfl
def By(r:Rep H (.tup ds) v):∃a xs,v=.ref a/\H a=some (.tup xs)/\Ab H ds xs:=by
 cases r with
 |tup h hl rr=>exact⟨_,_,rfl,h,hl,rr⟩
def Hl{x y:Dt}(r:Ab H [x,y] xs):∃u v,xs=[u,v]/\Rep H x u/\Rep H y v:=by exact Lr (C:=fun xs=>Ab H [x,y] xs->∃u v,xs=[u,v]/\Rep H x u/\Rep H y v) (fun u v r=>⟨u,v,rfl,r.2 0 x u rfl rfl,r.2 1 y v rfl rfl⟩) r.1.symm r
def EO{x y z:Dt}(r:Ab H [x,y,z] xs):∃u v w,xs=[u,v,w]/\Rep H x u/\Rep H y v/\Rep H z w:=by exact T7 (C:=fun xs=>Ab H [x,y,z] xs->∃u v w,xs=[u,v,w]/\Rep H x u/\Rep H y v/\Rep H z w) (fun u v w r=>⟨u,v,w,rfl,r.2 0 x u rfl rfl,r.2 1 y v rfl rfl,r.2 2 z w rfl rfl⟩) r.1.symm r
def P4{x y z t:Dt}(r:Ab H [x,y,z,t] xs):∃u v w q,xs=[u,v,w,q]/\Rep H x u/\Rep H y v/\Rep H z w/\Rep H t q:=by exact Z9 (C:=fun xs=>Ab H [x,y,z,t] xs->∃u v w q,xs=[u,v,w,q]/\Rep H x u/\Rep H y v/\Rep H z w/\Rep H t q) (fun u v w q r=>⟨u,v,w,q,rfl,r.2 0 x u rfl rfl,r.2 1 y v rfl rfl,r.2 2 z w rfl rfl,r.2 3 t q rfl rfl⟩) r.1.symm r
def BU(n:Nk):Aw->Str
 |.find ws _=>if ws=[] then "no words" else ""
 |.back _=>""
 |.write nm _=>if DI nm=true then "" else "no name"
 |.rename nm o=>if AH n.names nm=none then "no page" else if DI o=false then "no name" else if AH n.names o=none then "" else "taken"
 |.join nm o=>if AH n.names nm=none then "no page" else if AH n.names o=none then "no page" else if nm=o then "same page" else ""
 |.cut nm p o=>match AH n.names nm with
  |none=>"no page"
  |some no=>if DI o=false then "no name" else if AH n.names o=none then(if p<0 then "no place" else if((AH n.texts no).getD []).length<p then "no place" else "") else "taken"
 |.drop nm=>if AH n.names nm=none then "no page" else ""
 |.text nm=>if AH n.names nm=none then "no page" else ""
def Wj:Sp:=fun vs H Q _=>∃(a:OK)(d:V)(dd:Aw)(H0:Hp)(n:Nk),vs=[.ref a,d]/\Cy H0 H a n/\Fits n/\Rep H dd.dt d/\dd.Good/\(∀nm no,AH n.names nm=some no->∃ws,AH n.texts no=some ws)/\∀H',AO H H'->Q (.str (BU n dd)) H'
variable{names:List (Str×Int)}
def EI(h:H an=some (.dK (GZ names)))(z:Str):BW H an (.str z) ((AH names z).map V.int):=by have:=BW.kq (k:=.inr z) h;rw[Ec Ef] at this;exact this
section
variable{y:Str}{a rest:TS}{t:TT}{D:Ends}
def Bj(hx:σ[i]? =some (some (.str x)))(ne:x≠y)(h:rest D σ H):Jj (HF (Kg (FK L8 (EU i) (tC (.str y)))) a Kd) rest D σ H:=⟨_,hx,rfl,_,rfl,B1 (fun z=>ne (V.str.inj z)) h⟩
def Jm(hx:σ[i]? =some (some (.str y)))(h:a {D with nx:=rest D} σ H):Jj (HF (Kg (FK L8 (EU i) (tC (.str y)))) a Kd) rest D σ H:=⟨_,hx,rfl,_,rfl,Bp rfl h⟩
def Di(hx:σ[i]? =some (some (.str x)))(ne:x≠y)(h:rest D σ H):Jj (HF (UO (Kg (FK L8 (EU i) (tC (.str y)))) t) a Kd) rest D σ H:=⟨_,hx,rfl,_,rfl,B1 (fun z=>ne (V.str.inj z)) (BK h)⟩
def qM(hx:σ[i]? =some (some (.str y)))(h:rest D σ H):Jj (HF (UO (Kg (FK bG (EU i) (tC (.str y)))) t) a Kd) rest D σ H:=⟨_,hx,rfl,_,rfl,EN rfl (BK h)⟩
end
variable{d:OK}
section
variable{y:Str}{a rest:TS}{t:TT}{D:Ends}
def IC{vs:List V}(hx:σ[i]? =some (some (.ref d)))(hd:H d=some (.tup (.str x::vs)))(ne:x≠y)(h:rest D σ H):Jj (HF (Kg (FK L8 (FK (Lp []) (EU i) (tC (.int 0))) (tC (.str y)))) a Kd) rest D σ H:=⟨_,hx,d,_,_,.str x,rfl,rfl,AS.of hd,Bh (j:=0) rfl,rfl,_,rfl,B1 (fun z=>ne (V.str.inj z)) h⟩
def Qh{vs:List V}(hx:σ[i]? =some (some (.ref d)))(hd:H d=some (.tup (.str y::vs)))(h:a {D with nx:=rest D} σ H):Jj (HF (Kg (FK L8 (FK (Lp []) (EU i) (tC (.int 0))) (tC (.str y)))) a Kd) rest D σ H:=⟨_,hx,d,_,_,.str y,rfl,rfl,AS.of hd,Bh (j:=0) rfl,rfl,_,rfl,Bp rfl h⟩
end
def SU:A9 ["_law_nook","_law_deed","_law_names","_law_word"] ["_law_nook","_law_deed"] (Aq S2):=by left
def eK{fIs:OK}{fdIs:qk}(F:Ak K "_law_barred" "_law_barred" S2 f fd)(O:Own mg)(FIs:Ak K "_law_is_name" "_law_is_name" NU fIs fdIs)(bIs:Binds K fdIs ["_law_text"] [])(mIs:mg "_law_is_name" =some (.ref fIs)):
 AY P w K mg base Aj 2 f fd ["_law_nook","_law_deed"] Wj:=by
 have h7:AY P w K mg base Aj 1 fIs fdIs ["_law_text"] SH:=WV FIs;refine F.ok SU ?_ ?_
 ·rintro _ _ _ _ ⟨_,_,_,_,_,rfl,_⟩;rfl
 ·rintro _ A _ s H _ Q E hr ⟨a,dv,dd,H0,n,rfl,⟨an,h6,tx,nk⟩,h9,rd,gd,BM,q⟩;have hu:=hr.TC;have h2:=Cq hr;refine⟨_,(AR (Av (i:=2) SU.nd rfl (Aa rfl) (CY h2 (pv 0))) (AR (Av (i:=3) SU.nd rfl (Aa rfl) (A3 (pv 1))) (AR (A0 (Ar Ba (pv 3) AZ (Am _))
   (AU (As (Bz Cr (CO (AB AZ (AB AZ AI))) (Gn M0 rfl O.int Lc (AB (Ia (cU hu) (A3 (pv 1)) (Bs AI) (Am _)) AI)) (fun _ _=>rfl))))
   BE) (AR (A0 (Ar Ba (pv 3) AZ (Am _))
   (AU (As AZ))
   BE) (AR (A0 (PW.pt (Eh (Ar GH (pv 3) AZ (Am _)) (GB (JU (PB h2 (A3 (pv 1)) (pv 2))))))
   (AU (As AZ))
   BE) (AR (A0 (PW.pt (Eh (Ar Ba (pv 3) AZ (Am _)) (GB (JU (PB h2 (A3 (pv 1)) (pv 2))))))
   (AU (As AZ))
   BE) (AR (A0 (PW.pt (Eh (Ar Ba (pv 3) AZ (Am _)) (GB (JV (Eg (Ca h7 hr rfl mIs FIs.kp bIs .nil BH (AB (A3 (pv 1)) AI)))))))
   (AU (As AZ))
   BE) (AR (A0 (Ar Z5 (pv 3) (CO (AB AZ (AB AZ AI))) rfl)
   (AR (A0 (JV (Eg (Ca h7 hr rfl mIs FIs.kp bIs .nil BH (AB (Bz QU (pv 1) (EL EK AV) (fun _ _=>rfl)) AI))))
   (AU (As AZ))
   BE) (AU (A0 (JU (YV h2 (Bz QU (pv 1) (EL EK AV) (fun _ _=>rfl)) (pv 2)))
   (AU (As AZ))
   BE)))
   BE) (AR (A0 (PW.pt (Eh (Ar Ba (pv 3) AZ (Am _)) (GB (Ar Ba (A3 (pv 1)) (A3 (pv 1)) (Am _)))))
   (AU (As AZ))
   BE) (AR (A0 (PW.pt (Eh (Ar Ba (pv 3) AZ (Am _)) (GB (PW.pt (Ie (Ar Hn (A3 (pv 1)) AV (Am _)) (Ib (Ar QE (A3 (pv 1)) (BZ EM rfl O.len Cu (AB (D1 h2 (CY h2 (pv 0)) (D1 h2 (pv 2) (A3 (pv 1)) (fun _ _=>rfl)) (fun _ _=>rfl)) AI)) (Am _))))))))
   (AU (As AZ))
   BE) (AU (As AZ)))))))))))),?_⟩;refine⟨_,rfl,a,_,rfl,E2 nk.ha,?_⟩;have q0:=q H (AO.refl H)
  cases dd with
  |back o=>obtain⟨d,xs,rfl,hd,rs⟩:=By rd;obtain⟨u,v,rfl,r1,r2⟩:=Hl rs;cases Bi r1;cases Bi r2;refine⟨_,rfl,d,_,_,.str "back",rfl,rfl,AS.of hd,rfl,?_⟩;refine Bj rfl (by left) ?_;exact Jm rfl q0
  |find ws e0=>
   obtain⟨d,xs,rfl,hd,rs⟩:=By rd;obtain⟨u,v,x,rfl,r1,r2,r3⟩:=EO rs;cases Bi r1;obtain⟨t,ys,rfl,ht,ry⟩:=By r2;refine⟨_,rfl,d,_,_,.str "find",rfl,rfl,AS.of hd,rfl,?_⟩;refine⟨_,rfl,rfl,_,rfl,Bp rfl ⟨by exact zv,fun l hl=>?_⟩⟩;have s1:AO H (upd H l (.lst [V.str "",V.str "no words"])):=Af hl;refine⟨_,rfl,d,_,_,.ref t,rfl,rfl,AS.of (s1 _ _ hd),rfl,by exact zy,fun e he=>?_⟩;have s2:=Af (o:=.tup []) he;have h4:=ry.1;rw[AJ] at h4;refine⟨t,e,ys,rfl,rfl,AS.of (s2 _ _ (s1 _ _ ht)),AS.of AM,.inr ⟨_,rfl,l,_,_,.str (BU n (.find ws e0)),rfl,rfl,AL.of (s2 _ _ AM),?_,q _ (s1.trans s2)⟩⟩
   cases ws with
   |nil=>
    cases ys with
    |nil=>rfl
    |cons y ys=>cases h4
   |cons w ws=>
    cases ys with
    |nil=>cases h4
    |cons y ys=>rfl
  |write nm t=>
   obtain⟨d,xs,rfl,hd,rs⟩:=By rd;obtain⟨u,v,x,rfl,r1,r2,r3⟩:=EO rs;cases Bi r1;cases Bi r2;cases Bi r3;refine⟨_,rfl,d,_,_,.str "write",rfl,rfl,AS.of hd,rfl,?_⟩;refine Bj rfl (by left) ?_;refine Bj rfl (by left) ?_;refine qM rfl ?_;refine Di rfl (by left) ?_;refine⟨_,rfl,rfl,_,rfl,Bp rfl ⟨_,rfl,d,_,_,.str nm,rfl,rfl,AS.of hd,rfl,nm,rfl,by have:=gd.1;lia,fun H2 s2=>⟨_,rfl,?_⟩⟩⟩;have q2:=q H2 s2
   cases hn:DI nm with
   |false=>
    have eb:BU n (.write nm t)="no name" :=by show(if DI nm=true then _ else _)=_;rw[hn];rfl
    rw[eb] at q2;exact Bk q2
   |true=>
    have eb:BU n (.write nm t)="" :=by show(if DI nm=true then _ else _)=_;rw[hn];rfl
    refine BK ?_;refine⟨_,rfl,by exact zv,fun l hl=>⟨l,_,rfl,.inl (AL.of AM),rfl,rfl,false,BD V.bl (by left),BK ?_⟩⟩;refine Di rfl (by left) ?_;refine Di rfl (by left) ?_;have q3:=q _ (s2.trans (Af (o:=.lst [V.str "rename",V.str "cut"]) hl));rw[eb] at q3;exact q3
  |drop nm=>
   obtain⟨d,xs,rfl,hd,rs⟩:=By rd;obtain⟨u,v,rfl,r1,r2⟩:=Hl rs;cases Bi r1;cases Bi r2;refine⟨_,rfl,d,_,_,.str "drop",rfl,rfl,AS.of hd,rfl,?_⟩;refine Bj rfl (by left) ?_;refine Bj rfl (by left) ?_;refine⟨_,rfl,rfl,_,rfl,HD (by intro z;exact absurd (V.str.inj z) (by left)) ⟨_,rfl,d,_,_,.str nm,rfl,rfl,AS.of hd,rfl,_,rfl,an,_,rfl,EI nk.hn nm,_,rfl,?_⟩⟩
   cases hg:AH n.names nm with
   |none=>
    have eb:BU n (.drop nm)="no page" :=by unfold BU;simp only[hg,CJ]
    rw[eb] at q0;exact Bk q0
   |some no=>
   refine BK ?_;refine Di rfl (by left) ?_;refine Di rfl (by left) ?_;refine⟨_,rfl,by exact zv,fun l hl=>⟨l,_,rfl,.inl (AL.of AM),rfl,rfl,false,BD V.bl (by left),?_⟩⟩;have s1:AO H (upd H l (.lst [V.str "rename",V.str "cut"])):=Af hl;generalize upd H l (.lst [V.str "rename",V.str "cut"])=H1 at s1⊢;have q1:=q H1 s1;refine BK ?_;refine Di rfl (by left) ?_;refine Di rfl (by left) ?_;have eb:BU n (.drop nm)="" :=by unfold BU;simp only[hg,Bw,reduceCtorEq]
   rw[eb] at q1;exact q1
  |text nm=>
   obtain⟨d,xs,rfl,hd,rs⟩:=By rd;obtain⟨u,v,rfl,r1,r2⟩:=Hl rs;cases Bi r1;cases Bi r2;refine⟨_,rfl,d,_,_,.str "text",rfl,rfl,AS.of hd,rfl,?_⟩;refine Bj rfl (by left) ?_;refine Bj rfl (by left) ?_;refine⟨_,rfl,rfl,_,rfl,HD (by intro z;exact absurd (V.str.inj z) (by left)) ⟨_,rfl,d,_,_,.str nm,rfl,rfl,AS.of hd,rfl,_,rfl,an,_,rfl,EI nk.hn nm,_,rfl,?_⟩⟩
   cases hg:AH n.names nm with
   |none=>
    have eb:BU n (.text nm)="no page" :=by unfold BU;simp only[hg,CJ]
    rw[eb] at q0;exact Bk q0
   |some no=>
   refine BK ?_;refine Di rfl (by left) ?_;refine Di rfl (by left) ?_;refine⟨_,rfl,by exact zv,fun l hl=>⟨l,_,rfl,.inl (AL.of AM),rfl,rfl,false,BD V.bl (by left),?_⟩⟩;have s1:AO H (upd H l (.lst [V.str "rename",V.str "cut"])):=Af hl;generalize upd H l (.lst [V.str "rename",V.str "cut"])=H1 at s1⊢;have q1:=q H1 s1;refine BK ?_;refine Di rfl (by left) ?_;refine Di rfl (by left) ?_;have eb:BU n (.text nm)="" :=by unfold BU;simp only[hg,Bw,reduceCtorEq]
   rw[eb] at q1;exact q1
  |join nm o=>
   obtain⟨d,xs,rfl,hd,rs⟩:=By rd;obtain⟨u,v,x,rfl,r1,r2,r3⟩:=EO rs;cases Bi r1;cases Bi r2;cases Bi r3;refine⟨_,rfl,d,_,_,.str "join",rfl,rfl,AS.of hd,rfl,?_⟩;refine Bj rfl (by left) ?_;refine Bj rfl (by left) ?_;refine⟨_,rfl,rfl,_,rfl,HD (by intro z;exact absurd (V.str.inj z) (by left)) ⟨_,rfl,d,_,_,.str nm,rfl,rfl,AS.of hd,rfl,_,rfl,an,_,rfl,EI nk.hn nm,_,rfl,?_⟩⟩
   cases hg:AH n.names nm with
   |none=>
    have eb:BU n (.join nm o)="no page" :=by unfold BU;simp only[hg,CJ]
    rw[eb] at q0;exact Bk q0
   |some no=>
   refine BK ?_;refine⟨_,rfl,rfl,_,rfl,Bp rfl ⟨_,rfl,d,_,_,.str o,rfl,rfl,AS.of hd,rfl,_,rfl,an,_,rfl,EI nk.hn o,_,rfl,?_⟩⟩
   cases ho:AH n.names o with
   |none=>
    have eb:BU n (.join nm o)="no page" :=by unfold BU;simp only[hg,ho,CJ,Bw,reduceCtorEq]
    rw[eb] at q0;exact Bk q0
   |some h5=>
   refine BK ?_;refine Di rfl (by left) ?_;refine⟨_,rfl,by exact zv,fun l hl=>⟨l,_,rfl,.inl (AL.of AM),rfl,rfl,false,BD V.bl (by left),?_⟩⟩;have s1:AO H (upd H l (.lst [V.str "rename",V.str "cut"])):=Af hl;generalize upd H l (.lst [V.str "rename",V.str "cut"])=H1 at s1⊢;have q1:=q H1 s1;refine BK ?_;refine⟨_,rfl,rfl,_,rfl,Bp rfl ⟨_,rfl,d,_,_,.str nm,rfl,rfl,AS.of (s1 _ _ hd),rfl,_,rfl,d,_,_,.str o,rfl,rfl,AS.of (s1 _ _ hd),rfl,rfl,_,rfl,?_⟩⟩;by_cases he:nm=o
   ·have eb:BU n (.join nm o)="same page" :=by unfold BU;simp only[hg,ho,Bw,reduceCtorEq];rw[AG he]
    rw[eb] at q1;exact Bp (by rw[he]) q1
   ·refine B1 (fun z=>he (V.str.inj z)) ?_;refine Di rfl (by left) ?_;have eb:BU n (.join nm o)="" :=by unfold BU;simp only[hg,ho,Bw,reduceCtorEq];rw[AF he]
    rw[eb] at q1;exact q1
  |rename nm o=>
   obtain⟨d,xs,rfl,hd,rs⟩:=By rd;obtain⟨u,v,x,rfl,r1,r2,r3⟩:=EO rs;cases Bi r1;cases Bi r2;cases Bi r3;refine⟨_,rfl,d,_,_,.str "rename",rfl,rfl,AS.of hd,rfl,?_⟩;refine Bj rfl (by left) ?_;refine Bj rfl (by left) ?_;refine⟨_,rfl,rfl,_,rfl,HD (by intro z;exact absurd (V.str.inj z) (by left)) ⟨_,rfl,d,_,_,.str nm,rfl,rfl,AS.of hd,rfl,_,rfl,an,_,rfl,EI nk.hn nm,_,rfl,?_⟩⟩
   cases hg:AH n.names nm with
   |none=>
    have eb:BU n (.rename nm o)="no page" :=by unfold BU;simp only[hg,CJ]
    rw[eb] at q0;exact Bk q0
   |some no=>
   refine BK ?_;refine Di rfl (by left) ?_;refine Di rfl (by left) ?_;refine⟨_,rfl,by exact zv,fun l hl=>⟨l,_,rfl,.inl (AL.of AM),rfl,rfl,true,BD V.bl (by left),?_⟩⟩;have s1:AO H (upd H l (.lst [V.str "rename",V.str "cut"])):=Af hl;generalize upd H l (.lst [V.str "rename",V.str "cut"])=H1 at s1⊢;have q1:=q H1 s1;refine Bk ⟨_,rfl,_,rfl,d,_,_,.str o,rfl,rfl,AS.of (s1 _ _ hd),rfl,o,rfl,by have:=gd.2;lia,fun H2 s2=>⟨_,rfl,?_⟩⟩;have h0:=s1.trans s2;have q2:=q H2 h0;have h1:=nk.ext h0
   cases hn:DI o with
   |false=>
    have eb:BU n (.rename nm o)="no name" :=by unfold BU;simp only[hg,hn,CJ,Bw,reduceCtorEq]
    rw[eb] at q2;exact Bk q2
   |true=>
   refine BK ⟨_,rfl,_,rfl,d,_,_,.str o,rfl,rfl,AS.of (h0 _ _ hd),rfl,_,rfl,an,_,rfl,EI h1.hn o,_,rfl,?_⟩
   cases ho:AH n.names o with
   |some h5=>
    have eb:BU n (.rename nm o)="taken" :=by unfold BU;simp only[hg,hn,ho,Bw,reduceCtorEq,MR]
    rw[eb] at q2;exact Bk q2
   |none=>
   refine BK ?_;refine Di rfl (by left) ?_;refine Di rfl (by left) ?_;have eb:BU n (.rename nm o)="" :=by unfold BU;simp only[hg,hn,ho,CJ,Bw,reduceCtorEq,MR]
   rw[eb] at q2;exact q2
  |cut nm p o=>
   obtain⟨d,xs,rfl,hd,rs⟩:=By rd;obtain⟨u,v,x,y,rfl,r1,r2,r3,r4⟩:=P4 rs;cases Bi r1;cases Bi r2;cases ja r3;cases Bi r4;refine⟨_,rfl,d,_,_,.str "cut",rfl,rfl,AS.of hd,rfl,?_⟩;refine Bj rfl (by left) ?_;refine Bj rfl (by left) ?_;refine⟨_,rfl,rfl,_,rfl,HD (by intro z;exact absurd (V.str.inj z) (by left)) ⟨_,rfl,d,_,_,.str nm,rfl,rfl,AS.of hd,rfl,_,rfl,an,_,rfl,EI nk.hn nm,_,rfl,?_⟩⟩
   cases hg:AH n.names nm with
   |none=>
    have eb:BU n (.cut nm p o)="no page" :=by unfold BU;simp only[hg,CJ]
    rw[eb] at q0;exact Bk q0
   |some no=>
   refine BK ?_;refine Di rfl (by left) ?_;refine Di rfl (by left) ?_;refine⟨_,rfl,by exact zv,fun l hl=>⟨l,_,rfl,.inl (AL.of AM),rfl,rfl,true,BD V.bl (by left),?_⟩⟩;have s1:AO H (upd H l (.lst [V.str "rename",V.str "cut"])):=Af hl;generalize upd H l (.lst [V.str "rename",V.str "cut"])=H1 at s1⊢;have q1:=q H1 s1;refine Bk ⟨_,rfl,_,rfl,d,_,_,.str o,rfl,rfl,AS.of (s1 _ _ hd),rfl,o,rfl,by have:=gd.2;lia,fun H2 s2=>⟨_,rfl,?_⟩⟩;have h0:=s1.trans s2;have q2:=q H2 h0;have h1:=nk.ext h0
   cases hn:DI o with
   |false=>
    have eb:BU n (.cut nm p o)="no name" :=by unfold BU;simp only[hg,hn,CJ,Bw,reduceCtorEq]
    rw[eb] at q2;exact Bk q2
   |true=>
   refine BK ⟨_,rfl,_,rfl,d,_,_,.str o,rfl,rfl,AS.of (h0 _ _ hd),rfl,_,rfl,an,_,rfl,EI h1.hn o,_,rfl,?_⟩
   cases ho:AH n.names o with
   |some h5=>
    have eb:BU n (.cut nm p o)="taken" :=by unfold BU;simp only[hg,hn,ho,Bw,reduceCtorEq,MR]
    rw[eb] at q2;exact Bk q2
   |none=>
   refine BK ?_;refine Di rfl (by left) ?_;obtain⟨ws,h3⟩:=BM nm no hg;obtain⟨l1,e1,g1,h8,EV,_,_⟩:=h1.find h9.Ce h3;have d1:BW H2 h6 (.int no) (some (.ref l1)):=by have:=BW.kq (k:=.inl no) h1.ht;rw[Ec E5,g1] at this;exact this
   have d2:BW H2 an (.str nm) (some (.int no)):=by have:=EI h1.hn nm;rw[hg] at this;exact this
   refine⟨_,rfl,rfl,_,rfl,Bp rfl ⟨_,rfl,d,_,_,.int p,rfl,rfl,AS.of (h0 _ _ hd),rfl,_,_,rfl,rfl,_,rfl,?_⟩⟩;by_cases hp:p<0
   ·have eb:BU n (.cut nm p o)="no place" :=by unfold BU;simp only[hg,hn,ho,CJ,Bw,reduceCtorEq,MR];rw[AG hp]
    rw[eb] at q2;exact Bp hp (Bk q2)
   ·refine B1 hp ⟨_,rfl,d,_,_,.int p,rfl,rfl,AS.of (h0 _ _ hd),rfl,_,rfl,a,_,rfl,Gk h1.ha,_,rfl,_,rfl,d,_,_,.str nm,rfl,rfl,AS.of (h0 _ _ hd),rfl,an,_,rfl,d2,h6,_,rfl,d1,l1,_,rfl,.inl (AL.of h8),_,_,rfl,rfl,_,rfl,?_⟩;rw[AJ,EV];by_cases hq:(ws.length:Int)<p
    ·have eb:BU n (.cut nm p o)="no place" :=by unfold BU;simp only[hg,hn,ho,h3,CJ,Bw,reduceCtorEq,MR,Option.getD_some];rw[AF hp,AG hq]
     rw[eb] at q2;exact Bp hq q2
    ·have eb:BU n (.cut nm p o)="" :=by unfold BU;simp only[hg,hn,ho,h3,CJ,Bw,reduceCtorEq,MR,Option.getD_some];rw[AF hp,AF hq]
     rw[eb] at q2;exact B1 hq q2
noncomputable def Cf(C:OK)(dd:Option OK)(vs:Array AD):Obj:={cls:=.ref C,dict:=dd,data:=.fields vs}
def Hd(h:qi)(e:OK)(vs:Array AD):Prop:=
 vs[1]? =some .none\/∃T oT ts,vs[1]? =some (.ref T)/\T≠e/\h.get? T=some oT/\oT.data=.fields ts/\ts[3]? =some .none
structure Lv(fs:List OK)(e C:OK)(dd:Option OK)(vs:Array AD)(h h':qi):Prop where
 keep:∀b o,h.get? b=some o->b∉fs->b≠e->(∀T,vs[1]? =some (.ref T)->b≠T)->h'.get? b=some o
 slot:∀b o,h.get? b=some o->b∈fs->∃sl,h'.get? b=some {o with slots:=sl}
 size:h.objs.size<=h'.objs.size
 here:∃T oT ts,h'.get? e=some (Cf C dd (vs.setIfInBounds 1 (.ref T)))/\h.objs.size<=T/\h'.get? T=some oT/\oT.data=.fields ts/\ts[3]? =some .none
def V4{l:List Env}(hl:h.FunFrames base l)(hb:h.get? b=some o)(hd:o.data=.fields vs):b∉Ci l:=fun hm=>by obtain⟨_,u,hu,hn⟩:=hl.mem hm;rw[hb] at hu;cases hu;exact hn vs hd
variable{dd:Option OK}
def Xp{e:OK}{head:AD}{hn:Bool}{Q:Unit->Ya->Prop}
 (hfr:A.frames=some (env::outer))(hl:s.heap.FunFrames base (env::outer))(hf:env.frame=some L)(he:s.heap.get? e=some (Cf C dd vs))(hz:1<vs.size)
 (h:∀h',(∀b o,s.heap.get? b=some o->b∉Ci (env::outer)->b≠e->h'.get? b=some o)->(∀b o,s.heap.get? b=some o->b∈Ci (env::outer)->∃sl,h'.get? b=some {o with slots:=sl})->
  s.heap.objs.size<=h'.objs.size->(∃T oT ts,h'.get? e=some (Cf C dd (vs.setIfInBounds 1 (.ref T)))/\s.heap.objs.size<=T/\h'.get? T=some oT/\oT.data=.fields ts/\ts[3]? =some .none)->Q () {s with heap:=h'}):
 bt M A (do
  let a<-frameOf env;let pl<-entryPlaceOf L hn;let b<-EntryCells.newEntry head a .none (rH L) .none pl
  setField (.ref e) 1 b) (fun _ s'=>bt M A (sZ (.ref e) none) Q E s') E s:=by
 have nf:e∉Ci (env::outer):=V4 hl he rfl;refine AK (wpAny_frameOf_fun hfr hl hf fun h1 q1=>?_);obtain⟨z1,k1,h4⟩:=q1;have e1:h1.get? e=some (Cf C dd vs):=(k1 e nf).trans he;refine AK (wpAny_entryPlaceOf fun pl h5=>?_);unfold EntryCells.newEntry newFields;refine AK (IQ ?_ (h5.sizeOk5 _ _ _ _ _));generalize h3:(([head,Value.ref L,Value.none,rH L,Value.none]++(if pl.isEmpty then List.replicate 6 Value.none else pl)).toArray)=h0;have z3:3<h0.size:=by rw[<-h3,CS,An];simp only[CG,Mb];lia
 have Tn:h1.objs.size≠e:=Fc (A2 e1);have e2:=BC {cls:=.type "traceback",dict:=none,data:=.fields h0} e1;refine Ot e2 rfl hz ?_;have e3:=I9 (Obj.mapFields (·.setIfInBounds 1 (Value.ref h1.objs.size))) e2 rfl;have t3:((h1.push {cls:=.type "traceback",dict:=none,data:=.fields h0}).update e (Obj.mapFields (·.setIfInBounds 1 (Value.ref h1.objs.size)))).get? h1.objs.size=some {cls:=.type "traceback",dict:=none,data:=.fields h0}:=
  (D8 _ _ (DG Tn)).trans (CB h1 rfl);unfold sZ;refine AK (J9 e3 rfl (x:=.ref h1.objs.size) (by simp[hz]) ?_);rw[AG (show(Value.ref h1.objs.size !=Value.none)=true from by simp)];refine Ot t3 rfl z3 (h _ (fun b o hb nb ne=>?_) (fun b o hb mb=>?_) ?_ ⟨h1.objs.size,_,_,?_,Nat.le_of_eq z1.symm,I9 _ t3 rfl,rfl,by simp[z3]⟩)
 ·have h2:=(k1 b nb).trans hb;rw[D8 _ _ (Fc (A2 h2)),D8 _ _ (DG ne)];exact BC _ h2
 ·obtain⟨sl,h2⟩:=h4 b o hb;refine⟨sl,?_⟩;rw[D8 _ _ (Fc (A2 h2)),D8 _ _ (show e≠b from fun z=>nf (by rw[z];exact mb))];exact BC _ h2
 ·rw[OW,OW,Gh,z1];exact Eb _
 ·rw[D8 _ _ Tn];exact e3
def Yl{e:OK}{Q:Unit->Ya->Prop}
 (hfr:A.frames=some (env::outer))(hl:s.heap.FunFrames base (env::outer))(hf:env.frame=some L)(he:s.heap.get? e=some (Cf C dd vs))(hz:1<vs.size)(hh:Hd s.heap e vs)
 (h:∀h',Lv (Ci (env::outer)) e C dd vs s.heap h'->Q () {s with heap:=h'}):
 bt M A (noteFrame (.ref e) env) (fun _ s'=>bt M A (sZ (.ref e) none) Q E s') E s:=by
 unfold noteFrame;simp only[hf];rcases hh with h1|⟨T,oT,ts,h1,nT,hT,dT,h3⟩
 ·refine AK (J9 he rfl h1 ?_);rw[AF (by decide)];exact Xp hfr hl hf he hz fun h' a b c d=>h h' ⟨fun x o q n1 n2 _=>a x o q n1 n2,b,c,d⟩
 ·refine AK (J9 he rfl h1 ?_);rw[AG (show(Value.ref T !=Value.none)=true from by simp)];refine AK (J9 hT dT h3 ?_);rw[AF (show¬((Value.none==rH L)=true) from by simp[rH])];refine AK (Ot hT dT (Array.getElem?_eq_some_iff.mp h3).1 ?_);have ot:∀b,b≠T->(s.heap.update T (Obj.mapFields (·.setIfInBounds 3 Value.none))).get? b=s.heap.get? b:=fun b hb=>D8 _ _ (DG hb);have h0:T∉Ci (env::outer):=V4 hl hT dT;refine Xp (s:={s with heap:=s.heap.update T (Obj.mapFields (·.setIfInBounds 3 Value.none))}) hfr
   (hl.of_keeps fun b o hb h2=>⟨o,(ot b fun z=>h2 ts (by subst z;rw[hT] at hb;cases hb;exact dT)).trans hb,rfl⟩) hf ((ot e (DG nT)).trans he) hz fun h' a b c d=>h h' ⟨fun x o q n1 n2 n3=>a x o ((ot x (n3 T h1)).trans q) n1 n2,fun x o q m=>b x o ((ot x fun z=>h0 (z▸m)).trans q) m,?_,?_⟩
  ·have:=c;rw[OW] at this;exact this
  ·have:=d;rw[OW] at this;exact this
def lH{e:OK}{T:OK}{oT:Obj}{ts:Array AD}{Q:Unit->Ya->Prop}
 (he:s.heap.get? e=some (Cf C dd vs))(h1:vs[1]? =some (.ref T))(hT:s.heap.get? T=some oT)(dT:oT.data=.fields ts)(h3:ts[3]? =some .none)
 (h:∀h',(∀b,b≠T->h'.get? b=s.heap.get? b)->(∃o,h'.get? T=some o)->h'.objs.size=s.heap.objs.size->Q () {s with heap:=h'}):bt M A (sZ (.ref e) none) Q E s:=by
 unfold sZ;refine AK (J9 he rfl h1 ?_);rw[AG (show(Value.ref T !=Value.none)=true from by simp)];exact Ot hT dT (Array.getElem?_eq_some_iff.mp h3).1 (h _ (fun b hb=>D8 _ _ (DG hb)) ⟨_,I9 _ hT (Obj.isFreed_of_fields (Obj.data_mapFields dT _))⟩ (OW ..))
def GJ(h:qi)(C:OK)(bm:List AD)(N:OK):Prop:=
 ∃nm q bs h0 sn sub ab h1 dd k0 k1 k2 k3 k5,h.get? C=some (rW nm q C N bs bm h0 sn sub ab h1 dd k0 k1 k2 k3 k5 "Exception.__new__")
variable{bm:List AD}
def GJ.keeps{N:OK}(x:GJ h C bm N)(k:∀b o,h.get? b=some o->h'.get? b=some o):GJ h' C bm N:=by obtain⟨a1,a2,a3,a4,a5,a6,a7,a8,a9,b1,b2,b3,b4,b5,hC⟩:=x;exact⟨a1,a2,a3,a4,a5,a6,a7,a8,a9,b1,b2,b3,b4,b5,k _ _ hC⟩
structure Ii(bm:List AD):Prop where
 exc:bm.contains (.type "Exception")=true
 base:bm.contains (.type "BaseException")=true
 Jn:bm.contains (.type "AttributeError")=false
 aX:bm.contains (.type "NameError")=false
section
variable{g:Array rj}{d:Drawn}{t:Nat}{N:OK}{rest:List AD}
def Ht{v:AD}{b:Bool}(e:bm.contains v=b)(hv:(v==Value.ref C)=false):(Value.ref C::bm).contains v=b:=by rw[RB,hv,Rg];exact e
def gk(xc:GJ h C bm N)(ln:Ii bm){Q:Unit->Ya->Prop}(hq:Q () ⟨h,g,d,t,os⟩):bt M A (checkBuiltinCall "Exception.__new__" ⟨.ref C::rest,[]⟩) Q E ⟨h,g,d,t,os⟩:=by
 obtain⟨a1,a2,a3,a4,a5,a6,a7,a8,a9,b1,b2,b3,b4,b5,h0⟩:=xc;have cE:(Value.ref C::bm).contains (.type "Exception")=true:=Ht ln.exc rfl;have h1:=I0.noStar;simp only[checkBuiltinCall,I0.newKind,I0.newSplit,I0.newRow];repeat (first|refine JB h0 ?_|(refine MK h0 ?_;rw[cE])|refine wpAny_staticBase_exc h0 ?_|refine wpAny_madeBy_exc h0 ?_|simp only[Jy,DM,Bw]|wp_step)
 exact hq
abbrev Jd(h:qi)(C:OK)(rest:List AD):qi:=(h.push {cls:=.type "tuple",data:=.seq rest.toArray}).push (Cf C none #[.ref h.objs.size,.none,.none,.none,.bool false,.none])
def oY(xc:GJ h C bm N)(ln:Ii bm)(hq:R (.ok (.ret (.ref (h.objs.size+1)))) ⟨Jd h C rest,g,d,t,os⟩)(hrest:rest.length<=sizeLine):
 rK (ax prog w) A (.builtin "Exception.__new__" ⟨.ref C::rest,[]⟩) R ⟨h,g,d,t,os⟩:=by
 obtain⟨a1,a2,a3,a4,a5,a6,a7,a8,a9,b1,b2,b3,b4,b5,h0⟩:=xc;have h1:=I0.ends;have cE:(Value.ref C::bm).contains (.type "Exception")=true:=Ht ln.exc rfl;have cA:(Value.ref C::bm).contains (.type "AttributeError")=false:=Ht ln.Jn rfl;have cN:(Value.ref C::bm).contains (.type "NameError")=false:=Ht ln.aX rfl;refine codeAny_builtinAt I0.entry ?_;unfold Builtin.«BaseException.__new__»;refine PySem.wpAt_bind ?_;show PySem.wpAt _ _ _ (stack>>=_) _ _ _;refine PySem.wpAt_bind (PySem.wpAt_stack fun p h2=>uH ?_)
 wp_walk
 refine uH ?_;rw[I0.owner];repeat (first|with_reducible refine wpAny_madeHere_exc I0.canon h0 ?_|with_reducible refine JB h0 ?_|(with_reducible refine MK h0 ?_;first|rw[cE]|rw[cA]|rw[cN])|wp_step)
 show R _ _;rw[Gh];exact hq
end
variable{fI:OK}
section
variable{g:Array rj}{d:Drawn}{t:Nat}{N:OK}{rest:List AD}
def lC(X:K.In h)(xc:GJ h C bm N)(ln:Ii bm){oI:Obj}(hi:ql K (.ref C) "__init__" =some (some (.ref fI)))(hfI:h.get? fI=some oI)(hfc:oI.cls=.type "function")
 (hq:bt (ax prog w) (A.under (.builtin "type.__call__" ⟨.ref C::rest,[]⟩)) (call (.ref fI) (.ref (h.objs.size+1)::rest)) (fun r s'=>r=.none/\Q (.ref (h.objs.size+1)) s') E ⟨Jd h C rest,g,d,t,os⟩)(hrest:rest.length<=sizeLine):
 bt (ax prog w) A (call (.ref C) rest) Q E ⟨h,g,d,t,os⟩:=by
 have kk:∀b o,h.get? b=some o->(Jd h C rest).get? b=some o:=fun b o e=>BC _ (BC _ e);have h4:=xc.keeps kk;have h2:(Jd h C rest).get? (h.objs.size+1)=some (Cf C none #[.ref h.objs.size,.none,.none,.none,.bool false,.none]):=by have z:=CB (h.push {cls:=.type "tuple",data:=.seq rest.toArray}) (o:=Cf C none #[.ref h.objs.size,.none,.none,.none,.bool false,.none]) rfl;rw[Gh] at z;exact z
 have h5:=xc;obtain⟨a1,a2,a3,a4,a5,a6,a7,a8,a9,b1,b2,b3,b4,b5,h1⟩:=h5;have f1:=tc_lookup;have f2:=tc_bind (.ref C);have tT:(⟨h,g,d,t,os⟩:Ya).TypeIs (.ref C) "type" :=⟨_,h1,rfl⟩;refine Mu (tE ?_);show bt _ _ (callAny (.ref C) _) _ _ _;repeat (any_goals (first|assumption|with_reducible refine JB h1 ?_|wp_step))
 refine⟨rfl,?_⟩;refine codeAny_call_builtin_at (RC _ (by left)) entry_typeCall (wpAny_check_type_call_sub h1 ?_);repeat (first|with_reducible refine JB h1 ?_|with_reducible refine wpAny_madeBy_exc h1 ?_|wp_step)
 refine codeAny_call_builtin_code (RC _ I0.quiet) (gk (rest:=rest) xc ln ?_);refine oY (rest:=rest) xc ln ?_ hrest;show bt _ _ _ _ _ _;obtain⟨c1,c2,c3,c4,c5,c6,c7,c8,c9,d1,d2,d3,d4,d5,h3⟩:=h4;have cC:(Value.ref C::bm).contains (.ref C)=true:=by simp
 have h6:=kk _ _ hfI;have h0:(Jd h C rest).get? (h.objs.size+1)=some {cls:=.ref C,dict:=none,data:=.fields #[.ref h.objs.size,.none,.none,.none,.bool false,.none]}:=h2;unfold tK;repeat (first|(with_reducible refine JB h0 ?_)|(with_reducible refine MK h3 ?_;rw[cC])|wp_step)
 show bt _ _ (typeLookup (.ref C) _) _ _ _;refine(OY (X.keeps kk) hi).at ?_;refine Fb (AK ?_);unfold bindSpecial;refine AK (Mn (T:="function") ⟨_,h6,hfc⟩ ?_);rw[AG (by decide)];refine Ac (AK (C8 hq (fun r s' hr=>?_) fun _ _ x=>x));obtain⟨rfl,hQ⟩:=hr
 wp_walk
 exact hQ
def jN{x:Sem AD}{Q:Flow->Ya->Prop}(hh:A.handled=none)(ln:Ii bm)
 (hx:bt M A x (fun v s1=>∃e N t0 dd,v=.ref e/\GJ s1.heap C bm N/\s1.heap.get? e=some (Cf C dd #[.ref t0,.none,.none,.none,.bool false,.none])/\E (.ref e) s1) E s):
 bt M A (raiseStmt env (some x) none) Q E s:=by
 have cB:(Value.ref C::bm).contains (.type "BaseException")=true:=Ht ln.base rfl;unfold raiseStmt;refine AK (C8 hx (fun v s1 h1=>?_) fun _ _ z=>z);obtain⟨e,N,t0,dd,rfl,xc,he,hE⟩:=h1;obtain⟨a1,a2,a3,a4,a5,a6,a7,a8,a9,b1,b2,b3,b4,b5,cAt⟩:=xc;obtain⟨hp,g,d,tk,os⟩:=s1;unfold Cf at he;repeat (first|with_reducible refine JB he ?_|with_reducible refine JB cAt ?_|(with_reducible refine MK cAt ?_;rw[cB])|wp_step)
 exact wpAny_raiseNew_none hh hE
end
section
open PySem.Builtin PySem.Builtin.ObjectAttr
section
variable{g:Array rj}{d:Drawn}{t:Nat}{N e:OK}{v:AD}
structure Dc(K:tW)(C:OK)(name:Str):Prop where
 dict:rR K C=true
 no:ql K (.ref C) name=some none
 sa:ql K (.ref C) "__setattr__" =some (some (.builtin "object.__setattr__"))
 ga:ql K (.ref C) "__getattribute__" =some (some (.builtin "BaseException.__getattribute__"))
 hook:ql K (.ref C) "__getattr__" =some none
 mro:∃cd l,clsIn K C=some cd/\cd.mro=l++[.type "Exception",.type "BaseException",.type "object"]/\∀c∈l,∃a,c=Value.ref a
def Va(self:AD)(what:Str)(r:List AD):∀l:List AD,(∀c∈l,∃a,c=Value.ref a)->refuseLoop self what (l++r)=refuseLoop self what r
 |[],_=>rfl
 |c::l,hc=>by obtain⟨a,rfl⟩:=hc c (.head _);rw[Oj,refuseLoop_ref];exact Va self what r l fun c' h'=>hc c' (.tail _ h')
def Wv{x:AD}{r:List AD}{b:Bool}(hx:∀a,(x==Value.ref a)=false)(e:r.contains x=b):∀l:List AD,(∀c∈l,∃a,c=Value.ref a)->(l++r).contains x=b
 |[],_=>e
 |c::l,hc=>by obtain⟨a,rfl⟩:=hc c (.head _);rw[Oj,RB,hx a,Rg];exact Wv hx e l fun c' h'=>hc c' (.tail _ h')
def nG(he:h.get? e=some (Cf C none vs)):InstAt h e (Cf C none vs) C none:=⟨he,rfl,rfl,Cv⟩
def nh{od:Obj}(he:h.get? e=some (Cf C (some D) vs))(hd:h.get? D=some od):InstAt h e (Cf C (some D) vs) C (some od):=⟨he,rfl,rfl,hd⟩
def Zq(X:K.In h)(xa:Dc K C name){b:Bool}(e:[Value.type "Exception",.type "BaseException",.type "object"].contains (.type T)=b):mroIn K C (.type T)=some b:=by obtain⟨cd,l,hc,hm,hl⟩:=xa.mro;unfold mroIn;rw[hc,MY,hm];rw[AF (by cases l<;>simp),Wv (fun _=>rfl) e l hl]
def nZ(X:K.In h)(xa:Dc K C name)(he:h.get? e=some (Cf C none vs)){Q:Unit->Ya->Prop}
 (hq:∀h' tk,h'.get? e=some (Cf C (some h.objs.size) vs)->h'.Ns1 h.objs.size (fun y=>if y=name then some v else none)->(∀b o,b≠e->h.get? b=some o->h'.get? b=some o)->Q () ⟨h',g,d,tk,os⟩):
 bt (ax prog w) A (setAttr (.ref e) name v) Q E ⟨h,g,d,t,os⟩:=by
 have SF:=PySem.F.store_object;have I:InstAt h e (Cf C none vs) C none:=nG he;have T0:tY (ax prog w) h (typeOf (.ref e)) (.ref C):=I.type;obtain⟨cd,l,hc,hm,hl⟩:=xa.mro;obtain⟨h7,h6,h0⟩:=any_some xa.dict;obtain rfl:cd=h7:=Ag (hc.symm.trans h6);have h1:tY (ax prog w) h (mroOf (.ref C)) cd.mro:=(VC X hc).andThen .now;have sub:tY (ax prog w) h (tK (.ref e) (.type "object")) true:=T0.andThen (looks_mroIn X (Zq X xa rfl));refine set_plain X I xa.sa ?_;refine U6 SF.slot.plain SF.entry ?_;refine @check_slot (ax prog w) _ _ ⟨h,g,d,t+1,os⟩ "object.__setattr__" "object" "__setattr__" (.ref e) [.str name t,v] [] _ SF.kind SF.split sub (SF.args (.ref e) (.str name t) v) ?_;rw[osa_eq,refuse_eq];refine AK (AK (T0.at (AK (h1.at ?_))));rw[hm,Va _ _ _ l hl,PySem.F.store_Exception.passes];refine Ac (AK (T0.at (AK ((OY X xa.no).at (AK (Ac ?_))))));show bt _ _ (storeInOwnDict (.ref e) (.ref C) _ name v _) _ _ _;have ne:e≠h.objs.size:=BO (A2 he);unfold storeInOwnDict;refine AK (Ac ?_);rw[AF (show¬((Value.ref C==Value.type "module")=true) from CZ)];refine AK (AK (wpAny_loadPart he ?_));refine AK ((VC X hc).at ?_);rw[h0,AF (by decide)];have e1:=BC {cls:=.type "dict",data:=.dict #[]} he;have e2:=I9 (fun o=>{o with dict:=some h.objs.size}) e1 rfl;have d2:((h.push {cls:=.type "dict",data:=.dict #[]}).update e fun o=>{o with dict:=some h.objs.size}).get? h.objs.size=some {cls:=.type "dict",data:=.dict #[]}:=
  (D8 _ _ ne).trans (CB h rfl);show bt _ _ (do
  let dd<-alloc {cls:=Value.type "dict",data:=Data.dict #[]}
  update e fun o=>{o with dict:=some dd}
  dictMade (.ref C) e dd) _ _ _;refine AK (wpAny_alloc' ?_);refine AK (wpAny_update' e1 ?_);refine Ac ?_;show bt _ _ (storeInDict h.objs.size (.str name t) name v) _ _ _;have nd:((h.push {cls:=.type "dict",data:=.dict #[]}).update e fun o=>{o with dict:=some h.objs.size}).Ns h.objs.size (fun _=>none):=⟨_,#[],_,d2,rfl,fun x hx=>absurd hx (by simp),fun _=>rfl⟩;unfold storeInDict newKeyGuard;refine AK (Ac (AK (wpAny_nsSet1 (Heap.Ns1.of_empty nd) fun h' h2 hs=>?_)));obtain⟨oD,h8,h9,h3,h4,h5⟩:=h2.count (Within.cons name v Within.nil);refine AK (wpAny_lookBehind h3 (by rw[h4];exact pastItsLine_dict (BJ h5 (by rw[CG,Mb,A8];lia))) ?_);refine Ac ?_;exact hq h' _ ((hs.2 e ne).trans e2) h2 fun b o nb hb=>(hs.2 b (BO (A2 hb))).trans ((D8 _ _ (DG nb)).trans (BC _ hb))
def oa{expr:Bool}(X:K.In h)(xa:Dc K C name)(he:h.get? e=some (Cf C (some D) vs))(hn:h.Ns1 D mA)(hv:mA name=some v)(hh:handedIn v=true)
 (hq:∀tk,Q v ⟨h,g,d,tk,os⟩):bt (ax prog w) A (tF (.ref e) name expr) Q E ⟨h,g,d,t,os⟩:=by
 obtain⟨od,h1,h2⟩:=WA hn;have I:InstAt h e (Cf C (some D) vs) C (some od):=nh he h1;have T0:tY (ax prog w) h (typeOf (.ref e)) (.ref C):=I.type;obtain⟨cd,l,hc,hm,hl⟩:=xa.mro;obtain⟨h4,h3,h0⟩:=any_some xa.dict;obtain rfl:cd=h4:=Ag (hc.symm.trans h3);have fo:findObj K C (some od) name=some (.value v):=by unfold findObj;rw[hc,MY,xa.no,MY];dsimp only[MY];unfold PySem.W.ownOf;rw[h0,AG rfl];dsimp only;rw[h2,hv];rfl
 have L1:=looks_find (M:=ax prog w) X I fo;have sub:tY (ax prog w) h (tK (.ref e) (.type "BaseException")) true:=T0.andThen (looks_mroIn X (Zq X xa rfl));have GA:=PySem.F.attr_Exception.ga;unfold tF getAttrBy;refine AK (wpAny_mkText (Fb (AK (T0.at (AK ((OY X xa.ga).at ?_))))));dsimp only;rw[show(onTheHeap (Value.ref C)&&Value.builtin "BaseException.__getattribute__" ==Value.builtin "object.__getattribute__")=false from by rw[show(Value.builtin "BaseException.__getattribute__" ==Value.builtin "object.__getattribute__")=false from by left,LB],AF (by decide)];unfold getAttrByItsOwn;refine AK ((show tY (ax prog w) h (hookBefore (.ref C)) none from OY X xa.hook).at ?_);refine AK (tR (Fb ?_));unfold callGetattribute;rw[show(expr&&onTheHeap (Value.builtin "BaseException.__getattribute__"))=false from LB _,AF (by decide)];unfold boundAndCalled;rw[GA.bind];refine AK (Ac ?_);show bt _ _ (call (.builtin "BaseException.__getattribute__") [.ref e,.str name t]) _ _ _;refine Mu (U6 GA.plain PySem.F.entry_bexc_ga ?_);refine @check_slot (ax prog w) _ _ ⟨h,g,d,t+1,os⟩ "BaseException.__getattribute__" "BaseException" "__getattribute__" (.ref e) [.str name t] [] _ (by left) (by left) sub (PySem.F.args_bexc_ga (.ref e) (.str name t)) ?_;unfold Builtin.«object.__getattribute__»;refine AK (Ac ?_);refine AK (Ac ?_);refine AK (T0.at (AK (L1.at ?_)));refine Ac ?_;show bt _ _ (handedOut v) _ _ _;rw[handedOut_of hh];exact Ac (hq _)
end
end
def xO(e C:OK)(dd:Option OK)(vs:Array AD):HO:=.ext fun h=>h.get? e=some (Cf C dd vs)
def Tc{e:OK}(he:h.get? e=some (Cf C dd vs)):BV P w H h e (xO e C dd vs):=
 ⟨he,⟨_,he⟩,fun _ _ p k=>k _ p⟩
def Kf{e:OK}(ok:Bx P w H h)(q:H e=some (xO e C dd vs)):h.get? e=some (Cf C dd vs):=(ok e _ q).1
structure HQ(h0:qi)(H:Hp)(h:qi)(e C D:OK)(vs:Array AD):Prop where
 xo:H e=some (xO e C (some D) vs)
 hd:Hd h e vs
 new:h0.objs.size<=e
 N4:∀T,vs[1]? =some (.ref T)->h0.objs.size<=T/\H T=none
 two:1<vs.size
def Cs(P:qf)(w:qj):Jt:=fun h0 H s E v s'=>∃e C D vs H',v=Value.ref e/\s'.os=s.os/\rY s'.gens/\Un (Ci h0) [] H H' s.heap s'.heap/\Bx P w H' s'.heap/\HQ s.heap H' s'.heap e C D vs/\
 ∀vs,E (.ref C) (some D) (upd H' e (xO e C (some D) vs))
section
variable{h0 h2 h3:qi}{e:OK}{fs:List OK}
def HQ.ne(f:HQ h0 H2 h2 e C D vs)(hb:h0.get? b=some o):b≠e/\∀T,vs[1]? =some (.ref T)->b≠T:=
 ⟨fun z=>absurd (A2 hb) (O7.mpr (z▸f.new)),fun T ht z=>absurd (A2 hb) (O7.mpr (z▸(f.N4 T ht).1))⟩
def HQ.step(ok:Bx P w H2 h2)(f:HQ h0 H2 h2 e C D vs)(lv:Lv fs e C (some D) vs h2 h3)(ff:∀b∈fs,H2 b=none):
 ∃vs3,Bx P w (upd H2 e (xO e C (some D) vs3)) h3/\HQ h0 (upd H2 e (xO e C (some D) vs3)) h3 e C D vs3:=by
 obtain⟨T,oT,ts,he,hT,gT,dT,h1⟩:=lv.here;have e2:=Kf ok f.xo;have Tn:T≠e:=Fc (C5 (A2 e2) hT);have one:(vs.setIfInBounds 1 (.ref T))[1]? =some (.ref T):=by simp[f.two]
 refine⟨_,fun b o q=>?_,AM,.inr ⟨T,oT,ts,one,Tn,gT,dT,h1⟩,f.new,fun T' ht=>?_,by simpa using f.two⟩
 ·by_cases hb:b=e
  ·subst hb;rw[AM] at q;cases q;exact Tc he
  ·rw[AN hb] at q;refine(ok b o q).ES (fun c u hc g=>?_) (fun c g=>?_) fun c xs g=>?_
   ·have tc:H2 c≠none:=by
     rcases hc with z|z
     ·rw[z,q];exact fun y=>nomatch y
     ·rw[z];exact fun y=>nomatch y
    refine lv.keep c u g (fun m=>tc (ff c m)) (fun z=>?_) fun T' ht z=>tc (z▸(f.N4 T' ht).2);rcases hc with y|y
    ·exact hb (y.symm.trans z)
    ·rw[z,f.xo] at y;cases y
   ·rw[AN (fun z=>by rw[z,f.xo] at g;cases g)];exact g
   ·rw[AN (fun z=>by rw[z,f.xo] at g;cases g)];exact g
 ·rw[one] at ht;obtain rfl:T=T':=by cases ht;rfl
  refine⟨BJ (BJ f.new (F4 (A2 e2))) hT,?_⟩;rw[AN Tn];exact ok.fresh hT
def HQ.un(u:Un (Ci outer) [] H H2 h0 h2)(f:HQ h0 H2 h2 e C D vs){vs3:Array AD}(lv:Lv fs e C (some D) vs h2 h3)(hfs:∀b,b∈fs↔b=L\/b∈Ci outer)(hL:h0.objs.size<=L):
 Un (Ci outer) [] H (upd H2 e (xO e C (some D) vs3)) h0 h3:=by
 have nl:∀b o,h0.get? b=some o->b≠L:=fun b o q z=>absurd (A2 q) (O7.mpr (z▸hL));have nil:∀b:OK,b∉([]:List OK):=fun b=>by simp
 refine⟨fun b o q n nb _=>?_,fun b o q n mb _=>?_,fun b o q n _=>?_,fun b o q _=>?_,fun b xs q=>?_,fun b o u' q=>?_,fun b ps q=>?_⟩
 ·exact lv.keep b o (u.keep b o q n nb (nil b)) (fun m=>((hfs b).mp m).elim (nl b o q) nb) (f.ne q).1 (f.ne q).2
 ·obtain⟨sl,e1⟩:=u.slot b o q n mb (nil b);obtain⟨h1,e2⟩:=lv.slot b _ e1 ((hfs b).mpr (.inr mb));exact⟨h1,e2⟩
 ·rw[AN (f.ne q).1];exact u.free b o q n (nil b)
 ·obtain⟨o',e1⟩:=u.there b o q (nil b);by_cases m:b∈fs
  ·obtain⟨sl,e2⟩:=lv.slot b _ e1 m;exact⟨_,e2⟩
  ·exact⟨o',lv.keep b o' e1 m (f.ne q).1 (f.ne q).2⟩
 ·have:=u.Em b xs q;rw[AN (fun z=>by rw[z,f.xo] at this;cases this)];exact this
 ·have:=u.EC b o u' q;rw[AN (fun z=>by rw[z,f.xo] at this;cases this)];exact this
 ·obtain⟨more,this⟩:=u.Ek b ps q;exact⟨more,by rw[AN (fun z=>by rw[z,f.xo] at this;cases this)];exact this⟩
def HQ.qH(u:Un fs [] H H2 h0 h2)(f:HQ h0 H2 h2 e C D vs){vs3:Array AD}(lv:Lv fs e C (some D) vs h2 h3):Un fs [] H (upd H2 e (xO e C (some D) vs3)) h0 h3:=by
 have nil:∀b:OK,b∉([]:List OK):=fun b=>by simp
 refine⟨fun b o q n nb _=>lv.keep b o (u.keep b o q n nb (nil b)) nb (f.ne q).1 (f.ne q).2,fun b o q n mb _=>?_,fun b o q n _=>?_,fun b o q _=>?_,fun b xs q=>?_,fun b o u' q=>?_,fun b ps q=>?_⟩
 ·obtain⟨sl,e1⟩:=u.slot b o q n mb (nil b);obtain⟨h1,e2⟩:=lv.slot b _ e1 mb;exact⟨h1,e2⟩
 ·rw[AN (f.ne q).1];exact u.free b o q n (nil b)
 ·obtain⟨o',e1⟩:=u.there b o q (nil b);by_cases m:b∈fs
  ·obtain⟨sl,e2⟩:=lv.slot b _ e1 m;exact⟨_,e2⟩
  ·exact⟨o',lv.keep b o' e1 m (f.ne q).1 (f.ne q).2⟩
 ·have:=u.Em b xs q;rw[AN (fun z=>by rw[z,f.xo] at this;cases this)];exact this
 ·have:=u.EC b o u' q;rw[AN (fun z=>by rw[z,f.xo] at this;cases this)];exact this
 ·obtain⟨more,this⟩:=u.Ek b ps q;exact⟨more,by rw[AN (fun z=>by rw[z,f.xo] at this;cases this)];exact this⟩
end
section
variable{E:XK}
abbrev GQ(P:qf)(w:qj)(K:tW)(mg:Str->Option AD)(base:qi)(N:List Str)(qual:Str)(scope:sV)(f:OK)(cd:AD)(A:rL)(outer:List Env)(s:Ya)(H:Hp)(E:XK):Cx:=
 Jf (Cs P w) P w K mg base N qual scope f cd A outer s H E
def iD(hf:env.frame=some L)(outer:List Env)(b:OK):b∈Ci (env::outer)↔b=L\/b∈Ci outer:=by unfold Ci;rw[Q8,hf];exact BI
def YH{s2:Ya}{e:OK}(J:Inv (GQ P w K mg base N qual scope f cd A outer s H E) pins σ H2 s2)(fl:HQ s.heap H2 s2.heap e C D vs)
 (hE:∀vs,E (.ref C) (some D) (upd H2 e (xO e C (some D) vs))):(GQ P w K mg base N qual scope f cd A outer s H E).xe (.ref e) s2:=by
 show bt _ _ (leaving (rS qual scope s.heap.objs.size f cd) (.ref e)) _ _ s2;refine AK (Yl (base:=base) (L:=s.heap.objs.size) (outer:=outer) J.ok.frames J.stack rfl (Kf J.hok fl.xo) fl.two fl.hd fun h3 lv=>?_);obtain⟨h1,h5,h6⟩:=fl.step J.hok lv J.Pb;refine⟨e,C,D,h1,_,rfl,J.os,J.bare,?_,h5,h6,fun h4=>?_⟩
 ·exact fl.un J.base lv (iD rfl outer) (Ae _)
 ·rw[JT];exact hE h4
def Ei:Passes (Cs P w) (GQ P w K mg base N qual scope f cd A outer s H E) E:=fun h4 σ H1 s1 v s2 I cx=>by obtain⟨e,C,D,vs,H2,rfl,os,h1,un,ok,fl,hE⟩:=cx;have J:=I.P9 (ch:=[]) os un ok h1 (fun b z=>absurd z (by simp));exact YH J ⟨fl.xo,fl.hd,BJ I.sz fl.new,fun T ht=>⟨BJ I.sz (fl.N4 T ht).1,(fl.N4 T ht).2⟩,fl.two⟩ hE
def ID{st:g0}(F:Ak K x qual st f fd)(S:A9 N ps (Aq st))(len:∀vs H Q E,sp vs H Q E->vs.length=ps.length)
 (hbody:∀(cdv:AD)(A:rL)(outer:List Env)(s:Ya)(H:Hp)(vs:List V)(Q:VK)(E:XK),Bn k (A.deeper (rS qual (Aq st) s.heap.objs.size f cdv))->sp vs H Q E->
  ∃t,EW (GQ P w K mg base N qual (Aq st) f cdv A outer s H E) (E3 st) t/\t {nx:=fun _ H'=>Q .BB H',rt:=Q} (start N vs) H):AY P w K mg base (Cs P w) (k+1) f fd ps sp:=by
 obtain⟨oc,od,kV,h5,pm,an,cdv,ct,h4,rfl,lk,h1⟩:=F.ex;exact ZT lk h1 S len (hbody cdv)
end
structure Um(K:tW)(C fI:OK)(bm:List AD):Prop where
 cls:∃N,∀h:qi,K.In h->GJ h C bm N
 init:ql K (.ref C) "__init__" =some (some (.ref fI))
 line:Ii bm
 fn:isFn K (.ref fI)=true
 kp:rC K (.ref C)=true
def Fj(C:OK)(f:Str)(msg:Str):Sp:=fun vs H Q _=>∃e ws,vs=[.ref e]/\H e=some (xO e C none ws)/\∀D,H D=none->D≠e->Q .BB (upd (upd H D (.xd [(f,.str msg)])) e (xO e C (some D) ws))
noncomputable def Js(t:OK):Array AD:= #[.ref t,.none,.none,.none,.bool false,.none]
def iN{o u:HO}(h:a≠b):upd (upd H a o) b u=upd (upd H b u) a o:=by
 funext c;unfold upd;by_cases h1:c=a
 ·subst h1;rw[AF h,AG rfl,AG rfl]
 ·by_cases h2:c=b
  ·subst h2;rw[AG rfl,AF h1,AG rfl]
  ·rw[AF h2,AF h1,AF h1,AF h2]
section
variable{f:Str}
def gh(I:Inv X pins σ H s)(C:OK):Inv X pins σ (upd H (s.heap.objs.size+1) (xO (s.heap.objs.size+1) C none (Js s.heap.objs.size))) {s with heap:=Jd s.heap C []}:=by
 have kk:∀b o,s.heap.get? b=some o->(Jd s.heap C []).get? b=some o:=fun b o e=>BC _ (BC _ e);have e2:(Jd s.heap C []).get? (s.heap.objs.size+1)=some (Cf C none (Js s.heap.objs.size)):=by have z:=CB (s.heap.push {cls:=.type "tuple",data:=.seq ([]:List AD).toArray}) (o:=Cf C none (Js s.heap.objs.size)) rfl;rw[Gh] at z;exact z
 exact I.laid (t':=s.toks) kk (Eb _) (Tc e2)
end
variable{msg:Str}
section
variable{f:Str}
def jE(M:Um X.K C fI bm)(F:AY X.prog X.w X.K X.mg X.base Aj k fI fd ["self"] (Fj C f msg))(hr:Bn (k+1) X.A)(hg:Gl X x)(hm:X.mg x=some (.ref C))(hb:Binds X.K fd ["self"] [])
 (hdb:(x==("__debug__" :Str))=false)(I:Inv X pins σ H s):
 bt (ax X.prog X.w) X.A (qh (.Call (.Name x p) [] [] pos) X.env) (fun u s2=>∃e D t,u=Value.ref e/\s.heap.objs.size<=e/\H e=none/\H D=none/\D≠e/\Inv X pins σ (upd (upd H D (.xd [(f,.str msg)])) e (xO e C (some D) (Js t))) s2) X.xe s:=by
 refine MN (LZ I hg hm ?_ hdb);refine VD I.BX M.kp ?_;obtain⟨N,xc⟩:=M.cls;obtain⟨o,ho,h0⟩:=Ju.mp (Fd.mp M.fn);have I2:=gh I C;have sp:Fj C f msg [.ref (s.heap.objs.size+1)] (upd H (s.heap.objs.size+1) (xO (s.heap.objs.size+1) C none (Js s.heap.objs.size))) (fun v H2=>v=.BB/\∃D,H D=none/\D≠s.heap.objs.size+1/\
  H2=upd (upd H D (.xd [(f,.str msg)])) (s.heap.objs.size+1) (xO (s.heap.objs.size+1) C (some D) (Js s.heap.objs.size))) E0:=by
  refine⟨_,_,rfl,AM,fun D hD nD=>⟨rfl,D,?_,nD,?_⟩⟩
  ·rw[AN nD] at hD;exact hD
  ·rw[iN (DG nD),JT]
 have run:=F.run (X.A.under (.builtin "type.__call__" ⟨[.ref C],[]⟩)) X.stack _ _ ⟨[.ref (s.heap.objs.size+1)],[]⟩ [.ref (s.heap.objs.size+1)] [.ref (s.heap.objs.size+1)] _ E0 (hr.make C [] []) (I2.Tx.make C [] [])
  (hb _ [.ref (s.heap.objs.size+1)] I2.BX rfl) (.cons rfl .nil) sp;obtain⟨hp,g,d,tk,os⟩:=s;refine lC (rest:=[]) I.BX (xc _ I.BX) M.line M.init (I.BX _ _ ho) h0 ?_ (CC _);refine Mu (LH run fun r s' hq=>?_)
 cases r with
 |error e=>exact hq.elim
 |ok fl=>
  cases fl with
  |ret u=>obtain⟨v,H',I3,rv,ev,D,q1,q2,q3⟩:=I2.after hq;subst ev q3;exact⟨rv,hp.objs.size+1,D,hp.objs.size,rfl,Eb _,I.hok.fresh (Eb _),q1,q2,I3⟩
  |next=>exact False.elim hq
  |brk=>exact False.elim hq
  |cont=>exact False.elim hq
def gz{g:OK}{dvs:List V}{ds:List AD}{E:XK}{m:Str}{es:List hX}{t:TA}(hg:Gl X x)(hm:X.mg x=some (.ref C))(hrd:readsIn X.K C (.type "type")=true)
 (hf:findCls X.K (.ref C) (.type "type") m=some (.val (.ref g)))(hs:sY X.K (.ref C) "__getattribute__" =some (some (.builtin "type.__getattribute__")))(hk:rC X.K (.ref g)=true)
 (F:AY X.prog X.w X.K X.mg X.base CX k g fd ps sp)(hr:Bn k X.A)(hb:Binds X.K fd ps ds)(hd:Vals dvs ds)(hx:Passes CX X E)(ha:PA X (e::es) t)(hdb:(x==("__debug__" :Str))=false:=by decide)
 (hst:dq (e::es) X.env=(false,qh e X.env)::dq es X.env:=by rfl)(hpl:(qt pos (dq es X.env)).any (·.1)=false:=by rfl)
 (ht:qh (.Call (.Attribute (.Name x p) m apos) (e::es) [] pos) X.env=(do
  let ov<-qh (.Name x p) X.env
  standAt apos.atName
  let(f,first)<-sO [ov] (sg ov m pl)
  callWith pos f first (qt pos (dq (e::es) X.env)) (rh pos (rG [] X.env))):=by rfl):
 PE X (.Call (.Attribute (.Name x p) m apos) (e::es) [] pos) (Nl sp dvs E t):=by
 intro h0 s σ H Q I h;refine methodCall_KW (pl:=pl) (LZ I hg hm ?_ hdb) ht;refine method_cls I.BX hs (cls_value I.BX hrd hf rfl ?_);have I1:=I.tok (s.toks+1);refine VG (first:=[]) (h₀:=X.base) I.ok.mod.OH hk (Ad (ha pos h0 _ σ H _ I1 h) fun us s2 ⟨vs,H2,I2,r,q2⟩=>⟨I2.BX,?_⟩) hst hpl;exact Py F hr hb hd hx I2 r q2
def nX(K:tW)(ta tv:TE)(f:Str):TS:=fun D σ H=>tv σ H fun y H1=>ta σ H1 fun x H2=>∃e C ws,x=.ref e/\H2 e=some (xO e C none ws)/\Dc K C f/\
 ∀d,H2 d=none->d≠e->D.nx σ (upd (upd H2 d (.xd [(f,y)])) e (xO e C (some d) ws))
def jW{o value:hX}{pos':Pos}{tv:TE}(ha:PE X o ta)(hv:PE X value tv)(hs:sL value (some (.Attribute o f pos')) pos.line X.env=pure false):PS X (.Assign [.Attribute o f pos'] value pos) (nX X.K ta tv f):=by
 intro h0 s σ H D I h;refine sW (Ad (hv h0 s σ H _ I h) fun u s1 ⟨y,H1,I1,ry,q⟩=>Ad (ha h0 s1 σ H1 _ I1 q) fun ov s2 ⟨x,H2,I2,rx,e,C,ws,ex,ea,xa,q2⟩=>?_) hs;subst ex;obtain rfl:ov=Value.ref e:=rx;have he:=Kf I2.hok ea;have nD:s2.heap.objs.size≠e:=Fc (A2 he);have fr:H2 s2.heap.objs.size=none:=I2.hok.fresh (Ae _);obtain⟨hp,g,d,tk,os⟩:=s2;refine nZ I2.BX xa he fun h' h5 h3 h2 h1=>⟨σ,_,?_,q2 hp.objs.size fr nD⟩;have hD:∃o,h'.get? hp.objs.size=some o:=let⟨o,_,_,q,_⟩:=h2;⟨o,q⟩;have un:Un X.fs [] H2 (upd (upd H2 hp.objs.size (.xd [(f,y)])) e (xO e C (some hp.objs.size) ws)) hp h':=by
  refine⟨fun b o q n _ _=>h1 b o (fun z=>by rw[z,ea] at n;cases n) q,fun b o q n _ _=>⟨o.slots,h1 b o (fun z=>by rw[z,ea] at n;cases n) q⟩,fun b o q n _=>?_,fun b o q _=>?_,fun b xs q=>?_,fun b o u q=>?_,fun b ps q=>⟨#[],?_⟩⟩
  ·rw[AN (fun z=>by rw[z,ea] at n;cases n),AN (BO (A2 q))];exact n
  ·by_cases z:b=e
   ·rw[z];exact⟨_,h3⟩
   ·exact⟨o,h1 b o z q⟩
  ·rw[AN (fun z=>by rw[z,ea] at q;cases q),AN (A7 q fr)];exact q
  ·rw[AN (fun z=>by rw[z,ea] at q;cases q),AN (A7 q fr)];exact q
  ·rw[AN (fun z=>by rw[z,ea] at q;cases q),AN (A7 q fr),q];simp
 refine I2.un (t':=h5) (h':=h') un fun b o q=>?_;by_cases hb:b=e
 ·subst hb;rw[AM] at q;cases q;exact Tc h3
 ·rw[AN hb] at q;by_cases h4:b=hp.objs.size
  ·subst h4;rw[AM] at q;cases q;refine⟨_,h2,fun y'=>?_⟩;show DU (List.lookup y' [(f,y)]) (if y'=f then some u else none);by_cases z:y'=f
   ·subst z;rw[AG rfl,Gf,HV];exact ry
   ·rw[AF z,Gf,K9 z];exact Cv
  ·rw[AN h4] at q;refine(I2.hok b o q).ES (fun c v hc gg=>h1 c v (fun z=>?_) gg) (fun c gg=>?_) fun c xs gg=>?_
   ·rcases hc with y1|y1
    ·exact hb (y1.symm.trans z)
    ·rw[z,ea] at y1;cases y1
   ·rw[AN (fun z=>by rw[z,ea] at gg;cases gg),AN (A7 gg fr)];exact gg
   ·rw[AN (fun z=>by rw[z,ea] at gg;cases gg),AN (A7 gg fr)];exact gg
end
section
variable{E:XK}
def lR(C:OK)(fl msg:Str)(E:XK):TS:=fun _ _ H=>∀e D ws,H e=none->H D=none->D≠e->E (.ref C) (some D) (upd (upd H D (.xd [(fl,.str msg)])) e (xO e C (some D) ws))
def fj{np:Pos}{fl:Str}(M:Um K C fI bm)(F:AY P w K mg base Aj k fI fd ["self"] (Fj C fl msg))
 (hr:Bn (k+1) (GQ P w K mg base N qual scope f cd A outer s H E).A)(hg:Gl (GQ P w K mg base N qual scope f cd A outer s H E) x)(hm:mg x=some (.ref C))(hb:Binds K fd ["self"] [])(hdb:(x==("__debug__" :Str))=false:=by decide):
 PS (GQ P w K mg base N qual scope f cd A outer s H E) (.Raise (some (.Call (.Name x np) [] [] cpos)) none pos) (lR C fl msg E):=by
 intro h0 s1 σ H1 D I h;rw[arm_exec_Raise];refine AK (Ov ?_);have ev:=jE (X:=GQ P w K mg base N qual scope f cd A outer s H E) (p:=np) (pos:=cpos) M F hr hg hm hb hdb I;refine jN (C:=C) (bm:=bm) (I.ok.hd rfl) M.line ?_;refine AK (C8 ev (fun v s2 z=>?_) fun _ _ z=>z);obtain⟨e,D',t,rfl,new,he,hD,ne,I2⟩:=z;refine AK (Ov (Ac ?_));obtain⟨Nn,xc⟩:=M.cls;have at2:(upd (upd H1 D' (.xd [(fl,.str msg)])) e (xO e C (some D') (Js t))) e=some (xO e C (some D') (Js t)):=AM;refine⟨e,Nn,t,some D',rfl,xc _ I2.BX,Kf I2.hok at2,?_⟩;refine YH I2 ⟨at2,.inl rfl,?_,(fun T hT=>by cases hT),(by show 1<6;decide)⟩ fun ws=>?_
 ·exact BJ I.sz new
 ·rw[JT];exact h e D' ws he hD ne
end
abbrev Ni(X:Cx)(pins:List (OK×Obj))(W:AD->Ya->Prop):Cx:={X with pn:=X.pn++pins,xe:=W}
abbrev KP(X:Cx)(e:OK)(W:AD->Ya->Prop):Cx:={X with A:=X.A.mark (some (.ref e)),calm:=false,xe:=W}
def Inv.oX(I:Inv X pins σ H s)(W:AD->Ya->Prop):Inv (Ni X pins W) [] σ H s:=
 ⟨⟨I.ok.mod,I.ok.kind,I.ok.glob,I.ok.blt,I.ok.above,I.ok.inj,I.ok.has,I.ok.Ky,I.ok.hd,I.ok.frames,I.ok.MB,I.ok.Qt,I.ok.bs,I.ok.GV,I.ok.Ku,I.ok.Kt,I.ok.Ej,I.ok.IF⟩,
  I.os,I.bare,I.base,I.loc,I.cell,I.free,I.DH,fun p hp=>I.pin p (by rw[Cp] at hp;exact hp),I.hok,I.len⟩
def Inv.NM{pins1:List (OK×Obj)}{W:AD->Ya->Prop}(ok:X.Ok)(I:Inv (Ni X pins W) pins1 σ H s):Inv X pins σ H s:=
 ⟨ok,I.os,I.bare,I.base,I.loc,I.cell,I.free,I.DH,fun p hp=>I.pin p (IM _ hp),I.hok,I.len⟩
def Inv.marked(I:Inv X pins σ H s)(e:OK)(W:AD->Ya->Prop):Inv (KP X e W) pins σ H s:=
 ⟨⟨I.ok.mod,I.ok.kind,I.ok.glob,I.ok.blt,I.ok.above,I.ok.inj,I.ok.has,I.ok.Ky,(fun z=>nomatch z),I.ok.frames,I.ok.MB,I.ok.Qt,I.ok.bs,I.ok.GV,I.ok.Ku,I.ok.Kt,I.ok.Ej,I.ok.IF⟩,
  I.os,I.bare,I.base,I.loc,I.cell,I.free,I.DH,I.pin,I.hok,I.len⟩
def Inv.unmarked{e:OK}{W:AD->Ya->Prop}(ok:X.Ok)(I:Inv (KP X e W) pins σ H s):Inv X pins σ H s:=
 ⟨ok,I.os,I.bare,I.base,I.loc,I.cell,I.free,I.DH,I.pin,I.hok,I.len⟩
structure Tv(K:tW)(R:OK):Prop where
 cls:∃bm N,(∀h:qi,K.In h->GJ h R bm N)/\Ii bm
structure UI(K:tW)(C R:OK):Prop where
 cls:∃bm N,(∀h:qi,K.In h->GJ h C bm N)/\(Value.ref C::bm).contains (.ref R)=true
section
variable{g:Array rj}{d:Drawn}{t:Nat}{R N NR e:OK}{bmR:List AD}
def jC(xc:GJ h C bm N)(xr:GJ h R bmR NR)(ln:Ii bmR)(he:h.get? e=some (Cf C dd vs))(hs:(Value.ref C::bm).contains (.ref R)=true){Q:Bool->Ya->Prop}(hq:Q true ⟨h,g,d,t,os⟩):
 bt M A (excMatches (.ref e) (.ref R)) Q E ⟨h,g,d,t,os⟩:=by
 obtain⟨a1,a2,a3,a4,a5,a6,a7,a8,a9,b1,b2,b3,b4,b5,h1⟩:=xc;obtain⟨c1,c2,c3,c4,c5,c6,c7,c8,c9,d1,d2,d3,d4,d5,h0⟩:=xr;have rB:(Value.ref R::bmR).contains (.type "BaseException")=true:=Ht ln.base rfl;have nt:=tc_notTuple;unfold Cf at he;unfold excMatches;repeat (first|with_reducible refine JB he ?_|with_reducible refine JB h0 ?_|(with_reducible refine MK h0 ?_;rw[rB])|(with_reducible refine MK h1 ?_;rw[hs])|wp_step)
 exact hq
end
def TY(K:tW)(R:OK)(f:Str)(Q:VK):XK:=fun c d H'=>∃C D h0,c=.ref C/\d=some D/\UI K C R/\Dc K C f/\H' D=some (.xd [(f,.str h0)])/\Q (.str h0) H'
def mV{e:OK}{ws:Array AD}{f:Str}{fs:List (Str×V)}{expr:Bool}{Q:VK}(I:Inv X pins σ H s)(he:H e=some (xO e C (some D) ws))(xa:Dc X.K C f)
 (hD:H D=some (.xd fs))(hv:fs.lookup f=some v)(q:Q v H):bt (ax X.prog X.w) A (tF (.ref e) f expr) (EP X pins σ Q) E s:=by
 obtain⟨mA,hn,h0⟩:=(show BV X.prog X.w H s.heap D (.xd fs) from I.hok D _ hD);have r:=h0 f;rw[hv] at r;obtain⟨u,hu,ru⟩:=r.some_of;have h1:=Kf I.hok he;obtain⟨hp,g,d,tk,os⟩:=s;exact oa I.BX xa h1 hn hu (WD ru) fun tk=>⟨v,H,I.tok tk,ru,q⟩
def oC(K:tW)(ta:TE)(f:Str):TE:=fun σ H Q=>ta σ H fun x H1=>∃e C D ws fs v,x=.ref e/\H1 e=some (xO e C (some D) ws)/\Dc K C f/\H1 D=some (.xd fs)/\fs.lookup f=some v/\Q v H1
def jx{o:hX}{f:Str}(he:PE X o ta)(hb:qo o f X.env (qh o X.env)=qh o X.env):PE X (.Attribute o f pos) (oC X.K ta f):=by intro h0 s σ H Q I h;refine XR hb (Ad (he h0 s σ H _ I h) fun u s1 ⟨x,H1,I1,rx,e,C,D,ws,fs,v,ex,ea,xa,eD,l,q⟩=>?_);subst ex;obtain rfl:u=Value.ref e:=rx;exact mV I1 ea xa eD l q
def gZ{m':Str->Option AD}(I:Inv X pins σ H s)(hs:Heap.SameBut X.env.locals s.heap h')(hn:h'.Ns X.env.locals m'):
 Inv X pins (List.replicate X.N.length none) H {s with heap:=h',toks:=t'}:=by
 have nl:∀b o,X.s₀.heap.get? b=some o->b≠X.env.locals:=fun b o e=>BO (C5 (A2 e) I.ok.above);refine⟨I.ok,I.os,I.bare,⟨fun b o e n hb hx=>(hs.2 b (nl b o e)).trans (I.base.keep b o e n hb hx),fun b o e n hb hx=>?_,I.base.free,fun b o e hx=>?_,I.base.Em,I.base.EC,I.base.Ek⟩,⟨m',hn,fun j y v' _ e2 _=>?_⟩,fun y c e=>?_,I.free,I.DH,
  fun p hp=>?_,fun b u e=>?_,by simp⟩
 ·obtain⟨sl,e1⟩:=I.base.slot b o e n hb hx;exact⟨sl,(hs.2 b (nl b o e)).trans e1⟩
 ·obtain⟨o',e1⟩:=I.base.there b o e hx;exact⟨o',(hs.2 b (nl b o e)).trans e1⟩
 ·rw[List.getElem?_replicate] at e2;split at e2<;>cases e2
 ·obtain⟨v,z⟩:=I.cell y c e;exact⟨v,z.sameBut hs (I.Jl y c e)⟩
 ·obtain⟨e,n,ne,nf,dt⟩:=I.pin p hp;exact⟨(hs.2 p.1 ne).trans e,n,ne,nf,dt⟩
 ·refine(I.hok b u e).ES (fun c w' hc q=>(hs.2 c ?_).trans q) (fun _ q=>q) fun _ _ q=>q;intro z;rcases hc with y|y
  ·rw[<-y,z,I.free] at e;cases e
  ·rw[z,I.free] at y;cases y
def kj{tb:XK->TS}{n R:Str}{Rc:OK}{f:Str}{np p1 p2 p3 hpos:Pos}(hN:X.N.Nodup)(hi:X.N[i]? =some n)(hn:X.env.scope.names.lookup n=some .local)
 (hb:∀(pins:List (OK×Obj))(W:AD->Ya->Prop)(E:XK),Passes (Cs X.prog X.w) (Ni X pins W) E->EW (Ni X pins W) body (tb E))
 (hg:Gl X R)(hm:X.mg R=some (.ref Rc))(hR:Tv X.K Rc)(hst:X.stack=X.env::X.outer/\X.env.frame=some X.env.locals)(hd1:(R==("__debug__" :Str))=false:=by decide)(hd2:(n==("__debug__" :Str))=false:=by decide)(hd3:(n==("__classdict__" :Str))=false:=by decide)
 (hab:qo (.Name n p1) f X.env (qh (.Name n p1) X.env)=qh (.Name n p1) X.env:=by rfl):
 PS X (.Try body [.ExceptHandler (some (.Name R np)) (some n) [.Return (some (.Attribute (.Name n p1) f p2)) p3] hpos] [] [] pos) (fun D σ H=>tb (TY X.K Rc f D.rt) D σ H):=by
 intro pins s σ H D I h;let W:AD->Ya->Prop:=fun v s'=>∃σ1 H1 s1,Inv X pins σ1 H1 s1/\Cs X.prog X.w X.stack H1 s1 (TY X.K Rc f D.rt) v s';have ps:Passes (Cs X.prog X.w) (Ni X pins W) (TY X.K Rc f D.rt):=fun h9 σ1 H1 s1 v s2 I1 cx=>⟨σ1,H1,s1,Inv.NM I.ok I1,cx⟩;have hr:=hb pins W _ ps [] s σ H D (Inv.oX I W) h;refine wpAny_Try_except (C8 hr (fun fl s1 z=>?_) fun v s2 z=>?_)
 ·cases fl with
  |next=>obtain⟨σ',H',J,q⟩:=z;exact Ol ⟨σ',H',Inv.NM I.ok J,q⟩
  |brk=>obtain⟨σ',H',J,q⟩:=z;exact⟨σ',H',Inv.NM I.ok J,q⟩
  |cont=>obtain⟨σ',H',J,q⟩:=z;exact⟨σ',H',Inv.NM I.ok J,q⟩
  |ret u=>obtain⟨v,σ',H',J,r,q⟩:=z;exact⟨v,σ',H',Inv.NM I.ok J,r,q⟩
 ·obtain⟨σ1,H1,s1,I1,e,C,Dd,vs,H2,rfl,os,h5,un,ok,fl,hE⟩:=z;have J:=I1.P9 (ch:=[]) os un ok h5 (fun b z=>absurd z (by simp));have ff:(envs:List Env)->X.stack=envs->s2.heap.FunFrames X.base envs:=fun l e=>e▸J.stack;refine Yl (base:=X.base) (L:=X.env.locals) (outer:=X.outer) (hst.1▸J.ok.frames) (ff _ hst.1) hst.2 (Kf J.hok fl.xo) fl.two fl.hd fun h3 lv=>?_;obtain⟨h0,e1,h6⟩:=fl.step J.hok lv (fun b hb=>J.Pb b (by rw[hst.1];exact hb));have e0:Un (Ci X.stack) [] H1 (upd H2 e (xO e C (some Dd) h0)) s1.heap h3:=by rw[hst.1] at un⊢;exact fl.qH un lv
  have J3:Inv X pins σ1 (upd H2 e (xO e C (some Dd) h0)) {s2 with heap:=h3}:=I1.P9 (s':={s2 with heap:=h3}) (ch:=[]) os e0 e1 h5 (fun b z=>absurd z (by simp));obtain⟨C',D',e2,eC,eD,xs,xa,hD,hQ⟩:=hE h0;obtain rfl:C=C':=by cases eC;rfl
  obtain rfl:Dd=D':=by cases eD;rfl
  obtain⟨bm,N,xc,h8⟩:=xs.cls;obtain⟨bmR,NR,xr,e4⟩:=hR.cls;have e3:=Kf J3.hok h6.xo;refine wpAny_handleBy_cons (codeAny_handlers_test ?_) (by intro q;cases q);refine LZ (X:=KP X e fun _ _=>True) (Inv.marked J3 e _) hg hm ?_ hd1;refine jC (xc _ J3.BX) (xr _ J3.BX) e4 e3 h8 ?_;refine codeAny_handlers_suite_as ?_;obtain⟨T,oT,ts,h1,nT,hT,dT,e6⟩:∃T oT ts,h0[1]? =some (.ref T)/\T≠e/\h3.get? T=some oT/\oT.data=.fields ts/\ts[3]? =some .none:=by
   rcases h6.hd with z|z
   ·obtain⟨T,oT,ts,he,_,gT,dT,e8⟩:=lv.here;have:h0=vs.setIfInBounds 1 (.ref T):=by have a:=e3.symm.trans he;cases a;rfl
    rw[this] at z;simp[fl.two] at z
   ·exact z
  have h2:=h6.N4 T h1;refine lH e3 h1 hT dT e6 fun h4 k4 x4 z4=>?_;have J4:=J3.turned (t':=s2.toks) (it:=T) (h':=h4) (fun b o nb q=>(k4 b nb).trans q) h2.2 (Fc (C5 I1.lt h2.1)) (.inr (BJ I1.sz h2.1))
   (fun x c q=>by obtain⟨v,z⟩:=I1.cell x c q;exact BO (C5 z.lt h2.1))
   fun p hp=>BO (C5 (A2 (I1.pin p hp).1) h2.1);refine SW (X:=KP X e fun _ _=>True) (Inv.marked J4 e _) hN hi (.inl hn) (v:=.ref e) rfl (fun s5 J5=>?_) (.inr hn);have e5:i<σ1.length:=by rw[I1.len];exact(BY.mp hi).1
  refine C8 ((AU (As (jx (X:=KP X e _) (f:=f) (pos:=p2) (Ys (X:=KP X e _) (pos:=p1) hi (.inl hn) hd2 hd3) hab)):EW (KP X e _) _ _) pins s5 _ _ {nx:=fun _ _=>False,rt:=D.rt} (Inv.marked (Inv.unmarked I.ok J5) e _)
   ⟨.ref e,OV e5,e,C,Dd,h0,_,.str e2,rfl,h6.xo,xa,hD,by rw[Gf,HV],hQ⟩) (fun e7 s6 z=>?_) fun _ _ z=>z
  cases e7 with
  |next=>obtain⟨_,_,_,q⟩:=z;exact q.elim
  |brk=>obtain⟨_,_,_,q⟩:=z;exact q.elim
  |cont=>obtain⟨_,_,_,q⟩:=z;exact q.elim
  |ret u=>obtain⟨v,σ6,H6,J6,r6,q6⟩:=z;obtain⟨m6,n6,_⟩:=J6.loc;exact wpAny_nameGoes hn n6 (by rw[I.ok.kind];rfl) fun h7 m7 n7 s7=>⟨v,_,H6,gZ (Inv.unmarked I.ok J6) s7 n7,r6,q6⟩
abbrev PR:=Str×Str
noncomputable def Fw(p:PR):List V:=[.str p.1,.str p.2]
noncomputable def Df(p:PR):Dt:=.tup [.str p.1,.str p.2]
noncomputable def N0(H:Hp)(a:OK):Option PR:=match H a with
 |some (.tup [.str k,.str z])=>some (k,z)
 |_=>none
def XZ{p:PR}(h:H a=some (.tup (Fw p))):N0 H a=some p:=by unfold N0;rw[h];rfl
def Ng{p:PR}(r:Rep H (Df p) v):∃a,v=.ref a/\H a=some (.tup (Fw p)):=by
 cases r with
 |@tup ds a xs h hl rr=>refine⟨a,rfl,?_⟩;revert h rr;refine Lr (C:=fun xs=>H a=some (.tup xs)->(∀(i:Nat) d x,[Dt.str p.1,Dt.str p.2][i]? =some d->xs[i]? =some x->Rep H d x)->H a=some (.tup (Fw p))) (fun u v h rr=>?_) hl.symm;have e1:=rr 0 (.str p.1) u rfl rfl;have e2:=rr 1 (.str p.2) v rfl rfl;cases e1;cases e2;exact h
def S9{p:PR}(h:H a=some (.tup (Fw p))):Rep H (Df p) (.ref a):=by
 refine .tup h rfl fun i d x h1 h2=>?_
 match i with
 |0=>cases h1;cases h2;exact .str _
 |1=>cases h1;cases h2;exact .str _
 |i+2=>simp at h1
def Yi(p q:PR):decide (p=q)=((p.1==q.1)&&((p.2==q.2)&&true)):=by
 by_cases h1:p.1=q.1
 ·by_cases h2:p.2=q.2
  ·rw[Bb (Prod.ext h1 h2),h1,h2,HV,HV];rfl
  ·rw[BN (fun z=>h2 (BD Prod.snd z)),K9 h2,Mf,LB]
 ·rw[BN (fun z=>h1 (BD Prod.fst z)),K9 h1,Mf]
def jB(I:Inv X pins σ H s){p q:PR}(ha:H a=some (.tup (Fw p)))(hb:H b=some (.tup (Fw q)))(hu:A.units<qr):SeqAt.EqAt A s (.ref a) (.ref b) (decide (p=q)):=by
 by_cases h0:a=b
 ·subst h0;rw[ha] at hb;have e:p=q:=by have:=Ag hb;cases p;cases q;simp[Fw] at this;exact Prod.ext this.1 this.2
  rw[Bb e];exact .same _
 ·obtain⟨h5,r,pl,hz⟩:=I.tuple (AS.of (K:=X.K) ha);obtain⟨h4,r2,h3,h6⟩:=I.tuple (AS.of (K:=X.K) hb);obtain⟨u1,u2,rfl,e1,e2⟩:=Vals.two r;obtain⟨w1,w2,rfl,e3,e4⟩:=Vals.two r2;obtain⟨t1,rfl⟩:=e1;obtain⟨t2,rfl⟩:=e2;obtain⟨t3,rfl⟩:=e3;obtain⟨t4,rfl⟩:=e4;have rc:=SeqAt.RcAt.tuples (e:=fun j=>if j=0 then p.1==q.1 else p.2==q.2) pl h3 hu (fun j h1 h2=>?_)
  ·refine SeqAt.EqAt.of_refs h0 ?_;have:decide (p=q)=((List.range (min #[Value.str p.1 t1,Value.str p.2 t2].size #[Value.str q.1 t3,Value.str q.2 t4].size)).all (fun j=>if j=0 then p.1==q.1 else p.2==q.2)&& #[Value.str p.1 t1,Value.str p.2 t2].size== #[Value.str q.1 t3,Value.str q.2 t4].size):=by show decide (p=q)=((List.range 2).all (fun j=>if j=0 then p.1==q.1 else p.2==q.2)&&true);rw[Bool.and_true,show List.range 2=[0,1] from rfl,LF,LF,List.all_nil];exact Yi p q
   rw[this];exact rc
  ·match j,h1 with
   |0,_=>exact .str_str _ _ _ _
   |1,_=>exact .str_str _ _ _ _
def GY(H:Hp)(p:PR)(u:AD):Bool:=match u with
 |.ref a=>decide (N0 H a=some p)
 |_=>false
def YN(I:Inv X pins σ H s)(hu:A.units<qr){p:PR}(hb:H b=some (.tup (Fw p))):∀{ws:List PR}{xs:List V}{us:List AD},Ab H (ws.map Df) xs->Vals xs us->∀u∈us,SeqAt.EqAt A s u (.ref b) (GY H p u):=fun{ws xs us} rr rv u h4=>by
 obtain⟨i,hi⟩:=U8 h4;have hl:i<ws.length:=by
  have h1:=(BY.mp hi).1;have h2:=rv.length;have h3:=rr.1;rw[AJ] at h3
  lia
 have hx:i<xs.length:=by have:=rr.1;rw[AJ] at this;lia
 have ex:xs[i]? =some xs[i]:=Ap hx;have ew:(ws.map Df)[i]? =some (Df ws[i]):=by rw[Az,Ap hl];rfl
 obtain⟨a,ea,ha⟩:=Ng (rr.2 i _ _ ew ex);obtain⟨u',h0,ru⟩:=rv.get ex;rw[hi] at h0;cases h0;rw[ea] at ru;cases ru;have e:GY H p (.ref a)=decide (ws[i]=p):=by
  show decide (N0 H a=some p)=_;rw[XZ ha];by_cases z:ws[i]=p
  ·rw[z];simp
  ·rw[BN z,BN (fun y=>z (Ag y))]
 rw[e];exact jB I ha hb hu
def Ta(H:Hp)(p:PR):∀{ws:List PR}{xs:List V}{us:List AD},Ab H (ws.map Df) xs->Vals xs us->us.map (GY H p)=ws.map fun q=>decide (q=p)
 |[],[],_,_,.nil=>rfl
 |w::ws,x::xs,u::us,rr,.cons r t=>by
  obtain⟨a,ea,ha⟩:=Ng (rr.2 0 _ x rfl rfl);rw[Au,Au,Ta H p (ws:=ws) (xs:=xs) ⟨by simpa using rr.1,fun i d y h1 h2=>rr.2 (i+1) d y (by simpa using h1) (by simpa using h2)⟩ t];rw[ea] at r;cases r;congr 1;show decide (N0 H a=some p)=_;rw[XZ ha];by_cases z:w=p
  ·rw[z];simp
  ·rw[BN z,BN (fun y=>z (Ag y))]
 |[],_::_,_,rr,_=>by cases rr.1
 |_::_,[],_,rr,_=>by cases rr.1
def pN:R2:=fun x y H Q=>∃a b p q,x=.ref a/\y=.ref b/\H a=some (.tup (Fw p))/\H b=some (.tup (Fw q))/\Q (.bl (decide (p=q))) H
def We(hu:X.A.units<qr):Br X (qg .Eq) pN:=by
 intro pins s σ H x y v u Q I rx ry h;obtain⟨a,b,p,q,rfl,rfl,ha,hb,qq⟩:=h;cases rx;cases ry;obtain⟨h4,r,pl,hz⟩:=I.tuple (AS.of (K:=X.K) ha);obtain⟨h3,r2,h0,h5⟩:=I.tuple (AS.of (K:=X.K) hb);obtain⟨u1,u2,rfl,e1,e2⟩:=Vals.two r;obtain⟨w1,w2,rfl,e3,e4⟩:=Vals.two r2;obtain⟨t1,rfl⟩:=e1;obtain⟨t2,rfl⟩:=e2;obtain⟨t3,rfl⟩:=e3;obtain⟨t4,rfl⟩:=e4;refine SeqAt.eq_tupleAt (e:=fun j=>if j=0 then p.1==q.1 else p.2==q.2) pl h0 hu (fun j h1 h2=>?_) ⟨.bl (decide (p=q)),H,I,?_,qq⟩
 ·match j,h1 with
  |0,_=>exact .str_str _ _ _ _
  |1,_=>exact .str_str _ _ _ _
 ·show Value.bool ((List.range 2).all (fun j=>if j=0 then p.1==q.1 else p.2==q.2)&&true)=Value.bool (decide (p=q));rw[Bool.and_true,show List.range 2=[0,1] from rfl,LF,LF,List.all_nil];exact BD Value.bool (Yi p q).symm
def px:R2:=fun x y H Q=>∃(b l:OK)(p:PR)(ws:List PR)(xs:List V),x=.ref b/\y=.ref l/\H b=some (.tup (Fw p))/\H l=some (.lst xs)/\Ab H (ws.map Df) xs/\Q (.bl (ws.any fun q=>decide (q=p))) H
def iP(hu:X.A.units+1<qr):Br X (qg .In) px:=by intro pins s σ H x y v u Q I rx ry h;obtain⟨b,l,p,ws,xs,rfl,rfl,hb,hl,rr,q⟩:=h;cases rx;cases ry;obtain⟨h0,r,pl,hz⟩:=I.list (AL.of (K:=X.K) hl);refine SeqAt.in_listAt (GY H p) pl.isList (fun w hw=>YN I (show X.A.in1.units<qr from hu) hb rr r w (by simpa using hw)) ⟨.bl _,H,I,rfl,?_⟩;have e:=BD (fun l:List Bool=>l.any id) (Ta H p rr r);simp only[Oz] at e;rw[show h0.toArray.any (GY H p)=h0.any (GY H p) by simp,show h0.any (GY H p)=h0.any (id∘GY H p) from rfl,e];exact q
def j6:V->List V->Hp->VK->Prop:=fun x vs H Q=>∃(b l:OK)(p:PR)(ws:List PR)(xs:List V),x=.ref l/\vs=[.ref b]/\H b=some (.tup (Fw p))/\H l=some (.lst xs)/\Ab H (ws.map Df) xs/\Q (.int (ws.countP fun q=>decide (q=p):Nat)) H
def cI(hu:X.A.units+1<qr):IH X "list.count" j6:=by intro pins s σ H x vs v us Q I rx rv h;obtain⟨b,l,p,ws,xs,rfl,rfl,hb,hl,rr,q⟩:=h;cases rx;obtain⟨u,rfl,ru⟩:=rv.one;cases ru;obtain⟨z,h0,n,r,h1,e⟩:=I.Kk hl;refine KC F.slot_list_count ⟨_,e,rfl⟩ F.entry_list_count (F.args_list_count_2 _ _) (SeqAt.list_countAt l h0.toArray n none #[] (.ref b) (GY H p)) ⟨e,fun w hw=>YN I (show X.A.in1.units<qr from hu) hb rr r w (by simpa using hw),?_⟩;refine⟨.int _,H,I.tok _,⟨_,rfl⟩,?_⟩;have e2:=BD (fun l:List Bool=>l.countP id) (Ta H p rr r);simp only[List.countP_map] at e2;show Q (.int (h0.countP (GY H p):Nat)) H;rw[show h0.countP (GY H p)=h0.countP (id∘GY H p) from rfl,e2];exact q
def Inv.Yx{o u:HO}(I:Inv X pins σ H s)(h:H d=some o)(nt:∀xs,o≠.tup xs)(nw:∀x,o≠.own x)(nf:∀b u',X.H₀ d≠some (.BQ b u'))(nb:∀ps,o≠.Jq ps)(new:BV X.prog X.w (upd H d u) s.heap d u):Inv X pins σ (upd H d u) s:=by
 refine⟨I.ok,I.os,I.bare,⟨I.base.keep,I.base.slot,fun b ob q n hx=>?_,I.base.there,fun b xs q=>?_,fun b ob u' q=>?_,fun b ps q=>?_⟩,I.loc,I.cell,?_,fun x c e=>?_,fun p hp=>?_,fun b ob q=>?_,I.len⟩
 ·have z:=I.base.free b ob q n hx;rw[AN (fun y=>by rw[y,h] at z;cases z)];exact z
 ·have z:=I.base.Em b xs q;rw[AN (fun y=>by rw[y,h] at z;exact nt xs (Ag z))];exact z
 ·have z:=I.base.EC b ob u' q;rw[AN (fun y=>nf ob u' (by rw[<-y];exact q))];exact z
 ·obtain⟨m,z⟩:=I.base.Ek b ps q;exact⟨m,by rw[AN (fun y=>by rw[y,h] at z;exact nb _ (Ag z))];exact z⟩
 ·rw[AN (fun y=>by have:=I.free;rw[y,h] at this;cases this)];exact I.free
 ·rw[AN (fun y=>by have:=I.DH x c e;rw[y,h] at this;cases this)];exact I.DH x c e
 ·obtain⟨e,n,r⟩:=I.pin p hp;exact⟨e,by rw[AN (fun y=>by rw[y,h] at n;cases n)];exact n,r⟩
 ·by_cases hb:b=d
  ·subst hb;rw[AM] at q;cases q;exact new
  ·rw[AN hb] at q;refine(I.hok b ob q).ES (fun _ _ _ z=>z) (fun c z=>?_) fun c xs z=>?_
   ·rw[AN (fun y=>by rw[y,h] at z;exact nw _ (Ag z))];exact z
   ·rw[AN (fun y=>by rw[y,h] at z;exact nt _ (Ag z))];exact z
def Inv.Ln(I:Inv X pins σ H s)(h:H d=some (.dK AA))(b:Obj)(u:HO):X.H₀ d≠some (.BQ b u):=fun z=>by have:=I.base.EC d b u z;rw[h] at this;cases this
def BV.Zc(x:BV P w H h d (.dK AA)):BV P w H' h d (.dK AA):=x
def Inv.Zh(I:Inv X pins σ H s)(h:H d=some (.dK AA)):∃o es ep,s.heap.get? d=some o/\o.data=.dict es ep/\Inv X pins σ (upd H d (.BQ o (.dK AA))) s:=by have ok:=I.hok d _ h;obtain⟨z,hm,vs,h0,o,es,ep,ho,hc,hd,r⟩:=(show BV X.prog X.w H s.heap d (.dK AA) from ok);refine⟨o,es,ep,ho,hd,I.Yx h (fun _ q=>nomatch q) (fun _ q=>nomatch q) (I.Ln h) (fun _ q=>nomatch q) ⟨ho,BV.Zc (show BV X.prog X.w H s.heap d (.dK AA) from ok)⟩⟩
def Inv.Nv(I:Inv X pins σ H s)(nf:∀b u',X.H₀ d≠some (.BQ b u'))(h:H d=some (.BQ o (.dK AA))):Inv X pins σ (upd H d (.dK AA)) s:=by have ok:=I.hok d _ h;obtain⟨ho,z⟩:=(show BV X.prog X.w H s.heap d (.BQ o (.dK AA)) from ok);exact I.Yx h (fun _ q=>nomatch q) (fun _ q=>nomatch q) nf (fun _ q=>nomatch q) (BV.Zc (show BV X.prog X.w H s.heap d (.dK AA) from z))
def mf(d:OK)(AA:List (Key×V))(te:TE):TE:=fun σ H Q=>H d=some (.dK AA)/\te σ H fun v H'=>∃o,H' d=some (.BQ o (.dK AA))/\Q v (upd H' d (.dK AA))
def XW(he:PE X e te):PE X e (fun σ H Q=>∃d AA,mf d AA te σ H Q):=by intro pins s σ H Q I h;obtain⟨d,AA,hd,h⟩:=h;refine Ad (he pins s σ H _ I h) fun v s1 ⟨x,H',I1,r,o,ho,q⟩=>?_;exact⟨x,_,I1.Nv (I.Ln hd) ho,r,q⟩
def oo(d:OK)(AA:List (Key×V))(t:TS):TS:=fun D σ H=>H d=some (.dK AA)/\t {nx:=(fun σ' H'=>∃o,H' d=some (.BQ o (.dK AA))/\D.nx σ' (upd H' d (.dK AA))),rt:=(fun v H'=>∃o,H' d=some (.BQ o (.dK AA))/\D.rt v (upd H' d (.dK AA))),bk:=(fun σ' H'=>∃o,H' d=some (.BQ o (.dK AA))/\D.bk σ' (upd H' d (.dK AA))),ct:=(fun σ' H'=>∃o,H' d=some (.BQ o (.dK AA))/\D.ct σ' (upd H' d (.dK AA)))} σ H
def jQ{st:g0}{t:TS}(hs:PS X st t):PS X st (fun D σ H=>∃d AA,oo d AA t D σ H):=by
 intro pins s σ H D I h;obtain⟨d,AA,hd,h⟩:=h;refine Ad (hs pins s σ H _ I h) fun f s1 z=>?_
 cases f with
 |next=>obtain⟨σ',H',J,o,ho,q⟩:=z;exact⟨σ',_,J.Nv (I.Ln hd) ho,q⟩
 |brk=>obtain⟨σ',H',J,o,ho,q⟩:=z;exact⟨σ',_,J.Nv (I.Ln hd) ho,q⟩
 |cont=>obtain⟨σ',H',J,o,ho,q⟩:=z;exact⟨σ',_,J.Nv (I.Ln hd) ho,q⟩
 |ret u=>obtain⟨v,σ',H',J,r,o,ho,q⟩:=z;exact⟨v,σ',_,J.Nv (I.Ln hd) ho,r,q⟩
noncomputable def Ho(p d:OK):HO:=.ext fun h=>h.IsItemsView p d
def ki:V->List V->Hp->VK->Prop:=fun x vs H Q=>∃d AA,x=.ref d/\vs=[]/\H d=some (.dK AA)/\∀p,H p=none->Q (.ref p) (upd H p (Ho p d))
def WZ:IH X "dict.items" ki:=by intro pins s σ H x vs v us Q I rx rv h;obtain⟨d,AA,rfl,rfl,hd,q⟩:=h;cases rx;cases rv;obtain⟨z,hm,ws,h0,dd⟩:=JZ I.hok hd;refine Mp Uz dd.typeIs PySem.F.entry_dict_items (PySem.F.args_dict_items_1 _) (meets_dict_items (CU X.prog X.w) d hm) ⟨⟨ws,dd⟩,?_⟩;refine⟨.ref s.heap.objs.size,_,I.laid (t':=s.toks) (o:=Ho s.heap.objs.size d) (fun b o e=>BC _ e) (Ae _) ?_,rfl,q _ I.fresh⟩;have hv:(s.heap.push {cls:=.type "dict_items",data:=.fields #[.ref d]}).IsItemsView s.heap.objs.size d:=⟨_,CB _ rfl,rfl,rfl⟩;exact⟨hv,⟨_,CB _ rfl⟩,fun h1 h2 a k=>let⟨o,e,r⟩:=a;⟨o,k o e,r⟩⟩
def L0(d:OK)(o:Obj)(AA:List (Key×V)):It:=
 ⟨fun i H=>H d=some (.BQ o (.dK AA))/\i<AA.length,fun i H v H'=>∃p k x,v=.ref p/\H p=none/\AA[i]? =some (k,x)/\H'=upd H p (.tup [kV k,x]),fun i H=>H d=some (.BQ o (.dK AA))/\AA.length<=i⟩
def UP(d:OK)(o:Obj)(AA:List (Key×V)):It:=
 ⟨fun i H=>H d=some (.BQ o (.dK AA))/\i<AA.length,fun i H v H'=>∃k,AA[i]? =some (k,v)/\H'=H,fun i H=>H d=some (.BQ o (.dK AA))/\AA.length<=i⟩
variable{ep:Nat}
def Ld{es:Array DictEntry}(ok:Bx P w H h)(e:H d=some (.BQ o (.dK AA)))(hd:o.data=.dict es ep):∃vs,KV AA vs/\h.DictAt (CU P w) d vs ep:=by obtain⟨ho,z,hm,vs,h2,o',h3,h4,h0,hc,h1,r⟩:=(show BV P w H h d (.BQ o (.dK AA)) from ok d _ e);rw[ho] at h0;cases h0;rw[hd] at h1;cases h1;exact⟨vs,h2,o,es,ho,hc,hd,r⟩
def TV{AA:List (Key×V)}{ws:List (Key×AD)}:KV AA ws->∀{i:Nat}{k:Key}{x:V},AA[i]? =some (k,x)->∃u,ws[i]? =some (k,u)/\RelV x u
 |.nil,i,k,x,e=>by simp at e
 |.cons r t,0,k,x,e=>by have e':=Ag (show some _=some (k,x) from by simpa using e);subst e';rename_i b _ _;obtain⟨k',u⟩:=b;obtain⟨h1,h2⟩:=r;exact⟨u,by simp;exact h1.symm,h2⟩
 |.cons _ t,i+1,k,x,e=>by obtain⟨u,h1,h2⟩:=TV (show KV _ _ from t) (i:=i) (k:=k) (x:=x) (by simpa using e);exact⟨u,by simpa using h1,h2⟩
def jM{k:Key}{key:AD}(h:(CU P w).is k key=true):RelV (kV k) key:=by
 rcases Gi h with⟨i,t,rfl,rfl⟩|⟨x,t,rfl,rfl⟩
 ·exact⟨t,rfl⟩
 ·exact⟨t,rfl⟩
def bb:entryFor table "dict_itemiterator.__iter__" =some Builtin.«dict_keyiterator.__iter__»:=
 entryFor_alias (id':="dict_keyiterator.__iter__") (by kernel_rfl) rfl (by left) (by kernel_rfl)
def dI{x1:Nat}(d it:OK)(o:Obj)(AA:List (Key×V))(es:Array DictEntry)(ep:Nat)(hod:o.data=.dict es ep):
 Turn P w K (.Tuple elts x1 tpos) (L0 d o AA) [it] it (fun i h=>∃ok ov,IsItemIter h it d i AA.length ep ok ov) where
 mem:=by simp
 obj:=fun i h st b hb=>by
  obtain⟨ok,ov,he⟩:=st;have h0:b=it:=by simpa using hb
  subst h0;exact⟨_,he,fun v q=>nomatch q⟩
 keep:=fun i h h' st k=>by obtain⟨ok,ov,he⟩:=st;exact⟨ok,ov,k it (by simp) _ he⟩
 item:=by
  intro X hP hw hK hc i pins s σ H E I hf st hg;subst hP hw hK;obtain⟨ok,ov,he⟩:=st;obtain⟨hd,hi⟩:=hg;obtain⟨vs,h3,h5⟩:=Ld I.hok hd hod;have ex:AA[i]? =some (AA[i].1,AA[i].2):=Ap hi;obtain⟨u,hu,ru⟩:=TV h3 ex;have hl:AA.length=vs.length:=JF h3;have hn:H s.heap.objs.size=none:=I.hok.fresh (Ae _);have lt:=A2 he;rw[hl] at he;refine wpAny_pyNext_items_item (knd:=CU X.prog X.w) he h5 hu fun h7 h1 h4 e1 t1 z1 k1=>⟨_,rfl,?_⟩;refine wpAny_letOwnedTupleGo_items e1 fun h2 e2 sb=>?_;have h6:Heap.SameBut it h1 h2:=sb;have k2:∀b o,b∉[it]->s.heap.get? b=some o->h2.get? b=some o:=fun b o hb z=>by
   have h0:b≠it:=by simpa using hb
   exact(h6.2 b h0).trans (k1 b o h0 z)
  have t2:sj h2 s.heap.objs.size [h7,u].toArray:=⟨_,(h6.2 _ (Fc lt)).trans t1,rfl,_,rfl⟩;have I2:=I.WB (h':=h2) (t':=s.toks) (xs:=[kV AA[i].1,AA[i].2]) hf k2 (fun b hb=>by
   have h0:b=it:=by simpa using hb
   rw[h0];exact⟨_,e2⟩) (.cons (jM h4) (.cons ru .nil)) (by exact zv) t2;refine⟨.ref s.heap.objs.size,_,I2,rfl,⟨_,_,_,rfl,hn,ex,rfl⟩,⟨h7,u,by rw[hl];exact e2⟩,fun b hb=>?_⟩;have h0:b=it:=by simpa using hb
  rw[h0,AN (BO lt)];exact(hf it (by simp)).1
 done:=by intro X hP hw hK hc i pins s σ H E I hf st hg;subst hP hw hK;obtain⟨ok,ov,he⟩:=st;obtain⟨hd,hi⟩:=hg;obtain⟨vs,h3,h5⟩:=Ld I.hok hd hod;have hl:AA.length=vs.length:=JF h3;obtain⟨f0,f1,f2,f3,f4,f5⟩:=hf it (by simp);rw[hl] at he;exact wpAny_pyNext_items_end (knd:=CU X.prog X.w) (I.ok.hd hc) he h5 (OO.mpr (by lia)) fun h' eb=>⟨rfl,I.turned (t':=s.toks) (fun b o hb e=>eb b o hb e) f0 f1 f3 f4 f5⟩
 self:=fun A i s Q E st h=>by obtain⟨ok,ov,he⟩:=st;have ty:s.TypeIs (.ref it) "dict_itemiterator" :=⟨_,he,rfl⟩;refine wpAny_pyIter_slot ty bV (MX bV ty bb ?_ (PySem.F.args_dict_itemiterator_iter_1 _));show bt _ _ (ret (.ref it)) _ _ s;exact Ac ⟨_,rfl,"dict_itemiterator",_,ty,PySem.F.slot_dict_itemiterator_next.lookup,h⟩
def cG(d it:OK)(o:Obj)(AA:List (Key×V))(es:Array DictEntry)(ep:Nat)(hod:o.data=.dict es ep):
 Turn P w K tg (UP d o AA) [it] it (fun i h=>h.IsValIter it d i AA.length ep) where
 mem:=by simp
 obj:=fun i h st b hb=>by
  obtain⟨oi,he,hc,h2⟩:=st;have h3:b=it:=by simpa using hb
  subst h3;exact⟨_,he,fun v q=>by rw[h2] at q;cases q⟩
 keep:=fun i h h' st k=>st.at fun o z=>k it (by simp) o z
 item:=by
  intro X hP hw hK hc i pins s σ H E I hf st hg;subst hP hw hK;obtain⟨hd,hi⟩:=hg;obtain⟨vs,h0,h4⟩:=Ld I.hok hd hod;have ex:AA[i]? =some (AA[i].1,AA[i].2):=Ap hi;obtain⟨u,hu,ru⟩:=TV h0 ex;have hl:AA.length=vs.length:=JF h0;obtain⟨f0,f1,f2,f3,f4,f5⟩:=hf it (by simp);rw[hl] at st;refine wpAny_pyNext_values_item (knd:=CU X.prog X.w) st h4 hu fun h1 e1 sb=>⟨_,rfl,?_⟩;obtain⟨oi,he,h5,h2⟩:=id e1;refine Np (s:={s with heap:=h1}) he h5 h2 (by decide) ?_;exact⟨AA[i].2,H,I.turned (t':=s.toks) (fun b o hb e=>(sb.2 b hb).trans e) f0 f1 f3 f4 f5,ru,⟨_,ex,rfl⟩,by rw[hl];exact e1,fun b hb=>by
   have h3:b=it:=by simpa using hb
   rw[h3];exact f0⟩
 done:=by intro X hP hw hK hc i pins s σ H E I hf st hg;subst hP hw hK;obtain⟨hd,hi⟩:=hg;obtain⟨vs,h0,h4⟩:=Ld I.hok hd hod;have hl:AA.length=vs.length:=JF h0;obtain⟨f0,f1,f2,f3,f4,f5⟩:=hf it (by simp);rw[hl] at st;exact wpAny_pyNext_values_end (knd:=CU X.prog X.w) (I.ok.hd hc) st h4 (OO.mpr (by lia)) fun h' eb=>⟨rfl,I.turned (t':=s.toks) (fun b o hb e=>eb b o hb e) f0 f1 f3 f4 f5⟩
 self:=fun _ _ _ _ _ st h=>wpAny_pyIter_valiter st h
def kI(tl:TE):TI:=fun σ H R=>tl σ H fun x H1=>∃p d AA,x=.ref p/\H1 p=some (Ho p d)/\H1 d=some (.dK AA)/\∀o,R (L0 d o AA) (upd H1 d (.BQ o (.dK AA)))
def nN(tl:TE):TI:=fun σ H R=>tl σ H fun x H1=>∃p d AA,x=.ref p/\H1 p=some (Gz p d)/\H1 d=some (.dK AA)/\∀o,R (UP d o AA) (upd H1 d (.BQ o (.dK AA)))
def W7{x1:Nat}{l:hX}(hl:PE X l tl):PI X (.Tuple elts x1 tpos) l (kI tl):=by
 intro pins s σ H R I h;refine Ad (hl pins s σ H _ I h) fun v s1 ⟨x,H1,I1,r,p,d,AA,ex,hp,hd,q⟩=>?_;subst ex;cases r;obtain⟨h2,_⟩:=(show BV X.prog X.w H1 s1.heap p (Ho p d) from I1.hok p _ hp);obtain⟨o,es,ep,ho,h0,I2⟩:=I1.Zh hd;obtain⟨vs,h1,h5⟩:=Ld I2.hok AM h0;have h3:AA.length=vs.length:=JF h1;refine wpAny_pyIter_items (knd:=CU X.prog X.w) h2 h5 ?_;refine⟨s1.heap.objs.size,[s1.heap.objs.size],_,_,_,rfl,I2.kept (t':=s1.toks) (fun b o e=>BC _ e),dI d _ o AA es ep h0,⟨.none,.none,?_⟩,fun b hb=>?_,q o⟩
 ·rw[h3];exact CB _ rfl
 ·have h4:b=s1.heap.objs.size:=by simpa using hb
  rw[h4];exact I2.Jg (Ae _) (I2.hok.fresh (Ae _))
def jR{l:hX}(hl:PE X l tl):PI X tg l (nN tl):=by
 intro pins s σ H R I h;refine Ad (hl pins s σ H _ I h) fun v s1 ⟨x,H1,I1,r,p,d,AA,ex,hp,hd,q⟩=>?_;subst ex;cases r;obtain⟨h2,_⟩:=(show BV X.prog X.w H1 s1.heap p (Gz p d) from I1.hok p _ hp);obtain⟨o,es,ep,ho,h0,I2⟩:=I1.Zh hd;obtain⟨vs,h1,h5⟩:=Ld I2.hok AM h0;have h3:AA.length=vs.length:=JF h1;refine wpAny_pyIter_values (knd:=CU X.prog X.w) h2 h5 ?_;refine⟨s1.heap.objs.size,[s1.heap.objs.size],_,_,_,rfl,I2.kept (t':=s1.toks) (fun b o e=>BC _ e),cG d _ o AA es ep h0,?_,fun b hb=>?_,q o⟩
 ·exact⟨_,CB _ rfl,rfl,by rw[h3];rfl⟩
 ·have h4:b=s1.heap.objs.size:=by simpa using hb
  rw[h4];exact I2.Jg (Ae _) (I2.hok.fresh (Ae _))
def cq{Q:VK}(Pv:Nat->Hp->Prop)(h0:Pv 0 (upd H1 D (.lst [])))(hl:∀i H,Pv i H->H d=some (.BQ o (.dK AA)))
 (hs:∀i k x p H,AA[i]? =some (k,x)->H p=none->Pv i H->g (.ref p) (ts.map (fun _=>none)++D4 ix σ) (upd H p (.tup [kV k,x])) fun σ2 H2=>Iy ts ix σ σ2/\ti σ2 H2 fun b H3=>if b=true then te σ2 H3 fun y H4=>∃ys,H4 D=some (.lst ys)/\ys.length<sizeLine/\Pv (i+1) (upd H4 D (.lst (ys++[y]))) else Pv (i+1) H3)
 (hd:∀H,Pv AA.length H->Q (.ref D) H):Lm ts ix σ (L0 d o AA) g ti te D Q H1:=by
 refine⟨fun i m H=>m=AA.length-i/\i<=AA.length/\Pv i H,⟨AA.length,by simp,CC _,h0⟩,?_⟩;rintro i m H ⟨rfl,hi,p⟩;by_cases h1:i<AA.length
 ·refine .inr ⟨⟨hl i H p,h1⟩,Pv (i+1),fun H' p'=>⟨AA.length-(i+1),by lia,rfl,h1,p'⟩,fun v H' y=>?_⟩;obtain⟨q,k,x,ev,hq,ex,eH⟩:=y;subst ev eH;exact hs i k x q H ex hq p
 ·obtain rfl:i=AA.length:=by lia
  exact .inl ⟨⟨hl _ H p,Ae _⟩,hd H p⟩
def eQ{Q:VK}(Pv:Nat->Hp->Prop)(h0:Pv 0 (upd H1 D (.lst [])))(hl:∀i H,Pv i H->H d=some (.BQ o (.dK AA)))
 (hs:∀i k x H,AA[i]? =some (k,x)->Pv i H->g x (ts.map (fun _=>none)++D4 ix σ) H fun σ2 H2=>Iy ts ix σ σ2/\ti σ2 H2 fun b H3=>if b=true then te σ2 H3 fun y H4=>∃ys,H4 D=some (.lst ys)/\ys.length<sizeLine/\Pv (i+1) (upd H4 D (.lst (ys++[y]))) else Pv (i+1) H3)
 (hd:∀H,Pv AA.length H->Q (.ref D) H):Lm ts ix σ (UP d o AA) g ti te D Q H1:=by
 refine⟨fun i m H=>m=AA.length-i/\i<=AA.length/\Pv i H,⟨AA.length,by simp,CC _,h0⟩,?_⟩;rintro i m H ⟨rfl,hi,p⟩;by_cases h1:i<AA.length
 ·refine .inr ⟨⟨hl i H p,h1⟩,Pv (i+1),fun H' p'=>⟨AA.length-(i+1),by lia,rfl,h1,p'⟩,fun v H' y=>?_⟩;obtain⟨k,ex,eH⟩:=y;subst eH;exact hs i k v _ ex p
 ·obtain rfl:i=AA.length:=by lia
  exact .inl ⟨⟨hl _ H p,Ae _⟩,hd H p⟩
def fc{D:Ends}(Pv:Nat->St->Hp->Prop)(h0:Pv 0 σ H)(hl:∀i σ H,Pv i σ H->H d=some (.BQ o (.dK AA)))
 (hs:∀i k x p σ H,AA[i]? =some (k,x)->H p=none->Pv i σ H->g (.ref p) σ (upd H p (.tup [kV k,x])) fun σ2 H2=>tb {D with nx:=Pv (i+1),ct:=Pv (i+1),bk:=D.nx} σ2 H2)(hd:∀σ H,Pv AA.length σ H->D.nx σ H):
 ∃W:Nat->Nat->St->Hp->Prop,(∃m,W 0 m σ H)/\∀i m σ H,W i m σ H->
  ((L0 d o AA).stop i H/\D.nx σ H)\/((L0 d o AA).go i H/\∃N:St->Hp->Prop,(∀σ' H',N σ' H'->∃m',m'<m/\W (i+1) m' σ' H')/\∀x H',(L0 d o AA).Iw i H x H'->g x σ H' fun σ2 H2=>tb {D with nx:=N,ct:=N,bk:=D.nx} σ2 H2):=by
 refine⟨fun i m σ H=>m=AA.length-i/\i<=AA.length/\Pv i σ H,⟨AA.length,by simp,CC _,h0⟩,?_⟩;rintro i m σ H ⟨rfl,hi,p⟩;by_cases h1:i<AA.length
 ·refine .inr ⟨⟨hl i σ H p,h1⟩,Pv (i+1),fun σ' H' p'=>⟨AA.length-(i+1),by lia,rfl,h1,p'⟩,fun v H' y=>?_⟩;obtain⟨q,k,x,ev,hq,ex,eH⟩:=y;subst ev eH;exact hs i k x q σ H ex hq p
 ·obtain rfl:i=AA.length:=by lia
  exact .inl ⟨⟨hl _ σ H p,Ae _⟩,hd σ H p⟩
def iX{y:Str}{c e:OK}(hc:X.calm=true)(hk:scope.kind=.function)(h:scope.names.all (fun p=>p.2 !=.cell&&(p.2 !=.free||(p.1==y||p.1==z)))=true)
 (hn:∀q∈scope.names,q.2=.local->scope.names.lookup q.1=some .local)(hcl:closureFor scope X.env=pure [(y,c),(z,e)])(hyz:z≠y)(hce:X.env.cells.lookup y=some c)(hce2:X.env.cells.lookup z=some e)(hx:X.env.kindOf y=some .cell)(hx2:X.env.kindOf z=some .cell)
 (hj:X.N[j]? =some y)(hj2:X.N[k]? =some z)(hr:(rQ scope X.env).names.lookup y=some .cell)(hr2:(rQ scope X.env).names.lookup z=some .cell):KS X ts [y,z] [j,k] scope [(y,c),(z,e)]:=by
 have h0:∀q∈scope.names,q.2≠.cell/\(q.2=.free->q.1=y\/q.1=z):=fun q hq=>by have:=Ma.mp h q hq;simp only[FZ,Bool.or_eq_true,bne_iff_ne,Fd] at this;exact⟨this.1,fun e=>this.2.elim (fun q=>absurd e q) id⟩
 have h3:∀q kd,(rQ scope X.env).names.lookup q=some kd->(kd=.cell\/kd=.free)->q=y\/q=z:=fun q kd hq h5=>by
  have hm:=JA hq;obtain⟨p,hp,e⟩:=BA.mp (show(q,kd)∈scope.names.map _ from hm);obtain⟨n,kq⟩:=p;have h4:=h0 (n,kq) hp;by_cases hf:kq=.free
  ·have e1:=h4.2 hf;have e2:n=q:=by have:=BD Prod.fst e;revert this;dsimp only;split<;>exact id
   rw[<-e2];exact e1
  ·have e3:(n,kq)=(q,kd):=by
    rw[<-e];dsimp only;rw[AF (by
     intro zz;have:(kq==NameKind.free)=true:=by simp only[FZ] at zz;exact zz.1.1
     exact hf (by simpa using this))]
   have e4:kq=kd:=BD Prod.snd e3;rcases h5 with z1|z1
   ·exact absurd (e4.trans z1) h4.1
   ·exact absurd (e4.trans z1) hf
 have l1:List.lookup y [(y,c),(z,e)]=some c:=by rw[Gf,HV]
 have l2:List.lookup z [(y,c),(z,e)]=some e:=by rw[Gf,K9 hyz,Gf,HV]
 refine⟨hc,hcl,fun q hq=>(h0 q hq).1,hk,hn,fun q a e'=>?_,fun q hq=>?_,rfl,fun i q m e1 e2=>?_,fun q hq=>?_⟩
 ·by_cases h1:q=y
  ·rw[h1] at e'⊢;rw[l1] at e';rw[<-Ag e'];exact hce
  ·by_cases h2:q=z
   ·rw[h2] at e'⊢;rw[l2] at e';rw[<-Ag e'];exact hce2
   ·rw[Gf,K9 h1,Gf,K9 h2] at e';cases e'
 ·have e:=hq.elim (fun r=>h3 q _ r (.inl rfl)) fun r=>h3 q _ r (.inr rfl);rcases e with e|e
  ·rw[e];exact⟨c,l1⟩
  ·rw[e];exact⟨_,l2⟩
 ·match i with
  |0=>
   have e3:q=y:=by simpa using e1.symm
   have e4:m=j:=by simpa using e2.symm
   rw[e3,e4];exact hj
  |1=>
   have e3:q=z:=by simpa using e1.symm
   have e4:m=k:=by simpa using e2.symm
   rw[e3,e4];exact hj2
  |i+2=>simp at e1
 ·have e:q=y\/q=z:=by simpa using hq
  rcases e with e|e
  ·rw[e];exact⟨.inr (.inl hx),(by rw[hx];intro q;cases q),.inl hr⟩
  ·rw[e];exact⟨.inr (.inl hx2),(by rw[hx2];intro q;cases q),.inl hr2⟩
def qO{y:Str}(h:x≠y)(h2:x≠z)(h3:y≠z):([x]++[y,z]:List Str).Nodup:=by simp[h,h2,h3]
def aG{y:Str}{u:V}:Iy [x,y] ix σ (((([x,y]:List Str).map (fun _=>(none:Option V))++D4 ix σ).set 0 (some u)).set 1 (some v)):=⟨[some u,some v],rfl,rfl⟩
def WE(hc:X.calm=true):Du X (.builtin "sum") (fun xs H Q=>∃(l:OK)(ns:List Int),xs=[.ref l]/\AL X.K H l (ns.map V.int)/\Q (.int ns.sum) H):=by
 intro h1 s σ H xs us Q I r h;obtain⟨l,ns,rfl,hq,q⟩:=h;obtain⟨u,rfl,rx⟩:=vals1 r;cases rx;obtain⟨h0,rv,pl,hz⟩:=I.list hq;have hh:X.A.handled=none:=I.ok.hd hc;obtain⟨l',e,en⟩:∃l:List (Int×Tok),l.map (fun p=>Value.int p.1 p.2)=h0/\l.map (·.1)=ns:=by
  have:∀(ns:List Int)(us:List AD),Vals (ns.map V.int) us->∃l:List (Int×Tok),l.map (fun p=>Value.int p.1 p.2)=us/\l.map (·.1)=ns:=by
   intro ns
   induction ns with
   |nil=>intro us h;cases h;exact⟨[],rfl,rfl⟩
   |cons n r ih=>
    intro us h
    cases h with
    |cons a t=>obtain⟨l,e,en⟩:=ih _ t;obtain⟨k,ek⟩:=a;exact⟨(n,k)::l,by rw[Au,e,ek],by rw[Au,en]⟩
  exact this ns h0 rv
 have ex:intItems l'.toArray=h0.toArray:=by unfold intItems;rw[<-e];simp
 refine sum_intListG hh (xs:=l'.toArray) (by rw[ex];exact pl.isList) fun h' tk t' kk=>?_;refine⟨.int _,H,I.kept kk,⟨t',rfl⟩,?_⟩;rw[preSum_eq];have:((l'.toArray.toList.map (·.1)).take l'.toArray.size)=ns:=by
  show(l'.map (·.1)).take l'.length=ns;rw[en,Eu];have:=BD List.length en;rw[AJ] at this
  lia
 rw[this];exact q
noncomputable def Qq(sep:Str):List Str->Str
 |[p]=>p
 |l=>PySem.Builtin.Str.glued sep l
def rJoin(K:tW):V->List V->Hp->VK->Prop:=fun x vs H Q=>∃(h0:Str)(l:OK)(zs:List Str),x=.str h0/\vs=[.ref l]/\AL K H l (zs.map V.str)/\zs.foldl (·+·.length+h0.length) 0<=sizeLine/\(Qq h0 zs).length<=sizeLine/\Q (.str (Qq h0 zs)) H
def X6:∀(zs:List Str)(us:List AD),Vals (zs.map V.str) us->∃l:List (Str×Tok),strValues l=us/\l.map (·.1)=zs
 |[],us,h=>by cases h;exact⟨[],rfl,rfl⟩
 |z::zs,us,h=>by
  cases h with
  |cons a t=>obtain⟨l,e,en⟩:=X6 zs _ t;obtain⟨k,ek⟩:=a;exact⟨(z,k)::l,by show Value.str z k::strValues l=_;rw[e,ek],by rw[Au,en]⟩
def jf:IH X "str.join" (rJoin X.K):=by
 intro h2 s σ H x vs v us Q I rx rv h;obtain⟨h1,l,zs,rfl,rfl,hq,hz,h0,q⟩:=h;obtain⟨t,rfl⟩:=rx;obtain⟨u,rfl,ru⟩:=rv.one;cases ru;obtain⟨h3,r,pl,h4⟩:=I.list hq;obtain⟨l',e,en⟩:=X6 zs h3 r;refine KC F.slot_str_join (LN _ _ _) F.entry_str_join (F.args_str_join_2 _ _) (meets_str_join_list h1 t l l' ?_) ⟨by rw[e];exact pl.isList,?_⟩
 ·rw[en];unfold Builtin.Str.tooLong;simpa using hz
 ·match l',en with
  |[],en=>subst en;exact⟨h0,.str _,H,I.tok _,⟨_,rfl⟩,q⟩
  |[p],en=>subst en;exact⟨.str _,H,I,⟨_,rfl⟩,q⟩
  |p::p2::l,en=>subst en;exact⟨h0,.str _,H,I.tok _,⟨_,rfl⟩,q⟩
def oP(a b:Str)(tx:TE):TE:=fun σ H Q=>tx σ H fun v H1=>∃z,v=.str z/\z.length<=4000000/\Q (.str (a++z++b)) H1
def jo{a b:Str}{x:hX}{tx:TE}{k1 k2:Nat}{p1 p2 p3 p4:Pos}(hx:PE X x tx)(ha:a.length<=1000)(hb:b.length<=1000):PE X (.JoinedStr [.Constant (.str a) k1 p1,.FormattedValue x (-1) none p2,.Constant (.str b) k2 p3] p4) (oP a b tx):=by
 intro h0 s σ H Q I h;refine wpAny_JoinedStr ?_;refine VM ⟨a,_,rfl,?_,?_⟩
 ·rw[Ha,A8];show 0+a.length<=_;lia
 refine wpAny_FormattedValue_plain (Ad (hx h0 _ σ H _ (I.tok _) h) fun v s1 ⟨y,H1,I1,r,z,ey,hz,q⟩=>?_);subst ey;obtain⟨t,rfl⟩:=r;have h2:∀(u:Tok)(s2:Ya),Inv X h0 σ H1 s2->∃y t,Value.str z u=.str y t/\(Str.empty++a++y).length<=sizeLine/\Joins (ax X.prog X.w) X.A X.xe [qh (.Constant (.str b) k2 p3) X.env] (Str.empty++a++y) (fun h1 s₁=>h1.length<=sizeLine/\EP X h0 σ Q (.str h1 s₁.toks) {s₁ with toks:=s₁.toks+1}) s2:=fun u s2 I2=>by
  refine⟨z,u,rfl,?_,VM ⟨b,_,rfl,?_,?_,?_⟩⟩
  ·rw[Ha,Ha,A8];show 0+a.length+z.length<=_;lia
  ·rw[Ha,Ha,Ha,A8];show 0+a.length+z.length+b.length<=_;lia
  ·rw[Ha,Ha,Ha,A8];show 0+a.length+z.length+b.length<=_;lia
  ·refine⟨.str (Str.empty++a++z++b),H1,(I2.tok _).tok _,⟨_,rfl⟩,?_⟩;have e:Str.empty++a=a:=by obtain⟨c⟩:=a;show(⟨#[]++c⟩:Str)=⟨c⟩;rw[Array.empty_append]
   rw[e];exact q
 exact wpAny_formatField_str (h2 t s1 I1) (h2 _ _ (I1.tok _)) (by rw[A8];lia)
structure CI(H1:Hp)(D:OK)(out:List Dt)(H:Hp):Prop where
 same:AO H1 H
 fr:H1 D=none
 lst:∃ys,H D=some (.lst ys)/\Ab (Ex H D) out ys
def CI.start(h:H1 D=none):CI H1 D [] (upd H1 D (.lst [])):=⟨Af h,h,[],AM,Ab.nil⟩
def CI.ext{out:List Dt}(c:CI H1 D out H)(s:AO H H'):CI H1 D out H':=by obtain⟨ys,h,r⟩:=c.lst;exact⟨c.same.trans s,c.fr,ys,s _ _ h,r.same (Ex.mono s)⟩
def CI.push{out:List Dt}{d:Dt}(c:CI H1 D out H)(r:Rep (Ex H D) d y)(hl:out.length<=200000):∃ys,H D=some (.lst ys)/\ys.length<sizeLine/\CI H1 D (out++[d]) (upd H D (.lst (ys++[y]))):=by
 obtain⟨ys,h,rr⟩:=c.lst;refine⟨ys,h,?_,c.same.upd c.fr,c.fr,ys++[y],AM,?_⟩
 ·have:=rr.1;rw[A8]
  lia
 ·rw[Ex.upd];exact rr.snoc r
def CI.done{out:List Dt}(c:CI H1 D out H):Rep H (.lst out) (.ref D):=by obtain⟨ys,h,rr⟩:=c.lst;exact Rep.IE h (rr.same Ex.sub)
def E6(r:Rep H (.lst ds) v):∃a xs,v=.ref a/\H a=some (.lst xs)/\Ab H ds xs:=by
 cases r with
 |lst h hl rr=>exact⟨_,_,rfl,h,hl,rr⟩
def Mq(hD:H D=some (.dK AA)){d:Dt}(r:Rep H d v):Rep (Ex H D) d v:=by
 induction r with
 |bl b=>exact .bl b
 |int i=>exact .int i
 |str x=>exact .str x
 |lst h hl _ ih=>exact .lst (Ex.at h (CH h hD (by intro z;cases z))) hl ih
 |tup h hl _ ih=>exact .tup (Ex.at h (CH h hD (by intro z;cases z))) hl ih
def IZ{f:α->Dt}{ws:List α}(r:Ab H (ws.map f) xs){x:V}(h:xs[i]? =some x):∃w,ws[i]? =some w/\Rep H (f w) x:=by
 have hl:i<ws.length:=by
  have h1:=(BY.mp h).1;have h2:=r.1;rw[AJ] at h2
  lia
 refine⟨ws[i],Ap hl,r.2 i _ x ?_ h⟩;rw[Az,Ap hl];rfl
def J7{f:α->β}{ws:List α}{w:α}(h:ws[i]? =some w):(ws.take (i+1)).map f=(ws.take i).map f++[f w]:=by rw[C6,h,BF];rfl
def take_succ_filter{p:α->Bool}{ws:List α}{w:α}(h:ws[i]? =some w):(ws.take (i+1)).filter p=(ws.take i).filter p++(if p w=true then[w] else[]):=by
 rw[C6,h,MO];congr 1;show List.filter p [w]=_;by_cases z:p w=true
 ·rw[AG z,Et z];rfl
 ·rw[AF z,FV z];rfl
def XU{y:Str}{p1 p2:Pos}(hK:X.K=K)(hc:X.calm=true)(hN:X.N.Nodup)(hi:X.N[i]? =some x)(hx:Loc X.env.scope x)(hf:X.fn x=true\/X.env.scope.names.lookup x=some .local)(hj:X.N[j]? =some y)(hy:Loc X.env.scope y)(hg:X.fn y=true\/X.env.scope.names.lookup y=some .local):
 PG X (.Tuple [.Name x p1,.Name y p2] k pos) (Tw K 2 (Lo (DT i) (Lo (DT j) T6))):=by
 subst hK;exact Na hc (Gq (Bg hN hi hx hf) (Gq (Bg hN hj hy hg) NQ))
def jy{l:Nat}{y:Str}{p1 p2 p3:Pos}(hK:X.K=K)(hc:X.calm=true)(hN:X.N.Nodup)(hi:X.N[i]? =some x)(hx:Loc X.env.scope x)(hf:X.fn x=true\/X.env.scope.names.lookup x=some .local)(hj:X.N[j]? =some y)(hy:Loc X.env.scope y)(hg:X.fn y=true\/X.env.scope.names.lookup y=some .local)
 (hl:X.N[l]? =some z)(hz:Loc X.env.scope z)(hh:X.fn z=true\/X.env.scope.names.lookup z=some .local):
 PG X (.Tuple [.Name x p1,.Name y p2,.Name z p3] k pos) (Tw K 3 (Lo (DT i) (Lo (DT j) (Lo (DT l) T6)))):=by
 subst hK;exact Na hc (Gq (Bg hN hi hx hf) (Gq (Bg hN hj hy hg) (Gq (Bg hN hl hz hh) NQ)))
section
variable{o:hX}{es:List hX}{to:TE}{t:TA}{id:String}
def kf(K:tW)(hK:X.K=K)(pa:sP T)(slot:Slot T name id)(hty:typeOf (.builtin id)=pure (.type "method_descriptor"))(hm:N9 X id r)(ho:PE X o to)(ha:PA X (e::es) t)
 (hbase:qo o name X.env (qh o X.env)=qh o X.env:=by rfl)
 (hfew:((qt cpos (dq (e::es) X.env)).all (fun x=> !x.1)&&(rh cpos (rG [] X.env)).all (fun x=>x.1.isSome)&&decide ((e::es).length+([]:List rX).length+(if([]:List rX).isEmpty then 0 else 1)<30))=true:=by rfl)
 (hline:(apos.endLine==cpos.line)=true:=by rfl)(hs:dq (e::es) X.env=(false,qh e X.env)::dq es X.env:=by rfl)(hplain:(qt cpos (dq es X.env)).any (·.1)=false:=by rfl):
 PE X (.Call (.Attribute o name apos) (e::es) [] cpos) (Ut K T r to t):=by
 subst hK;exact Jb pa slot hty hm ho ha hbase hfew hline hs hplain
end
def eR{Q:VK}(Pv:Nat->Hp->Prop)(h0:Pv 0 (upd H1 D (.lst [])))(hl:∀i H,i<=xs.length->Pv i H->AL K H a xs)
 (hs:∀i x p H,xs[i]? =some x->H p=none->Pv i H->g (.ref p) (ts.map (fun _=>none)++D4 ix σ) (upd H p (.tup [.int i,x])) fun σ2 H2=>Iy ts ix σ σ2/\ti σ2 H2 fun b H3=>if b=true then te σ2 H3 fun y H4=>∃ys,H4 D=some (.lst ys)/\ys.length<sizeLine/\Pv (i+1) (upd H4 D (.lst (ys++[y]))) else Pv (i+1) H3)
 (hd:∀H,Pv xs.length H->Q (.ref D) H):Lm ts ix σ (MC K a) g ti te D Q H1:=by
 refine⟨fun i m H=>m=xs.length-i/\i<=xs.length/\Pv i H,⟨xs.length,by simp,CC _,h0⟩,?_⟩;rintro i m H ⟨rfl,hi,p⟩;have q:=hl i H hi p;by_cases h1:i<xs.length
 ·refine .inr ⟨⟨xs,xs[i],q,by simp[h1]⟩,Pv (i+1),fun H' p'=>⟨xs.length-(i+1),by lia,rfl,h1,p'⟩,fun v H' y=>?_⟩;obtain⟨pa,ev,hp,y⟩:=y;obtain⟨x,hx,eH⟩:=y xs q;subst ev eH;exact hs i x pa H hx hp p
 ·obtain rfl:i=xs.length:=by lia
  exact .inl ⟨⟨xs,q,Ae _⟩,hd H p⟩
def Ex.ne(h:b≠D):Ex H D b=H b:=by unfold Ex;rw[AF h]
def Ex.self:Ex H D D=none:=by unfold Ex;rw[AG rfl]
def Inv.og(I:Inv X pins σ H s)(h:H D=some (.lst xs)):∃o:Obj,(∃(AX:List AD)(n:Nat),Vals xs AX/\o={cls:=.type "list",data:=.seq AX.toArray n})/\xs.length<=sizeLine/\Inv X (pins++[(D,o)]) σ (Ex H D) s:=by
 obtain⟨hz,AX,n,rv,ho⟩:=(show BV X.prog X.w H s.heap D (.lst xs) from I.hok D _ h);have nD:∀b,H b=none->b≠D:=fun b hb z=>by rw[z,h] at hb;cases hb
 refine⟨_,⟨AX,n,rv,rfl⟩,hz,I.ok,I.os,I.bare,⟨I.base.keep,I.base.slot,fun b ob q nn hx=>?_,I.base.there,fun b ys q=>?_,fun b ob u q=>?_,fun b ps q=>?_⟩,I.loc,I.cell,?_,fun x c e=>?_,fun p hp=>?_,fun b ob q=>?_,I.len⟩
 ·have z:=I.base.free b ob q nn hx;rw[Ex.ne (nD b z)];exact z
 ·have z:=I.base.Em b ys q;rw[Ex.ne (fun y=>by rw[y,h] at z;cases z)];exact z
 ·have z:=I.base.EC b ob u q;rw[Ex.ne (fun y=>by rw[y,h] at z;cases z)];exact z
 ·obtain⟨m,z⟩:=I.base.Ek b ps q;exact⟨m,by rw[Ex.ne (fun y=>by rw[y,h] at z;cases z)];exact z⟩
 ·rw[Ex.ne (nD _ I.free)];exact I.free
 ·rw[Ex.ne (nD _ (I.DH x c e))];exact I.DH x c e
 ·rw[<-Bu] at hp;rcases BS.mp hp with z|z
  ·obtain⟨e,nn,r⟩:=I.pin p z;exact⟨e,by rw[Ex.ne (nD _ nn)];exact nn,r⟩
  ·have e:=BR.mp z;subst e;refine⟨ho,Ex.self,fun z=>?_,fun z=>?_,fun v z=>nomatch z⟩
   ·have:=I.free;rw[<-z,h] at this;cases this
   ·obtain⟨_,o,h0,_⟩:=I.ok.Ej.mem z;by_cases hx:D∈X.ex
    ·exact I.ok.Kt D hx z
    ·have:=I.base.free D o h0 (I.ok.IF D z) hx;rw[h] at this;cases this
 ·by_cases hb:b=D
  ·rw[hb,Ex.self] at q;cases q
  ·rw[Ex.ne hb] at q;refine(I.hok b ob q).ES (fun _ _ _ z=>z) (fun c z=>?_) fun c ys z=>?_
   ·rw[Ex.ne (fun y=>by rw[y,h] at z;cases z)];exact z
   ·rw[Ex.ne (fun y=>by rw[y,h] at z;cases z)];exact z
def Inv.mq(I:Inv X (pins++[(D,{cls:=.type "list",data:=.seq AX.toArray n})]) σ H s)(rv:Vals xs AX)(hz:xs.length<=sizeLine)(h0:∀o,X.s₀.heap.get? D=some o->D∈X.ex\/X.H₀ D≠none)(hp0:∀p∈X.pn++pins,p.1≠D):H D=none/\Inv X pins σ (upd H D (.lst xs)) s:=by
 obtain⟨e,nn,nl,nf,_⟩:=I.pin (D,{cls:=.type "list",data:=.seq AX.toArray n}) (by rw[<-Bu];exact EA _ (.head _));have nn:H D=none:=nn;refine⟨nn,I.ok,I.os,I.bare,⟨I.base.keep,I.base.slot,fun b ob q n0 hx=>?_,I.base.there,fun b ys q=>?_,fun b ob u q=>?_,fun b ps q=>?_⟩,I.loc,I.cell,?_,fun x c ec=>?_,fun p hp=>?_,fun b ob q=>?_,I.len⟩
 ·have z:=I.base.free b ob q n0 hx;by_cases hb:b=D
  ·subst hb;rcases h0 ob q with y|y
   ·exact absurd y hx
   ·exact absurd n0 y
  ·rw[AN hb];exact z
 ·have z:=I.base.Em b ys q;rw[AN (A7 z nn)];exact z
 ·have z:=I.base.EC b ob u q;rw[AN (A7 z nn)];exact z
 ·obtain⟨m,z⟩:=I.base.Ek b ps q;exact⟨m,by rw[AN (A7 z nn)];exact z⟩
 ·rw[AN (fun z=>nl z.symm)];exact I.free
 ·have hc:=I.cell x c ec;rw[AN (fun z=>by obtain⟨v,oc,h1,h2⟩:=hc;rw[z] at h1;have e':s.heap.get? D=some {cls:=.type "list",data:=.seq AX.toArray n}:=e;rw[e'] at h1;cases h1;cases h2)];exact I.DH x c ec
 ·obtain⟨e1,n1,r1⟩:=I.pin p (by rw[<-Bu];exact IM _ hp);exact⟨e1,by rw[AN (hp0 p hp)];exact n1,r1⟩
 ·by_cases hb:b=D
  ·subst hb;rw[AM] at q;cases q;exact⟨hz,AX,n,rv,e⟩
  ·rw[AN hb] at q;refine(I.hok b ob q).ES (fun _ _ _ z=>z) (fun c z=>?_) fun c ys z=>?_
   ·rw[AN (A7 z nn)];exact z
   ·rw[AN (A7 z nn)];exact z
def SJ(he:PE X e te):PE X e (fun σ H Q=>∃D xs,H D=some (.lst xs)/\te σ (Ex H D) fun v H'=>H' D=none->Q v (upd H' D (.lst xs))):=by
 intro pins s σ H Q I h;obtain⟨D,xs,hD,h⟩:=h;obtain⟨o,⟨h2,n,rv,rfl⟩,hz,I2⟩:=I.og hD;have h0:∀o,X.s₀.heap.get? D=some o->D∈X.ex\/X.H₀ D≠none:=fun o ho=>by
  by_cases hx:D∈X.ex
  ·exact .inl hx
  ·exact .inr fun z=>by have:=I.base.free D o ho z hx;rw[hD] at this;cases this
 have h1:∀p∈X.pn++pins,p.1≠D:=fun p hp z=>by obtain⟨_,nn,_⟩:=I.pin p hp;rw[z,hD] at nn;cases nn
 refine Ad (he _ s σ _ _ I2 h) fun v s1 ⟨x,H',I1,r,q⟩=>?_;obtain⟨nn,I3⟩:=I1.mq rv hz h0 h1;exact⟨x,_,I3,r,q nn⟩
section
variable(O:Nz α)
noncomputable def Ls(a:α):List α->List α
 |[]=>[a]
 |b::l=>if O.lt b a=true then b::Ls a l else a::b::l
def HG:List α->List α
 |[]=>[]
 |a::l=>Ls O a (HG l)
def Rx(a:α):∀l:List α,(Ls O a l).Perm (a::l)
 |[]=>.refl _
 |b::l=>by
  unfold Ls;split
  ·exact((Rx a l).cons b).trans (.swap a b l)
  ·exact .refl _
def LO:∀l:List α,(HG O l).Perm l
 |[]=>.refl _
 |a::l=>(Rx O a (HG O l)).trans ((LO l).cons a)
def X7(a:α):∀l:List α,l.Pairwise (fun x y=>O.lt y x=false)->(Ls O a l).Pairwise (fun x y=>O.lt y x=false)
 |[],_=>U0 _ _
 |b::l,h=>by
  obtain⟨h1,h2⟩:=IP.mp h;unfold Ls;by_cases z:O.lt b a=true
  ·rw[AG z];refine IP.mpr ⟨fun c hc=>?_,X7 a l h2⟩;rcases BI.mp ((Rx O a l).mem_iff.mp hc) with e|e
   ·rw[e]
    cases y:O.lt a b with
    |false=>rfl
    |true=>have:=O.tr _ _ _ z y;rw[O.bB] at this;cases this
   ·exact h1 c e
  ·rw[AF z];have z':O.lt b a=false:=by simpa using z
   refine IP.mpr ⟨fun c hc=>?_,h⟩;rcases BI.mp hc with e|e
   ·rw[e];exact z'
   ·cases y:O.lt c a with
    |false=>rfl
    |true=>
     exfalso
     cases w:O.lt a b with
     |true=>have:=O.tr _ _ _ y w;rw[h1 c e] at this;cases this
     |false=>have:=O.BM _ _ w z';subst this;rw[h1 c e] at y;cases y
def Xf:∀l:List α,(HG O l).Pairwise (fun x y=>O.lt y x=false)
 |[]=>List.Pairwise.nil
 |a::l=>X7 O a _ (Xf l)
def Vb:∀l m:List α,l.Perm m->l.Pairwise (fun x y=>O.lt y x=false)->m.Pairwise (fun x y=>O.lt y x=false)->l=m
 |[],m,p,_,_=>p.nil_eq
 |a::l,[],p,_,_=>absurd p.symm.nil_eq (by intro z;cases z)
 |a::l,b::m,p,h1,h2=>by
  obtain⟨a1,a2⟩:=IP.mp h1;obtain⟨b1,b2⟩:=IP.mp h2;have e:a=b:=by
   rcases BI.mp (p.mem_iff.mp (.head _)) with e|e
   ·exact e
   ·rcases BI.mp (p.mem_iff.mpr (List.Mem.head m)) with f|f
    ·exact f.symm
    ·exact O.BM _ _ (b1 a e) (a1 b f)
  subst e;rw[Vb l m p.cons_inv a2 b2]
def Pp{l m:List α}(p:l.Perm m)(h:l.Pairwise (fun x y=>O.lt y x=false)):l=HG O m:=Vb O _ _ (p.trans (LO O m).symm) h (Xf O m)
end
abbrev QJ:List Str->List Str:=HG Hk
section
open PySem.W
noncomputable def dK:Yf:=(Value.none,Value.none)
abbrev SM:=StateT hY Sem
noncomputable def up1(lo b BL:Nat):SM (Option (Option Nat)×Nat):=
 forIn [b:BL] ((none,b):Option (Option Nat)×Nat) fun _ z=>ltAt' (lo+z.2) (lo+z.2-1)>>=fun t=>
  match t with
  |some c=>if c=true then pure (.done (none,z.2)) else pure (.yield (none,z.2+1))
  |none=>pure (.done (some none,z.2))
noncomputable def pA(z:Option (Option Nat)×Nat):SM (Option Nat):=
 match z.1 with
 |some r=>pure r
 |none=>pure (some z.2)
def K4(lo n BL:Nat):SM (Option Nat):=rZ lo (lo+n)>>=fun _=>up1 lo n BL>>=pA
noncomputable def US(lo b BL:Nat):SM (Option (Option Nat)×Nat×Nat):=
 forIn [b:BL] ((none,b,0):Option (Option Nat)×Nat×Nat) fun _ z=>ltAt' (lo+z.2.1) (lo+z.2.1-1)>>=fun t=>
  match t with
  |some c=>
   if c=true then
    (if z.2.2>0 then(rZ (lo+z.2.1-(z.2.2+1)) (lo+z.2.1)>>=fun _=>pure (.yield (none,z.2.1+1,0))) else pure (.yield (none,z.2.1+1,0)))
   else ltAt' (lo+z.2.1-1) (lo+z.2.1)>>=fun t=>
    match t with
    |some d=>if d=true then pure (.done (none,z.2.1,z.2.2)) else pure (.yield (none,z.2.1+1,z.2.2+1))
    |none=>pure (.done (some none,z.2.1,z.2.2))
  |none=>pure (.done (some none,z.2.1,z.2.2))
def pk(lo BL:Nat)(z:Option (Option Nat)×Nat×Nat):SM (Option Nat):=
 match z.1 with
 |some r=>pure r
 |none=>if z.2.2>0 then(rZ (lo+z.2.1-(z.2.2+1)) (lo+z.2.1)>>=fun _=>K4 lo z.2.1 BL) else K4 lo z.2.1 BL
def QA(lo n BL:Nat):SM (Option Nat):=(liftM (rule "list.sort.descending-run"):SM Unit)>>=fun _=>US lo (n+1) BL>>=pk lo BL
def qb(lo BL:Nat)(z:Option (Option Nat)×Nat):SM (Option Nat):=
 match z.1 with
 |some r=>pure r
 |none=>if(z.2==BL)=true then pure (some z.2) else
  if z.2>1 then(ltAt' lo (lo+z.2-1)>>=fun t=>
   match t with
   |some c=>if c=true then pure (some z.2) else rZ lo (lo+z.2)>>=fun _=>QA lo z.2 BL
   |none=>pure none)
  else QA lo z.2 BL
def BG{m m':SM α}{f f':α->SM β}(h:m=m')(g:∀x,f x=f' x):(m>>=f)=(m'>>=f'):=by rw[h,funext g]
def Gx{a b:Nat}{c:β}{f g:Nat->β->SM (ForInStep β)}(h:∀i z,f i z=g i z):forIn [a:b] c f=forIn [a:b] c g:=by rw[funext fun i=>funext (h i)]
def count_eq(lo BL:Nat):countRun' lo BL=(up1 lo 1 BL>>=qb lo BL):=by
 rw[countRun'_eq];refine BG (Gx fun i z=>BG rfl fun x=>?_) fun z=>?_
 ·cases x<;>rfl
 ·obtain⟨r,n⟩:=z
  match r with
  |some r=>rfl
  |none=>
   refine DO rfl (fun _=>rfl) fun _=>DO rfl (fun _=>BG rfl fun x=>?_) fun _=>?_;rcases x with _|c
   ·rfl
   refine DO rfl (fun _=>rfl) fun _=>BG rfl fun _=>?_;all_goals
    refine BG rfl fun _=>BG (Gx fun i z=>BG rfl fun x=>?_) fun z=>?_
    ·cases x with
     |none=>rfl
     |some c=>refine DO rfl (fun _=>rfl) fun _=>BG rfl fun x=>?_;cases x<;>rfl
    ·obtain⟨r,n,q⟩:=z
     match r with
     |some r=>rfl
     |none=>refine DO rfl (fun _=>BG rfl fun _=>?_) fun _=>?_<;>exact BG rfl fun _=>BG (Gx fun i z=>BG rfl fun x=>by cases x<;>rfl) fun z=>by obtain⟨r,n⟩:=z;cases r<;>rfl
section
variable(rk:Yf->Nat)
def kv(xs:Array Yf)(i:Nat):Nat:=rk (xs.getD i dK)
def Hr{xs ys:Array Yf}(h:xs[i]? =ys[j]?):kv rk xs i=kv rk ys j:=by unfold kv;rw[Gb,Gb,h]
def Up(xs:Array Yf)(lo hi:Nat):Prop:=∀i j,lo<=i->i<=j->j<hi->kv rk xs i<=kv rk xs j
def Dn(xs:Array Yf)(lo hi:Nat):Prop:=∀i j,lo<=i->i<=j->j<hi->kv rk xs j<=kv rk xs i
def Ev(xs:Array Yf)(lo hi:Nat):Prop:=∀i,lo<=i->i<hi->kv rk xs i=kv rk xs (hi-1)
def TZ{xs:Array Yf}(hj:j<=xs.size)(k:Nat):kv rk (sf xs i j ((j-i)/2)) k=if i<=k/\k<j then kv rk xs (i+j-1-k) else kv rk xs k:=by
 have e:=getElem?_mirror_all (i:=i) hj k;by_cases c:i<=k/\k<j
 ·rw[AG c] at e⊢;exact Hr rk e
 ·rw[AF c] at e⊢;exact Hr rk e
def Po{xs:Array Yf}(hj:j<=xs.size)(he:Ev rk xs i j)(k:Nat):kv rk (sf xs i j ((j-i)/2)) k=kv rk xs k:=by
 rw[TZ rk hj];split
 ·rw[he _ (by lia) (by lia),he k (by lia) (by lia)]
 ·rfl
def Up.one(xs:Array Yf)(lo:Nat):Up rk xs lo (lo+1):=fun i j h1 h2 h3=>by
 have:i=j:=by lia
 rw[this];exact Ae _
end
end
variable{lo:Nat}
section
open PySem.W
section
variable(rk:Yf->Nat)
def Up.step{xs:Array Yf}(h1:1<=n)(h:Up rk xs lo (lo+n))(hl:¬kv rk xs (lo+n)<kv rk xs (lo+n-1)):Up rk xs lo (lo+(n+1)):=fun i j a b c=>by
 by_cases e:j<lo+n
 ·exact h i j a b e
 ·have e':j=lo+n:=by lia
  subst e';by_cases e2:i=lo+n
  ·rw[e2];exact Ae _
  ·exact BJ (h i (lo+n-1) a (by lia) (by lia)) (Oi hl)
def Dn.step{xs ys:Array Yf}(h1:1<=n)(hk:∀k,kv rk ys k=kv rk xs k)(h:Dn rk xs lo (lo+n))(hl:kv rk xs (lo+n)<=kv rk xs (lo+n-1)):Dn rk ys lo (lo+(n+1)):=fun i j a b c=>by
 rw[hk,hk];by_cases e:j<lo+n
 ·exact h i j a b e
 ·have e':j=lo+n:=by lia
  subst e';by_cases e2:i=lo+n
  ·rw[e2];exact Ae _
  ·exact BJ hl (h i (lo+n-1) a (by lia) (by lia))
end
structure Ok(κ:SortKind)(a0:Array Yf)(lo:Nat)(P:Array (Nat×Nat×Nat))(st:hY):Prop where
 perm:(dA st).Perm a0
 fix:∀k,k<lo->(dA st)[k]? =a0[k]?
 kind:kindOf st=κ
 failed:qp st=none
 pend:cm st=P
end
variable{κ:SortKind}{a0:Array Yf}{st:hY}
section
open PySem.W
def Ok.size{P:Array (Nat×Nat×Nat)}(h:Ok κ a0 lo P st):(dA st).size=a0.size:=h.perm.size_eq
def Ok.set{P:Array (Nat×Nat×Nat)}(h:Ok κ a0 lo P st){xs:Array Yf}(hp:xs.Perm (dA st))(hf:∀k,k<lo->xs[k]? =(dA st)[k]?):Ok κ a0 lo P (setArr st xs):=
 ⟨hp.trans h.perm,fun k hk=>(hf k hk).trans (h.fix k hk),h.kind,h.failed,h.pend⟩
def Ok.Qr{P:Array (Nat×Nat×Nat)}(h:Ok κ a0 lo P st)(hi:lo<=i)(hj:j<=a0.size):Ok κ a0 lo P (setArr st (sf (dA st) i j ((j-i)/2))):=
 h.set (mirror_perm _ _ _ _) fun k hk=>by rw[getElem?_mirror_all (by rw[h.size];exact hj),AF (by lia)]
end
variable{rk:Yf->Nat}
section
open PySem.W
section
variable{P:Array (Nat×Nat×Nat)}
def C4(prog:qf)(w:qj)(A:rL)(s:Ya)(κ:SortKind)(rk:Yf->Nat)(a0:Array Yf):Prop:=
 ∀x y,x∈a0.toList->y∈a0.toList->∀C:Bool->Ya->Prop,C (decide (rk x<rk y)) s->bt (ax prog w) A (keyLt' κ x.1 y.1) C (fun _ _=>False) s
def Nu(hc:C4 prog w A s κ rk a0){x y:Yf}{Q:Option Bool->hY->Prop}(hk:kindOf st=κ)(hx:x∈a0.toList)(hy:y∈a0.toList)(h:Q (some (decide (rk x<rk y))) st):
 wpS (ax prog w) A E s (lt' x y) Q st:=by
 rw[lt'_eq];refine Ai (Hi ?_);rw[hk];refine Ai (LV (tR (C8 (hc x y hx hy (fun c s'=>c=decide (rk x<rk y)/\s'=s) ⟨rfl,rfl⟩) (fun c s' z=>?_) fun _ _ z=>z.elim)));obtain⟨rfl,rfl⟩:=z;exact⟨rfl,Ao h⟩
def Ok.at(hB:Ok κ a0 lo P st)(hi:i<a0.size):(dA st)[i]? =some ((dA st).getD i dK)/\(dA st).getD i dK∈a0.toList:=by
 have h0:i<(dA st).size:=by rw[hB.size];exact hi
 have e:(dA st)[i]? =some (dA st)[i]:=F3 _ i h0;have e2:(dA st).getD i dK=(dA st)[i]:=by rw[Gb,e];rfl
 rw[e2];exact⟨e,(MF.mp hB.perm).mem_iff.mp (by simp)⟩
def Nf(hc:C4 prog w A s κ rk a0){Q:Option Bool->hY->Prop}(hB:Ok κ a0 lo P st)(hi:i<a0.size)(hj:j<a0.size)
 (h:Q (some (decide (kv rk (dA st) i<kv rk (dA st) j))) st):wpS (ax prog w) A E s (ltAt' i j) Q st:=by
 rw[ltAt'_eq];refine Ai (Hi ?_);show wpS _ _ _ _ (rA (dA st) i>>=fun x=>rA (dA st) j>>=fun y=>lt' x y) Q st;rw[elem'_eq,elem'_eq,(hB.at hi).1,(hB.at hj).1];exact Ai (Ao (Ai (Ao (Nu hc hB.kind (hB.at hi).2 (hB.at hj).2 h))))
def QB{Q:Unit->hY->Prop}(h:Q () (setArr st (sf (dA st) i j ((j-i)/2)))):wpS (ax prog w) A E s (rZ i j) Q st:=by rw[reverseSlice'_eq];exact KA h
def Zl(hc:C4 prog w A s κ rk a0){b BL:Nat}{Q:Option (Option Nat)×Nat->hY->Prop}(hn:lo+BL<=a0.size)(hb:1<=b)(hbn:b<=BL)(hB:Ok κ a0 lo P st)(hs:Up rk (dA st) lo (lo+b))
 (h:∀n,b<=n->n<=BL->Up rk (dA st) lo (lo+n)->(n=BL\/kv rk (dA st) (lo+n)<kv rk (dA st) (lo+n-1))->Q (none,n) st):
 wpS (ax prog w) A E s (up1 lo b BL) Q st:=by
 unfold up1;refine Ez (I:=fun x c h0=>h0=st/\c=(none,x)/\Up rk (dA st) lo (lo+x)) ?_ ?_ ⟨rfl,rfl,hs⟩
 ·rintro x c h0 h1 h2 ⟨rfl,rfl,h3⟩;refine Ai (Nf hc hB (by dsimp only;lia) (by dsimp only;lia) ?_);by_cases hl:kv rk (dA h0) (lo+x)<kv rk (dA h0) (lo+x-1)
  ·simp only[hl,LK,CJ];exact Ao (h x h1 (by lia) h3 (.inr hl))
  ·simp only[hl,LG,DM,Bw];exact Ao ⟨rfl,rfl,h3.step rk (by lia) hl⟩
 ·rintro c h0 ⟨rfl,rfl,h3⟩;rw[show max b BL=BL by lia] at h3⊢;exact h BL hbn (Ae _) h3 (.inl rfl)
def ZV(hc:C4 prog w A s κ rk a0){BL:Nat}{Q:Option Nat->hY->Prop}(hn:lo+BL<=a0.size)(h1:1<=n)(hnn:n<=BL)(hB:Ok κ a0 lo P st)(hs:Dn rk (dA st) lo (lo+n))
 (h:∀m st',Ok κ a0 lo P st'->1<=m->m<=BL->Up rk (dA st') lo (lo+m)->Q (some m) st'):wpS (ax prog w) A E s (K4 lo n BL) Q st:=by
 unfold K4;refine Ai (QB ?_);have h0:=hB.Qr (i:=lo) (j:=lo+n) (Ae _) (by lia);refine Ai (Zl hc hn h1 hnn h0 ?_ fun m a b c _=>Ao (h m _ h0 (by lia) b c));intro i j a b c;have hz:lo+n<=(dA st).size:=by rw[hB.size];lia
 show kv rk (sf (dA st) lo (lo+n) _) i<=kv rk (sf (dA st) lo (lo+n) _) j;rw[TZ rk hz,TZ rk hz,AG (by lia),AG (by lia)];exact hs _ _ (by lia) (by lia) (by lia)
def nO(hc:C4 prog w A s κ rk a0){BL:Nat}{Q:Option (Option Nat)×Nat×Nat->hY->Prop}(hn:lo+BL<=a0.size)(h1:1<=n)(hnn:n<=BL)(hB:Ok κ a0 lo P st)(hs:Dn rk (dA st) lo (lo+n))
 (h:∀m q st',Ok κ a0 lo P st'->n<=m->m<=BL->Dn rk (dA st') lo (lo+m)->q+1<=m->Ev rk (dA st') (lo+m-(q+1)) (lo+m)->Q (none,m,q) st'):
 wpS (ax prog w) A E s (US lo n BL) Q st:=by
 unfold US;refine Ez (I:=fun x c st'=>∃q,c=(none,x,q)/\Ok κ a0 lo P st'/\Dn rk (dA st') lo (lo+x)/\q+1<=x/\Ev rk (dA st') (lo+x-(q+1)) (lo+x)) ?_ ?_
  ⟨0,rfl,hB,hs,by lia,fun i a b=>by congr 1;lia⟩
 ·rintro x c st' h2 h3 ⟨q,rfl,h0,h4,hq,he⟩;have hz:lo+x<=(dA st').size:=by rw[h0.size];lia
  refine Ai (Nf hc h0 (by dsimp only;lia) (by dsimp only;lia) ?_);by_cases hl:kv rk (dA st') (lo+x)<kv rk (dA st') (lo+x-1)
  ·simp only[hl,LK,CJ];by_cases h5:q>0
   ·rw[AG h5];refine Ai (QB (Ao ⟨0,rfl,h0.Qr (by lia) (by lia),h4.step rk (by lia) (Po rk hz he) (F4 hl),by lia,fun i a b=>by congr 1;lia⟩))
   ·rw[AF h5];exact Ao ⟨0,rfl,h0,h4.step rk (by lia) (fun _=>rfl) (F4 hl),by lia,fun i a b=>by congr 1;lia⟩
  ·simp only[hl,LG,DM,Bw];refine Ai (Nf hc h0 (by lia) (by lia) ?_);by_cases hg:kv rk (dA st') (lo+x-1)<kv rk (dA st') (lo+x)
   ·simp only[hg,LK,CJ];exact Ao (h x q st' h0 h2 (by lia) h4 hq he)
   ·simp only[hg,LG,DM,Bw];have ex:kv rk (dA st') (lo+x)=kv rk (dA st') (lo+x-1):=by lia
    refine Ao ⟨q+1,rfl,h0,h4.step rk (by lia) (fun _=>rfl) (by lia),by lia,fun i a b=>?_⟩;rw[show lo+(x+1)-1=lo+x by lia,ex];by_cases ei:i=lo+x
    ·rw[ei,ex]
    ·exact he i (by lia) (by lia)
 ·rintro c st' ⟨q,rfl,h0,h4,hq,he⟩;rw[show max n BL=BL by lia] at h4 hq he⊢;exact h BL q st' h0 hnn (Ae _) h4 hq he
def Xx(hc:C4 prog w A s κ rk a0){BL:Nat}{Q:Option Nat->hY->Prop}(hn:lo+BL<=a0.size)(hnn:n+1<=BL)(hB:Ok κ a0 lo P st)(hs:Dn rk (dA st) lo (lo+(n+1)))
 (h:∀m st',Ok κ a0 lo P st'->1<=m->m<=BL->Up rk (dA st') lo (lo+m)->Q (some m) st'):wpS (ax prog w) A E s (QA lo n BL) Q st:=by
 unfold QA;refine Ai (LV (Gm ⟨rfl,?_⟩));refine Ai (nO hc hn (by lia) hnn hB hs fun m q st' h0 a b h1 hq he=>?_);have hz:lo+m<=(dA st').size:=by rw[h0.size];lia
 show wpS _ _ _ _ (if q>0 then _ else _) Q st';by_cases h2:q>0
 ·rw[AG h2];refine Ai (QB (ZV hc hn (by show 1<=m;lia) b (h0.Qr (by dsimp only;lia) (by dsimp only;lia)) (fun i j c d e=>?_) h));show kv rk (sf (dA st') _ _ _) j<=kv rk (sf (dA st') _ _ _) i;rw[Po rk hz he,Po rk hz he];exact h1 i j c d e
 ·rw[AF h2];exact ZV hc hn (by show 1<=m;lia) b h0 h1 h
def jF(hc:C4 prog w A s κ rk a0){BL:Nat}{Q:Option Nat->hY->Prop}(hn:lo+BL<=a0.size)(h1:1<=BL)(hB:Ok κ a0 lo P st)
 (h:∀m st',Ok κ a0 lo P st'->1<=m->m<=BL->Up rk (dA st') lo (lo+m)->Q (some m) st'):wpS (ax prog w) A E s (countRun' lo BL) Q st:=by
 rw[count_eq];refine Ai (Zl hc hn (Ae _) h1 hB (Up.one rk _ _) fun n a b hs ho=>?_);show wpS _ _ _ _ (if(n==BL)=true then _ else _) Q st;by_cases e:n=BL
 ·rw[AG (by simpa using e)];exact Ao (h n st hB a b hs)
 ·rw[AF (by simpa using e)];have hl:=ho.resolve_left e;by_cases g:n>1
  ·show wpS _ _ _ _ (if n>1 then _ else _) Q st;rw[AG g];refine Ai (Nf hc hB (by lia) (by dsimp only;lia) ?_);by_cases hr:kv rk (dA st) lo<kv rk (dA st) (lo+n-1)
   ·simp only[hr,LK,CJ];exact Ao (h n st hB a b hs)
   ·simp only[hr,LG,DM,Bw];have hz:lo+n<=(dA st).size:=by rw[hB.size];lia
    have h0:Ev rk (dA st) lo (lo+n):=fun k x y=>by
     have a1:=hs lo k (Ae _) x y;have a2:=hs k (lo+n-1) x (by lia) (by lia)
     lia
    refine Ai (QB (Xx hc hn (by lia) (hB.Qr (Ae _) (by lia)) (Dn.step rk (xs:=dA st) (by lia) (Po rk hz h0) (fun i j x y z=>?_) (F4 hl)) h));rw[h0 i x (by lia),h0 j (by lia) z];exact Ae _
  ·show wpS _ _ _ _ (if n>1 then _ else _) Q st;rw[AF g];have e1:n=1:=by lia
   subst e1;refine Xx hc hn (by lia) hB (Dn.step rk (xs:=dA st) (Ae _) (fun _=>rfl) (fun i j x y z=>?_) (F4 hl)) h;have:i=j:=by lia
   rw[this];exact Ae _
end
abbrev G3:=Option (Option Nat)×Nat×Nat
noncomputable def past(left:Bool)(key:Yf)(arr:Array Yf)(base i:Nat):SM (Option Bool):=
 rA arr (base+i)>>=fun x=>if left=true then lt' x key else lt' key x>>=fun t=>pure (t.map (!·))
noncomputable def N2(f:Nat->SM (Option Bool))(n lo hi:Nat):SM G3:=
 forIn [0:n] ((none,lo,hi):G3) fun _ z=>if z.2.1>=z.2.2 then pure (.done (none,z.2.1,z.2.2)) else f (z.2.1+(z.2.2-z.2.1)/2)>>=fun t=>
  match t with
  |some c=>if c=true then pure (.yield (none,z.2.1+(z.2.2-z.2.1)/2+1,z.2.2)) else pure (.yield (none,z.2.1,z.2.1+(z.2.2-z.2.1)/2))
  |none=>pure (.done (some none,z.2.1,z.2.2))
noncomputable def UH(z:G3):SM (Option Nat):=
 match z.1 with
 |some r=>pure r
 |none=>pure (some z.2.2)
noncomputable def Ll(f:Nat->SM (Option Bool))(n most:Nat)(go:Nat->Nat)(stop:Bool->Bool):SM G3:=
 forIn [0:n] ((none,0,1):G3) fun _ z=>if z.2.2>=most then pure (.done (none,z.2.1,z.2.2)) else f (go z.2.2)>>=fun t=>
  match t with
  |some c=>if stop c=true then pure (.done (none,z.2.1,z.2.2)) else pure (.yield (none,z.2.2,2*z.2.2+1))
  |none=>pure (.done (some none,z.2.1,z.2.2))
def ZF(f:Nat->SM (Option Bool))(n:Nat)(lo hi:Nat->Nat->Nat)(z:G3):SM (Option Nat):=
 match z.1 with
 |some r=>pure r
 |none=>N2 f n (lo z.2.1 z.2.2) (hi z.2.1 z.2.2)>>=UH
def Ue(f:Nat->SM (Option Bool))(n hint:Nat):SM (Option Nat):=f hint>>=fun t=>
 match t with
 |some c=>if c=true then Ll f n (n-hint) (fun o=>hint+o) (fun c=> !c)>>=ZF f n (fun l _=>hint+l+1) (fun _ o=>hint+min o (n-hint))
  else Ll f n (hint+1) (fun o=>hint-o) (fun c=>c)>>=ZF f n (fun _ o=>hint+1-min o (hint+1)) (fun l _=>hint-l)
 |none=>pure none
noncomputable def JN:Bool->Yf->Array Yf->Nat->Nat->Nat->SM (Option Nat):=sortPriv%PySem.Builtin.gallop
def dk(left:Bool)(key:Yf)(arr:Array Yf)(base n hint:Nat):JN left key arr base n hint=Ue (past left key arr base) n hint:=by
 refine BG rfl fun x=>?_
 cases x with
 |none=>rfl
 |some c=>
  refine DO rfl (fun _=>?_) fun _=>?_;all_goals
   refine BG (Gx fun i z=>DO rfl (fun _=>rfl) fun _=>BG rfl fun x=>?_) fun z=>?_
   ·cases x<;>rfl
   ·obtain⟨r,l,h⟩:=z
    match r with
    |some r=>rfl
    |none=>
     refine BG (Gx fun i z=>DO rfl (fun _=>rfl) fun _=>BG rfl fun x=>?_) fun z=>?_
     ·cases x<;>rfl
     ·obtain⟨r,l,h⟩:=z;cases r<;>rfl
section
variable{f:Nat->SM (Option Bool)}{B:Nat->Bool}
def Za{hi:Nat}{Q:G3->hY->Prop}(hf:∀i,i<n->∀R:Option Bool->hY->Prop,R (some (B i)) st->wpS M A E s (f i) R st)(hm:∀i j,i<=j->j<n->B j=true->B i=true)
 (h1:lo<=hi)(h2:hi<=n)(h3:∀i,i<lo->B i=true)(h4:∀i,hi<=i->i<n->B i=false)
 (h:∀l k,k<=n->(∀i,i<k->B i=true)->(∀i,k<=i->i<n->B i=false)->Q (none,l,k) st):wpS M A E s (N2 f n lo hi) Q st:=by
 unfold N2;refine Ez (I:=fun x c h0=>h0=st/\∃l r,c=(none,l,r)/\l<=r/\r<=n/\r-l<=n-x/\(∀i,i<l->B i=true)/\∀i,r<=i->i<n->B i=false) ?_ ?_ ⟨rfl,lo,hi,rfl,h1,h2,by lia,h3,h4⟩
 ·rintro x c h0 _ hx ⟨rfl,l,r,rfl,a1,a2,a3,a4,a5⟩;dsimp only;by_cases hg:l>=r
  ·rw[AG hg];have e:l=r:=by lia
   subst e;exact Ao (h l l a2 a4 a5)
  ·rw[AF hg];refine Ai (hf _ (by lia) _ ?_)
   cases e:B (l+(r-l)/2) with
   |true=>refine Ao ⟨rfl,_,_,rfl,by lia,a2,by lia,fun i hi=>hm i (l+(r-l)/2) (by lia) (by lia) e,a5⟩
   |false=>
    refine Ao ⟨rfl,_,_,rfl,by lia,by lia,by lia,a4,fun i hi hn=>?_⟩
    cases e2:B i with
    |false=>rfl
    |true=>rw[hm _ i hi hn e2] at e;cases e
 ·rintro c h0 ⟨rfl,l,r,rfl,a1,a2,a3,a4,a5⟩;have e:l=r:=by lia
  subst e;exact h l l a2 a4 a5
def X3{most:Nat}{go:Nat->Nat}{stop:Bool->Bool}{Q:G3->hY->Prop}(J:Nat->Prop)(hf:∀i,i<n->∀R:Option Bool->hY->Prop,R (some (B i)) st->wpS M A E s (f i) R st)(hmost:0<most)(hmn:most<=n)(hgo:∀o,o<most->go o<n)
 (h0:J 0)(hJ:∀o,o<most->stop (B (go o))=false->J o)
 (h:∀l o,l<o->l<most->J l->(o>=most\/(o<most/\stop (B (go o))=true))->Q (none,l,o) st):wpS M A E s (Ll f n most go stop) Q st:=by
 unfold Ll;refine Ez (I:=fun x c h1=>h1=st/\∃l o,c=(none,l,o)/\l<o/\l<most/\J l/\x+1<=o) ?_ ?_ ⟨rfl,0,1,rfl,by lia,hmost,h0,by lia⟩
 ·rintro x c h1 _ hx ⟨rfl,l,o,rfl,a1,a2,a3,a4⟩;dsimp only;by_cases hg:o>=most
  ·rw[AG hg];exact Ao (h l o a1 a2 a3 (.inl hg))
  ·rw[AF hg];refine Ai (hf _ (hgo o (by lia)) _ ?_);dsimp only
   cases e:stop (B (go o)) with
   |true=>rw[AG rfl];exact Ao (h l o a1 a2 a3 (.inr ⟨by lia,e⟩))
   |false=>rw[AF (by simp)];exact Ao ⟨rfl,o,2*o+1,rfl,by lia,by lia,hJ o (by lia) e,by lia⟩
 ·rintro c h1 ⟨rfl,l,o,rfl,a1,a2,a3,a4⟩;exact h l o a1 a2 a3 (.inl (by lia))
def ma{hint:Nat}{Q:Option Nat->hY->Prop}(hf:∀i,i<n->∀R:Option Bool->hY->Prop,R (some (B i)) st->wpS M A E s (f i) R st)(hm:∀i j,i<=j->j<n->B j=true->B i=true)(hh:hint<n)
 (h:∀k,k<=n->(∀i,i<k->B i=true)->(∀i,k<=i->i<n->B i=false)->Q (some k) st):wpS M A E s (Ue f n hint) Q st:=by
 have h0:∀i j,i<=j->j<n->B i=false->B j=false:=fun i j a b c=>by
  cases e:B j with
  |false=>rfl
  |true=>rw[hm i j a b e] at c;cases c
 unfold Ue;refine Ai (hf _ hh _ ?_)
 cases e:B hint with
 |true=>
  show wpS _ _ _ _ (Ll f n (n-hint) _ _>>=_) Q st;refine Ai (X3 (B:=B) (fun l=>B (hint+l)=true) hf (by lia) (by lia) (fun o ho=>by lia) e (fun o ho hs=>by simpa using hs) fun l o a1 a2 a3 a4=>?_);show wpS _ _ _ _ (N2 f n (hint+l+1) (hint+min o (n-hint))>>=UH) Q st;refine Ai (Za hf hm (by lia) (by lia) (fun i hi=>hm i (hint+l) (by lia) (by lia) a3) (fun i hi hn=>?_) fun l k b1 b2 b3=>Ao (h k b1 b2 b3));rcases a4 with c|⟨c1,c2⟩
  ·lia
  ·exact h0 (hint+o) i (by lia) hn (by simpa using c2)
 |false=>
  show wpS _ _ _ _ (Ll f n (hint+1) _ _>>=_) Q st;refine Ai (X3 (B:=B) (fun l=>B (hint-l)=false) hf (by lia) (by lia) (fun o ho=>by lia) e (fun o ho hs=>hs) fun l o a1 a2 a3 a4=>?_);show wpS _ _ _ _ (N2 f n (hint+1-min o (hint+1)) (hint-l)>>=UH) Q st;refine Ai (Za hf hm (by lia) (by lia) (fun i hi=>?_) (fun i hi hn=>h0 (hint-l) i (by lia) hn a3) fun l k b1 b2 b3=>Ao (h k b1 b2 b3));rcases a4 with c|⟨c1,c2⟩
  ·lia
  ·exact hm i (hint-o) (by lia) (by lia) c2
end
end
variable{arr:Array Yf}
section
open PySem.W
def DQ{Q:Yf->hY->Prop}(hi:i<arr.size)(h:Q (arr.getD i dK) st):wpS M A E s (rA arr i) Q st:=by
 have e:arr[i]? =some (arr.getD i dK):=by rw[Gb,F3 _ i hi];rfl
 rw[elem'_eq,e];exact Ao h
def getD_mem(hi:i<arr.size):arr.getD i dK∈arr.toList:=by rw[Gb,F3 _ i hi];simp
def LS(hc:C4 prog w A s κ rk a0){left:Bool}{key:Yf}{base hint:Nat}{Q:Option Nat->hY->Prop}(hk:kindOf st=κ)(hkey:key∈a0.toList)(ha:∀x∈arr.toList,x∈a0.toList)
 (hn:base+n<=arr.size)(hh:hint<n)(hs:Up rk arr base (base+n))
 (h:∀k,k<=n->(∀i,i<k->(kv rk arr (base+i)<rk key\/(left=false/\kv rk arr (base+i)=rk key)))->(∀i,k<=i->i<n->(rk key<kv rk arr (base+i)\/(left=true/\kv rk arr (base+i)=rk key)))->Q (some k) st):
 wpS (ax prog w) A E s (JN left key arr base n hint) Q st:=by
 rw[dk];refine ma (B:=fun i=>if left=true then decide (kv rk arr (base+i)<rk key) else !decide (rk key<kv rk arr (base+i))) (fun i hi R hR=>?_) (fun i j a b c=>?_) hh fun k a b c=>h k a (fun i hi=>?_) fun i hi h0=>?_
 ·unfold past;have hz:base+i<arr.size:=by lia
  refine Ai (DQ hz ?_)
  cases left with
  |true=>exact Nu hc hk (ha _ (getD_mem hz)) hkey hR
  |false=>exact Ai (Nu hc hk hkey (ha _ (getD_mem hz)) (Ao hR))
 ·have:=hs (base+i) (base+j) (by lia) (by lia) (by lia)
  cases left with
  |true=>simp only[CJ,Of] at c⊢;lia
  |false=>simp only[DM,Bw,Bool.not_eq_true',Uy] at c⊢;lia
 ·have:=b i hi
  cases left with
  |true=>simp only[CJ,Of] at this;exact .inl this
  |false=>simp only[DM,Bw,Bool.not_eq_true',Uy] at this;simp;lia
 ·have:=c i hi h0
  cases left with
  |true=>simp only[CJ,Uy] at this;simp;lia
  |false=>simp only[DM,Bw,Bool.not_eq_false',Of] at this;exact .inl this
def SL(rk:Yf->Nat)(l:List Yf):Prop:=l.Pairwise fun x y=>rk x<=rk y
def SL.app{l m:List Yf}:SL rk (l++m)↔SL rk l/\SL rk m/\∀x∈l,∀y∈m,rk x<=rk y:=U7
structure Mi(rk:Yf->Nat)(out p q:List Yf):Prop where
 l:SL rk (out++p)
 r:SL rk (out++q)
def Mi.swap{out p q:List Yf}(h:Mi rk out p q):Mi rk out q p:=⟨h.r,h.l⟩
def Mi.Tr{out p u q:List Yf}(h:Mi rk out p (u++q))(hu:∀x∈u,∀y∈p,rk x<=rk y):Mi rk (out++u) p q:=by
 refine⟨?_,by rw[Bu];exact h.r⟩;obtain⟨a,b,c⟩:=SL.app.mp h.l;obtain⟨a',b',c'⟩:=SL.app.mp h.r;refine SL.app.mpr ⟨SL.app.mpr ⟨a,(SL.app.mp b').1,fun x hx y hy=>c' x hx y (IM _ hy)⟩,b,fun x hx y hy=>?_⟩;rcases BS.mp hx with z|z
 ·exact c x z y hy
 ·exact hu x z y hy
def NN{xs:Array Yf}(h:i<xs.size):kv rk xs i=rk (xs.toList[i]'(by simpa using h)):=by unfold kv;rw[Gb,F3 _ i h];simp
def LY{xs:Array Yf}(h:Up rk xs 0 xs.size):∀y∈xs.toList.drop i,kv rk xs i<=rk y:=by
 intro y hy;obtain⟨j,hj,e⟩:=F2.mp hy;rw[Dr] at hj;have hl:xs.toList.length=xs.size:=by simp
 rw[List.getElem_drop] at e;rw[<-e,<-NN (rk:=rk) (i:=i+j) (by lia)];exact h _ _ (CC _) (by lia) (by lia)
def Pk{xs:Array Yf}(h:i<xs.size):xs.toList.drop i=xs.getD i dK::xs.toList.drop (i+1):=by
 have hl:xs.toList.length=xs.size:=by simp
 rw[OQ (by lia)];congr 1;rw[Gb,F3 _ i h];simp
def QD{xs:Array Yf}(h:Up rk xs 0 xs.size):SL rk xs.toList:=by
 refine ON.mpr fun i j hi hj h0=>?_;have hl:xs.toList.length=xs.size:=by simp
 rw[<-NN (rk:=rk) (by lia),<-NN (rk:=rk) (by lia)];exact h _ _ (CC _) (by lia) (by lia)
def jt{xs:Array Yf}(hk:i+k<=xs.size){y:Yf}(h:y∈(xs.toList.drop i).take k):∃j,j<k/\y=xs.getD (i+j) dK:=by
 obtain⟨j,hj,e⟩:=F2.mp h;rw[Be] at hj;have hl:xs.toList.length=xs.size:=by simp
 refine⟨j,by lia,?_⟩;rw[List.getElem_take,List.getElem_drop] at e;rw[<-e,Gb,F3 _ (i+j) (by lia)];simp
def NC(xs:Array Yf)(i j:Nat):(xs.extract i j).toList=(xs.toList.drop i).take (j-i):=by rw[VA]
def LQ(xs:Array Yf)(i:Nat):(xs.extract i xs.size).toList=xs.toList.drop i:=by rw[NC,Eu (by simp)]
structure Mg(rk:Yf->Nat)(a b out:Array Yf)(ia ib:Nat):Prop where
 mi:Mi rk out.toList (a.toList.drop ia) (b.toList.drop ib)
 pm:out.toList.Perm (a.toList.take ia++b.toList.take ib)
 ha:ia+1<a.size
 hb:ib<b.size
end
variable{out:Array Yf}
section
open PySem.W
section
variable{a b:Array Yf}
structure Me(rk:Yf->Nat)(a b out:Array Yf):Prop where
 sl:SL rk out.toList
 pm:out.toList.Perm (a.toList++b.toList)
end
end
variable{ia ib:Nat}
section
open PySem.W
section
variable{a b:Array Yf}
noncomputable def FG(a b out:Array Yf)(ia ib:Nat):Array Yf:=out++a.extract ia a.size++b.extract ib b.size
noncomputable def Kl(a b out:Array Yf)(ia ib:Nat):Array Yf:=out++b.extract ib b.size++a.extract ia a.size
def R7{o a b:List Yf}(h:o.Perm (a.take i++b.take j)):(o++(a.drop i++b.drop j)).Perm (a++b):=by
 have e:a++b=(a.take i++a.drop i)++(b.take j++b.drop j):=by rw[D9,D9]
 rw[e];refine(h.append_right _).trans ?_;rw[Bu,Bu];refine Q4 _ ?_;rw[<-Bu,<-Bu];exact U3 _ I8
def QT(mi:Mi rk out.toList (a.toList.drop ia) (b.toList.drop ib))(pm:out.toList.Perm (a.toList.take ia++b.toList.take ib))(hb:ib=b.size):Me rk a b (FG a b out ia ib):=by
 have e:b.toList.drop ib=[]:=by rw[hb];simp
 have e2:(FG a b out ia ib).toList=out.toList++(a.toList.drop ia++b.toList.drop ib):=by unfold FG;rw[Ge,Ge,LQ,LQ,Bu]
 refine⟨?_,by rw[e2];exact R7 pm⟩;rw[e2,e,Cp];exact mi.l
def pO(mi:Mi rk out.toList (a.toList.drop ia) (b.toList.drop ib))(pm:out.toList.Perm (a.toList.take ia++b.toList.take ib))(ha:ia=a.size):Me rk a b (FG a b out ia ib):=by
 have e:a.toList.drop ia=[]:=by rw[ha];simp
 have e2:(FG a b out ia ib).toList=out.toList++(a.toList.drop ia++b.toList.drop ib):=by unfold FG;rw[Ge,Ge,LQ,LQ,Bu]
 refine⟨?_,by rw[e2];exact R7 pm⟩;rw[e2,e,Oo];exact mi.r
def QM(mi:Mi rk out.toList (a.toList.drop ia) (b.toList.drop ib))(pm:out.toList.Perm (a.toList.take ia++b.toList.take ib))(ha:ia+1=a.size)(hl:∀y∈b.toList,rk y<=kv rk a (a.size-1)):Me rk a b (Kl a b out ia ib):=by
 have e:a.toList.drop ia=[a.getD ia dK]:=by rw[Pk (by lia),ha];simp
 have e2:(Kl a b out ia ib).toList=out.toList++(b.toList.drop ib++a.toList.drop ia):=by unfold Kl;rw[Ge,Ge,LQ,LQ,Bu]
 refine⟨?_,by rw[e2];exact(Q4 _ I8).trans (R7 pm)⟩;rw[e2,e,<-Bu];refine SL.app.mpr ⟨mi.r,U0 _ _,fun x hx y hy=>?_⟩;rw[BR] at hy;rcases BS.mp hx with z|z
 ·exact(SL.app.mp mi.l).2.2 x z y (by rw[e,hy];exact BR.mpr rfl)
 ·have:=hl x (Jv z);rw[hy];unfold kv at this
  rwa [show a.size-1=ia by lia] at this
end
end
variable{out':Array Yf}
section
open PySem.W
section
variable{a b:Array Yf}
def Nx(mi:Mi rk out.toList (a.toList.drop ia) (b.toList.drop ib))(pm:out.toList.Perm (a.toList.take ia++b.toList.take ib))(k:Nat)(hk:ib+k<=b.size)(e:out'.toList=out.toList++(b.toList.drop ib).take k)(hle:∀i,i<k->∀y∈a.toList.drop ia,kv rk b (ib+i)<=rk y):
 Mi rk out'.toList (a.toList.drop ia) (b.toList.drop (ib+k))/\out'.toList.Perm (a.toList.take ia++b.toList.take (ib+k)):=by
 rw[e];constructor
 ·have e3:b.toList.drop ib=(b.toList.drop ib).take k++b.toList.drop (ib+k):=by rw[<-List.drop_drop,D9]
  rw[e3] at mi;refine mi.Tr fun x hx y hy=>?_;obtain⟨j,hj,rfl⟩:=jt hk hx;exact hle j hj y hy
 ·have e3:b.toList.take (ib+k)=b.toList.take ib++(b.toList.drop ib).take k:=List.take_add;rw[e3,<-Bu];exact pm.append_right _
def T4(mi:Mi rk out.toList (a.toList.drop ia) (b.toList.drop ib))(pm:out.toList.Perm (a.toList.take ia++b.toList.take ib))(k:Nat)(hk:ia+k<=a.size)(e:out'.toList=out.toList++(a.toList.drop ia).take k)(hle:∀i,i<k->∀y∈b.toList.drop ib,kv rk a (ia+i)<=rk y):
 Mi rk out'.toList (a.toList.drop (ia+k)) (b.toList.drop ib)/\out'.toList.Perm (a.toList.take (ia+k)++b.toList.take ib):=by
 have:=Nx (a:=b) (b:=a) mi.swap (pm.trans I8) k hk e hle;exact⟨this.1.swap,this.2.trans I8⟩
def ND{xs:Array Yf}(h:i<xs.size)(out:Array Yf):(out.push (xs.getD i dK)).toList=out.toList++(xs.toList.drop i).take 1:=by rw[MW,Pk h];rfl
def Xz{xs:Array Yf}(i k:Nat)(out:Array Yf):(out++xs.extract i (i+k)).toList=out.toList++(xs.toList.drop i).take k:=by rw[Ge,NC,Nat.add_sub_cancel_left]
end
abbrev A4:=Option (Array Yf)×Array Yf×Nat×Nat×Nat
abbrev A5:=Option (Array Yf)×Array Yf×Nat×Nat×Nat×Nat
abbrev A6:=Option (Array Yf)×Array Yf×Nat×Nat×Nat×Nat×Nat
noncomputable def NV:Nat->SM Unit:=sortPriv%PySem.Builtin.setMinGallop
def lo1(a b:Array Yf)(mg:Nat)(out:Array Yf)(ia ib:Nat):SM A5:=
 forIn [0:a.size+b.size] ((none,out,ia,ib,0,0):A5) fun _ z=>rA b z.2.2.2.1>>=fun y=>rA a z.2.2.1>>=fun x=>lt' y x>>=fun t=>
  match t with
  |some c=>
   if c=true then(rA b z.2.2.2.1>>=fun y=>
    if(z.2.2.2.1+1==b.size)=true then pure (.done (some (FG a b (z.2.1.push y) z.2.2.1 (z.2.2.2.1+1)),z.2.1.push y,z.2.2.1,z.2.2.2.1+1,0,z.2.2.2.2.2+1))
    else if z.2.2.2.2.2+1>=mg then pure (.done (none,z.2.1.push y,z.2.2.1,z.2.2.2.1+1,0,z.2.2.2.2.2+1))
    else pure (.yield (none,z.2.1.push y,z.2.2.1,z.2.2.2.1+1,0,z.2.2.2.2.2+1)))
   else(rA a z.2.2.1>>=fun x=>
    if(z.2.2.1+1+1==a.size)=true then pure (.done (some (Kl a b (z.2.1.push x) (z.2.2.1+1) z.2.2.2.1),z.2.1.push x,z.2.2.1+1,z.2.2.2.1,z.2.2.2.2.1+1,0))
    else if z.2.2.2.2.1+1>=mg then pure (.done (none,z.2.1.push x,z.2.2.1+1,z.2.2.2.1,z.2.2.2.2.1+1,0))
    else pure (.yield (none,z.2.1.push x,z.2.2.1+1,z.2.2.2.1,z.2.2.2.2.1+1,0)))
  |none=>pure (.done (some (FG a b z.2.1 z.2.2.1 z.2.2.2.1),z.2.1,z.2.2.1,z.2.2.2.1,z.2.2.2.2.1,z.2.2.2.2.2))
def Qm(a b:Array Yf)(mg ac bc:Nat)(out:Array Yf)(ia ib:Nat):SM (ForInStep A6):=
 rA a ia>>=fun x=>
  if(ia+1+1==a.size)=true then pure (.done (some (Kl a b (out.push x) (ia+1) ib),out.push x,ia+1,ib,mg,ac,bc))
  else if(decide (ac<7)&&decide (bc<7))=true then pure (.done (none,out.push x,ia+1,ib,mg,ac,bc))
  else pure (.yield (none,out.push x,ia+1,ib,mg,ac,bc))
def Qo(a b:Array Yf)(mg ac bc:Nat)(out:Array Yf)(ia ib:Nat):SM (ForInStep A6):=
 rA b ib>>=fun y=>
  if(ib+1==b.size)=true then pure (.done (some (FG a b (out.push y) ia (ib+1)),out.push y,ia,ib+1,mg,ac,bc))
  else rA a ia>>=fun x=>JN true x b (ib+1) (b.size-(ib+1)) 0>>=fun t=>
   match t with
   |some k=>
    if k>0 then
     (if(ib+1+k==b.size)=true then pure (.done (some (FG a b (out.push y++b.extract (ib+1) (ib+1+k)) ia (ib+1+k)),out.push y++b.extract (ib+1) (ib+1+k),ia,ib+1+k,mg,ac,k))
     else Qm a b mg ac k (out.push y++b.extract (ib+1) (ib+1+k)) ia (ib+1+k))
    else Qm a b mg ac k (out.push y) ia (ib+1)
   |none=>pure (.done (some (FG a b (out.push y) ia (ib+1)),out.push y,ia,ib+1,mg,ac,bc))
def Ga(a b:Array Yf)(mg ac bc:Nat)(out:Array Yf)(ia ib:Nat):SM (ForInStep A6):=
 NV mg>>=fun _=>rA b ib>>=fun y=>JN false y a ia (a.size-ia) 0>>=fun t=>
  match t with
  |some k=>
   if k>0 then
    (if(ia+k+1==a.size)=true then pure (.done (some (Kl a b (out++a.extract ia (ia+k)) (ia+k) ib),out++a.extract ia (ia+k),ia+k,ib,mg,k,bc))
    else if(ia+k==a.size)=true then pure (.done (some (FG a b (out++a.extract ia (ia+k)) (ia+k) ib),out++a.extract ia (ia+k),ia+k,ib,mg,k,bc))
    else Qo a b mg k bc (out++a.extract ia (ia+k)) (ia+k) ib)
   else Qo a b mg k bc out ia ib
  |none=>pure (.done (some (FG a b out ia ib),out,ia,ib,mg,ac,bc))
def Ug(a b:Array Yf)(out:Array Yf)(ia ib mg ac bc:Nat):SM A6:=
 forIn [0:a.size+b.size] ((none,out,ia,ib,mg,ac,bc):A6) fun _ z=>if z.2.2.2.2.1>1 then Ga a b (z.2.2.2.2.1-1) z.2.2.2.2.2.1 z.2.2.2.2.2.2 z.2.1 z.2.2.1 z.2.2.2.1 else Ga a b z.2.2.2.2.1 z.2.2.2.2.2.1 z.2.2.2.2.2.2 z.2.1 z.2.2.1 z.2.2.2.1
def qJ(z:A6):SM (ForInStep A4):=
 match z.1 with
 |some r=>pure (.done (some r,z.2.1,z.2.2.1,z.2.2.2.1,z.2.2.2.2.1))
 |none=>NV (z.2.2.2.2.1+1)>>=fun _=>pure (.yield (none,z.2.1,z.2.2.1,z.2.2.2.1,z.2.2.2.2.1+1))
def qZ(a b:Array Yf)(mg:Nat)(z:A5):SM (ForInStep A4):=
 match z.1 with
 |some r=>pure (.done (some r,z.2.1,z.2.2.1,z.2.2.2.1,mg))
 |none=>(liftM (rule "list.sort.gallop"):SM Unit)>>=fun _=>Ug a b z.2.1 z.2.2.1 z.2.2.2.1 (mg+1) z.2.2.2.2.1 z.2.2.2.2.2>>=qJ
def bF(a b:Array Yf)(out:Array Yf)(ia ib mg:Nat):SM A4:=
 forIn [0:a.size+b.size] ((none,out,ia,ib,mg):A4) fun _ z=>lo1 a b z.2.2.2.2 z.2.1 z.2.2.1 z.2.2.2.1>>=qZ a b z.2.2.2.2
noncomputable def qY(z:A4):SM (Array Yf):=
 match z.1 with
 |some r=>pure r
 |none=>liftM (rT "internal:list.sort.merge-bound" :Sem (Array Yf))
def low(a b:Array Yf):SM (Array Yf):=
 (liftM (rule "list.sort.merge-lo"):SM Unit)>>=fun _=>rA b 0>>=fun y=>
  if(1==b.size)=true then pure (FG a b #[y] 0 1)
  else if(0+1==a.size)=true then pure (Kl a b #[y] 0 1)
  else get>>=fun st=>bF a b #[y] 0 1 (gallopOf st)>>=qY
noncomputable def Sa:Array Yf->Array Yf->SM (Array Yf):=sortPriv%PySem.Builtin.mergeLo
def mH(a b:Array Yf):Sa a b=low a b:=by
 refine BG rfl fun _=>BG rfl fun y=>DO rfl (fun _=>rfl) fun _=>DO rfl (fun _=>rfl) fun _=>BG rfl fun st=>BG (Gx fun i z=>BG (Gx fun i z=>?_) fun z'=>?_) fun z=>?_
 ·refine BG rfl fun y=>BG rfl fun x=>BG rfl fun t=>?_;cases t<;>rfl
 ·obtain⟨r,o,ia,ib,ac,bc⟩:=z'
  match r with
  |some r=>rfl
  |none=>
   refine BG rfl fun _=>BG (Gx fun i z=>?_) fun z=>?_
   ·refine DO rfl (fun _=>?_) fun _=>?_;all_goals
     refine BG rfl fun _=>BG rfl fun y=>BG rfl fun t=>?_
     cases t with
     |none=>rfl
     |some k=>
      refine DO rfl (fun _=>DO rfl (fun _=>rfl) fun _=>DO rfl (fun _=>rfl) fun _=>?_) fun _=>?_;all_goals
       refine BG rfl fun y=>DO rfl (fun _=>rfl) fun _=>BG rfl fun x=>BG rfl fun t=>?_;cases t<;>rfl
   ·obtain⟨r,o,ia,ib,mg,ac,bc⟩:=z;cases r<;>rfl
 ·obtain⟨r,z⟩:=z;cases r<;>rfl
structure Sm(st st':hY):Prop where
 k:kindOf st'=kindOf st
 a:dA st'=dA st
 p:cm st'=cm st
 f:qp st'=qp st
def Sm.Jh(st:hY):Sm st st:=⟨rfl,rfl,rfl,rfl⟩
def Sm.trans{x y z:hY}(h:Sm x y)(g:Sm y z):Sm x z:=⟨g.k.trans h.k,g.a.trans h.a,g.p.trans h.p,g.f.trans h.f⟩
def PQ{m:Nat}{Q:Unit->hY->Prop}(h:∀st',Sm st st'->Q () st'):wpS M A E s (NV m) Q st:=
 KA (f:=fun z=>SortSt.mk' (kindOf z) (dA z) (cm z) m (qp z)) (h _ ⟨rfl,rfl,rfl,rfl⟩)
def UT(rk:Yf->Nat)(a b:Array Yf)(N:Nat)(z:A6):Prop:=z.1=none/\Mg rk a b z.2.1 z.2.2.1 z.2.2.2.1/\N<=z.2.2.1+z.2.2.2.1
def au(rk:Yf->Nat)(a b:Array Yf)(N:Nat)(z:A6):Prop:=(∃r,z.1=some r/\Me rk a b r)\/UT rk a b N z
def Uq(rk:Yf->Nat)(a b:Array Yf)(N:Nat):ForInStep A6->Prop
 |.done z=>au rk a b N z
 |.yield z=>UT rk a b N z
section
variable{a b:Array Yf}
structure Fx(rk:Yf->Nat)(a0 a b:Array Yf):Prop where
 Lx:∀x∈a.toList,x∈a0.toList
 L6:∀x∈b.toList,x∈a0.toList
 ua:Up rk a 0 a.size
 ub:Up rk b 0 b.size
 na:0<a.size
 nb:0<b.size
 first:∀y∈a.toList,kv rk b 0<=rk y
 last:∀y∈b.toList,rk y<=kv rk a (a.size-1)
def Up.part{xs:Array Yf}(h:Up rk xs 0 xs.size)(hn:i+n<=xs.size):Up rk xs i (i+n):=fun x y a b c=>h x y (CC _) b (by lia)
def nS(hc:C4 prog w A s κ rk a0)(T:Fx rk a0 a b)(hk:kindOf st=κ){mg:Nat}{N:Nat}(g:Mg rk a b out ia ib)(hN:N<=ia+ib){Q:A5->hY->Prop}
 (h1:∀r z,Me rk a b r->Q (some r,z) st)(h2:∀out ia ib ac bc,Mg rk a b out ia ib->N+1<=ia+ib->Q (none,out,ia,ib,ac,bc) st):wpS (ax prog w) A E s (lo1 a b mg out ia ib) Q st:=by
 unfold lo1;refine Ez (I:=fun x c h0=>h0=st/\∃out ia ib ac bc,c=(none,out,ia,ib,ac,bc)/\Mg rk a b out ia ib/\N+x<=ia+ib) ?_ ?_ ⟨rfl,out,ia,ib,0,0,rfl,g,hN⟩
 ·rintro x c h0 _ hx ⟨rfl,out,ia,ib,ac,bc,rfl,g,h3⟩;have ha:ia<a.size:=by have:=g.ha;lia
  refine Ai (DQ g.hb (Ai (DQ ha (Ai (Nu hc hk (T.L6 _ (getD_mem g.hb)) (T.Lx _ (getD_mem ha)) ?_)))));by_cases hl:rk (b.getD ib dK)<rk (a.getD ia dK)
  ·simp only[hl,LK,CJ];refine Ai (DQ g.hb ?_);obtain⟨m1,m2⟩:=Nx g.mi g.pm 1 (by have:=g.hb;lia) (ND g.hb out) (fun i hi y hy=>by
    have e:i=0:=by lia
    subst e;exact BJ (F4 hl) (LY T.ua y hy));by_cases e:ib+1=b.size
   ·rw[AG (by simpa using e)];exact Ao (h1 _ _ (QT m1 m2 e))
   ·rw[AF (by simpa using e)];have g2:Mg rk a b (out.push (b.getD ib dK)) ia (ib+1):=⟨m1,m2,g.ha,by have:=g.hb;lia⟩;by_cases e2:bc+1>=mg
    ·rw[AG e2];exact Ao (h2 _ _ _ _ _ g2 (by lia))
    ·rw[AF e2];exact Ao ⟨rfl,_,_,_,_,_,rfl,g2,by lia⟩
  ·simp only[hl,LG,DM,Bw];refine Ai (DQ ha ?_);obtain⟨m1,m2⟩:=T4 g.mi g.pm 1 (by lia) (ND ha out) (fun i hi y hy=>by
    have e:i=0:=by lia
    subst e;exact BJ (Oi hl) (LY T.ub y hy));by_cases e:ia+1+1=a.size
   ·rw[AG (by simpa using e)];exact Ao (h1 _ _ (QM m1 m2 e T.last))
   ·rw[AF (by simpa using e)];have g2:Mg rk a b (out.push (a.getD ia dK)) (ia+1) ib:=⟨m1,m2,by have:=g.ha;lia,g.hb⟩;by_cases e2:ac+1>=mg
    ·rw[AG e2];exact Ao (h2 _ _ _ _ _ g2 (by lia))
    ·rw[AF e2];exact Ao ⟨rfl,_,_,_,_,_,rfl,g2,by lia⟩
 ·rintro c h0 ⟨rfl,out,ia,ib,ac,bc,rfl,g,h3⟩;refine h2 _ _ _ _ _ g ?_;have:=T.na
  lia
end
end
variable{ac bc:Nat}
section
open PySem.W
section
variable{a b:Array Yf}
def Ze(T:Fx rk a0 a b){mg:Nat}{N:Nat}(g:Mg rk a b out ia ib)(hN:N<=ia+ib)(hle:∀y∈b.toList.drop ib,kv rk a ia<=rk y){Q:ForInStep A6->hY->Prop}
 (h:∀z,Uq rk a b N z->Q z st):wpS (ax prog w) A E s (Qm a b mg ac bc out ia ib) Q st:=by
 have ha:ia<a.size:=by have:=g.ha;lia
 unfold Qm;refine Ai (DQ ha ?_);obtain⟨m1,m2⟩:=T4 g.mi g.pm 1 (by lia) (ND ha out) (fun i hi y hy=>by
  have e:i=0:=by lia
  subst e;exact hle y hy);by_cases e:ia+1+1=a.size
 ·rw[AG (by simpa using e)];exact Ao (h _ (.inl ⟨_,rfl,QM m1 m2 e T.last⟩))
 ·rw[AF (by simpa using e)];have g2:Mg rk a b (out.push (a.getD ia dK)) (ia+1) ib:=⟨m1,m2,by have:=g.ha;lia,g.hb⟩;by_cases e3:(decide (ac<7)&&decide (bc<7))=true
  ·rw[AG e3];exact Ao (h _ (.inr ⟨rfl,g2,by show N<=ia+1+ib;lia⟩))
  ·rw[AF e3];exact Ao (h _ ⟨rfl,g2,by show N<=ia+1+ib;lia⟩)
def ZM(hc:C4 prog w A s κ rk a0)(T:Fx rk a0 a b)(hk:kindOf st=κ){mg:Nat}{N:Nat}(g:Mg rk a b out ia ib)(hN:N<=ia+ib)(hle:∀y∈a.toList.drop ia,kv rk b ib<=rk y){Q:ForInStep A6->hY->Prop}
 (h:∀z,Uq rk a b N z->Q z st):wpS (ax prog w) A E s (Qo a b mg ac bc out ia ib) Q st:=by
 have ha:ia<a.size:=by have:=g.ha;lia
 unfold Qo;refine Ai (DQ g.hb ?_);obtain⟨m1,m2⟩:=Nx g.mi g.pm 1 (by have:=g.hb;lia) (ND g.hb out) (fun i hi y hy=>by
  have e:i=0:=by lia
  subst e;exact hle y hy);by_cases e:ib+1=b.size
 ·rw[AG (by simpa using e)];exact Ao (h _ (.inl ⟨_,rfl,QT m1 m2 e⟩))
 ·rw[AF (by simpa using e)];have hb:=g.hb;have g2:Mg rk a b (out.push (b.getD ib dK)) ia (ib+1):=⟨m1,m2,g.ha,by lia⟩;refine Ai (DQ ha (Ai (LS hc hk (T.Lx _ (getD_mem ha)) T.L6 (by lia) (by lia) (T.ub.part (by lia)) fun k k1 k2 k3=>?_)));dsimp only;have rest:∀y∈b.toList.drop (ib+1+k),kv rk a ia<=rk y:=fun y hy=>by
   by_cases hz:ib+1+k<b.size
   ·have h1:=k3 k (Ae _) (by lia);have h2:=LY T.ub y hy;have h3:rk (a.getD ia dK)<=kv rk b (ib+1+k):=by rcases h1 with z|⟨_,z⟩<;>lia
    exact BJ h3 h2
   ·rw[MJ (by simp;lia)] at hy;cases hy
  by_cases k0:k>0
  ·rw[AG k0];obtain⟨n1,n2⟩:=Nx m1 m2 k (by lia) (Xz (xs:=b) (ib+1) k (out.push (b.getD ib dK))) (fun i hi y hy=>by
    have h1:=k2 i hi;have h2:=LY T.ua y hy;have h3:kv rk b (ib+1+i)<=rk (a.getD ia dK):=by rcases h1 with z|⟨_,z⟩<;>lia
    exact BJ h3 h2);by_cases e2:ib+1+k=b.size
   ·rw[AG (by simpa using e2)];exact Ao (h _ (.inl ⟨_,rfl,QT n1 n2 e2⟩))
   ·rw[AF (by simpa using e2)];exact Ze T ⟨n1,n2,g.ha,by lia⟩ (by lia) rest h
  ·rw[AF k0];have h0:k=0:=by lia
   subst h0;exact Ze T g2 (by lia) rest h
def Zf(hc:C4 prog w A s κ rk a0)(T:Fx rk a0 a b)(hk:kindOf st=κ){mg:Nat}{N:Nat}(g:Mg rk a b out ia ib)(hN:N<=ia+ib){Q:ForInStep A6->hY->Prop}
 (h:∀z st',Sm st st'->Uq rk a b N z->Q z st'):wpS (ax prog w) A E s (Ga a b mg ac bc out ia ib) Q st:=by
 have ha:=g.ha;have hb:=g.hb;unfold Ga;refine Ai (PQ fun st' sm=>Ai (DQ g.hb (Ai (LS hc (sm.k.trans hk) (T.L6 _ (getD_mem g.hb)) T.Lx (by lia) (by lia) (T.ua.part (by lia)) fun k k1 k2 k3=>?_))));dsimp only;have rest:∀y∈a.toList.drop (ia+k),kv rk b ib<=rk y:=fun y hy=>by
  by_cases hz:ia+k<a.size
  ·have h1:=k3 k (Ae _) (by lia);have h2:=LY T.ua y hy;have h3:rk (b.getD ib dK)<=kv rk a (ia+k):=by rcases h1 with z|⟨_,z⟩<;>lia
   exact BJ h3 h2
  ·rw[MJ (by simp;lia)] at hy;cases hy
 by_cases k0:k>0
 ·rw[AG k0];obtain⟨n1,n2⟩:=T4 g.mi g.pm k (by lia) (Xz (xs:=a) ia k out) (fun i hi y hy=>by
   have h1:=k2 i hi;have h2:=LY T.ub y hy;have h3:kv rk a (ia+i)<=rk (b.getD ib dK):=by rcases h1 with z|⟨_,z⟩<;>lia
   exact BJ h3 h2);by_cases e1:ia+k+1=a.size
  ·rw[AG (by simpa using e1)];exact Ao (h _ _ sm (.inl ⟨_,rfl,QM n1 n2 e1 T.last⟩))
  ·rw[AF (by simpa using e1)];by_cases e2:ia+k=a.size
   ·rw[AG (by simpa using e2)];exact Ao (h _ _ sm (.inl ⟨_,rfl,pO n1 n2 e2⟩))
   ·rw[AF (by simpa using e2)];exact ZM hc T (sm.k.trans hk) ⟨n1,n2,by lia,g.hb⟩ (by lia) rest fun z hz=>h z _ sm hz
 ·rw[AF k0];have h0:k=0:=by lia
  subst h0;exact ZM hc T (sm.k.trans hk) g hN rest fun z hz=>h z _ sm hz
def oN(hc:C4 prog w A s κ rk a0)(T:Fx rk a0 a b)(hk:kindOf st=κ){mg:Nat}{N:Nat}(g:Mg rk a b out ia ib)(hN:N<=ia+ib){Q:A6->hY->Prop}
 (h:∀z st',Sm st st'->au rk a b N z->Q z st'):wpS (ax prog w) A E s (Ug a b out ia ib mg ac bc) Q st:=by
 unfold Ug;refine Ez (I:=fun x c st'=>Sm st st'/\UT rk a b N c) ?_ ?_ ⟨Sm.Jh _,rfl,g,hN⟩
 ·rintro x c st' _ hx ⟨sm,c1,c2,c3⟩;by_cases e3:c.2.2.2.2.1>1
  ·rw[AG e3];refine Zf hc T (sm.k.trans hk) c2 c3 fun z h0 s2 hz=>?_
   cases z with
   |done z=>exact h z _ (sm.trans s2) hz
   |yield z=>exact⟨sm.trans s2,hz⟩
  ·rw[AF e3];refine Zf hc T (sm.k.trans hk) c2 c3 fun z h0 s2 hz=>?_
   cases z with
   |done z=>exact h z _ (sm.trans s2) hz
   |yield z=>exact⟨sm.trans s2,hz⟩
 ·rintro c st' ⟨sm,hz⟩;exact h c st' sm (.inr hz)
def mZ(hc:C4 prog w A s κ rk a0)(T:Fx rk a0 a b)(hk:kindOf st=κ){Q:Array Yf->hY->Prop}(h:∀r st',Sm st st'->Me rk a b r->Q r st'):wpS (ax prog w) A E s (Sa a b) Q st:=by
 rw[mH];unfold low;have nb:=T.nb;have na:=T.na;refine Ai (LV (Gm ⟨rfl,?_⟩));refine Ai (DQ nb ?_);obtain⟨m1,m2⟩:=Nx (rk:=rk) (a:=a) (b:=b) (out:= #[]) (ia:=0) (ib:=0) ⟨QD T.ua,QD T.ub⟩ (Ou _) 1 (by lia) (ND nb #[]) (fun i hi y hy=>by
  have e:i=0:=by lia
  subst e;exact T.first y hy);by_cases e1:1=b.size
 ·rw[AG (by simpa using e1)];exact Ao (h _ _ (Sm.Jh _) (QT m1 m2 e1))
 ·rw[AF (by simpa using e1)];by_cases e2:0+1=a.size
  ·rw[AG (by simpa using e2)];exact Ao (h _ _ (Sm.Jh _) (QM m1 m2 e2 T.last))
  ·rw[AF (by simpa using e2)];refine Ai (Hi (Ai ?_));unfold bF;refine Ez (I:=fun x c st'=>Sm st st'/\∃out ia ib mg,c=(none,out,ia,ib,mg)/\Mg rk a b out ia ib/\x+1<=ia+ib) ?_ ?_ ⟨Sm.Jh _,_,0,1,_,rfl,⟨m1,m2,by lia,by lia⟩,by lia⟩
   ·rintro x c st' _ hx ⟨sm,out,ia,ib,mg,rfl,g,h0⟩;refine Ai (nS hc T (sm.k.trans hk) g h0 (fun r z hr=>Ao ?_) fun out ia ib ac bc g2 h4=>?_)
    ·exact Ao (h r _ sm hr)
    ·refine Ai (LV (Gm ⟨rfl,?_⟩));refine Ai (oN hc T (sm.k.trans hk) g2 h4 fun z h6 s2 hz=>?_);obtain⟨r,o,h2,h1,h7,h9,h8⟩:=z;rcases hz with⟨r',rfl,hr⟩|⟨rfl,g3,h3⟩
     ·exact Ao (Ao (h r' _ (sm.trans s2) hr))
     ·exact Ai (PQ fun h5 s3=>Ao ⟨(sm.trans s2).trans s3,o,h2,h1,_,rfl,g3,h3⟩)
   ·rintro c st' ⟨sm,out,ia,ib,mg,rfl,g,h0⟩;exfalso;have:=g.ha;have:=g.hb
    lia
end
structure Mj(rk:Yf->Nat)(p q o:List Yf):Prop where
 l:SL rk (p++o)
 r:SL rk (q++o)
def Mj.swap{p q o:List Yf}(h:Mj rk p q o):Mj rk q p o:=⟨h.r,h.l⟩
def Mj.Tr{p q u o:List Yf}(h:Mj rk p (q++u) o)(hu:∀x∈p,∀y∈u,rk x<=rk y):Mj rk p q (u++o):=by
 refine⟨?_,by rw[<-Bu];exact h.r⟩;obtain⟨a,b,c⟩:=SL.app.mp h.l;obtain⟨a',b',c'⟩:=SL.app.mp h.r;refine SL.app.mpr ⟨a,SL.app.mpr ⟨(SL.app.mp a').2.1,b,fun x hx y hy=>c' x (EA _ hx) y hy⟩,fun x hx y hy=>?_⟩;rcases BS.mp hy with z|z
 ·exact hu x hx y z
 ·exact c x hx y z
def Ph{xs:Array Yf}(h:Up rk xs 0 xs.size)(hn:n<=i+1)(hi:i<xs.size):∀y∈xs.toList.take n,rk y<=kv rk xs i:=by
 intro y hy;obtain⟨j,hj,e⟩:=F2.mp hy;rw[Be] at hj;have hl:xs.toList.length=xs.size:=by simp
 rw[List.getElem_take] at e;rw[<-e,<-NN (rk:=rk) (i:=j) (by lia)];exact h _ _ (CC _) (by lia) (by lia)
def IX{xs:Array Yf}{m:Nat}(hn:n<=xs.size){y:Yf}(h:y∈(xs.toList.take n).drop m):∃j,m<=j/\j<n/\y=xs.getD j dK:=by
 obtain⟨j,hj,e⟩:=F2.mp h;rw[Dr,Be] at hj;have hl:xs.toList.length=xs.size:=by simp
 refine⟨m+j,by lia,by lia,?_⟩;rw[List.getElem_drop,List.getElem_take] at e;rw[<-e,Gb,F3 _ (m+j) (by lia)];simp
def Mw{xs:Array Yf}(h:n<xs.size)(out:Array Yf):(out.push (xs.getD n dK)).toList.reverse=(xs.toList.take (n+1)).drop n++out.toList.reverse:=by
 have hl:xs.toList.length=xs.size:=by simp
 have e:(xs.toList.take (n+1)).drop n=[xs.getD n dK]:=by rw[List.drop_take,Pk h];simp
 rw[e,MW,List.reverse_append];rfl
def XI{xs:Array Yf}(m n:Nat)(out:Array Yf):(out++(xs.extract m n).reverse).toList.reverse=(xs.toList.take n).drop m++out.toList.reverse:=by rw[Ge,List.reverse_append,U9,List.reverse_reverse,NC,List.drop_take]
structure Mh(rk:Yf->Nat)(a b out:Array Yf)(na nb:Nat):Prop where
 mi:Mj rk (a.toList.take na) (b.toList.take nb) out.toList.reverse
 pm:out.toList.reverse.Perm (a.toList.drop na++b.toList.drop nb)
 ha:0<na
 la:na<=a.size
 hb:1<nb
 lb:nb<=b.size
end
variable{na nb:Nat}
section
open PySem.W
section
variable{a b:Array Yf}
noncomputable def GN(a b out:Array Yf)(na nb:Nat):Array Yf:=a.extract 0 na++b.extract 0 nb++out.reverse
noncomputable def Kr(a b out:Array Yf)(na nb:Nat):Array Yf:=b.extract 0 nb++a.extract 0 na++out.reverse
def PH(xs:Array Yf)(i:Nat):(xs.extract 0 i).toList=xs.toList.take i:=by rw[NC];simp
def Rr{o a b:List Yf}(h:o.Perm (a.drop i++b.drop j)):(a.take i++b.take j++o).Perm (a++b):=by
 have e:a++b=(a.take i++a.drop i)++(b.take j++b.drop j):=by rw[D9,D9]
 rw[e];refine(h.append_left _).trans ?_;rw[Bu,Bu];refine Q4 _ ?_;rw[<-Bu,<-Bu];exact U3 _ I8
def O9:(GN a b out na nb).toList=a.toList.take na++b.toList.take nb++out.toList.reverse:=by unfold GN;rw[Ge,Ge,PH,PH,U9]
def V0:(Kr a b out na nb).toList=b.toList.take nb++a.toList.take na++out.toList.reverse:=by unfold Kr;rw[Ge,Ge,PH,PH,U9]
def QO(mi:Mj rk (a.toList.take na) (b.toList.take nb) out.toList.reverse)(pm:out.toList.reverse.Perm (a.toList.drop na++b.toList.drop nb))(ha:na=0):Me rk a b (GN a b out na nb):=by refine⟨?_,by rw[O9];exact Rr pm⟩;rw[O9,ha,LA,Oo];exact mi.r
def pV(mi:Mj rk (a.toList.take na) (b.toList.take nb) out.toList.reverse)(pm:out.toList.reverse.Perm (a.toList.drop na++b.toList.drop nb))(hb:nb=0):Me rk a b (GN a b out na nb):=by refine⟨?_,by rw[O9];exact Rr pm⟩;rw[O9,hb,LA,Cp];exact mi.l
def QW(mi:Mj rk (a.toList.take na) (b.toList.take nb) out.toList.reverse)(pm:out.toList.reverse.Perm (a.toList.drop na++b.toList.drop nb))(hb:nb=1)(hz:0<b.size)(hl:∀y∈a.toList,kv rk b 0<=rk y):Me rk a b (Kr a b out na nb):=by
 have e:b.toList.take nb=[b.getD 0 dK]:=by have:=Pk (xs:=b) (i:=0) hz;rw[Md] at this;rw[hb,this];rfl
 refine⟨?_,?_⟩
 ·rw[V0,e,Bu];refine SL.app.mpr ⟨U0 _ _,mi.l,fun x hx y hy=>?_⟩;rw[BR] at hx;rw[hx];rcases BS.mp hy with z|z
  ·exact hl y (FX z)
  ·exact(SL.app.mp mi.r).2.2 _ (by rw[e];exact BR.mpr rfl) y z
 ·rw[V0];exact(I8.append_right _).trans (Rr pm)
def QN(mi:Mj rk (a.toList.take na) (b.toList.take nb) out.toList.reverse)(pm:out.toList.reverse.Perm (a.toList.drop na++b.toList.drop nb))(m:Nat)(hm:m<=nb)(hnb:nb<=b.size)(e:out'.toList.reverse=(b.toList.take nb).drop m++out.toList.reverse)(hle:∀i,m<=i->i<nb->∀y∈a.toList.take na,rk y<=kv rk b i):
 Mj rk (a.toList.take na) (b.toList.take m) out'.toList.reverse/\out'.toList.reverse.Perm (a.toList.drop na++b.toList.drop m):=by
 have e3:b.toList.take nb=b.toList.take m++(b.toList.take nb).drop m:=by
  have:=(D9 m (b.toList.take nb)).symm
  rwa [RY,HY hm] at this
 rw[e];constructor
 ·rw[e3] at mi;refine mi.Tr fun x hx y hy=>?_;obtain⟨j,h1,h2,rfl⟩:=IX hnb hy;exact hle j h1 h2 x hx
 ·have e4:b.toList.drop m=(b.toList.take nb).drop m++b.toList.drop nb:=by
   have e5:b.toList=b.toList.take nb++b.toList.drop nb:=(D9 _ _).symm;have hl:m<=(b.toList.take nb).length:=by rw[Be];simp;lia
   conv=>lhs;rw[e5]
   rw[Qx hl]
  rw[e4];refine(pm.append_left _).trans ?_;rw[<-Bu,<-Bu];exact U3 _ I8
def QR(mi:Mj rk (a.toList.take na) (b.toList.take nb) out.toList.reverse)(pm:out.toList.reverse.Perm (a.toList.drop na++b.toList.drop nb))(m:Nat)(hm:m<=na)(hna:na<=a.size)(e:out'.toList.reverse=(a.toList.take na).drop m++out.toList.reverse)(hle:∀i,m<=i->i<na->∀y∈b.toList.take nb,rk y<=kv rk a i):
 Mj rk (a.toList.take m) (b.toList.take nb) out'.toList.reverse/\out'.toList.reverse.Perm (a.toList.drop m++b.toList.drop nb):=by
 have:=QN (a:=b) (b:=a) mi.swap (pm.trans I8) m hm hna e hle;exact⟨this.1.swap,this.2.trans I8⟩
end
abbrev B4:=Option (Array Yf)×Nat×Nat×Array Yf×Nat
abbrev B5:=Option (Array Yf)×Nat×Nat×Array Yf×Nat×Nat
abbrev B6:=Option (Array Yf)×Nat×Nat×Array Yf×Nat×Nat×Nat
def DD(a b:Array Yf)(mg na nb:Nat)(out:Array Yf):SM B5:=
 forIn [0:a.size+b.size] ((none,na,nb,out,0,0):B5) fun _ z=>rA b (z.2.2.1-1)>>=fun y=>rA a (z.2.1-1)>>=fun x=>lt' y x>>=fun t=>
  match t with
  |some c=>
   if c=true then(rA a (z.2.1-1)>>=fun x=>
    if(z.2.1-1==0)=true then pure (.done (some (GN a b (z.2.2.2.1.push x) (z.2.1-1) z.2.2.1),z.2.1-1,z.2.2.1,z.2.2.2.1.push x,z.2.2.2.2.1+1,0))
    else if z.2.2.2.2.1+1>=mg then pure (.done (none,z.2.1-1,z.2.2.1,z.2.2.2.1.push x,z.2.2.2.2.1+1,0))
    else pure (.yield (none,z.2.1-1,z.2.2.1,z.2.2.2.1.push x,z.2.2.2.2.1+1,0)))
   else(rA b (z.2.2.1-1)>>=fun y=>
    if(z.2.2.1-1==1)=true then pure (.done (some (Kr a b (z.2.2.2.1.push y) z.2.1 (z.2.2.1-1)),z.2.1,z.2.2.1-1,z.2.2.2.1.push y,0,z.2.2.2.2.2+1))
    else if z.2.2.2.2.2+1>=mg then pure (.done (none,z.2.1,z.2.2.1-1,z.2.2.2.1.push y,0,z.2.2.2.2.2+1))
    else pure (.yield (none,z.2.1,z.2.2.1-1,z.2.2.2.1.push y,0,z.2.2.2.2.2+1)))
  |none=>pure (.done (some (GN a b z.2.2.2.1 z.2.1 z.2.2.1),z.2.1,z.2.2.1,z.2.2.2.1,z.2.2.2.2.1,z.2.2.2.2.2))
def Jr(a b:Array Yf)(mg ac bc na nb:Nat)(out:Array Yf):SM (ForInStep B6):=
 rA a (na-1)>>=fun x=>
  if(na-1==0)=true then pure (.done (some (GN a b (out.push x) (na-1) nb),na-1,nb,out.push x,mg,ac,bc))
  else if(decide (ac<7)&&decide (bc<7))=true then pure (.done (none,na-1,nb,out.push x,mg,ac,bc))
  else pure (.yield (none,na-1,nb,out.push x,mg,ac,bc))
def Ep(a b:Array Yf)(mg ac bc na nb:Nat)(out:Array Yf):SM (ForInStep B6):=
 rA b (nb-1)>>=fun y=>
  if(nb-1==1)=true then pure (.done (some (Kr a b (out.push y) na (nb-1)),na,nb-1,out.push y,mg,ac,bc))
  else rA a (na-1)>>=fun x=>JN true x b 0 (nb-1) (nb-1-1)>>=fun t=>
   match t with
   |some k=>
    if nb-1-k>0 then
     (if(k==1)=true then pure (.done (some (Kr a b (out.push y++(b.extract k (nb-1)).reverse) na k),na,k,out.push y++(b.extract k (nb-1)).reverse,mg,ac,nb-1-k))
     else if(k==0)=true then pure (.done (some (GN a b (out.push y++(b.extract k (nb-1)).reverse) na k),na,k,out.push y++(b.extract k (nb-1)).reverse,mg,ac,nb-1-k))
     else Jr a b mg ac (nb-1-k) na k (out.push y++(b.extract k (nb-1)).reverse))
    else Jr a b mg ac (nb-1-k) na (nb-1) (out.push y)
   |none=>pure (.done (some (GN a b (out.push y) na (nb-1)),na,nb-1,out.push y,mg,ac,bc))
def FN(a b:Array Yf)(mg ac bc na nb:Nat)(out:Array Yf):SM (ForInStep B6):=
 NV mg>>=fun _=>rA b (nb-1)>>=fun y=>JN false y a 0 na (na-1)>>=fun t=>
  match t with
  |some k=>
   if na-k>0 then
    (if(k==0)=true then pure (.done (some (GN a b (out++(a.extract k na).reverse) k nb),k,nb,out++(a.extract k na).reverse,mg,na-k,bc))
    else Ep a b mg (na-k) bc k nb (out++(a.extract k na).reverse))
   else Ep a b mg (na-k) bc na nb out
  |none=>pure (.done (some (GN a b out na nb),na,nb,out,mg,ac,bc))
def K3(a b:Array Yf)(na nb:Nat)(out:Array Yf)(mg ac bc:Nat):SM B6:=
 forIn [0:a.size+b.size] ((none,na,nb,out,mg,ac,bc):B6) fun _ z=>if z.2.2.2.2.1>1 then FN a b (z.2.2.2.2.1-1) z.2.2.2.2.2.1 z.2.2.2.2.2.2 z.2.1 z.2.2.1 z.2.2.2.1 else FN a b z.2.2.2.2.1 z.2.2.2.2.2.1 z.2.2.2.2.2.2 z.2.1 z.2.2.1 z.2.2.2.1
def qU(z:B6):SM (ForInStep B4):=
 match z.1 with
 |some r=>pure (.done (some r,z.2.1,z.2.2.1,z.2.2.2.1,z.2.2.2.2.1))
 |none=>NV (z.2.2.2.2.1+1)>>=fun _=>pure (.yield (none,z.2.1,z.2.2.1,z.2.2.2.1,z.2.2.2.2.1+1))
def Us(a b:Array Yf)(mg:Nat)(z:B5):SM (ForInStep B4):=
 match z.1 with
 |some r=>pure (.done (some r,z.2.1,z.2.2.1,z.2.2.2.1,mg))
 |none=>(liftM (rule "list.sort.gallop"):SM Unit)>>=fun _=>K3 a b z.2.1 z.2.2.1 z.2.2.2.1 (mg+1) z.2.2.2.2.1 z.2.2.2.2.2>>=qU
def Qi(a b:Array Yf)(na nb:Nat)(out:Array Yf)(mg:Nat):SM B4:=
 forIn [0:a.size+b.size] ((none,na,nb,out,mg):B4) fun _ z=>DD a b z.2.2.2.2 z.2.1 z.2.2.1 z.2.2.2.1>>=Us a b z.2.2.2.2
noncomputable def Ur(z:B4):SM (Array Yf):=
 match z.1 with
 |some r=>pure r
 |none=>liftM (rT "internal:list.sort.merge-bound" :Sem (Array Yf))
def high(a b:Array Yf):SM (Array Yf):=
 (liftM (rule "list.sort.merge-hi"):SM Unit)>>=fun _=>rA a (a.size-1)>>=fun x=>
  if(a.size-1==0)=true then pure (GN a b #[x] (a.size-1) b.size)
  else if(b.size==1)=true then pure (Kr a b #[x] (a.size-1) b.size)
  else get>>=fun st=>Qi a b (a.size-1) b.size #[x] (gallopOf st)>>=Ur
noncomputable def SI:Array Yf->Array Yf->SM (Array Yf):=sortPriv%PySem.Builtin.mergeHi
def jg(a b:Array Yf):SI a b=high a b:=by
 refine BG rfl fun _=>BG rfl fun y=>DO rfl (fun _=>rfl) fun _=>DO rfl (fun _=>rfl) fun _=>BG rfl fun st=>BG (Gx fun i z=>BG (Gx fun i z=>?_) fun z'=>?_) fun z=>?_
 ·refine BG rfl fun y=>BG rfl fun x=>BG rfl fun t=>?_;cases t<;>rfl
 ·obtain⟨r,na,nb,o,ac,bc⟩:=z'
  match r with
  |some r=>rfl
  |none=>
   refine BG rfl fun _=>BG (Gx fun i z=>?_) fun z=>?_
   ·refine DO rfl (fun _=>?_) fun _=>?_;all_goals
     refine BG rfl fun _=>BG rfl fun y=>BG rfl fun t=>?_
     cases t with
     |none=>rfl
     |some k=>
      refine DO rfl (fun _=>DO rfl (fun _=>rfl) fun _=>?_) fun _=>?_;all_goals
       refine BG rfl fun y=>DO rfl (fun _=>rfl) fun _=>BG rfl fun x=>BG rfl fun t=>?_;cases t<;>rfl
   ·obtain⟨r,z⟩:=z;cases r<;>rfl
 ·obtain⟨r,z⟩:=z;cases r<;>rfl
def UR(rk:Yf->Nat)(a b:Array Yf)(N:Nat)(z:B6):Prop:=z.1=none/\Mh rk a b z.2.2.2.1 z.2.1 z.2.2.1/\z.2.1+z.2.2.1<=N
def bQ(rk:Yf->Nat)(a b:Array Yf)(N:Nat)(z:B6):Prop:=(∃r,z.1=some r/\Me rk a b r)\/UR rk a b N z
def Ui(rk:Yf->Nat)(a b:Array Yf)(N:Nat):ForInStep B6->Prop
 |.done z=>bQ rk a b N z
 |.yield z=>UR rk a b N z
section
variable{a b:Array Yf}
def oe(hc:C4 prog w A s κ rk a0)(T:Fx rk a0 a b)(hk:kindOf st=κ){mg:Nat}{N:Nat}(g:Mh rk a b out na nb)(hN:na+nb<=N){Q:B5->hY->Prop}
 (h1:∀r z,Me rk a b r->Q (some r,z) st)(h2:∀out na nb ac bc,Mh rk a b out na nb->na+nb+1<=N->Q (none,na,nb,out,ac,bc) st):wpS (ax prog w) A E s (DD a b mg na nb out) Q st:=by
 unfold DD;refine Ez (I:=fun x c h0=>h0=st/\∃out na nb ac bc,c=(none,na,nb,out,ac,bc)/\Mh rk a b out na nb/\na+nb+x<=N) ?_ ?_ ⟨rfl,out,na,nb,0,0,rfl,g,hN⟩
 ·rintro x c h0 _ hx ⟨rfl,out,na,nb,ac,bc,rfl,g,h3⟩;obtain⟨gm,gp,g1,g2,g3,g4⟩:=g;have ha:na-1<a.size:=by lia
  have hb:nb-1<b.size:=by lia
  refine Ai (DQ hb (Ai (DQ ha (Ai (Nu hc hk (T.L6 _ (getD_mem hb)) (T.Lx _ (getD_mem ha)) ?_)))));have pa:=Mw ha out;have pb:=Mw hb out;rw[show na-1+1=na by lia] at pa;rw[show nb-1+1=nb by lia] at pb;by_cases hl:rk (b.getD (nb-1) dK)<rk (a.getD (na-1) dK)
  ·simp only[hl,LK,CJ];refine Ai (DQ ha ?_);obtain⟨m1,m2⟩:=QR gm gp (na-1) (by lia) g2 pa (fun i h1 h2 y hy=>by
    have e:i=na-1:=by lia
    subst e;exact BJ (Ph T.ub (by lia) hb y hy) (F4 hl));by_cases e:na-1=0
   ·rw[AG (by simpa using e)];exact Ao (h1 _ _ (QO m1 m2 e))
   ·rw[AF (by simpa using e)];have g':Mh rk a b (out.push (a.getD (na-1) dK)) (na-1) nb:=⟨m1,m2,by lia,by lia,g3,g4⟩;by_cases e2:ac+1>=mg
    ·rw[AG e2];exact Ao (h2 _ _ _ _ _ g' (by lia))
    ·rw[AF e2];exact Ao ⟨rfl,_,_,_,_,_,rfl,g',by lia⟩
  ·simp only[hl,LG,DM,Bw];refine Ai (DQ hb ?_);obtain⟨m1,m2⟩:=QN gm gp (nb-1) (by lia) g4 pb (fun i h1 h2 y hy=>by
    have e:i=nb-1:=by lia
    subst e;exact BJ (Ph T.ua (by lia) ha y hy) (Oi hl));by_cases e:nb-1=1
   ·rw[AG (by simpa using e)];exact Ao (h1 _ _ (QW m1 m2 e T.nb T.first))
   ·rw[AF (by simpa using e)];have g':Mh rk a b (out.push (b.getD (nb-1) dK)) na (nb-1):=⟨m1,m2,g1,g2,by lia,by lia⟩;by_cases e2:bc+1>=mg
    ·rw[AG e2];exact Ao (h2 _ _ _ _ _ g' (by lia))
    ·rw[AF e2];exact Ao ⟨rfl,_,_,_,_,_,rfl,g',by lia⟩
 ·rintro c h0 ⟨rfl,out,na,nb,ac,bc,rfl,g,h3⟩;refine h2 _ _ _ _ _ g ?_;have:=T.na
  lia
def ZN(T:Fx rk a0 a b){mg:Nat}{N:Nat}(g:Mh rk a b out na nb)(hN:na+nb<=N)(hle:∀y∈b.toList.take nb,rk y<=kv rk a (na-1)){Q:ForInStep B6->hY->Prop}
 (h:∀z,Ui rk a b N z->Q z st):wpS (ax prog w) A E s (Jr a b mg ac bc na nb out) Q st:=by
 obtain⟨gm,gp,g1,g2,g3,g4⟩:=g;have ha:na-1<a.size:=by lia
 have pa:=Mw ha out;rw[show na-1+1=na by lia] at pa;unfold Jr;refine Ai (DQ ha ?_);obtain⟨m1,m2⟩:=QR gm gp (na-1) (by lia) g2 pa (fun i h1 h2 y hy=>by
  have e:i=na-1:=by lia
  subst e;exact hle y hy);by_cases e:na-1=0
 ·rw[AG (by simpa using e)];exact Ao (h _ (.inl ⟨_,rfl,QO m1 m2 e⟩))
 ·rw[AF (by simpa using e)];have g':Mh rk a b (out.push (a.getD (na-1) dK)) (na-1) nb:=⟨m1,m2,by lia,by lia,g3,g4⟩;by_cases e3:(decide (ac<7)&&decide (bc<7))=true
  ·rw[AG e3];exact Ao (h _ (.inr ⟨rfl,g',by show na-1+nb<=N;lia⟩))
  ·rw[AF e3];exact Ao (h _ ⟨rfl,g',by show na-1+nb<=N;lia⟩)
def Zj(hc:C4 prog w A s κ rk a0)(T:Fx rk a0 a b)(hk:kindOf st=κ){mg:Nat}{N:Nat}(g:Mh rk a b out na nb)(hN:na+nb<=N)(hle:∀y∈a.toList.take na,rk y<=kv rk b (nb-1)){Q:ForInStep B6->hY->Prop}
 (h:∀z,Ui rk a b N z->Q z st):wpS (ax prog w) A E s (Ep a b mg ac bc na nb out) Q st:=by
 obtain⟨gm,gp,g1,g2,g3,g4⟩:=g;have ha:na-1<a.size:=by lia
 have hb:nb-1<b.size:=by lia
 have pb:=Mw hb out;rw[show nb-1+1=nb by lia] at pb;unfold Ep;refine Ai (DQ hb ?_);obtain⟨m1,m2⟩:=QN gm gp (nb-1) (by lia) g4 pb (fun i h1 h2 y hy=>by
  have e:i=nb-1:=by lia
  subst e;exact hle y hy);by_cases e:nb-1=1
 ·rw[AG (by simpa using e)];exact Ao (h _ (.inl ⟨_,rfl,QW m1 m2 e T.nb T.first⟩))
 ·rw[AF (by simpa using e)];have g':Mh rk a b (out.push (b.getD (nb-1) dK)) na (nb-1):=⟨m1,m2,g1,g2,by lia,by lia⟩;refine Ai (DQ ha (Ai (LS hc hk (T.Lx _ (getD_mem ha)) T.L6 (by lia) (by lia) (T.ub.part (by lia)) fun k k1 k2 k3=>?_)));simp only[J8] at k2 k3;dsimp only;have rest:∀y∈b.toList.take k,rk y<=kv rk a (na-1):=fun y hy=>by obtain⟨j,_,j2,rfl⟩:=IX (xs:=b) (m:=0) (n:=k) (by lia) hy;have h1:=k2 j j2;show kv rk b j<=rk (a.getD (na-1) dK);rcases h1 with z|⟨_,z⟩<;>lia
  by_cases k0:nb-1-k>0
  ·rw[AG k0];obtain⟨n1,n2⟩:=QN m1 m2 k k1 (by lia) (XI (xs:=b) k (nb-1) (out.push (b.getD (nb-1) dK))) (fun i h1 h2 y hy=>by
    have h3:=k3 i h1 h2;have h4:=Ph T.ua (i:=na-1) (by lia) ha y hy;have h5:rk (a.getD (na-1) dK)<=kv rk b i:=by rcases h3 with z|⟨_,z⟩<;>lia
    exact BJ h4 h5);by_cases e1:k=1
   ·rw[AG (by simpa using e1)];exact Ao (h _ (.inl ⟨_,rfl,QW n1 n2 e1 T.nb T.first⟩))
   ·rw[AF (by simpa using e1)];by_cases e2:k=0
    ·rw[AG (by simpa using e2)];exact Ao (h _ (.inl ⟨_,rfl,pV n1 n2 e2⟩))
    ·rw[AF (by simpa using e2)];exact ZN T ⟨n1,n2,g1,g2,by lia,by lia⟩ (by lia) rest h
  ·rw[AF k0];have h0:k=nb-1:=by lia
   subst h0;exact ZN T g' (by lia) rest h
def Zm(hc:C4 prog w A s κ rk a0)(T:Fx rk a0 a b)(hk:kindOf st=κ){mg:Nat}{N:Nat}(g:Mh rk a b out na nb)(hN:na+nb<=N){Q:ForInStep B6->hY->Prop}
 (h:∀z st',Sm st st'->Ui rk a b N z->Q z st'):wpS (ax prog w) A E s (FN a b mg ac bc na nb out) Q st:=by
 obtain⟨gm,gp,g1,g2,g3,g4⟩:=id g;have ha:na-1<a.size:=by lia
 have hb:nb-1<b.size:=by lia
 unfold FN;refine Ai (PQ fun st' sm=>Ai (DQ hb (Ai (LS hc (sm.k.trans hk) (T.L6 _ (getD_mem hb)) T.Lx (by lia) (by lia) (T.ua.part (by lia)) fun k k1 k2 k3=>?_))));simp only[J8] at k2 k3;dsimp only;have rest:∀y∈a.toList.take k,rk y<=kv rk b (nb-1):=fun y hy=>by obtain⟨j,_,j2,rfl⟩:=IX (xs:=a) (m:=0) (n:=k) (by lia) hy;have h1:=k2 j j2;show kv rk a j<=rk (b.getD (nb-1) dK);rcases h1 with z|⟨_,z⟩<;>lia
 by_cases k0:na-k>0
 ·rw[AG k0];obtain⟨n1,n2⟩:=QR gm gp k k1 g2 (XI (xs:=a) k na out) (fun i h1 h2 y hy=>by
   have h3:=k3 i h1 h2;have h4:=Ph T.ub (i:=nb-1) (by lia) hb y hy;have h5:rk (b.getD (nb-1) dK)<=kv rk a i:=by rcases h3 with z|⟨_,z⟩<;>lia
   exact BJ h4 h5);by_cases e2:k=0
  ·rw[AG (by simpa using e2)];exact Ao (h _ _ sm (.inl ⟨_,rfl,QO n1 n2 e2⟩))
  ·rw[AF (by simpa using e2)];exact Zj hc T (sm.k.trans hk) ⟨n1,n2,by lia,by lia,g3,g4⟩ (by lia) rest fun z hz=>h z _ sm hz
 ·rw[AF k0];have h0:k=na:=by lia
  subst h0;exact Zj hc T (sm.k.trans hk) g hN rest fun z hz=>h z _ sm hz
def nJ(hc:C4 prog w A s κ rk a0)(T:Fx rk a0 a b)(hk:kindOf st=κ){mg:Nat}{N:Nat}(g:Mh rk a b out na nb)(hN:na+nb<=N){Q:B6->hY->Prop}
 (h:∀z st',Sm st st'->bQ rk a b N z->Q z st'):wpS (ax prog w) A E s (K3 a b na nb out mg ac bc) Q st:=by
 unfold K3;refine Ez (I:=fun x c st'=>Sm st st'/\UR rk a b N c) ?_ ?_ ⟨Sm.Jh _,rfl,g,hN⟩
 ·rintro x c st' _ hx ⟨sm,c1,c2,c3⟩;by_cases e3:c.2.2.2.2.1>1
  ·rw[AG e3];refine Zm hc T (sm.k.trans hk) c2 c3 fun z h0 s2 hz=>?_
   cases z with
   |done z=>exact h z _ (sm.trans s2) hz
   |yield z=>exact⟨sm.trans s2,hz⟩
  ·rw[AF e3];refine Zm hc T (sm.k.trans hk) c2 c3 fun z h0 s2 hz=>?_
   cases z with
   |done z=>exact h z _ (sm.trans s2) hz
   |yield z=>exact⟨sm.trans s2,hz⟩
 ·rintro c st' ⟨sm,hz⟩;exact h c st' sm (.inr hz)
def kG(hc:C4 prog w A s κ rk a0)(T:Fx rk a0 a b)(hk:kindOf st=κ){Q:Array Yf->hY->Prop}(h:∀r st',Sm st st'->Me rk a b r->Q r st'):wpS (ax prog w) A E s (SI a b) Q st:=by
 rw[jg];unfold high;have nb:=T.nb;have na:=T.na;have ha:a.size-1<a.size:=by lia
 refine Ai (LV (Gm ⟨rfl,?_⟩));refine Ai (DQ ha ?_);have pa:=Mw ha #[];rw[show a.size-1+1=a.size by lia] at pa;have ta:a.toList.take a.size=a.toList:=Eu (by simp);have tb:b.toList.take b.size=b.toList:=Eu (by simp);obtain⟨m1,m2⟩:=QR (rk:=rk) (a:=a) (b:=b) (out:= #[]) (na:=a.size) (nb:=b.size) ⟨by rw[ta];show SL rk (a.toList++[]);rw[Cp];exact QD T.ua,by rw[tb];show SL rk (b.toList++[]);rw[Cp];exact QD T.ub⟩
  (by rw[MJ (by simp),MJ (by simp)];exact Ou _) (a.size-1) (by lia) (Ae _) pa (fun i h1 h2 y hy=>by
  have e:i=a.size-1:=by lia
  subst e;exact T.last y (FX hy));by_cases e1:a.size-1=0
 ·rw[AG (by simpa using e1)];exact Ao (h _ _ (Sm.Jh _) (QO m1 m2 e1))
 ·rw[AF (by simpa using e1)];by_cases e2:b.size=1
  ·rw[AG (by simpa using e2)];exact Ao (h _ _ (Sm.Jh _) (QW m1 m2 e2 T.nb T.first))
  ·rw[AF (by simpa using e2)];refine Ai (Hi (Ai ?_));unfold Qi;refine Ez (I:=fun x c st'=>Sm st st'/\∃out na nb mg,c=(none,na,nb,out,mg)/\Mh rk a b out na nb/\na+nb+x+1<=a.size+b.size) ?_ ?_ ⟨Sm.Jh _,_,_,_,_,rfl,⟨m1,m2,by lia,by lia,by lia,Ae _⟩,by lia⟩
   ·rintro x c st' _ hx ⟨sm,out,na,nb,mg,rfl,g,h5⟩;refine Ai (oe (N:=a.size+b.size-x-1) hc T (sm.k.trans hk) g (by lia) (fun r z hr=>Ao ?_) fun out na nb ac bc g2 e0=>?_)
    ·exact Ao (h r _ sm hr)
    ·refine Ai (LV (Gm ⟨rfl,?_⟩));refine Ai (nJ (N:=a.size+b.size-x-2) hc T (sm.k.trans hk) g2 (by lia) fun z h7 s2 hz=>?_);obtain⟨r,h0,h3,o,h8,e4,e3⟩:=z;rcases hz with⟨r',rfl,hr⟩|⟨rfl,g3,h4⟩
     ·exact Ao (Ao (h r' _ (sm.trans s2) hr))
     ·have g5:0<h0:=g3.ha;have h9:h0+h3<=a.size+b.size-x-2:=h4;exact Ai (PQ fun h6 s3=>Ao ⟨(sm.trans s2).trans s3,o,h0,h3,_,rfl,g3,by lia⟩)
   ·rintro c st' ⟨sm,out,na,nb,mg,rfl,g,h5⟩;exfalso
    lia
end
section
variable(rk:Yf->Nat)
def Yw{xs:Array Yf}{src d:Nat}(hs:src<xs.size)(hd:d<=src)(k:Nat):kv rk (bubble xs src d) k=if k=src-d then kv rk xs src else if src-d<k/\k<=src then kv rk xs (k-1) else kv rk xs k:=by
 have e:=getElem?_bubble hs d hd k;by_cases h1:k=src-d
 ·rw[AG h1] at e⊢;exact Hr rk e
 ·rw[AF h1] at e⊢;by_cases h2:src-d<k/\k<=src
  ·rw[AG h2] at e⊢;exact Hr rk e
  ·rw[AF h2] at e⊢;exact Hr rk e
end
section
variable{P:Array (Nat×Nat×Nat)}
def iR(hc:C4 prog w A s κ rk a0){ok:Nat}{Q:Bool->hY->Prop}(hn:lo+n<=a0.size)(h1:1<=ok)(hok:ok<=n)(hB:Ok κ a0 lo P st)(hs:Up rk (dA st) lo (lo+ok))
 (h:∀st',Ok κ a0 lo P st'->Up rk (dA st') lo (lo+n)->Q true st'):wpS (ax prog w) A E s (binarySort' lo n ok) Q st:=by
 rw[binarySort'_eq];refine Ai (sQ (Ez (I:=fun k c st'=>c=(none,())/\Ok κ a0 lo P st'/\Up rk (dA st') lo (lo+min k n))
  (Q:=fun c st'=>c=(none,())/\Ok κ a0 lo P st'/\Up rk (dA st') lo (lo+n)) ?_ ?_ ⟨rfl,hB,by rw[show min (max ok 1) n=ok by lia];exact hs⟩) ?_)
 ·rintro k c st' e7 e6 ⟨rfl,h4,h3⟩;rw[show min k n=k by lia] at h3;have hk:lo+k<a0.size:=by lia
  refine Ai (sQ (Ez (I:=fun x c h0=>h0=st'/\∃l r,c=(none,l,r)/\l<=r/\r<=k/\r-l<=k-x/\
   (∀i,i<l->kv rk (dA st') (lo+i)<=kv rk (dA st') (lo+k))/\(∀i,r<=i->i<k->kv rk (dA st') (lo+k)<kv rk (dA st') (lo+i)))
   (Q:=fun c h0=>h0=st'/\∃l r,c=(none,l,r)/\l<=k/\
    (∀i,i<l->kv rk (dA st') (lo+i)<=kv rk (dA st') (lo+k))/\(∀i,l<=i->i<k->kv rk (dA st') (lo+k)<kv rk (dA st') (lo+i))) ?_ ?_ ⟨rfl,0,k,rfl,by lia,by lia,by lia,fun i hi=>by lia,fun i h1 h2=>by lia⟩) ?_)
  ·rintro x c h0 _ e4 ⟨rfl,l,r,rfl,e1,h7,hm,h5,h6⟩;dsimp only;by_cases h9:l>=r
   ·rw[AG h9];have:l=r:=by lia
    subst this;exact Ao ⟨rfl,l,l,rfl,h7,h5,h6⟩
   ·rw[AF h9];refine Ai (Nf hc h4 hk (by lia) ?_);by_cases hl:kv rk (dA h0) (lo+k)<kv rk (dA h0) (lo+(l+r)/2)
    ·simp only[hl,LK,CJ];refine Ao ⟨rfl,l,(l+r)/2,rfl,by lia,by lia,by lia,h5,fun i a b=>?_⟩;exact C5 hl (h3 _ _ (by lia) (by lia) (by lia))
    ·simp only[hl,LG,DM,Bw];refine Ao ⟨rfl,(l+r)/2+1,r,rfl,by lia,by lia,by lia,fun i a=>?_,h6⟩;exact BJ (h3 (lo+i) (lo+(l+r)/2) (by lia) (by lia) (by lia)) (Oi hl)
  ·rintro c h0 ⟨rfl,l,r,rfl,e1,h7,hm,h5,h6⟩;have:l=r:=by lia
   subst this;exact⟨rfl,l,l,rfl,h7,h5,h6⟩
  ·rintro c h0 ⟨rfl,l,r,rfl,e5,h5,h6⟩;show wpS _ _ _ _ (moveDown' (lo+k) (lo+l)>>=fun _=>pure (ForInStep.yield (none,()))) _ _;rw[moveDown'_eq];have h8:lo+k<(dA h0).size:=by rw[h4.size];exact hk
   refine Ai (KA (Ao ⟨rfl,h4.set (bubble_perm _ _ _) (fun j hj=>?_),?_⟩))
   ·rw[getElem?_bubble h8 _ (by lia),AF (by lia),AF (by lia)]
   ·rw[show min (k+1) n=k+1 by lia];intro i j a b c;show kv rk (bubble (dA h0) (lo+k) (lo+k-(lo+l))) i<=kv rk (bubble (dA h0) (lo+k) (lo+k-(lo+l))) j;rw[Yw rk h8 (by lia),Yw rk h8 (by lia),show lo+k-(lo+k-(lo+l))=lo+l by lia];have e0:∀i,lo<=i->i<lo+l->kv rk (dA h0) i<=kv rk (dA h0) (lo+k):=fun i x y=>by
     have:=h5 (i-lo) (by lia)
     rwa [show lo+(i-lo)=i by lia] at this
    have e2:∀i,lo+l<=i->i<lo+k->kv rk (dA h0) (lo+k)<kv rk (dA h0) i:=fun i x y=>by
     have:=h6 (i-lo) (by lia) (by lia)
     rwa [show lo+(i-lo)=i by lia] at this
    repeat' split
    all_goals first
     |(exfalso;lia)
     |exact Ae _
     |exact e0 _ (by lia) (by lia)
     |exact F4 (e2 _ (by lia) (by lia))
     |exact h3 _ _ (by lia) (by lia) (by lia)
 ·rintro c st' ⟨e3,h4,h3⟩;refine⟨e3,h4,?_⟩
  rwa [show min (max (max ok 1) n) n=n by lia] at h3
 ·rintro c st' ⟨rfl,h4,h3⟩;exact Ao (h st' h4 h3)
end
noncomputable def wr(sa:Nat)(xs:Array Yf)(l:List (Yf×Nat)):Array Yf:=l.foldl (fun a x=>match x with|(p,j)=>a.setIfInBounds (sa+j) p) xs
def Xh:∀(l:List Yf)(n sa:Nat)(xs:Array Yf)(p m q:List Yf),xs.toList=p++m++q->p.length=sa+n->m.length=l.length->(wr sa xs (l.zipIdx n)).toList=p++l++q
 |[],n,sa,xs,p,m,q,e,hp,hm=>by have:m=[]:=OS.mp hm;subst this;exact e
 |x::l,n,sa,xs,p,m,q,e,hp,hm=>by
  match m,hm with
  |y::m,hm=>
   have h0:m.length=l.length:=by simpa using hm
   have:=Xh l (n+1) sa (xs.setIfInBounds (sa+n) x) (p++[x]) m q (by rw[Array.toList_setIfInBounds,e,<-hp];simp) (by simp;lia) h0;rw[List.zipIdx_cons];show(wr sa (xs.setIfInBounds (sa+n) x) (l.zipIdx (n+1))).toList=_;rw[this];simp
def Sl(i sa na pw sb nb:Nat)(st:hY):SM Bool:=
 set (rM st (((cm st).setIfInBounds i (sa,na+nb,pw)).eraseIdxIfInBounds (i+1)))>>=fun _=>rA (dA st) sb>>=fun y=>JN false y (dA st) sa na 0>>=fun t=>
  match t with
  |some k=>
   if(na-k==0)=true then pure true
   else rA (dA st) (sa+k+(na-k)-1)>>=fun x=>JN true x (dA st) sb nb (nb-1)>>=fun t=>
    match t with
    |some m=>
     if(m==0)=true then pure true
     else if na-k<=m then(Sa ((dA st).extract (sa+k) sb) ((dA st).extract sb (sb+m))>>=fun r=>modify (fun z=>setArr z (wr (sa+k) (dA z) r.toList.zipIdx))>>=fun _=>get>>=fun z=>pure (qp z).isNone)
      else(SI ((dA st).extract (sa+k) sb) ((dA st).extract sb (sb+m))>>=fun r=>modify (fun z=>setArr z (wr (sa+k) (dA z) r.toList.zipIdx))>>=fun _=>get>>=fun z=>pure (qp z).isNone)
    |none=>pure false
  |none=>pure false
def cy{Q:Bool->hY->Prop}{sa pw sb pb:Nat}(h1:(cm st)[i]? =some (sa,na,pw))(h2:(cm st)[i+1]? =some (sb,nb,pb))
 (h:wpS M A E s (Sl i sa na pw sb nb st) Q st):wpS M A E s (tI i) Q st:=by
 have e:tI i=(get>>=fun st:hY=>(match((cm st)[i]?,(cm st)[i+1]?) with
  |(some (sa,na,pw),some (sb,nb,_))=>Sl i sa na pw sb nb st
  |_=>liftM (rT "internal:list.sort.pending" :Sem Bool):SM Bool)):=by
  refine BG rfl fun st=>?_
  cases(cm st)[i]?with
  |none=>rfl
  |some x=>
   cases(cm st)[i+1]?with
   |none=>rfl
   |some y=>
    refine BG rfl fun _=>BG rfl fun _=>BG rfl fun t=>?_
    cases t with
    |none=>rfl
    |some k=>refine DO rfl (fun _=>rfl) fun _=>BG rfl fun _=>BG rfl fun t=>?_;cases t<;>rfl
 rw[e];refine Ai (Hi ?_);rw[h1,h2];exact h
noncomputable def seg(xs:Array Yf)(lo hi:Nat):List Yf:=(xs.toList.take hi).drop lo
def TQ{xs:Array Yf}{hi:Nat}(hh:hi<=xs.size):Up rk xs lo hi↔SL rk (seg xs lo hi):=by
 have hl:xs.toList.length=xs.size:=by simp
 have h0:∀i (h:i<(seg xs lo hi).length),rk (seg xs lo hi)[i]=kv rk xs (lo+i):=fun i h=>by have h':=h;unfold seg at h';rw[Dr,Be] at h';rw[NN (by lia)];congr 1;refine Ag ?_;rw[<-Ap,<-Ap];unfold seg;rw[Jx,RA,AG (by lia)]
 have h3:(seg xs lo hi).length=hi-lo:=by unfold seg;rw[Dr,Be];lia
 constructor
 ·intro h;refine ON.mpr fun i j h2 h1 h4=>?_;rw[h0 i h2,h0 j h1];exact h _ _ (by lia) (by lia) (by lia)
 ·intro h i j a b c;by_cases e:i=j
  ·subst e;exact Ae _
  ·have:=ON.mp h (i-lo) (j-lo) (by lia) (by lia) (by lia);rw[h0 _ (by lia),h0 _ (by lia)] at this
   rwa [show lo+(i-lo)=i by lia,show lo+(j-lo)=j by lia] at this
def Pa(xs:Array Yf){a b c:Nat}(h1:a<=b)(h2:b<=c)(h3:c<=xs.size):seg xs a c=seg xs a b++seg xs b c:=by
 have hl:xs.toList.length=xs.size:=by simp
 unfold seg;have e:xs.toList.take c=xs.toList.take b++(xs.toList.take c).drop b:=by
  have:=(D9 b (xs.toList.take c)).symm
  rwa [RY,HY h2] at this
 conv=>lhs;rw[e]
 rw[Qx (by rw[Be];lia)]
def Se(xs:Array Yf){a b:Nat}(h:b<=xs.size):(seg xs a b).length=b-a:=by
 have hl:xs.toList.length=xs.size:=by simp
 unfold seg;rw[Dr,Be]
 lia
def LW(xs:Array Yf)(a b:Nat):(xs.extract a b).toList=seg xs a b:=by rw[NC];unfold seg;rw[List.drop_take]
def ZA{xs:Array Yf}{a b:Nat}(hb:b<=xs.size)(hi:i<b-a):kv rk (xs.extract a b) i=kv rk xs (a+i):=by refine Hr rk ?_;rw[Array.getElem?_extract,AG (by lia)]
structure OJ(rk:Yf->Nat)(xs ys:Array Yf)(lo hi:Nat):Prop where
 pm:ys.Perm xs
 up:Up rk ys lo hi
 out:∀k,k<lo\/hi<=k->ys[k]? =xs[k]?
def mK{xs ys:Array Yf}{p q hi:Nat}{r:List Yf}(h1:lo<=p)(h2:p<=q)(h3:q<=hi)(h4:hi<=xs.size)(hr:r.Perm (seg xs p q))(hs:SL rk (seg xs lo p++r++seg xs q hi))(e:ys.toList=xs.toList.take p++r++xs.toList.drop q):
 OJ rk xs ys lo hi:=by
 have hl:xs.toList.length=xs.size:=by simp
 have ep:xs.toList.take p=xs.toList.take lo++seg xs lo p:=by
  have:=(D9 lo (xs.toList.take p)).symm
  rwa [RY,HY h1] at this
 have h5:xs.toList.drop q=seg xs q hi++xs.toList.drop hi:=by
  have e5:xs.toList=xs.toList.take hi++xs.toList.drop hi:=(D9 _ _).symm;have h0:q<=(xs.toList.take hi).length:=by rw[Be];lia
  conv=>lhs;rw[e5]
  rw[Qx h0];rfl
 have rl:r.length=q-p:=by rw[hr.length_eq,Se xs (by lia)]
 have pm:ys.Perm xs:=by
  refine MF.mpr ?_;rw[e];have e6:xs.toList=xs.toList.take p++seg xs p q++xs.toList.drop q:=by
   have e7:xs.toList.drop p=seg xs p q++xs.toList.drop q:=by
    have e5:xs.toList=xs.toList.take q++xs.toList.drop q:=(D9 _ _).symm;have h0:p<=(xs.toList.take q).length:=by rw[Be];lia
    conv=>lhs;rw[e5]
    rw[Qx h0];rfl
   rw[Bu,<-e7,D9]
  conv=>rhs;rw[e6]
  exact(hr.append_left _).append_right _
 have sz:ys.size=xs.size:=pm.size_eq;have el:ys.toList=xs.toList.take lo++(seg xs lo p++r++seg xs q hi)++xs.toList.drop hi:=by rw[e,ep,h5];simp only[Bu]
 have ml:(seg xs lo p++r++seg xs q hi).length=hi-lo:=by
  rw[An,An,rl,Se xs (by lia),Se xs h4]
  lia
 have tl:(xs.toList.take lo).length=lo:=by rw[Be];lia
 refine⟨pm,(TQ (by lia)).mpr ?_,fun k hk=>?_⟩
 ·have:seg ys lo hi=seg xs lo p++r++seg xs q hi:=by unfold seg;rw[el,Bu,List.take_append,Eu (by lia),List.drop_append,MJ (by lia),Oo,tl,E1,Md];rw[List.take_append,Eu (by lia),ml,E1,LA,Cp];rfl
  rw[this];exact hs
 ·rw[<-Gd,<-Gd,el];rcases hk with hk|hk
  ·rw[Bu,C2 (by lia),RA,AG hk]
  ·rw[Cj (by rw[An];lia),An,tl,ml,Jx];congr 1
   lia
def fJ(hc:C4 prog w A s κ rk a0){sa pw pb:Nat}{Q:Bool->hY->Prop}(hk:kindOf st=κ)(hf:qp st=none)(hp:(dA st).Perm a0)
 (h1:(cm st)[i]? =some (sa,na,pw))(h2:(cm st)[i+1]? =some (sa+na,nb,pb))(na0:0<na)(nb0:0<nb)(hz:sa+na+nb<=(dA st).size)(ua:Up rk (dA st) sa (sa+na))(ub:Up rk (dA st) (sa+na) (sa+na+nb))
 (h:∀st':hY,kindOf st'=κ->qp st'=none->cm st'=((cm st).setIfInBounds i (sa,na+nb,pw)).eraseIdxIfInBounds (i+1)->OJ rk (dA st) (dA st') sa (sa+na+nb)->Q true st'):
 wpS (ax prog w) A E s (tI i) Q st:=by
 refine cy h1 h2 ?_;unfold Sl;generalize eP:((cm st).setIfInBounds i (sa,na+nb,pw)).eraseIdxIfInBounds (i+1)=P';rw[eP] at h;have h4:∀x∈(dA st).toList,x∈a0.toList:=fun x hx=>(MF.mp hp).mem_iff.mp hx;generalize eX:dA st=xs at*;have hb:sa+na<xs.size:=by lia
 refine Ai (show wpS _ _ _ _ (set (rM st P'):SM PUnit) _ _ from ?_);unfold wpS;rw[StateT.run_set];refine Ac ⟨rfl,?_⟩;show wpS _ _ _ _ _ _ (rM st P');have k1:kindOf (rM st P')=κ:=hk;refine Ai (DQ hb (Ai (LS hc k1 (h4 _ (getD_mem hb)) h4 (by lia) na0 ua fun k a1 a2 a3=>?_)));dsimp only;have ES:OJ rk xs xs sa (sa+na+nb)->Q true (rM st P'):=fun g=>h _ k1 hf rfl (by rw[show dA (rM st P')=xs from eX];exact g);have e4:(kv rk xs (sa+na-1)<=kv rk xs (sa+na))->OJ rk xs xs sa (sa+na+nb):=fun e5=>⟨Array.Perm.refl _,fun x y b1 b2 b3=>by
  by_cases c1:y<sa+na
  ·exact ua x y b1 b2 c1
  ·by_cases c2:sa+na<=x
   ·exact ub x y c2 b2 b3
   ·exact BJ (ua x (sa+na-1) b1 (by lia) (by lia)) (BJ e5 (ub (sa+na) y (Ae _) (by lia) b3)),fun _ _=>rfl⟩;by_cases e1:na-k=0
 ·rw[AG (by simpa using e1)];refine Ao (ES (e4 ?_));have:=a2 (na-1) (by lia);rw[show sa+(na-1)=sa+na-1 by lia] at this;show kv rk xs (sa+na-1)<=rk (xs.getD (sa+na) dK);rcases this with z|⟨_,z⟩<;>lia
 ·rw[AF (by simpa using e1)];rw[show sa+k+(na-k)-1=sa+na-1 by lia];have hl:sa+na-1<xs.size:=by lia
  refine Ai (DQ hl (Ai (LS hc k1 (h4 _ (getD_mem hl)) h4 hz (by lia) ub fun m b1 b2 b3=>?_)));dsimp only;by_cases e2:m=0
  ·rw[AG (by simpa using e2)];refine Ao (ES (e4 ?_));have:=b3 0 (by lia) nb0;rw[Nat.add_zero] at this;show rk (xs.getD (sa+na-1) dK)<=_;rcases this with z|⟨_,z⟩<;>lia
  ·rw[AF (by simpa using e2)];have sx:(xs.extract (sa+k) (sa+na)).size=na-k:=by rw[Array.size_extract];lia
   have sy:(xs.extract (sa+na) (sa+na+m)).size=m:=by rw[Array.size_extract];lia
   have kx:∀j,j<na-k->kv rk (xs.extract (sa+k) (sa+na)) j=kv rk xs (sa+k+j):=fun j hj=>ZA (by lia) (by lia);have ky:∀j,j<m->kv rk (xs.extract (sa+na) (sa+na+m)) j=kv rk xs (sa+na+j):=fun j hj=>ZA (by lia) (by lia);have T:Fx rk a0 (xs.extract (sa+k) (sa+na)) (xs.extract (sa+na) (sa+na+m)):=by
    refine⟨fun x hx=>h4 x ?_,fun x hx=>h4 x ?_,fun x y _ c2 c3=>?_,fun x y _ c2 c3=>?_,by lia,by lia,fun y hy=>?_,fun y hy=>?_⟩
    ·rw[LW] at hx;exact FX (Jv hx)
    ·rw[LW] at hx;exact FX (Jv hx)
    ·rw[kx x (by lia),kx y (by lia)];exact ua _ _ (by lia) (by lia) (by lia)
    ·rw[ky x (by lia),ky y (by lia)];exact ub _ _ (by lia) (by lia) (by lia)
    ·rw[LW] at hy;obtain⟨j,j1,j2,rfl⟩:=IX (by lia) hy;rw[ky 0 (by lia),Nat.add_zero];have:=a3 (j-sa) (by lia) (by lia);rw[show sa+(j-sa)=j by lia] at this;show rk (xs.getD (sa+na) dK)<=kv rk xs j;rcases this with z|⟨_,z⟩<;>lia
    ·rw[LW] at hy;obtain⟨j,j1,j2,rfl⟩:=IX (by lia) hy;rw[sx,kx (na-k-1) (by lia),show sa+k+(na-k-1)=sa+na-1 by lia];have:=b2 (j-(sa+na)) (by lia);rw[show sa+na+(j-(sa+na))=j by lia] at this;show kv rk xs j<=rk (xs.getD (sa+na-1) dK);rcases this with z|⟨_,z⟩<;>lia
   have e0:∀r st',Sm (rM st P') st'->Me rk (xs.extract (sa+k) (sa+na)) (xs.extract (sa+na) (sa+na+m)) r->OJ rk xs (wr (sa+k) (dA st') r.toList.zipIdx) sa (sa+na+nb):=fun r st' sm me=>by
    have ea:dA st'=xs:=sm.a.trans eX;have pr:=me.pm;rw[LW,LW,<-Pa xs (by lia) (by lia) (by lia)] at pr;have hL:xs.toList.length=xs.size:=by simp
    refine mK (r:=r.toList) (p:=sa+k) (q:=sa+na+m) (by lia) (by lia) (by lia) hz pr ?_ ?_
    ·have h0:∀x∈seg xs sa (sa+k),∀y∈seg xs (sa+na) (sa+na+nb),rk x<=rk y:=fun x hx y hy=>by
      obtain⟨i1,c1,c2,rfl⟩:=IX (by lia) hx;obtain⟨j1,d1,d2,rfl⟩:=IX hz hy;have f1:=a2 (i1-sa) (by lia);rw[show sa+(i1-sa)=i1 by lia] at f1;have f2:=ub (sa+na) j1 (Ae _) d1 d2;have f3:kv rk xs i1<=kv rk xs (sa+na):=by show kv rk xs i1<=rk (xs.getD (sa+na) dK);rcases f1 with z|⟨_,z⟩<;>lia
      exact BJ f3 f2
     have h3:∀x∈seg xs sa (sa+na),∀y∈seg xs (sa+na+m) (sa+na+nb),rk x<=rk y:=fun x hx y hy=>by
      obtain⟨i1,c1,c2,rfl⟩:=IX (by lia) hx;obtain⟨j1,d1,d2,rfl⟩:=IX hz hy;have f1:=b3 (j1-(sa+na)) (by lia) (by lia);rw[show sa+na+(j1-(sa+na))=j1 by lia] at f1;have f2:=ua i1 (sa+na-1) c1 (by lia) (by lia);have f3:kv rk xs (sa+na-1)<=kv rk xs j1:=by show rk (xs.getD (sa+na-1) dK)<=kv rk xs j1;rcases f1 with z|⟨_,z⟩<;>lia
      exact BJ f2 f3
     have sA:=(TQ (rk:=rk) (lo:=sa) (hi:=sa+na) (by lia)).mp ua;have sB:=(TQ (rk:=rk) (lo:=sa+na) (hi:=sa+na+nb) hz).mp ub;have h7:seg xs sa (sa+na)=seg xs sa (sa+k)++seg xs (sa+k) (sa+na):=Pa xs (by lia) (by lia) (by lia);have h5:seg xs (sa+na) (sa+na+nb)=seg xs (sa+na) (sa+na+m)++seg xs (sa+na+m) (sa+na+nb):=Pa xs (by lia) (by lia) hz;have h6:seg xs (sa+k) (sa+na+m)=seg xs (sa+k) (sa+na)++seg xs (sa+na) (sa+na+m):=Pa xs (by lia) (by lia) (by lia);rw[h7] at sA;rw[h5] at sB;obtain⟨u1,u2,u3⟩:=SL.app.mp sA;obtain⟨v1,v2,v3⟩:=SL.app.mp sB;refine SL.app.mpr ⟨SL.app.mpr ⟨u1,me.sl,fun x hx y hy=>?_⟩,v2,fun x hx y hy=>?_⟩
     ·have h8:=pr.mem_iff.mp hy;rw[h6] at h8;rcases BS.mp h8 with z|z
      ·exact u3 x hx y z
      ·exact h0 x hx y (by rw[h5];exact IM _ z)
     ·rcases BS.mp hx with z|z
      ·exact h0 x z y (by rw[h5];exact EA _ hy)
      ·have h9:=pr.mem_iff.mp z;rw[h6] at h9;rcases BS.mp h9 with z|z
       ·exact h3 x (by rw[h7];exact EA _ z) y hy
       ·exact v3 x z y hy
    ·rw[ea];refine Xh r.toList 0 (sa+k) xs (xs.toList.take (sa+k)) (seg xs (sa+k) (sa+na+m)) (xs.toList.drop (sa+na+m)) ?_ ?_ pr.length_eq.symm
     ·have e7:xs.toList.take (sa+na+m)=xs.toList.take (sa+k)++seg xs (sa+k) (sa+na+m):=by
       have:=(D9 (sa+k) (xs.toList.take (sa+na+m))).symm
       rwa [RY,HY (by lia)] at this
      rw[<-e7,D9]
     ·rw[Be];lia
   by_cases e3:na-k<=m
   ·rw[AG e3];refine Ai (mZ hc T k1 fun r st' sm me=>Ai (KA (Ai (Hi (Ao ?_)))));have ff:qp st'=none:=sm.f.trans hf;show Q (qp st').isNone _;rw[ff];exact h _ (sm.k.trans k1) ff sm.p (e0 r st' sm me)
   ·rw[AF e3];refine Ai (kG hc T k1 fun r st' sm me=>Ai (KA (Ai (Hi (Ao ?_)))));have ff:qp st'=none:=sm.f.trans hf;show Q (qp st').isNone _;rw[ff];exact h _ (sm.k.trans k1) ff sm.p (e0 r st' sm me)
section
variable(rk:Yf->Nat)
def Chain(xs:Array Yf):Nat->List (Nat×Nat×Nat)->Nat->Prop
 |b,[],e=>b=e
 |b,(s,n,_)::r,e=>s=b/\0<n/\Up rk xs s (s+n)/\Chain xs (s+n) r e
end
def Chain.le{xs:Array Yf}:∀{b e:Nat}{p:List (Nat×Nat×Nat)},Chain rk xs b p e->b+p.length<=e
 |b,e,[],h=>by have h':b=e:=h;simp;lia
 |b,e,(s,n,_)::r,⟨h1,h2,_,h3⟩=>by
  have:=Chain.le h3;simp only[CG]
  lia
def Chain.app{xs:Array Yf}{e:Nat}{q:List (Nat×Nat×Nat)}:∀{b:Nat}{p:List (Nat×Nat×Nat)},Chain rk xs b (p++q) e↔∃m,Chain rk xs b p m/\Chain rk xs m q e
 |b,[]=>⟨fun h=>⟨b,rfl,h⟩,fun⟨m,h1,h2⟩=>by have h0:b=m:=h1;subst h0;exact h2⟩
 |b,(s,n,_)::r=>⟨fun⟨h1,h2,h3,h4⟩=>by obtain⟨m,a,c⟩:=Chain.app.mp h4;exact⟨m,⟨h1,h2,h3,a⟩,c⟩,fun⟨m,⟨h1,h2,h3,a⟩,c⟩=>⟨h1,h2,h3,Chain.app.mpr ⟨m,a,c⟩⟩⟩
def Chain.same{xs ys:Array Yf}:∀{b e:Nat}{p:List (Nat×Nat×Nat)},(∀k,b<=k->k<e->ys[k]? =xs[k]?)->Chain rk xs b p e->Chain rk ys b p e
 |b,e,[],_,h=>h
 |b,e,(s,n,_)::r,hk,⟨h1,h2,h3,h4⟩=>by have hl:=Chain.le h4;refine⟨h1,h2,fun i j a c d=>?_,Chain.same (fun k a c=>hk k (by lia) c) h4⟩;rw[Hr rk (hk i (by lia) (by lia)),Hr rk (hk j (by lia) (by lia))];exact h3 i j a c d
def Chain.pw{xs:Array Yf}{f:Nat×Nat×Nat->Nat×Nat×Nat}(hf:∀x,(f x).1=x.1/\(f x).2.1=x.2.1):∀{b e:Nat}{p:List (Nat×Nat×Nat)}{i:Nat},Chain rk xs b p e->Chain rk xs b (p.modify i f) e
 |b,e,[],i,h=>by cases i<;>exact h
 |b,e,x::r,0,h=>by obtain⟨s,n,q⟩:=x;obtain⟨e1,e2⟩:=hf (s,n,q);show Chain rk xs b (f (s,n,q)::r) e;generalize f (s,n,q)=y at e1 e2;obtain⟨s',n',q'⟩:=y;dsimp only at e1 e2;subst e1;subst e2;exact h
 |b,e,(s,n,q)::r,i+1,⟨h1,h2,h3,h4⟩=>⟨h1,h2,h3,Chain.pw hf h4⟩
structure RS(κ:SortKind)(rk:Yf->Nat)(a0:Array Yf)(lo:Nat)(st:hY):Prop where
 kind:kindOf st=κ
 failed:qp st=none
 perm:(dA st).Perm a0
 chain:Chain rk (dA st) 0 (cm st).toList lo
def Zp(hc:C4 prog w A s κ rk a0){Q:Bool->hY->Prop}(R:RS κ rk a0 lo st)(hlo:lo<=a0.size)(hi:i+1<(cm st).size)
 (h:∀st',RS κ rk a0 lo st'->(cm st').size+1=(cm st).size->(∀k,lo<=k->(dA st')[k]? =(dA st)[k]?)->Q true st'):wpS (ax prog w) A E s (tI i) Q st:=by
 have hL:(cm st).toList.length=(cm st).size:=by simp
 have h0:(dA st).size=a0.size:=R.perm.size_eq;have e1:(cm st).toList=(cm st).toList.take i++((cm st).toList[i]'(by lia)::(cm st).toList[i+1]'(by lia)::(cm st).toList.drop (i+2)):=by rw[<-OQ,<-OQ,D9]
 generalize ex:(cm st).toList[i]'(by lia)=x at e1;generalize ey:(cm st).toList[i+1]'(by lia)=y at e1;generalize ep:(cm st).toList.take i=p at e1;generalize h3:(cm st).toList.drop (i+2)=q at e1;obtain⟨sa,na,pw⟩:=x;obtain⟨sb,nb,pb⟩:=y;have ch:=R.chain;rw[e1] at ch;obtain⟨m,c1,c2,c3,c4,c5,c6,c7,c8⟩:=Chain.app.mp ch;subst c2;subst c5;have l1:=c1.le;have l2:=c8.le;have g1:(cm st)[i]? =some (sa,na,pw):=by rw[<-Gd,Ap (by lia),ex]
 have g2:(cm st)[i+1]? =some (sa+na,nb,pb):=by rw[<-Gd,Ap (by lia),ey]
 refine fJ hc R.kind R.failed R.perm g1 g2 c3 c6 (by lia) c4 c7 fun st' k1 k2 k3 k4=>?_;have pl:p.length=i:=by rw[<-ep,Be];lia
 have e2:(cm st').toList=p++((sa,na+nb,pw)::q):=by
  rw[k3,Array.toList_eraseIdxIfInBounds,Array.toList_setIfInBounds,e1,<-pl];simp[List.eraseIdx_append];intro z
  lia
 refine h st' ⟨k1,k2,k4.pm.trans R.perm,?_⟩ ?_ fun k hk=>k4.out k (.inr (by lia))
 ·rw[e2];refine Chain.app.mpr ⟨sa,c1.same fun k _ b=>k4.out k (.inl b),rfl,by lia,?_,?_⟩
  ·rw[show sa+(na+nb)=sa+na+nb by lia];exact k4.up
  ·rw[show sa+(na+nb)=sa+na+nb by lia];exact c8.same fun k a _=>k4.out k (.inr a)
 ·have h1:=BD List.length e1;have h2:=BD List.length e2;simp only[An,CG,Ey] at h1 h2
  lia
def lD(hc:C4 prog w A s κ rk a0){Q:Unit->hY->Prop}(hk:kindOf st=κ)(hf:qp st=none)(ha:dA st=a0)(hp:cm st= #[])(h2:2<=a0.size)
 (h:∀st':hY,(dA st').Perm a0->qp st'=none->Up rk (dA st') 0 a0.size->Q () st'):wpS (ax prog w) A E s sortRuns' Q st:=by
 rw[sortRuns'_eq];refine Ai (Hi ?_);dsimp only;rw[ha];generalize minRun' a0.size a0.size 0=mr;refine Ai (sQ (Ez
  (I:=fun x c st'=>∃lo,c=(none,lo)/\x<=lo/\lo<=a0.size/\RS κ rk a0 lo st')
  (Q:=fun c st'=>c=(none,a0.size)/\RS κ rk a0 a0.size st') ?step ?fin ⟨0,rfl,Ae _,CC _,hk,hf,by rw[ha],by rw[hp];rfl⟩) ?post);case fin=>
  rintro c st' ⟨lo,rfl,x1,x2,R⟩;have:lo=a0.size:=by lia
  subst this;exact⟨rfl,R⟩
 case step=>
  rintro x c st' _ hx ⟨lo,rfl,x1,x2,R⟩;dsimp only;by_cases hl:lo>=a0.size
  ·rw[AG hl];have:lo=a0.size:=by lia
   subst this;exact Ao ⟨rfl,R⟩
  ·rw[AF hl];have hsz:(dA st').size=a0.size:=R.perm.size_eq;have hc':C4 prog w A s κ rk (dA st'):=fun x y hx hy C hC=>hc x y ((MF.mp R.perm).mem_iff.mp hx) ((MF.mp R.perm).mem_iff.mp hy) C hC;have B0:Ok κ (dA st') lo (cm st') st':=⟨Array.Perm.refl _,fun _ _=>rfl,R.kind,R.failed,rfl⟩;have rest:∀n st2,Ok κ (dA st') lo (cm st') st2->1<=n->lo+n<=a0.size->Up rk (dA st2) lo (lo+n)->RS κ rk a0 lo st2:=fun n st2 B n1 n2 u=>
    ⟨B.kind,B.failed,B.perm.trans R.perm,by rw[B.pend];exact R.chain.same fun k _ b=>B.fix k b⟩;have tail:∀n (st2:hY),RS κ rk a0 lo st2->1<=n->lo+n<=a0.size->Up rk (dA st2) lo (lo+n)->RS κ rk a0 (lo+n) (rM st2 ((cm st2).push (lo,n,0))):=fun n st2 R2 n1 n2 u=>
    ⟨R2.kind,R2.failed,R2.perm,by show Chain rk (dA st2) 0 ((cm st2).push (lo,n,0)).toList (lo+n);rw[MW];exact Chain.app.mpr ⟨lo,R2.chain,rfl,by lia,u,rfl⟩⟩;refine Ai (jF (P:=cm st') hc' (by lia) (by lia) B0 fun m st2 B2 m1 m2 u2=>?_);dsimp only;rcases Decidable.em (m<mr) with hm|hm;rw[AG hm];refine Ai (LV (Gm ⟨rfl,?_⟩));refine Ai (iR (P:=cm st') hc' (by lia) m1 (by lia) B2 u2 fun st3 B3 u3=>?_);simp only[Rf,DM,Bw];have n2:lo+min (a0.size-lo) mr<=a0.size:=by lia
   have n1:1<=min (a0.size-lo) mr:=by lia
   generalize min (a0.size-lo) mr=n at n1 n2 u3⊢
   rotate_left
   rw[AF hm];have n2:lo+m<=a0.size:=by lia
   have n1:=m1;have B3:=B2;have u3:=u2;generalize st2=st3 at B3 u3⊢;generalize m=n at n1 n2 u3⊢;all_goals
    refine Ai (Hi ?_);have R3:=rest n st3 B3 n1 n2 u3
    cases eb:(cm st3).back? with
    |none=>exact Ai (KA (Ao ⟨_,rfl,by lia,n2,tail n st3 R3 n1 n2 u3⟩))
    |some t=>
     obtain⟨s1,m1',pw1⟩:=t;dsimp only;generalize power' _ _ _ _=pw;refine Ai (sQ (Ez (I:=fun _ c st4=>c=(none,())/\RS κ rk a0 lo st4/\Up rk (dA st4) lo (lo+n)) (Q:=fun c st4=>c=(none,())/\RS κ rk a0 lo st4/\Up rk (dA st4) lo (lo+n)) ?_ (fun _ _ hh=>hh) ⟨rfl,R3,u3⟩) ?_)
     ·rintro y c st4 _ _ ⟨rfl,R4,u4⟩;refine Ai (Hi ?_);by_cases e:(cm st4).size>1
      ·rw[AG e];have hidx:(cm st4)[(cm st4).size-2]? =some ((cm st4)[(cm st4).size-2]'(by lia)):=F3 ..;rw[hidx];generalize(cm st4)[(cm st4).size-2]'(by lia)=o;obtain⟨o1,o2,o3⟩:=o;dsimp only;by_cases eo:o3<=pw
       ·rw[AG eo];exact Ao ⟨rfl,R4,u4⟩
       ·rw[AF eo];refine Ai (Zp hc R4 x2 (by lia) fun st5 R5 s5 k5=>?_);exact Ao ⟨rfl,R5,fun i j a b c=>by rw[Hr rk (k5 i a),Hr rk (k5 j (by lia))];exact u4 i j a b c⟩
      ·rw[AF e];exact Ao ⟨rfl,R4,u4⟩
     ·rintro c st4 ⟨rfl,R4,u4⟩;refine Ai (KA (Ai (KA (Ao ⟨_,rfl,by lia,n2,tail n _ ⟨R4.kind,R4.failed,R4.perm,?_⟩ n1 n2 u4⟩))));show Chain rk (dA st4) 0 ((cm st4).modify _ _).toList lo;rw[Array.toList_modify];exact Chain.pw (f:=fun x=>(x.1,x.2.1,pw)) (fun _=>⟨rfl,rfl⟩) R4.chain
 case post=>
  rintro c st' ⟨rfl,R⟩;dsimp only;have fin:∀st2:hY,RS κ rk a0 a0.size st2->(cm st2).size<=1->Q () st2:=fun st2 R2 hs=>by
   refine h st2 R2.perm R2.failed ?_;have ch:=R2.chain;have hL:(cm st2).toList.length=(cm st2).size:=by simp
   generalize(cm st2).toList=p at ch hL
   match p,ch with
   |[],ch=>have z:0=a0.size:=ch;lia
   |[(a,n,_)],ch=>obtain⟨z1,z2,z3,z4⟩:=ch;have z5:a+n=a0.size:=z4;subst z1;rw[<-z5];exact z3
   |_::_::_,ch=>simp at hL;lia
  refine Ai (sQ (Ez (I:=fun x c st2=>c=(none,())/\RS κ rk a0 a0.size st2/\(cm st2).size<=max 1 (a0.size-x)) (Q:=fun c st2=>c=(none,())/\RS κ rk a0 a0.size st2/\(cm st2).size<=1) ?_ ?_ ⟨rfl,R,?_⟩) ?_)
  ·rintro x c st2 _ hx ⟨rfl,R2,hs⟩;refine Ai (Hi ?_);by_cases e:(cm st2).size<=1
   ·rw[AG e];exact Ao ⟨rfl,R2,e⟩
   ·rw[AF e];have go:∀i,i+1<(cm st2).size->wpS (ax prog w) A E s (tI i) (fun b st3=>b=true/\RS κ rk a0 a0.size st3/\(cm st3).size<=max 1 (a0.size-(x+1))) st2:=fun i hi=>Zp hc R2 (Ae _) hi fun st3 R3 s3 _=>⟨rfl,R3,by lia⟩;refine Ai (sQ (go _ ?_) fun b st3 hb=>?_)
    ·repeat' split
     all_goals lia
    ·obtain⟨rfl,R3,s3⟩:=hb;exact Ao ⟨rfl,R3,s3⟩
  ·rintro c st2 ⟨rfl,R2,hs⟩;exact⟨rfl,R2,by lia⟩
  ·have:=R.chain.le;simp only[Ey] at this
   lia
  ·rintro c st2 ⟨rfl,R2,hs⟩;exact Ao (fin st2 R2 hs)
end
section
open PySem.Calls PySem.W
noncomputable def DV(w:qj):Bool:=w.params.followText "set-order"
noncomputable def tx:AD->Str
 |.str z _=>z
 |_=>""
def ET(prog:qf)(w:qj)(h:qi)(a:OK)(zs:List Str):Prop:=
 ∃o es ep t,h.get? a=some o/\o.ExactSet/\o.data=.set es ep t/\ElemsOf (strKind prog w) es.toList/\(es.toList.map fun e=>tx e.2).Perm zs/\zs.Nodup/\zs.length<rF/\t.fits es.size=true/\t.led= !DV w/\(es.size=0\/t.plain=false)
def Ts{v:AD}(h:(strKind prog w).is z v=true):∃t,v=.str z t:=Value.isStrOf_shape h
def Ss(prog:qf)(w:qj)(z:Str)(t:Tok):(strKind prog w).is z (.str z t)=true:=strKind_is _ _ _ _
def cX(t:SetTable)(es:Array (Int×AD))(h:Int)(x:AD):(layNew t es h x).2.1.led=t.led:=by
 unfold layNew;split
 ·dsimp only;unfold SetTable.orStandIn;split<;>rfl
 ·rfl
end
variable{t:SetTable}
section
open PySem.Calls PySem.W
def iH{m f v:Nat}{l p:Bool}{hs:Array Int}{o:Array Nat}(h:SetTable.laid m f v l p hs=some (t,o)):t.led=l/\t.plain=p:=by
 unfold SetTable.laid at h
 cases e:SetTable.layClean m hs with
 |none=>rw[e] at h;cases h
 |some ow=>rw[e] at h;cases Ag h;exact⟨rfl,rfl⟩
def fZ(t:SetTable)(es:Array (Int×AD))(n:Nat):(relayAll t es n).2.1.led=t.led/\(t.plain=false->(relayAll t es n).2.1.plain=false):=by
 unfold relayAll;split
 ·rename_i t' order e;have:=iH e;dsimp only;split
  ·exact⟨this.1,fun hp=>by rw[this.2,hp]⟩
  ·exact⟨rfl,fun _=>rfl⟩
 ·exact⟨rfl,fun _=>rfl⟩
def Yy{es:List (Int×AD)}(hel:ElemsOf (strKind prog w) es)(z:Str):(∃e∈es,(strKind prog w).is z e.2=true)↔z∈es.map fun e=>tx e.2:=by
 constructor
 ·rintro⟨e,he,h⟩;obtain⟨t,ht⟩:=Ts h;exact BA.mpr ⟨e,he,by rw[ht];rfl⟩
 ·intro h;obtain⟨e,he,rfl⟩:=BA.mp h;obtain⟨⟨k,hk,_⟩,_⟩:=hel e he;obtain⟨t,ht⟩:=Ts hk;refine⟨e,he,?_⟩;rw[ht];exact Ss prog w k t
end
variable{es:Array (Int×AD)}
section
open PySem.Calls PySem.W
def Vv(ho:h.get? a=some o)(hd:o.data=.set es ep t)(es':Array (Int×AD))(t':SetTable):
 (h.update a (Obj.putSet es' t')).get? a=some {o with data:=.set es' (ep+1) t'}:=by
 have:=I9 (Obj.putSet es' t') ho (by rw[putSet_of es' t' hd];rfl);rw[putSet_of es' t' hd] at this;exact this
def Wh{g:Bool->Sem Unit}(hg:∀(b:Bool)(s₁:Ya)(Q':Unit->Ya->Prop),Q' () s₁->bt (ax prog w) A (g b) Q' E s₁)
 (ho:s.heap.get? a=some o)(hex:o.ExactSet)(hd:o.data=.set es ep t)
 {es1:Array (Int×AD)}{t2:SetTable}(hel:ElemsOf (strKind prog w) es1.toList)(hm:(es1.toList.map fun e=>tx e.2).Perm zs)(hnd:zs.Nodup)(hb:zs.length<rF)(hf:t2.fits es1.size=true)(hl:t2.led= !DV w)(hp:t2.plain=false){dm:Bool}{R:Option Bool->Ya->Prop}
 (h:∀h',Heap.SameBut a s.heap h'->ET prog w h' a zs->R (some true) {s with heap:=h'}):
 bt (ax prog w) A (do
  storeSet a es1 t2
  if(!dm&&t2.tooFull)=true then do
     g (relayAll t2 es1 (SetTable.grown es1.size)).2.2
     storeSet a (relayAll t2 es1 (SetTable.grown es1.size)).1 (relayAll t2 es1 (SetTable.grown es1.size)).2.1
     pure (some true)
   else pure (some true)) R E s:=by
 have h5:es1.size=zs.length:=by rw[<-hm.length_eq,AJ,Ey]
 refine AK (wpAny_storeSet_of ho hd ?_ (fits_of_scanBound (by lia)));have h1:=Vv ho hd es1 t2;have h0:=VF s.heap a (Obj.putSet es1 t2);split
 ·have rp:=relayAll_perm t2 es1 (SetTable.grown es1.size);have rf:=relayAll_fits t2 es1 (SetTable.grown es1.size);have rl:=fZ t2 es1 (SetTable.grown es1.size);generalize relayAll t2 es1 (SetTable.grown es1.size)=Rl at rp rf rl⊢;obtain⟨h2,t3,gv⟩:=Rl;dsimp only at rp rf rl⊢;have h4:h2.size=es1.size:=by rw[<-Ey,rp.length_eq,Ey]
  refine AK (hg _ _ _ (AK (wpAny_storeSet_of h1 rfl ?_ (fits_of_scanBound (by lia)))));have h3:=Vv h1 rfl h2 t3;refine Ac (h _ (h0.trans (VF _ a _)) ⟨_,h2,_,t3,h3,hex,rfl,hel.perm rp,(rp.map _).trans hm,hnd,hb,rf,rl.1.trans hl,.inr (rl.2 hp)⟩)
 ·exact Ac (h _ h0 ⟨_,es1,_,t2,h1,hex,rfl,hel,hm,hnd,hb,hf,hl,.inr hp⟩)
noncomputable def Dw(zs:List Str)(z:Str):List Str:=if z∈zs then zs else zs++[z]
def oj{tk:Tok}{Q:Bool->Ya->Prop}(hS:ET prog w s.heap a zs)(hroom:zs.length+1<rF)
 (h:∀b h',Heap.SameBut a s.heap h'->ET prog w h' a (Dw zs z)->Q b {s with heap:=h'}):bt (ax prog w) A (setAddHashed a (.str z tk) ((strKind prog w).hash z)) Q E s:=by
 obtain⟨o,es,ep,t,ho,h5,hd,h0,hm,h7,hb,hf,hl,hp⟩:=hS;have e4:es.size=zs.length:=by rw[<-hm.length_eq,AJ,Ey]
 have h2:=Ss prog w z tk;unfold setAddHashed setAddHashedIn;refine Fb (AK (MT ho hd hf ?_));dsimp only;rw[byScan_of (knd:=strKind prog w) rfl (by lia) h0];simp only[↓reduceIte];unfold setAddByScan;refine AK (AK (Gm (AK (wpAny_setScan_of h2 ho hd hf h0 ?_))))
 cases hr:List.findIdx? (fun e=>(strKind prog w).is z e.2) es.toList with
 |some j=>
  dsimp only;obtain⟨hj,e1,_⟩:=List.findIdx?_eq_some_iff_getElem.mp hr;have hz:z∈zs:=hm.mem_iff.mp ((Yy h0 z).mp ⟨_,EZ hj,e1⟩);have e:s={s with heap:=s.heap}:=by cases s;rfl
  refine Ac (Ac ?_);rw[e];refine h _ s.heap (Heap.SameBut.refl a s.heap) ?_;unfold Dw;rw[AG hz];exact⟨o,es,ep,t,ho,h5,hd,h0,hm,h7,hb,hf,hl,hp⟩
 |none=>
  dsimp only;have hz:z∉zs:=fun hz=>by obtain⟨e,he,e2⟩:=(Yy h0 z).mpr (hm.mem_iff.mpr hz);have:=List.findIdx?_eq_none_iff.mp hr e he;rw[e2] at this;cases this
  have e3:∀(b:Bool){s₁:Ya}{Q':Unit->Ya->Prop},Q' () s₁->bt (ax prog w) A (match b with|true=>rule "set.scan.the-table-gave-way" |false=>pure ()) Q' E s₁:=
   fun b s₁ Q' hq=>by cases b<;>first|exact Ac hq|exact Gm hq
  have lp:=layNew_perm t es ((strKind prog w).hash z) (.str z tk);have lf:=layNew_fits t es ((strKind prog w).hash z) (.str z tk);have ll:=cX t es ((strKind prog w).hash z) (.str z tk);generalize layNew t es ((strKind prog w).hash z) (.str z tk)=L at lp lf ll⊢;obtain⟨e0,t1,dm,gv⟩:=L;dsimp only at lp lf ll⊢;rw[MW] at lp;have h3:ElemsOf (strKind prog w) e0.toList:=(h0.push h2 rfl).perm lp;have h8:(e0.toList.map fun e=>tx e.2).Perm (Dw zs z):=by unfold Dw;rw[AF hz];refine(lp.map _).trans ?_;rw[BF];exact hm.append_right _
  have h1:(Dw zs z).Nodup:=by unfold Dw;rw[AF hz];refine Oh.mpr ⟨h7,by simp,fun x hx y hy=>?_⟩;rw[BR] at hy;intro e;rw[<-hy,<-e] at hz;exact hz hx
  have h9:(Dw zs z).length<rF:=by unfold Dw;rw[AF hz,An];exact hroom
  refine AK (e3 _ ?_);split
  ·refine AK ?_;rw[hashByValue_scannable 8 rfl];refine Ac ?_;refine Wh (zs:=Dw zs z) ?_ ho h5 hd h3 h8 h1 h9 (SetTable.fits_plain_off lf) (ll.trans hl) rfl ?_
   ·intro b s₁ Q' hq;cases b<;>first|exact Ac hq|exact Gm hq
   ·intro h' h4 h6;dsimp only;exact Ac (h _ h' h4 h6)
  ·rename_i np;refine AK (Ac ?_);simp only[↓reduceIte];refine Wh (zs:=Dw zs z) ?_ ho h5 hd h3 h8 h1 h9 lf (ll.trans hl) (by simpa using np) ?_
   ·intro b s₁ Q' hq;cases b<;>first|exact Ac hq|exact Gm hq
   ·intro h' h4 h6;dsimp only;exact Ac (h _ h' h4 h6)
def Dv:List Str->List Str->List Str
 |σ,[]=>σ
 |σ,z::r=>Dv (Dw σ z) r
def Wu(σ:List Str)(z:Str):(Dw σ z).length<=σ.length+1:=by
 unfold Dw;split
 ·lia
 ·simp
def ET.at(x:ET prog w h a zs)(e:∀o,h.get? a=some o->h'.get? a=some o):ET prog w h' a zs:=by obtain⟨o,es,ep,t,ho,r⟩:=x;exact⟨o,es,ep,t,e _ ho,r⟩
end
variable{I:OK}
section
open PySem.Calls PySem.W
def iG{wr:List OK}{G:Array rj->Array rj->Prop}{P:Nat->AD->Prop}{St:Nat->Ya->Prop}
 (W:WalksS prog w A.in1 I fp wr G n P St)(S:OK)(hSf:S∉fp)(ys:List Str)(hy:ys.length=n)(hval:∀i v z,P i v->ys[i]? =some z->∃t,v=.str z t):
 ∀(k i:Nat)(s:Ya)(σ:List Str),n-i=k->i<=n->St i s->σ.length+(n-i)+1<rF->ET prog w s.heap S σ->
  (∀s',Moved (S::wr) G s s'->ET prog w s'.heap S (Dv σ (ys.drop i))->R (.ok (.ret .none)) s')->
  rK (ax prog w) A (.builtin "set.update.loop" ⟨[.ref S,.ref I],[]⟩) R s:=by
 have h7:S∉wr:=fun h=>hSf (W.sub _ h);have h0:∀b∈wr,b∈S::wr:=fun b hb=>Cn _ hb;intro k
 induction k with
 |zero=>
  intro i s σ hk hi h2 hb hS hR;have h9:i=n:=by lia
  subst h9;refine J0 F.entry_set_update_loop ?_;rw[Oa U2 _];show bt _ A.in1 (rJ (.ref I)>>=_) _ _ s;refine AK (W.done s _ _ h2 fun s' hm=>?_);show bt _ A.in1 (ret Value.none) _ _ s';rw[MJ (by lia)] at hR;exact Ac (hR s' (hm.mono h0) (hS.at fun o e=>hm.heap S o h7 e))
 |succ k ih=>
  intro i s σ hk hi h2 hb hS hR;have h6:i<n:=by lia
  refine J0 F.entry_set_update_loop ?_;rw[Oa U2 _];show bt _ A.in1 (rJ (.ref I)>>=_) _ _ s;refine AK (W.item i s _ _ h6 h2 fun v s' hP h1 hm=>?_);obtain⟨t,rfl⟩:=hval i v (ys[i]'(by lia)) hP (Ap _);have hd:ys.drop i=ys[i]'(by lia)::ys.drop (i+1):=OQ (by lia);rw[hd] at hR;generalize ys[i]'(by lia)=z at hR⊢;have e1:ET prog w s'.heap S σ:=hS.at fun o e=>hm.heap S o h7 e;show bt _ A.in1 (sO [Value.str z t] (setAdd S (.str z t))>>=_) _ _ s';refine AK (Fb ?_);unfold setAdd;refine Fb (AK ((strKind prog w).pyHash (k:=z) (Ss prog w z t) ?_));refine oj (s:={s' with toks:=s'.toks+1}) e1 (by lia) fun b h' h5 e0=>?_;refine Ac ⟨Ow U2 _,ih (i+1) _ (Dw σ z) (by lia) h6 (W.frame _ s' _ _ h1 (Eb _) fun b hb o e=>?_) (by have:=Wu σ z;lia) e0 fun h8 h3 h4=>?_⟩
  ·rw[h5.2 b (fun h:b=S=>hSf (by rw[<-h];exact hb))];exact e
  ·refine hR h8 (Moved.trans W.gtrans ((hm.mono h0).then_heap (Eb _) fun b o hb e=>?_) h3) h4;rw[h5.2 b (fun h:b=S=>hb (by rw[h];exact Co))];exact e
def sub_tuple_set:isSubtype (.type "tuple") (.type "set")=pure false:=by rw[tJ];kernel_rfl
def sub_tuple_frozenset:isSubtype (.type "tuple") (.type "frozenset")=pure false:=by rw[tJ];kernel_rfl
def eW(a:AD){Q₁:AD->Ya->Prop}
 (h:Q₁ (.ref s.heap.objs.size) {s with heap:=s.heap.push {cls:=.type "set",dict:=none,data:=.set #[] 0 (.fresh 0 0 (!DV w))}}):
 rK (ax prog w) A (.call (.builtin "set.__new__") ⟨[.type "set",a],[]⟩) (wants Q₁ E) s:=by
 refine tE ?_;show bt _ A.in1 (do checkBuiltinCall "set.__new__" ⟨[.type "set",a],[]⟩;again (.builtin "set.__new__" ⟨[.type "set",a],[]⟩)) _ _ s;refine AK (wpAny_of_eq (PySem.F.newCall_set_1 a) (Ac ⟨Ow uI _,J0 PySem.F.entry_set_new ?_⟩));rw[Oa uI _];unfold Builtin.«set.__new__» Builtin.Frozenset.newClass;have hsub:=sub_set_self;obtain⟨hp,g,d,tk,os⟩:=s;dsimp only
 wp_walk
 refine sX (Ac ?_);dsimp only;simp only[newObj];refine AK (wpAny_alloc (Ac ?_));exact Ac h
set_option maxRecDepth 100000 in
def bu{l:OK}{ys:List Str}(hh:A.handled=none)(hl:s.heap.IsTuple l items)(hy:ys.length=items.size)(hi:∀(i:Nat)(v:AD) z,items[i]? =some v->ys[i]? =some z->∃t,v=.str z t)(hb:items.size+1<rF)
 (h:∀(h':qi)(tk:Nat),ET prog w h' s.heap.objs.size (Dv [] ys)->(∀b o,s.heap.get? b=some o->h'.get? b=some o)->Q (.ref s.heap.objs.size) {s with heap:=h',toks:=tk}):
 bt (ax prog w) A (call (.type "set") [.ref l]) Q E s:=by
 obtain⟨c,tl,s4⟩:=Jw.mro;have e3:=Jw.made;have s1:=Jw.sub;refine Mu (tE ?_);show bt _ _ (callAny (.type "set") _) _ _ _;refine Ac ⟨RC _ (by left),J0 PySem.F.entry_type_call ?_⟩;rw[Around.under_plain (weight_type_call_type "set" [.ref l] []) rfl];have h1:=Jw.notType;have h2:=Jw.canCreate;have r3:=PySem.F.typeCall_set_1 (.ref l);repeat (any_goals (first|assumption|wp_step))
 generalize eO:({cls:=.type "set",dict:=none,data:=.set #[] 0 (.fresh 0 0 (!DV w))}:Obj)=o0;refine LH (eW (.ref l) (E:=E) (Q₁:=fun e1 s₁=>e1=.ref s.heap.objs.size/\s₁={s with heap:=s.heap.push o0}) ⟨rfl,by rw[eO]⟩) fun r s₁ hr=>?_
 cases r with
 |error e=>exact hr
 |ok fl=>
  cases fl with
  |ret e1=>
   obtain⟨rfl,rfl⟩:=hr;have h7:o0.cls=.type "set" :=by rw[<-eO]
   have hS:(s.heap.push o0).get? s.heap.objs.size=some o0:=CB _ (by rw[<-eO];rfl);have hT:Shared.TypeIs {s with heap:=s.heap.push o0} (.ref s.heap.objs.size) "set" :=⟨_,hS,h7⟩;have r2:=Jw.init.lookup;have r4:=Jw.init.bind (.ref s.heap.objs.size);repeat (any_goals (first|assumption|wp_step))
   refine LH (U6 (R:=wants (fun r s₂=>r=.none/\∃h' tk,s₂={s with heap:=h',toks:=tk}/\ET prog w h' s.heap.objs.size (Dv [] ys)/\(∀b o,s.heap.get? b=some o->h'.get? b=some o)) E) Jw.init.plain PySem.F.entry_set_init (check_set_init_1 hT ?_)) fun r₂ s₂ h0=>?_
   ·subst eO;obtain⟨ol,e2,e7,nl,e6⟩:=hl;obtain⟨s0,h9,e0,h4⟩:=ol;simp only at e7 e6;subst e7;subst e6;have h5:=BC {cls:=.type "set",dict:=none,data:=.set #[] 0 (.fresh 0 0 (!DV w))} e2;have s2:=sub_tuple_set;have s3:=sub_tuple_frozenset;have r1:(Value.type "tuple" ==Value.type "dict")=false:=by decide
    have e5:(s.heap.push {cls:=.type "set",dict:=none,data:=.set #[] 0 (.fresh 0 0 (!DV w))}).IsTuple l items:=⟨_,h5,rfl,nl,rfl⟩;unfold Builtin.«set.__init__» noKeywords Builtin.Frozenset.updateFrom;generalize r0:pyIter=PI
    wp_walk
    subst r0;refine wpAny_pyIter_tuple e5 ?_;refine AK (wpAny_runValue ?_);have e4:l<s.heap.objs.size:=A2 e2;have s6:A.in1.in1.in1.handled=none:=by simp[hh]
    have h6:l≠(s.heap.push {cls:=.type "set",dict:=none,data:=.set #[] 0 (.fresh 0 0 (!DV w))}).objs.size:=by rw[Gh];exact BO (Og e4)
    have s9:s.heap.objs.size∉[(s.heap.push {cls:=.type "set",dict:=none,data:=.set #[] 0 (.fresh 0 0 (!DV w))}).objs.size,l]:=by rw[Gh];simp only[BI,BR,JC,KO,not_or];exact⟨BO (MZ _),Fc e4⟩
    refine iG ((Walks.tuple s6 _ l h6 items).toS) s.heap.objs.size s9 ys hy hi (items.size-0) 0 _ [] (by lia) (CC _) ⟨⟨_,CB _ rfl,rfl,rfl⟩,(e5.push _)⟩ (by simpa using hb) ?hS0 ?hR;case hS0=>exact⟨_,#[],0,_,BC _ hS,⟨rfl,rfl,rfl⟩,rfl,fun e he=>by simp at he,Ou _,J2,by unfold rF;simp,rfl,rfl,.inl rfl⟩
    case hR=>
     intro s' hm h8;obtain⟨h',g',d',e8,e9⟩:=s';have eg:g'=s.gens:=hm.gens;have ed:d'=s.drawn:=hm.drawn;have eo:e9=s.os:=hm.os;subst eg;subst ed;subst eo;refine Ac ?_;refine Ac ⟨rfl,h',e8,rfl,h8,fun b o e=>?_⟩;have hb:=A2 e;have s8:b≠s.heap.objs.size:=BO hb;have s7:b≠(s.heap.push {cls:=.type "set",dict:=none,data:=.set #[] 0 (.fresh 0 0 (!DV w))}).objs.size:=by rw[Gh];exact BO (Og hb)
     exact hm.heap b o (by simp only[BI,BR,JC,KO,not_or];exact⟨s8,s7⟩) (BC _ (BC _ e))
   ·cases r₂ with
    |error e=>exact h0
    |ok h3=>
     cases h3 with
     |ret r=>
      obtain⟨rfl,h',tk,rfl,h8,s5⟩:=h0;repeat (any_goals (first|assumption|wp_step))
      exact h _ _ h8 s5
     |_=>exact h0.elim
  |_=>exact hr.elim
def Ox:Slot "set_iterator" "__next__" "set_iterator.__next__" :=
 .of (owner:="set_iterator") (n:="__next__") (by rw[typeLookup_type,builtinLookup_eq_fast];kernel_rfl) (by left) (by left)
  (by left) (by first|exact .inl (by left)|exact .inr (by left)) (by rw[tJ];kernel_rfl)
def bh:entryFor table "set_iterator.__next__" =some Builtin.«set_iterator.__next__»:=entryFor_of_tree (by kernel_rfl)
def gw:Manifest.owners.lookup (String.ofList ['r','o','t','a','r','e','t','i','_','t','e','s'].reverse)=some Manifest.sig_set_iterator:=by kernel_rfl
def bo(a:AD):argsOk "set_iterator.__next__" ⟨[a],[]⟩:=by
 unfold argsOk;rw[signature?_of (id:="set_iterator.__next__") (n:=['_','_','t','x','e','n','_','_']) (o:=['r','o','t','a','r','e','t','i','_','t','e','s']) (by kernel_rfl) gw]
 kernel_rfl
def bf:entryFor table "set.__iter__" =some Builtin.«frozenset.__iter__»:=entryFor_alias (id':="frozenset.__iter__") (by kernel_rfl) rfl (by left) (by kernel_rfl)
section
def Pd{Q:Bool->Ya->Prop}(h:Q (DV w) s):bt (ax prog w) A setsByText Q E s:=AK (sX (Ac h))
def dM{src:Source}{Q:Nat->Ya->Prop}(hn:n≠0)(h:∀i d,i<n->Q i {s with drawn:=d}):bt (ax prog w) A (choose src n) Q E s:=fun Γ p _=>by show Sem.wp _ Γ (.choose src n .pure) _ _ p s;rw[Sem.wp_choose];refine⟨hn,?_⟩;rw[Sem.wp_pure];exact h _ _ (Nat.mod_lt _ (Nat.pos_of_ne_zero hn))
def Rp{α:Type}:∀(xs:List α)(i:Nat)(h:i<xs.length),(xs[i]::xs.eraseIdx i).Perm xs
 |x::xs,0,_=>Ou _
 |x::xs,i+1,h=>by have ih:=Rp xs i (by simpa using h);show(xs[i]'(by simpa using h)::x::xs.eraseIdx i).Perm (x::xs);exact(List.Perm.swap _ _ _).trans (ih.cons x)
def V1:∀(n:Nat)(xs:List Nat)(s:Ya)(Q:List Nat->Ya->Prop),n=xs.length->(∀ys d,ys.Perm xs->Q ys {s with drawn:=d})->bt (ax prog w) A (drawOrder n xs) Q E s
 |0,xs,s,Q,hn,h=>by have:xs=[]:=OS.mp hn.symm;subst this;exact Ac (h [] s.drawn (Ou _))
 |n+1,[],s,Q,hn,h=>by cases hn
 |n+1,x::xs,s,Q,hn,h=>by unfold drawOrder;refine AK (dM (by simp) fun i d hi=>?_);have e:(x::xs)[i]? =some ((x::xs)[i]'hi):=Ap hi;rw[e];refine AK (V1 n _ _ _ (by rw[List.length_eraseIdx_of_lt hi];simp at hn⊢;exact hn) fun ys d hp=>Ac (h _ d ?_));exact(hp.cons _).trans (Rp _ i hi)
def DB(h:qi)(I:OK)(first:AD)(i n ep:Nat)(a:OK):Prop:=h.get? I=some {cls:=.type "set_iterator",dict:=none,data:=.fields #[first,.int i 0,.ref a,.int n 0,.int ep 0],slots:= #[]}
def FR(h:qi)(a:OK)(o:Obj)(es:Array (Int×AD))(ep:Nat)(t:SetTable):Prop:=h.get? a=some o/\o.ExactSet/\o.data=.set es ep t/\t.fits es.size=true
def DB.typeIs{first:AD}(it:DB s.heap I first i n ep a):s.TypeIs (.ref I) "set_iterator" :=⟨_,it,rfl⟩
set_option hygiene false in
local macro_rules| `(tactic|trivial)=> `(tactic|(
 unfold rJ;refine AK (tR (Ux (name:=Str.ofString "__next__") it.typeIs Ox (MX Ox it.typeIs bh ?_ (bo _))));obtain⟨ho,hex,hd,hf⟩:=sa;unfold Builtin.«set_iterator.__next__» slotArgs;simp only[List.isEmpty_nil,Rf,DM,↓reduceIte,bind_assoc,Mb,Jy];refine AK (Ac ?_);refine AK (wpAny_fieldsOf it rfl ?_);dsimp only;refine AK (wpAny_setEntries_of ho hd hf ?_);simp only[Jy,DM,↓reduceIte]))
def Vw{slot given:Nat}{Q:Option (AD×Nat)->Ya->Prop}(hb:DV w=true)(sa:FR s.heap a o es ep t)
 (h:Q (((pickOrder (w.params.setOrder a ep) es)[given]?).map fun e=>(e.2,slot)) s):bt (ax prog w) A (setNext a slot given ep) Q E s:=by
 obtain⟨ho,h0,hd,hf⟩:=sa;unfold setNext;refine AK (MT ho hd hf ?_);dsimp only;refine AK (Pd ?_);rw[hb];simp only[CJ,Jy,DM,Bw];refine AK ?_;unfold setWalk;refine AK (MT ho hd hf ?_);dsimp only;refine AK (Pd ?_);rw[hb];simp only[CJ];exact AK (sX (Ac (Ac h)))
def W9{slot given:Nat}{Q:Option (AD×Nat)->Ya->Prop}(hb:DV w=false)(sa:FR s.heap a o es ep t)(hn:es.size<=1)(hl:t.led=true)
 (h:Q (match es[SetTable.below t.place slot]?,t.place[SetTable.below t.place slot]?with|some (_,x),some j=>some (x,j+1)|_,_=>none) s):bt (ax prog w) A (setNext a slot given ep) Q E s:=by
 obtain⟨ho,h0,hd,hf⟩:=sa;unfold setNext;refine AK (MT ho hd hf ?_);dsimp only;refine AK (Pd ?_);rw[hb];simp only[DM,Bw];show bt _ _ (if(!t.plain&&decide (es.size>1))=true then _ else _) _ _ _;rw[AF (by simp;lia)];refine AK (show bt _ _ (if(!t.led&& !es.isEmpty)=true then _ else pure ()) _ _ _ from ?_);rw[hl];simp only[Rf,Mf,DM,Bw];refine Ac (Ac ?_);exact h
def So{first:AD}{Q:Option AD->Ya->Prop}(hh:A.handled=none)(it:DB s.heap I first i n ep a)(hQ:∀h',Heap.ExtBut I s.heap h'->Q none {s with heap:=h'}):
 bt (ax prog w) A.in1 (do
  setField (.ref I) 2 Value.none
  let __do_lift<-newExc (Value.type "StopIteration") []
  raiseNew __do_lift)
 (fun fin s'=>∃v,fin=Fin.done (Flow.ret v)/\bt (ax prog w) A (pure (some v)) Q E s')
 (fun e s'=>bt (ax prog w) A (do
  let __do_lift<-tK e (Value.type "StopIteration")
  if __do_lift=true then pure none else throw e) Q E s') s:=by
 refine AK (Ot it rfl (by simp) ?_);refine AK ?_;simp only[newExc,newTuple];refine AK (IQ ?_ (by size_fits));refine AK (m:=firstArgMember _ _) (wpAny_of_eq (a:=Value.none) (by first|rfl|(simp only[firstArgMember];rfl)) ?_);refine IQ ?_ (by size_fits);simp only[raiseNew];refine AK (wpAny_handled ?_);first|rw[show A.in1.handled=none from hh]|rw[hh]
 refine AK (Ac (wpAny_throw ?_));refine AK (wpAny_isInstance (T:="StopIteration") (b:=true) ⟨_,CB _ rfl,rfl⟩ isSubtype_stop ?_);exact Ac (hQ _ (((VF ..).extBut.push _).push _))
def jY{Q:Option AD->Ya->Prop}{x:Int×AD}(hb:DV w=true)(it:DB s.heap I (.int 0 0) i es.size ep a)(sa:FR s.heap a o es ep t)
 (hx:(pickOrder (w.params.setOrder a ep) es)[i]? =some x)(h:∀h',DB h' I (.int 0 0) (i+1) es.size ep a->Heap.SameBut I s.heap h'->Q (some x.2) {s with heap:=h'}):bt (ax prog w) A (rJ (.ref I)) Q E s:=by
 have h0:=sa;trivial;refine AK (Vw hb h0 ?_);rw[show(i:Int).toNat=i from HU i,show(ep:Int).toNat=ep from HU ep,hx];dsimp only[Option.map];refine AK (MM it (by simp) fun h1 i1 b1=>AK (MM i1 (by simp) fun h2 i2 b2=>Ac ⟨_,rfl,Ac (h h2 ?_ (b1.trans b2))⟩));simpa[DB,rH] using i2
def gM{Q:Option AD->Ya->Prop}(hh:A.handled=none)(hb:DV w=true)(it:DB s.heap I (.int 0 0) i es.size ep a)(sa:FR s.heap a o es ep t)
 (hx:(pickOrder (w.params.setOrder a ep) es)[i]? =none)(h:∀h',Heap.ExtBut I s.heap h'->Q none {s with heap:=h'}):bt (ax prog w) A (rJ (.ref I)) Q E s:=by
 have h0:=sa;trivial;refine AK (Vw hb h0 ?_);rw[show(i:Int).toNat=i from HU i,show(ep:Int).toNat=ep from HU ep,hx];exact So hh it h
def ke{sl:Nat}{Q:Option AD->Ya->Prop}{x:Int×AD}(hb:DV w=false)(it:DB s.heap I (.int sl 0) i es.size ep a)(sa:FR s.heap a o es ep t)(hn:es.size<=1)(hl:t.led=true)
 (hx:es[SetTable.below t.place sl]? =some x)(hj:t.place[SetTable.below t.place sl]? =some j)(h:∀h',DB h' I (.int (j+1:Nat) 0) (i+1) es.size ep a->Heap.SameBut I s.heap h'->Q (some x.2) {s with heap:=h'}):bt (ax prog w) A (rJ (.ref I)) Q E s:=by
 have h0:=sa;trivial;refine AK (W9 hb h0 hn hl ?_);rw[show(sl:Int).toNat=sl from HU sl,hx,hj];dsimp only;refine AK (MM it (by simp) fun h1 i1 b1=>AK (MM i1 (by simp) fun h2 i2 b2=>Ac ⟨_,rfl,Ac (h h2 ?_ (b1.trans b2))⟩));simpa[DB,rH] using i2
def j5{sl:Nat}{Q:Option AD->Ya->Prop}(hh:A.handled=none)(hb:DV w=false)(it:DB s.heap I (.int sl 0) i es.size ep a)(sa:FR s.heap a o es ep t)(hn:es.size<=1)(hl:t.led=true)
 (hx:es[SetTable.below t.place sl]? =none)(h:∀h',Heap.ExtBut I s.heap h'->Q none {s with heap:=h'}):bt (ax prog w) A (rJ (.ref I)) Q E s:=by
 have h0:=sa;trivial;refine AK (W9 hb h0 hn hl ?_);rw[show(sl:Int).toNat=sl from HU sl,hx];exact So hh it h
def jb{T:OK}{ps:List Nat}{Q:Option AD->Ya->Prop}{x:Int×AD}{p:Nat}(it:DB s.heap I (.ref T) i es.size ep a)(sa:FR s.heap a o es ep t)(hT:s.heap.IsTuple T (ps.map fun p:Nat=>rH p).toArray)
 (hp:ps[i]? =some p)(hx:es[p]? =some x)(h:∀h',DB h' I (.ref T) (i+1) es.size ep a->Heap.SameBut I s.heap h'->Q (some x.2) {s with heap:=h'}):bt (ax prog w) A (rJ (.ref I)) Q E s:=by
 have h3:=sa;trivial;obtain⟨oT,h0,_,nT,h2⟩:=hT;refine AK (wpAny_seqItems h0 h2 ?_);have e:((ps.map fun p:Nat=>rH p).toArray)[(i:Int).toNat]? =some (.int p 0):=by rw[HU,U5,Az,hp];rfl
 dsimp only;rw[e];dsimp only;refine AK ?_;unfold setNextDrawn;refine AK (MT ho hd hf ?_);dsimp only;simp only[HU,Jy,DM,Bw];rw[hx];refine Ac ?_;refine AK (MM it (by simp) fun h1 i1 b1=>Ac ⟨_,rfl,Ac (h h1 ?_ b1)⟩);simpa[DB,rH] using i1
def gQ{T:OK}{ps:List Nat}{Q:Option AD->Ya->Prop}(hh:A.handled=none)(it:DB s.heap I (.ref T) i es.size ep a)(sa:FR s.heap a o es ep t)(hT:s.heap.IsTuple T (ps.map fun p:Nat=>rH p).toArray)
 (hp:ps[i]? =none)(h:∀h',Heap.ExtBut I s.heap h'->Q none {s with heap:=h'}):bt (ax prog w) A (rJ (.ref I)) Q E s:=by
 have h4:=sa;trivial;obtain⟨oT,h2,_,nT,h3⟩:=hT;refine AK (wpAny_seqItems h2 h3 ?_);have e:((ps.map fun p:Nat=>rH p).toArray)[(i:Int).toNat]? =none:=by rw[HU,U5,Az,hp];rfl
 dsimp only;rw[e];dsimp only;refine AK (MM it (by simp) fun h1 i1 b1=>?_);have h0:DB h1 I (.int 0 0) i es.size ep a:=by simpa[DB,rH] using i1
 exact So (s:={s with heap:=h1}) hh h0 fun h' e'=>h h' (b1.extBut.trans e')
end
def WN{α:Type}(next:Nat->Nat):∀(f k:Nat)(l:List α)(out:Array α),f=l.length->(pickOrder.go next f k l out).toList.Perm (out.toList++l)
 |0,k,l,out,h=>by have:l=[]:=OS.mp h.symm;subst this;unfold pickOrder.go;simp
 |f+1,k,l,out,h=>by
  have hi:next k%l.length<l.length:=Nat.mod_lt _ (by lia)
  unfold pickOrder.go;rw[Ap hi];dsimp only;refine(WN next f (k+1) _ _ (by rw[List.length_eraseIdx_of_lt hi];lia)).trans ?_;rw[MW,Bu];exact Q4 _ (Rp l _ hi)
def SE(next:Nat->Nat)(xs:Array α):(pickOrder next xs).toList.Perm xs.toList:=by
 have:=WN next xs.size 0 xs.toList #[] (by simp)
 simpa[pickOrder] using this
def TH(j:Nat):SetTable.below #[j] 0=0/\SetTable.below #[j] (j+1)=1:=by
 constructor
 ·simp[SetTable.below,SetTable.below.go]
 ·simp[SetTable.below,SetTable.below.go]
def DB.keep{f:AD}(x:DB h I f i n ep a)(e:∀o,h.get? I=some o->h'.get? I=some o):DB h' I f i n ep a:=e _ x
def FR.keep(x:FR h a o es ep t)(e:∀o,h.get? a=some o->h'.get? a=some o):FR h' a o es ep t:=⟨e _ x.1,x.2⟩
structure Nr(prog:qf)(w:qj)(A:rL)(I:OK)(fp:List OK)(vs:List AD)(St:Nat->qi->Prop):Prop where
 Ql:I∈fp
 frame:∀i h h',St i h->(∀b∈fp,∀o,h.get? b=some o->h'.get? b=some o)->St i h'
 item:∀i (s:Ya)(Q:Option AD->Ya->Prop)(E:AD->Ya->Prop) v,vs[i]? =some v->St i s.heap->(∀h',St (i+1) h'->(∀b o,b≠I->s.heap.get? b=some o->h'.get? b=some o)->Q (some v) {s with heap:=h'})->bt (ax prog w) A (rJ (.ref I)) Q E s
 done:∀(s:Ya)(Q:Option AD->Ya->Prop)(E:AD->Ya->Prop),St vs.length s.heap->(∀h',(∀b o,b≠I->s.heap.get? b=some o->h'.get? b=some o)->Q none {s with heap:=h'})->bt (ax prog w) A (rJ (.ref I)) Q E s
def eZ(hh:A.handled=none)(hb:DV w=true)(I a:OK)(hne:a≠I)(o:Obj)(es:Array (Int×AD))(ep:Nat)(t:SetTable):
 Nr prog w A I [I,a] ((pickOrder (w.params.setOrder a ep) es).toList.map (·.2)) (fun i h=>DB h I (.int 0 0) i es.size ep a/\FR h a o es ep t) where
 Ql:=by simp
 frame:=fun i h h' st hk=>⟨st.1.keep fun o e=>hk I (by simp) o e,st.2.keep fun o e=>hk a (by simp) o e⟩
 item:=fun i s Q E v hv st hQ=>by
  rw[Az,Gd] at hv
  cases e:(pickOrder (w.params.setOrder a ep) es)[i]?with
  |none=>rw[e] at hv;cases hv
  |some x=>rw[e] at hv;cases Ag hv;exact jY hb st.1 st.2 e fun h' i' b'=>hQ h' ⟨i',st.2.keep fun o e=>b'.extBut a o hne e⟩ fun b o hn e=>b'.extBut b o hn e
 done:=fun s Q E st hQ=>by
  have hl:((pickOrder (w.params.setOrder a ep) es).toList.map (·.2)).length=es.size:=by rw[AJ,(SE _ es).length_eq,Ey]
  rw[hl] at st;refine gM hh hb st.1 st.2 ?_ fun h' e'=>hQ h' fun b o hn e=>e' b o hn e;rw[<-Gd];exact F1 (by rw[(SE _ es).length_eq,Ey];exact Ae _)
def iV(hh:A.handled=none)(hb:DV w=false)(I a:OK)(hne:a≠I)(o:Obj)(es:Array (Int×AD))(ep:Nat)(t:SetTable)(hn:es.size<=1)(hl:t.led=true)(hf:t.fits es.size=true):
 Nr prog w A I [I,a] (es.toList.map (·.2)) (fun i h=>DB h I (.int (if i=0 then 0 else t.place.getD 0 0+1:Nat) 0) i es.size ep a/\FR h a o es ep t) where
 Ql:=by simp
 frame:=fun i h h' st hk=>⟨st.1.keep fun o e=>hk I (by simp) o e,st.2.keep fun o e=>hk a (by simp) o e⟩
 item:=fun i s Q E v hv st hQ=>by
  have h4:t.place.size=es.size:=by simp only[SetTable.fits,FZ,Fd] at hf;exact hf.1
  have hi:i=0/\es.size=1:=by
   have:=(BY.mp hv).1;simp at this
   lia
  obtain⟨rfl,h1⟩:=hi;obtain⟨j,hj⟩:∃j,t.place= #[j]:=by obtain⟨j,hj⟩:=List.length_eq_one_iff.mp (show t.place.toList.length=1 by simp;lia);exact⟨j,Jz.mp (by rw[hj])⟩
  have hx:es[0]? =some (es[0]'(by lia)):=F3 .. ;have h3:v=(es[0]'(by lia)).2:=by rw[Az,Gd,hx] at hv;exact(Ag hv).symm
  subst h3;have h2:=st.1;rw[AG rfl] at h2;refine ke (sl:=0) (j:=j) hb h2 st.2 hn hl (by rw[hj,(TH j).1];exact hx) (by rw[hj,(TH j).1];rfl) fun h' i' b'=>hQ h' ⟨?_,st.2.keep fun o e=>b'.extBut a o hne e⟩ fun b o hn e=>b'.extBut b o hn e;rw[AF (by lia),hj];exact i'
 done:=fun s Q E st hQ=>by
  have h4:t.place.size=es.size:=by simp only[SetTable.fits,FZ,Fd] at hf;exact hf.1
  rw[AJ,Ey] at st;refine j5 hh hb st.1 st.2 hn hl ?_ fun h' e'=>hQ h' fun b o hn e=>e' b o hn e;by_cases h0:es.size=0
  ·exact getElem?_neg es _ (by lia)
  ·obtain⟨j,hj⟩:∃j,t.place= #[j]:=by obtain⟨j,hj⟩:=List.length_eq_one_iff.mp (show t.place.toList.length=1 by simp;lia);exact⟨j,Jz.mp (by rw[hj])⟩
   rw[AF h0,hj];show es[SetTable.below #[j] (j+1)]? =none;rw[(TH j).2];exact getElem?_neg es _ (by lia)
def eJ(hh:A.handled=none)(I a T:OK)(hne:a≠I)(hnT:T≠I)(o:Obj)(es:Array (Int×AD))(ep:Nat)(t:SetTable)(ps:List Nat)(hp:ps.Perm (List.range es.size)):
 Nr prog w A I [I,a,T] (ps.map fun p=>(es.getD p (0,Value.none)).2) (fun i h=>DB h I (.ref T) i es.size ep a/\FR h a o es ep t/\h.IsTuple T (ps.map fun p:Nat=>rH p).toArray) where
 Ql:=by simp
 frame:=fun i h h' st hk=>⟨st.1.keep fun o e=>hk I (by simp) o e,st.2.1.keep fun o e=>hk a (by simp) o e,by obtain⟨oT,x,r⟩:=st.2.2;exact⟨oT,hk T (by simp) _ x,r⟩⟩
 item:=fun i s Q E v hv st hQ=>by
  rw[Az] at hv
  cases e:ps[i]?with
  |none=>rw[e] at hv;cases hv
  |some p=>
   rw[e] at hv;cases Ag hv;have h0:p<es.size:=HZ.mp (hp.mem_iff.mp (CA e));have ex:es[p]? =some (es.getD p (0,Value.none)):=by rw[Gb,F3 es p h0];rfl
   refine jb st.1 st.2.1 st.2.2 e ex fun h' i' b'=>hQ h' ⟨i',st.2.1.keep fun o e=>b'.extBut a o hne e,?_⟩ fun b o hn e=>b'.extBut b o hn e;exact st.2.2.extBut b'.extBut hnT
 done:=fun s Q E st hQ=>by rw[AJ] at st;exact gQ hh st.1 st.2.1 st.2.2 (F1 (Ae _)) fun h' e'=>hQ h' fun b o hn e=>e' b o hn e
def lN(hh:A.handled=none)(hS:ET prog w s.heap a zs)
 (h:∀(I:OK)(fp:List OK)(vs:List AD)(St:Nat->qi->Prop) h' d,(∀(B:rL),B.handled=none->Nr prog w B I fp vs St)->St 0 h'->(∀b o,s.heap.get? b=some o->h'.get? b=some o)->(∀b∈fp,b=a\/s.heap.objs.size<=b)->(∀v∈vs,∃z t,v=.str z t)->(vs.map tx).Perm zs->vs.length<=4096->
  s.heap.objs.size<=I->Q (.ref I) {s with heap:=h',drawn:=d}):bt (ax prog w) A (pyIter (.ref a)) Q E s:=by
 obtain⟨o,es,ep,t,ho,h0,hd,h6,hm,h9,hb,hf,hl,hp⟩:=hS;have hT:s.TypeIs (.ref a) "set" :=⟨o,ho,h0.1⟩;have h3:=A2 ho;have h8:es.size=zs.length:=by rw[<-hm.length_eq,AJ,Ey]
 have h1:∀e∈es.toList,∃z t,e.2=.str z t:=fun e he=>by obtain⟨⟨k,hk,_⟩,_⟩:=h6 e he;obtain⟨t,ht⟩:=Ts hk;exact⟨k,t,ht⟩
 refine wpAny_pyIter_slot hT uJ (MX uJ hT bf ?_ (PySem.F.args_set_iter_1 _));unfold Builtin.«frozenset.__iter__» Builtin.Frozenset.slot0 slotArgs;simp only[List.isEmpty_nil,Rf,DM,↓reduceIte,bind_assoc,Mb,Jy];unfold Builtin.Frozenset.addrOf Builtin.Frozenset.sizeOf;refine AK (Ac ?_);try dsimp only
 refine AK (Ac ?_);refine AK (AK (wpAny_setEntries_of ho hd hf (Ac ?_)));unfold setDrawn;refine AK (AK (MT ho hd hf ?_));dsimp only;refine AK (Pd (Ac ?_));show bt _ _ (if(!DV w&&(!t.plain&&decide (es.size>1)))=true then _ else _) _ _ _;have h4:es.size<=4096:=by have:rF=4096:=rfl;lia
 by_cases c:(!DV w&&(!t.plain&&decide (es.size>1)))=true
 ·rw[AG c];refine AK (V1 _ _ _ _ (by simp) fun ps d pp=>?_);have lp:ps.length=es.size:=by rw[pp.length_eq,MV]
  refine AK (wpAny_newTuple ?_ (by rw[AJ,A8];lia));have h2:=BC {cls:=.type "tuple",data:=.seq (List.map (fun i:Nat=>rH i) ps).toArray} ho;refine AK (wpAny_setEpoch_of (s:={s with heap:=s.heap.push _,drawn:=d}) h2 hd hf ?_);have z1:(s.heap.push {cls:=.type "tuple",data:=.seq (List.map (fun i:Nat=>rH i) ps).toArray}).objs.size=s.heap.objs.size+1:=by rw[Gh]
  refine AK (IQ (Ac ⟨_,rfl,"set_iterator",_,⟨_,CB _ rfl,rfl⟩,Ox.lookup,?_⟩));have ev:(es.toList.map (·.2))=(List.range es.size).map fun p=>(es.getD p (0,Value.none)).2:=by
   apply K7;intro k;rw[Az,Az,Gd];by_cases hk:k<es.size
   ·rw[VE hk,F3 es k hk];simp[Gb,hk]
   ·rw[getElem?_neg es k hk,F1 (by simp;lia)];rfl
  have pv:(ps.map fun p=>(es.getD p (0,Value.none)).2).Perm (es.toList.map (·.2)):=by rw[ev];exact pp.map _
  refine h _ [_,a,s.heap.objs.size] (ps.map fun p=>(es.getD p (0,Value.none)).2) _ _ d (fun B hB=>eJ hB _ a s.heap.objs.size (by rw[z1];exact BO (Og h3)) (by rw[z1];exact BO (MZ _)) o es ep t ps pp)
   ⟨CB _ rfl,⟨BC _ h2,h0,hd,hf⟩,⟨_,BC _ (CB _ rfl),rfl,0,rfl⟩⟩
   (fun b o e=>BC _ (BC _ e)) (fun b hb=>?_) (fun v hv=>?_) ?_ (by rw[AJ];lia) (by rw[z1];exact Eb _)
  ·rcases BI.mp hb with e|hb
   ·exact .inr (by rw[e,z1];exact Eb _)
   ·rcases BI.mp hb with e|hb
    ·exact .inl e
    ·exact .inr (by rw[BR.mp hb];exact Ae _)
  ·obtain⟨e,he,rfl⟩:=BA.mp (pv.mem_iff.mp hv);exact h1 e he
  ·refine(pv.map tx).trans ?_;rw[Bo];exact hm
 ·rw[AF c];refine AK (Ac (AK (wpAny_setEpoch_of ho hd hf ?_)));refine AK (IQ (Ac ⟨_,rfl,"set_iterator",_,⟨_,CB _ rfl,rfl⟩,Ox.lookup,?_⟩));have ne:a≠s.heap.objs.size:=BO h3;have h5:∀b∈[s.heap.objs.size,a],b=a\/s.heap.objs.size<=b:=fun b hb=>by
   rcases BI.mp hb with e|hb
   ·exact .inr (by rw[e];exact Ae _)
   ·exact .inl (BR.mp hb)
  have e0:s={s with heap:=s.heap}:=by cases s;rfl
  cases eb:DV w with
  |true=>
   have pv:((pickOrder (w.params.setOrder a ep) es).toList.map (·.2)).Perm (es.toList.map (·.2)):=(SE _ es).map _;refine h _ [s.heap.objs.size,a] _ _ _ s.drawn (fun B hB=>eZ hB eb _ a ne o es ep t) ⟨CB _ rfl,BC _ ho,h0,hd,hf⟩ (fun b o e=>BC _ e) h5 (fun v hv=>?_) ?_ (by rw[pv.length_eq,AJ];simp;exact h4) (Ae _)
   ·obtain⟨e,he,rfl⟩:=BA.mp (pv.mem_iff.mp hv);exact h1 e he
   ·refine(pv.map tx).trans ?_;rw[Bo];exact hm
  |false=>
   have h7:es.size<=1:=by
    rw[eb] at c;rcases hp with z|z
    ·lia
    ·rw[z] at c;simp at c
     lia
   rw[eb] at hl;refine h _ [s.heap.objs.size,a] _ _ _ s.drawn (fun B hB=>iV hB eb _ a ne o es ep t h7 hl hf) ⟨CB _ rfl,BC _ ho,h0,hd,hf⟩ (fun b o e=>BC _ e) h5 (fun v hv=>?_) ?_ (by rw[AJ];simp;exact h4) (Ae _)
   ·obtain⟨e,he,rfl⟩:=BA.mp hv;exact h1 e he
   ·rw[Bo];exact hm
def fk{vs:List AD}{St:Nat->qi->Prop}(W:Nr prog w A.in1 I fp vs St)(hn:vs.length<=sizeLine)(S:OK)(hSf:S∉fp)(res:AD):
 ∀(k i:Nat)(s:Ya)(acc:Array AD)(c:Nat),vs.length-i=k->i<=vs.length->St i s.heap->s.heap.get? S=some {cls:=.type "list",dict:=none,data:=.seq acc c,slots:= #[]}->acc.toList=vs.take i->
 (∀h' c',(∀b o,b≠S->b≠I->s.heap.get? b=some o->h'.get? b=some o)->h'.get? S=some {cls:=.type "list",dict:=none,data:=.seq vs.toArray c',slots:= #[]}->R (.ok (.ret res)) {s with heap:=h'})->
 rK (ax prog w) A (.builtin "list.extend.loop" ⟨[.ref S,.ref I,res],[]⟩) R s:=by
 have e0:S≠I:=fun e=>hSf (e▸W.Ql);intro k
 induction k with
 |zero=>
  intro i s acc c hk hi h4 hS h0 hR;have e2:i=vs.length:=by lia
  subst e2;refine J0 uK ?_;rw[Oa OM _];show bt _ A.in1 (rJ (.ref I)>>=_) _ _ s;refine AK (W.done s _ _ h4 fun h' hm=>?_);have ea:acc=vs.toArray:=Jz.mp (by rw[h0,CT]);exact Ac (hR h' c (fun b o _ hb e=>hm b o hb e) (by rw[<-ea];exact hm S _ e0 hS))
 |succ k ih=>
  intro i s acc c hk hi h4 hS h0 hR;have h1:i<vs.length:=by lia
  have h7:acc.size=i:=by rw[<-Ey,h0,Be];lia
  refine J0 uK ?_;rw[Oa OM _];show bt _ A.in1 (rJ (.ref I)>>=_) _ _ s;refine AK (W.item i s _ _ _ (Ap h1) h4 fun h' h3 hm=>?_);have e1:=hm S _ e0 hS;show bt _ A.in1 (updateSeq S (·.push (vs[i]'h1))>>=_) _ _ _;refine AK ?_;refine sk (s:={s with heap:=h'}) e1 rfl (Ac ⟨Ow OM _,ih (i+1) _ (acc.push (vs[i]'h1)) _ (by lia) h1 (W.frame _ h' _ h3 fun b hb o e=>?_) (I9 _ e1 rfl) ?_ fun h2 c' h5 h6=>?_⟩)
   (by rw[h7];lia) (by show(acc.push (vs[i]'h1)).size<=sizeLine+1;rw[Array.size_push,h7];lia)
  ·exact(D8 _ _ (fun h:S=b=>hSf (by rw[h];exact hb))).trans e
  ·rw[MW,h0,List.take_succ,Ap h1];rfl
  ·exact hR h2 c' (fun b o h9 h8 e=>h5 b o h9 h8 ((D8 _ _ (DG h9)).trans (hm b o h8 e))) h6
def gR{r:OK}{Q:Bool->Ya->Prop}(hT:s.TypeIs (.ref r) "set")(h:Q false s):bt (ax prog w) A (Builtin.List.listLengthHint (.ref r)) Q E s:=by
 unfold Builtin.List.listLengthHint;refine AK (wpAny_specialOf hT PySem.F.slot_set_len.lookup ?_);generalize h1:("set.__len__" :String)=h2
 wp_delta
 rw[show splitId h2=some ("set","__len__") from by subst h1;decide+kernel];subst h1;refine AK (wpAny_isInstance (T:="set") (b:=true) hT sub_set_self ?_);refine sr (fun h0=>absurd h0 (by decide)) (fun _=>?_);refine sr (fun _=>?_) (fun h0=>absurd (by left) h0);refine AK (Mn hT ?_);exact Ac h
def fA{Q:List AD->Ya->Prop}(hh:A.handled=none)(hS:ET prog w s.heap a zs)
 (h:∀vs h' d,(∀v∈vs,∃z t,v=.str z t)->(vs.map tx).Perm zs->(∀b o,s.heap.get? b=some o->h'.get? b=some o)->s.heap.objs.size<h'.objs.size->Q vs {s with heap:=h',drawn:=d}):bt (ax prog w) A (collect (.ref a)) Q E s:=by
 have hT:∀(x:Ya),(∀b o,s.heap.get? b=some o->x.heap.get? b=some o)->x.TypeIs (.ref a) "set" :=fun x e=>by obtain⟨o,es,ep,t,ho,e5,_⟩:=hS;exact⟨o,e _ _ ho,e5.1⟩
 have h7:a<s.heap.objs.size:=by obtain⟨o,es,ep,t,ho,_⟩:=hS;exact A2 ho
 unfold collect;refine AK (wpAny_runValue (J0 entry_proto_collect' ?_));show bt _ _ (do again (.builtin "list.__iadd__" ⟨[<-newList [],.ref a],[]⟩)) _ _ s;refine AK (tQ (Ac ⟨RC _ (by left),J0 entry_list_iadd' ?_⟩));show bt _ _ (Builtin.List.listExtendWith (.ref s.heap.objs.size) (.ref a) (.ref s.heap.objs.size)) _ _ {s with heap:=s.heap.push (qu "list" #[] 0)};generalize e0:s.heap.push (qu "list" #[] 0)=h0;have e1:h0.get? s.heap.objs.size=some (qu "list" #[] 0):=by rw[<-e0];exact CB _ rfl
 have k0:∀b o,s.heap.get? b=some o->h0.get? b=some o:=fun b o e=>by rw[<-e0];exact BC _ e
 have z0:s.heap.objs.size<h0.objs.size:=A2 e1;unfold Builtin.List.listExtendWith;refine AK (Mn (T:="set") (hT {s with heap:=h0} k0) ?_);have h1:Builtin.List.listSameRef (.ref s.heap.objs.size) (.ref a)=false:=by simp[Builtin.List.listSameRef,Fc h7]
 have t1:(Value.type "set" ==Value.type "list")=false:=by decide
 have t2:(Value.type "set" ==Value.type "tuple")=false:=by decide
 simp only[h1,t1,t2,Bool.or_false,DM,Bw];refine AK (lN (s:={s with heap:=h0}) (zs:=zs) hh (hS.at fun o e=>k0 a o e) fun I fp vs St h' d W st keep e4 e2 pm h4 hI=>?_);have h9:s.heap.objs.size∉fp:=fun hm=>by
  rcases e4 _ hm with e|e
  ·exact absurd e (Fc h7)
  ·exact absurd z0 (O7.mpr e)
 have h5:=keep _ _ e1;have done:∀h2 c',(∀b o,b≠s.heap.objs.size->b≠I->h'.get? b=some o->h2.get? b=some o)->h2.get? s.heap.objs.size=some {cls:=.type "list",dict:=none,data:=.seq vs.toArray c',slots:= #[]}->
  bt (ax prog w) A (do
   let o<-load s.heap.objs.size
   match o.data with
   |.seq xs _=>pure xs.toList
   |_=>rT "internal:collect") Q E {s with heap:=h2,drawn:=d}:=fun h2 c' k2 h3=>by
  refine AK (wpAny_load h3 (Ac ?_));refine h _ h2 d (by simpa using e2) (by simpa using pm) (fun b o e=>?_) (A2 h3);have hb:=A2 e;exact k2 b o (BO hb) (fun z=>absurd (z▸hb) (O7.mpr (F4 (C5 z0 hI)))) (keep b o (k0 b o e))
 have n4:vs.length<=sizeLine:=by rw[A8];lia
 refine AK (Fb (gR (hT {s with heap:=h',drawn:=d} fun b o e=>keep b o (k0 b o e)) ?_));have h6:∀(h1:qi)(c1:Nat),St 0 h1->(∀b o,b≠s.heap.objs.size->h'.get? b=some o->h1.get? b=some o)->h1.get? s.heap.objs.size=some {cls:=.type "list",data:=.seq #[] c1}->
  rK (ax prog w) A (.builtin "list.extend.loop" ⟨[.ref s.heap.objs.size,.ref I,.ref s.heap.objs.size],[]⟩) (wants (fun v s'=>bt (ax prog w) A (match v with
   |.ref a=>do
    let o<-load a
    match o.data with
    |.seq xs _=>pure xs.toList
    |_=>rT "internal:collect"
   |_=>rT "internal:collect") Q E s') E) {s with heap:=h1,drawn:=d}:=fun h1 c1 e3 k1 h5=>
  fk (W A.in1 hh) n4 _ h9 _ vs.length 0 _ #[] c1 (by lia) (CC _) e3 h5 (by simp) fun h2 c' k2 h3=>done h2 c' (fun b o b1 b2 e=>k2 b o b1 b2 (k1 b o b1 e)) h3;refine sr (fun _=>?_) (fun _=>Ac ⟨Ow OM _,h6 _ 0 st (fun b o _ e=>e) h5⟩);refine AK (Gm ?_);refine AK ?_;show bt _ _ (updateSeq s.heap.objs.size (·.push .none)>>=fun _=>updateSeq s.heap.objs.size (·.pop)) _ _ _;refine AK (sk (s:={s with heap:=h',drawn:=d}) h5 rfl ?_);have h3:=I9 (Obj.mapSeq (·.push Value.none)) h5 rfl;refine sk (hz:=by seq_fits) h3 rfl ?_;have e6:=I9 (Obj.mapSeq (·.pop)) h3 rfl;refine Ac ⟨Ow OM _,h6 _ _ ?_ (fun b o hb e=>?_) e6⟩
 ·refine(W A hh).frame 0 _ _ st fun b hb o e=>?_;have h8:b≠s.heap.objs.size:=fun h=>h9 (h▸hb);exact(D8 _ _ (DG h8)).trans ((D8 _ _ (DG h8)).trans e)
 ·exact(D8 _ _ (DG hb)).trans ((D8 _ _ (DG hb)).trans e)
end
section
open PySem.W
def gA{f:α->β}{a b:List β}(h:a.Perm b):∀l:List α,b=l.map f->∃l':List α,l'.Perm l/\a=l'.map f:=by
 induction h with
 |nil=>intro l e;exact⟨[],by rw[List.map_eq_nil_iff.mp e.symm],rfl⟩
 |cons x _ ih=>
  intro l e
  match l,e with
  |y::l,e=>obtain⟨e1,e2⟩:=IU e;obtain⟨l',p,q⟩:=ih l e2;exact⟨y::l',p.cons y,by rw[Au,<-q,<-e1]⟩
 |swap x y t=>
  intro l e
  match l,e with
  |u::v::l,e=>obtain⟨e1,e2⟩:=IU e;obtain⟨e3,e4⟩:=IU e2;exact⟨v::u::l,List.Perm.swap ..,by rw[Au,Au,<-e1,<-e3,<-e4]⟩
 |trans _ _ ih1 ih2=>intro l e;obtain⟨l1,p1,q1⟩:=ih2 l e;obtain⟨l2,p2,q2⟩:=ih1 l1 q1;exact⟨l2,p2.trans p1,q2⟩
def iT(vs:List AD):vs=(List.range vs.length).map fun i=>vs.getD i Value.none:=by
 apply K7;intro k;rw[Az];by_cases hk:k<vs.length
 ·rw[VE hk,Ap hk];simp[hk]
 ·rw[F1 (by lia),F1 (by simp;lia)];rfl
open Classical in
noncomputable def Ny(vs:List AD)(r:Nat->Nat)(x:Yf):Nat:=if h:∃i,i<vs.length/\vs.getD i Value.none=x.1 then r (Classical.choose h) else 0
def Sn{vs:List AD}{r:Nat->Nat}(hr:∀i j,i<vs.length->j<vs.length->vs.getD i Value.none=vs.getD j Value.none->r i=r j){x:Yf}(hi:i<vs.length)(e:vs.getD i Value.none=x.1):Ny vs r x=r i:=by have h:∃i,i<vs.length/\vs.getD i Value.none=x.1:=⟨i,hi,e⟩;unfold Ny;rw[dif_pos h];have:=Classical.choose_spec h;exact hr _ _ this.1 hi (this.2.trans e.symm)
def SO{vs:List AD}{x:Yf}(h:x∈(vs.toArray.zip vs.toArray).toList):∃i,i<vs.length/\vs.getD i Value.none=x.1/\x.1=x.2:=by
 have h':x∈vs.zip vs:=by simpa using h
 obtain⟨i,hi,e⟩:=F2.mp h';have hl:i<vs.length:=by simpa using hi
 rw[List.getElem_zip] at e;refine⟨i,hl,?_,by rw[<-e]⟩;rw[Ck,Ap hl,<-e];rfl
def gr{vs:List AD}{P:PySem.Fin->Ya->Prop}(r:Nat->Nat)(ho:s.heap.get? a=some (qu "list" vs.toArray n))(hle:vs.length<=sizeLine)
 (hr:∀i j,i<vs.length->j<vs.length->vs.getD i Value.none=vs.getD j Value.none->r i=r j)
 (hk:2<=vs.length->Nw prog w A vs r {s with heap:=LX s.heap a vs})
 (h:∀p:List Nat,p.Perm (List.range vs.length)->(∀i j,i<=j->j<vs.length->r (p.getD i 0)<=r (p.getD j 0))->P (.done (.ret .none)) {s with heap:=sortedHeap s.heap a vs (Fl vs p).toArray}):
 bt (ax prog w) A (Builtin.«list.sort» ⟨[.ref a],[]⟩) P E s:=by
 have lta:a<s.heap.objs.size:=A2 ho;rw[list_sort_plain];refine AK (listItems_at ho rfl (AK (tU ho rfl ?_ (by rw[CS];lia) (CC _))));obtain⟨e1,h1⟩:∃e1,(s.heap.update a (Obj.mapSeq fun _=>(#[]:Array AD))).get? a=some (qu "list" #[] e1):=⟨_,tD ho fun _=> #[]⟩;refine AK (seqEpoch_at h1 rfl (AK (wpAny_newTuple (AK (tQ (Fb ?_) (CC _))) (by show vs.length<=_;lia))));have h6:(LX s.heap a vs).get? a=some (qu "list" #[] e1):=by unfold LX;rw[Heap.get?_push_ne _ _ _ (by rw[tH,RQ];exact BO (Og lta)),Heap.get?_push_ne _ _ _ (by rw[RQ];exact BO lta)];exact h1
 show bt (ax prog w) A _ P E {s with heap:=LX s.heap a vs};dsimp only;by_cases h2:vs.toArray.size<2
 ·rw[AG h2,AG h2];refine AK (Ac ?_);rw[StateT.run_pure];refine AK (Ac ?_);dsimp only;have hn:vs.length<2:=by simpa using h2
  have e0:Array.map (·.2) (dA (SortSt.mk' general' (vs.toArray.zip vs.toArray) #[] 7 none))=(Fl vs (List.range vs.length)).toArray:=by show Array.map (·.2) (vs.toArray.zip vs.toArray)=_;exact nQ (C:=fun vs:List AD=>Array.map (·.2) (vs.toArray.zip vs.toArray)=(Fl vs (List.range vs.length)).toArray) (by simp[Fl]) (fun _=>by apply Jz.mp;simp[Fl]) hn
  rw[e0];refine AK (seqEpoch_at h6 rfl (AK (tU h6 rfl ?_ (CC _) (by unfold Fl;simp;lia))));simp only[Jy,DM,Bw];exact Ac (h (List.range vs.length) (.refl _) fun i j hij hj=>by
   have e:i=j:=by lia
   rw[e];exact Ae _)
 ·have h2':2<=vs.length:=by
   have:¬vs.length<2:=by simpa using h2
   lia
  rw[AF h2,AF h2];refine AK (C8 (hk h2') (fun κ s' hκ=>?_) fun _ _ x=>x.elim);obtain⟨es,ask⟩:=hκ;subst es;have hzz:(vs.toArray.zip vs.toArray).size=vs.length:=by simp
  have hc:C4 prog w A {s with heap:=LX s.heap a vs} κ (Ny vs r) (vs.toArray.zip vs.toArray):=fun x y hx hy C hC=>by
   obtain⟨i,hi,ei,_⟩:=SO hx;obtain⟨j,hj,ej,_⟩:=SO hy;have:=ask i j C hi hj (by unfold Qw;rw[<-Sn hr hi ei,<-Sn hr hj ej];exact hC);unfold kas_ask at this;rw[ei,ej] at this;exact this
  refine AK (C8 (lD (st:=SortSt.mk' κ (vs.toArray.zip vs.toArray) #[] 7 none) (Q:=fun _ st'=>(dA st').Perm (vs.toArray.zip vs.toArray)/\qp st'=none/\Up (Ny vs r) (dA st') 0 (vs.toArray.zip vs.toArray).size) hc rfl rfl rfl rfl (by lia) fun st' a1 a2 a3=>⟨a1,a2,a3⟩) ?_ fun _ _ e=>e);rintro⟨⟨⟩,st'⟩ s' ⟨rfl,pm,hf,up⟩;dsimp only at pm hf up⊢;have pl:=MF.mp pm;have inx:∀x∈(dA st').toList,∃i,i<vs.length/\vs.getD i Value.none=x.1/\x.1=x.2:=fun x hx=>SO (pl.mem_iff.mp hx);have po:((dA st').toList.map (·.2)).Perm vs:=by
   refine(pl.map _).trans ?_;have e:((vs.toArray.zip vs.toArray).toList.map (·.2))=vs:=by
    have e1:(vs.toArray.zip vs.toArray).toList=vs.zip vs:=by simp
    rw[e1];exact List.map_snd_zip (Ae _)
   rw[e]
  obtain⟨p,pp,ep⟩:=gA po (List.range vs.length) (iT vs);have eo:(dA st').map (·.2)=(Fl vs p).toArray:=by apply Jz.mp;rw[Array.toList_map,ep];rfl
  have plen:p.length=vs.length:=by rw[pp.length_eq,MV]
  rw[eo];refine AK (seqEpoch_at h6 rfl (AK (tU h6 rfl ?_ (CC _) (by unfold Fl;simp;lia))));rw[hf];simp only[Jy,DM,Bw];refine Ac (h p pp fun i j hij hj=>?_);have sz:(dA st').size=vs.length:=by rw[pm.size_eq,hzz]
  have at_:∀k,k<vs.length->kv (Ny vs r) (dA st') k=r (p.getD k 0):=fun k hk'=>by
   have hk1:k<(dA st').size:=by lia
   have hm:=getD_mem (arr:=dA st') hk1;obtain⟨i0,hi0,ei0,e12⟩:=inx _ hm;have hpk:p.getD k 0<vs.length:=by rw[Ck,Ap (by lia)];exact HZ.mp (pp.mem_iff.mp (EZ _))
   refine Sn hr hpk ?_;have:((dA st').toList.map (·.2))[k]? =some ((dA st').getD k dK).2:=by rw[Az,Gd,F3 _ k hk1,Gb,F3 _ k hk1];rfl
   rw[ep,Az] at this;rw[Ap (by lia)] at this;have t2:=Ag this;rw[e12,<-t2,Ck (l:=p),Ap (by lia)];rfl
  have:=up i j (CC _) hij (by lia);rw[at_ i (by lia),at_ j hj] at this;exact this
def VW{x:AD}
 (hcol:bt (ax prog w) A.in1 (collect x) (fun vs s1=>vs.length<=1000000/\∃r:Nat->Nat,(∀i j,i<vs.length->j<vs.length->vs.getD i Value.none=vs.getD j Value.none->r i=r j)/\
  (2<=vs.length->∀h':qi,(∀b o,s1.heap.get? b=some o->h'.get? b=some o)->Nw prog w A.in1.in1 vs r {s1 with heap:=h'})/\
  ∀(p:List Nat) h2 e,p.Perm (List.range vs.length)->(∀i j,i<=j->j<vs.length->r (p.getD i 0)<=r (p.getD j 0))->(∀b o,s1.heap.get? b=some o->h2.get? b=some o)->h2.get? s1.heap.objs.size=some (qu "list" (Fl vs p).toArray e)->Q (.ref s1.heap.objs.size) {s1 with heap:=h2}) E s):
 bt (ax prog w) A (call (.builtin "sorted") [x]) Q E s:=by
 refine Calls.call_function_entry kind_sorted plain_sorted entry_sorted (args_sorted1 _) ?_;unfold Builtin.«sorted»;refine AK (m:=checkCount "sorted" 1 1 _) (Ac (AK (C8 hcol (fun vs s1 hs=>?_) fun _ _ z=>z)));obtain⟨hl,r,hr,hk,h⟩:=hs;have hle:vs.length<=sizeLine:=by rw[A8];lia
 refine AK (tQ ?_ hle);have ho:(s1.heap.push (qu "list" vs.toArray 0)).get? s1.heap.objs.size=some (qu "list" vs.toArray 0):=CB _ rfl;have z:(s1.heap.push (qu "list" vs.toArray 0)).objs.size=s1.heap.objs.size+1:=tH ..;show bt _ _ _ _ _ {s1 with heap:=s1.heap.push (qu "list" vs.toArray 0)};refine AK (Fb (MX slot_list_sort ⟨_,ho,rfl⟩ entry_list_sort (gr r ho hle hr (fun h2=>?_) fun p a1 a2=>⟨_,rfl,?_⟩) (args_list_sort _)))
 ·refine hk h2 _ fun b o q=>?_;have lt:=A2 q;unfold LX;refine BC _ (BC _ ?_);rw[ML _ _ _ _ (BO lt)];exact BC _ q
 ·unfold sortedHeap;obtain⟨e1,h1⟩:∃e1,((s1.heap.push (qu "list" vs.toArray 0)).update s1.heap.objs.size (Obj.mapSeq fun _=>(#[]:Array AD))).get? s1.heap.objs.size=some (qu "list" #[] e1):=⟨_,tD ho fun _=> #[]⟩;have h2:=BC (qu "list" #[] 0) (BC (qu "tuple" vs.toArray 0) h1);refine Ac ⟨_,rfl,h p _ _ a1 a2 (fun b o q=>?_) (tD h2 fun _=>_)⟩;have lt:=A2 q;rw[ML _ _ _ _ (BO lt)];refine BC _ (BC _ ?_);rw[ML _ _ _ _ (BO lt)];exact BC _ q
def eM(I:Inv X pins σ H s)(d:Drawn):Inv X pins σ H {s with drawn:=d}:=
 ⟨I.ok,I.os,I.bare,I.base,I.loc,I.cell,I.free,I.DH,I.pin,I.hok,I.len⟩
def ZR(zs:List α)(d:α):(List.range zs.length).map (fun i=>zs.getD i d)=zs:=by
 apply K7;intro k;rw[Az];by_cases hk:k<zs.length
 ·rw[VE hk,Ap hk];simp[hk]
 ·rw[F1 (by simp;lia),F1 (by lia)];rfl
def sorted_strs{Q:VK}{x:AD}{zs0:List Str}(I:Inv X pins σ H s)(hz:zs0.length<=1000000)
 (hcol:∀Q':List AD->Ya->Prop,(∀(vs:List AD)(zs:List Str) h' tk d,Vals (zs.map V.str) vs->zs.Perm zs0->(∀b o,s.heap.get? b=some o->h'.get? b=some o)->s.heap.objs.size<=h'.objs.size->Q' vs {s with heap:=h',toks:=tk,drawn:=d})->bt (ax X.prog X.w) X.A.in1 (collect x) Q' X.xe s)
 (q:∀(D:OK)(ys:List Str),H D=none->ys.Perm zs0->ys.Pairwise (fun a b=>OC b a=false)->Q (.ref D) (upd H D (.lst (ys.map V.str)))):
 bt (ax X.prog X.w) X.A (call (.builtin "sorted") [x]) (EP X pins σ Q) X.xe s:=by
 refine VW (hcol _ fun vs zs h' tk d rv pz kp sz=>?_);have hl:zs.length=vs.length:=by rw[<-rv.length,AJ]
 have h7:zs.length=zs0.length:=pz.length_eq;refine⟨by lia,MA zs,fun i j hi hj e=>?_,fun h2 h9 h5=>iA rv h2,fun p h2 e pp h6 h5 hD=>?_⟩
 ·obtain⟨t1,e1⟩:=Lh rv (k:=i) (by lia);obtain⟨t2,e2⟩:=Lh rv (k:=j) (by lia);rw[e1,e2] at e;unfold MA;rw[(Value.str.inj e).1]
 ·rw[<-hl] at pp h6;have h4:∀i∈p,i<zs.length:=fun i hi=>HZ.mp (pp.mem_iff.mp hi);have h3:p.length=zs.length:=by rw[pp.length_eq,MV]
  have h0:Vals ((p.map fun i=>zs.getD i "").map V.str) (Fl vs p):=by
   unfold Fl;refine Pl (by simp) fun i x u h1 h2=>?_;rw[Bo,Az] at h1;rw[Az] at h2
   cases e:p[i]?with
   |none=>rw[e] at h1;cases h1
   |some k=>
   rw[e] at h1 h2;cases Ag h1;cases Ag h2;obtain⟨t,et⟩:=Lh rv (h4 k (CA e));exact⟨t,et⟩
  have I1:=I.laid (t':=tk) (h':=h2) (a:=h'.objs.size) (o:=.lst ((p.map fun i=>zs.getD i "").map V.str)) (fun b ob z=>h5 b ob (kp b ob z)) sz
   ⟨by rw[AJ,AJ,h3,A8];lia,_,e,h0,hD⟩;refine⟨.ref h'.objs.size,_,eM I1 d,rfl,q _ _ (I.hok.fresh sz) ?_ ?_⟩
  ·have:=pp.map fun i=>zs.getD i "";rw[ZR] at this;exact this.trans pz
  ·rw[MU,ON];intro i j hi hj h8;have h1:=h6 i j (by lia) (by lia);rw[Ck,Ap hi,Ck,Ap hj] at h1;have e3:=Pf Hk zs (a:=zs.getD p[j] "") (b:=zs.getD p[i] "") (Wi (h4 _ (EZ hj)));have e5:OC (zs.getD p[j] "") (zs.getD p[i] "")=decide (MA zs p[j]<MA zs p[i]):=e3;rw[e5];exact BN (by simpa using h1)
def cf:Du X (.builtin "sorted") (lM X.K):=by
 intro h1 s σ H xs us Q I r h;obtain⟨l,zs,rfl,hq,h2,q⟩:=h;obtain⟨u,rfl,rx⟩:=vals1 r;cases rx;obtain⟨h0,rv,pl,hz⟩:=I.list hq;have hl:zs.length=h0.length:=by rw[<-rv.length,AJ]
 refine sorted_strs I (zs0:=zs) (by lia) (fun Q' hQ=>collect_list (A:=X.A.in1) pl.isList (hQ h0 zs _ s.toks s.drawn rv (.refl _) (fun b ob z=>?_) ?_) (by rw[A8];lia)) q
 ·show((s.heap.push (qu "list" #[] 0)).update s.heap.objs.size _).get? b=some ob;rw[ML _ _ _ _ (BO (A2 z))];exact BC _ z
 ·rw[RQ,tH];exact Eb _
noncomputable def L9(P:qf)(w:qj)(D:OK)(zs:List Str):HO:=.ext fun h=>ET P w h D zs
def om(P:qf)(w:qj)(K:tW):List V->Hp->VK->Prop:=fun xs H Q=>∃(a:OK)(ys:List Str),xs=[.ref a]/\AS K H a (ys.map V.str)/\ys.length<=1000/\∀D,H D=none->Q (.ref D) (upd H D (L9 P w D (Dv [] ys)))
def dU(hP:X.prog=P)(hw:X.w=w)(hK:X.K=K)(hc:X.calm=true):Du X (.type "set") (om P w K):=by
 subst hP;subst hw;subst hK;intro h3 s σ H xs us Q I r h;obtain⟨a,ys,rfl,ha,hz,q⟩:=h;obtain⟨u,rfl,rx⟩:=vals1 r;cases rx;obtain⟨h0,rv,pl,_⟩:=I.tuple ha;have hh:X.A.handled=none:=I.ok.hd hc;have hl:ys.length=h0.length:=by rw[<-rv.length,AJ]
 refine bu (items:=h0.toArray) (ys:=ys) hh pl (by simpa using hl) (fun i v z h1 h2=>?_) (by unfold rF;simp;lia) fun h' tk hS kp=>?_
 ·have e:(ys.map V.str)[i]? =some (V.str z):=by rw[Az,h2];rfl
  obtain⟨u,hu,t,ht⟩:=rv.get e;rw[U5,hu] at h1;cases Ag h1;exact⟨t,ht⟩
 ·have h4:=hS;obtain⟨o,es,ep,t,ho,_⟩:=hS;have I1:=I.laid (t':=tk) (h':=h') (a:=s.heap.objs.size) (o:=.ext fun h=>ET X.prog X.w h s.heap.objs.size (Dv [] ys)) kp (Ae _)
   ⟨h4,⟨o,ho⟩,fun h1 h2 x e=>x.at e⟩;exact⟨.ref s.heap.objs.size,_,I1,rfl,q _ (I.hok.fresh (Ae _))⟩
def kH(P:qf)(w:qj):List V->Hp->VK->Prop:=fun xs H Q=>∃(a:OK)(zs:List Str),xs=[.ref a]/\H a=some (L9 P w a zs)/\
 ∀(D:OK)(ys:List Str),H D=none->ys.Perm zs->ys.Pairwise (fun a b=>OC b a=false)->Q (.ref D) (upd H D (.lst (ys.map V.str)))
def cT(hP:X.prog=P)(hw:X.w=w)(hc:X.calm=true):Du X (.builtin "sorted") (kH P w):=by
 subst hP;subst hw;intro h0 s σ H xs us Q I r h;obtain⟨a,zs,rfl,ha,q⟩:=h;obtain⟨u,rfl,rx⟩:=vals1 r;cases rx;have hh:X.A.handled=none:=I.ok.hd hc;have hS:ET X.prog X.w s.heap a zs:=(I.hok a _ ha).1;have hz:zs.length<=1000000:=by
  obtain⟨o,es,ep,t,_,_,_,_,_,_,hb,_⟩:=hS;have:rF=4096:=rfl
  lia
 refine sorted_strs I hz (fun Q' hQ=>fA (A:=X.A.in1) hh hS fun vs h' d tv pm kp sz=>hQ vs (vs.map L2.tx) h' s.toks d (Pl (by simp) fun i x u h1 h2=>?_) pm kp (F4 sz)) q;rw[Bo,Az,h2] at h1;cases Ag h1;obtain⟨z,t,rfl⟩:=tv u (CA h2);exact⟨t,rfl⟩
def kE(K:tW):List V->Hp->VK->Prop:=fun xs H Q=>∃(l:OK)(ps:List (OK×List Key))(sh:List Bool),xs=[.ref l]/\AL K H l (ps.map fun p=>V.ref p.1)/\sh≠[]/\(∀p∈ps,H p.1=some (.tup (p.2.map kV))/\p.2.map kd=sh)/\ps.length<=1000000/\
 ∀(D:OK)(qs:List (OK×List Key)),H D=none->qs.Perm ps->qs.Pairwise (fun a b=>DJ b.2 a.2=false)->Q (.ref D) (upd H D (.lst (qs.map fun p=>V.ref p.1)))
def Rt:Du X (.builtin "sorted") (kE X.K):=by
 intro h4 s σ H xs us Q I r h;obtain⟨l,ps,sh,rfl,hq,h8,hp,hz,q⟩:=h;obtain⟨u,rfl,rx⟩:=vals1 r;cases rx;obtain⟨h9,rv,pl,_⟩:=I.list hq;have ei:=V6 rv;subst ei;have hl:(ps.map fun p=>Value.ref p.1).length=ps.length:=AJ ..;have gi:∀k,k<ps.length->(ps.map fun p=>Value.ref p.1).getD k Value.none=Value.ref (ps.getD k (0,[])).1:=fun k hk=>by rw[Ck,Az,Ap hk,Ck,Ap hk];rfl
 have mi:∀k,k<ps.length->ps.getD k (0,[])∈ps:=fun k hk=>by rw[Ck,Ap hk];exact EZ hk
 refine VW (collect_list (A:=X.A.in1) pl.isList ⟨by lia,Kq ps,fun i j hi hj e=>?_,fun h2 h' kp=>?_,fun p h2 e pp h6 h7 hD=>?_⟩ (by rw[A8];lia))
 ·rw[hl] at hi hj;rw[gi i hi,gi j hj] at e;have e1:=(hp _ (mi i hi)).1;rw[Value.ref.inj e,(hp _ (mi j hj)).1] at e1;have e2:=Xd (HO.tup.inj (Ag e1));unfold Kq FC;rw[e2]
 ·refine gS (sh:=sh) (fun x hx=>?_) (fun x hx=>(hp x hx).2) h8 (by lia);obtain⟨_,us,ru,o,h1,h2,n,h3⟩:=(show BV X.prog X.w H s.heap x.1 (.tup (x.2.map kV)) from I.hok x.1 _ (hp x hx).1);refine⟨us,ru,o,kp _ _ ?_,h2,n,h3⟩;show((s.heap.push (qu "list" #[] 0)).update s.heap.objs.size _).get? x.1=some o;rw[ML _ _ _ _ (BO (A2 h1))];exact BC _ h1
 ·rw[hl] at pp h6;have h5:∀i∈p,i<ps.length:=fun i hi=>HZ.mp (pp.mem_iff.mp hi);have h0:p.length=ps.length:=by rw[pp.length_eq,MV]
  have eo:Fl (ps.map fun p=>Value.ref p.1) p=(p.map fun i=>ps.getD i (0,[])).map fun p=>Value.ref p.1:=by unfold Fl;rw[Bo];exact Ew fun i hi=>gi i (h5 i hi)
  rw[eo] at hD;have z:((s.heap.push (qu "list" #[] 0)).update s.heap.objs.size (Obj.mapSeq (·++(ps.map fun p=>Value.ref p.1).toArray))).objs.size=s.heap.objs.size+1:=by rw[RQ,tH]
  have I1:=I.laid (t':=s.toks) (h':=h2) (a:=s.heap.objs.size+1) (o:=.lst ((p.map fun i=>ps.getD i (0,[])).map fun p=>V.ref p.1)) (fun b ob q=>h7 b ob (by show((s.heap.push (qu "list" #[] 0)).update s.heap.objs.size _).get? b=some ob;rw[ML _ _ _ _ (BO (A2 q))];exact BC _ q)) (Eb _)
   ⟨by rw[AJ,AJ,h0,A8];lia,_,e,Vp _,by rw[<-z];exact hD⟩;show EP X h4 σ Q _ _;dsimp only;rw[z];refine⟨.ref (s.heap.objs.size+1),_,I1,rfl,q _ _ (I.hok.fresh (Eb _)) ?_ ?_⟩
  ·have:=pp.map fun i=>ps.getD i (0,[]);rw[ZR] at this;exact this
  ·rw[MU,ON];intro i j hi hj e0;have h1:=h6 i j (by lia) (by lia);rw[Ck,Ap hi,Ck,Ap hj] at h1;have e3:=Pf lexOrd (ps.map (·.2)) (a:=FC ps p[j]) (b:=FC ps p[i]) (WS (h5 _ (EZ hj)));have e5:DJ (FC ps p[j]) (FC ps p[i])=decide (Kq ps p[j]<Kq ps p[i]):=e3;show DJ (FC ps p[j]) (FC ps p[i])=false;rw[e5];exact BN (by simpa using h1)
end
abbrev OI:g0:=Vy
abbrev az:g0:=VX
abbrev bH:g0:=Vo
noncomputable def Er(c:Nat):Bool:=(!decide (([c]:List Nat)<("a" :Str).cps.toList))&&(!decide (("z" :Str).cps.toList<[c]))
def isNm(w:Str):Bool:=(!decide (w=""))&&w.cps.toList.all Er
noncomputable def Lz(w:Str):Str:=Txt.slice w (some 1) (some (-1))
def Hy(w:Str):Bool:=Txt.startswith w "[" &&(Txt.endswith w "]" &&isNm (Lz w))
def D7(w:Str):Str×Str:=if Hy w=true then("to",Lz w) else("word",w)
noncomputable def CQ(t:Str):List Str:=(Txt.split t " ").filter fun p=> !decide (p="")
def Uj(w:Str):Dt:=.tup [.str (D7 w).1,.str (D7 w).2]
def QK:Sp:=fun vs H Q _=>∃w:Str,vs=[.str w]/\w.length<=100000/\∀H',AO H H'->Q (.bl (isNm w)) H'
def aJ:Sp:=fun vs H Q _=>∃w:Str,vs=[.str w]/\w.length<=100000/\∀p H',AO H H'->H p=none->H' p=some (.tup [.str (D7 w).1,.str (D7 w).2])->Q (.ref p) H'
def Zy:Sp:=fun vs H Q _=>∃t:Str,vs=[.str t]/\t.length<=10000/\∀D H',AO H H'->Rep H' (.lst ((CQ t).map Uj)) (.ref D)->Q (.ref D) H'
def pM:A9 ["word"] ["word"] (Aq OI):=by left
def To(F:Ak K "is_name" "is_name" OI f fd)(hall:mg "all" =none):AY P w K mg base Aj 1 f fd ["word"] QK:=by
 refine F.ok pM ?_ ?_
 ·rintro _ _ _ _ ⟨_,rfl,_⟩;rfl
 ·rintro _ A _ s H _ Q E hr ⟨x,rfl,hx,k⟩;refine⟨_,AU (As (Pu (Ia GH (pv 0) AZ (Am _))
   (Pt (BZ (iL rfl) rfl hall boot_all (AB (E4 (ts:=["sign"]) (cap:=[]) (ix:=[]) (cl:=[]) (JJ rfl rfl (by left) (by left)) (Yd (pv 0))
    (fun _ _ _ _ _=>Bg (i:=0) K2 rfl (Aa rfl) (Cc rfl)) (fun _ _ _ _ _=>Gs) (fun _ _ _ _ _=>gY Vt Vt AZ (pv 0) AZ (by with_unfolding_all rfl))) AI))))),?_⟩;refine⟨_,rfl,rfl,_,rfl,?_⟩;by_cases e:x=""
  ·refine EN (by rw[e]) ?_;have:isNm x=false:=by unfold isNm;rw[Bb e];rfl
   have q:=k H (AO.refl H);rw[this] at q;exact q
  ·refine HD (fun z=>e (V.str.inj z)) ?_;have en:isNm x=x.cps.toList.all Er:=by unfold isNm;rw[BN e];rfl
   have el:x.cps.toList.length<=100000:=by simpa[Str.length] using hx
   refine⟨_,rfl,x,rfl,fun D hD=>XM (fun i H'=>i<=x.cps.toList.length/\H'=upd H D (.lst ((x.cps.toList.take i).map fun c=>.bl (Er c)))) ⟨CC _,rfl⟩ ?_ ?_⟩
   ·rintro i c H' hc ⟨hi,rfl⟩;have h2:i<x.cps.toList.length:=(BY.mp hc).1;refine⟨FH,_,rfl,_,_,rfl,rfl,_,rfl,?_⟩;have h0:∀b:Bool,b=Er c->∃ys,(upd H D (.lst ((x.cps.toList.take i).map fun c=>.bl (Er c)))) D=some (.lst ys)/\ys.length<sizeLine/\
     i+1<=x.cps.toList.length/\upd (upd H D (.lst ((x.cps.toList.take i).map fun c=>.bl (Er c)))) D (.lst (ys++[V.bl b]))=upd H D (.lst ((x.cps.toList.take (i+1)).map fun c=>.bl (Er c))):=by
     rintro b rfl;refine⟨_,AM,?_,h2,?_⟩
     ·rw[AJ,Be,A8]
      lia
     ·rw[JT,C6,hc,BF];rfl
    by_cases h1:([c]:List Nat)<("a" :Str).cps.toList
    ·refine EN h1 ?_;exact h0 false (by unfold Er;rw[Bb h1];rfl)
    ·refine HD h1 ?_;refine⟨_,_,rfl,rfl,?_⟩;exact h0 _ (by unfold Er;rw[BN h1];rfl)
   ·rintro H' ⟨_,rfl⟩;refine⟨D,x.cps.toList.map Er,rfl,AL.of ?_,?_⟩
    ·rw[AM,CT,Bo];rfl
    ·have q:=k _ (Af (o:=.lst ((x.cps.toList.take x.cps.toList.length).map fun c=>.bl (Er c))) hD);rw[en] at q;have ea:(x.cps.toList.map Er).all id=x.cps.toList.all Er:=by rw[List.all_map];rfl
     rw[ea];exact q
def Z0:A9 ["word","inner"] ["word"] (Aq az):=by left
variable{fdI:qk}
def mv(F:Ak K "read_word" "read_word" az f fd)(FI:Ak K "is_name" "is_name" OI fI fdI)(bI:Binds K fdI ["word"] [])(mI:mg "is_name" =some (.ref fI))(hall:mg "all" =none):
 AY P w K mg base Aj 2 f fd ["word"] aJ:=by
 have GI:AY P w K mg base Aj 1 fI fdI ["word"] QK:=To FI hall;refine F.ok Z0 ?_ ?_
 ·rintro _ _ _ _ ⟨_,rfl,_⟩;rfl
 ·rintro _ A _ s H _ Q E hr ⟨x,rfl,hx,k⟩;have h1:x.length<=sizeLine:=by rw[A8];lia
  have h2:(Lz x).length<=100000:=BJ (Oy x _ _) hx;refine⟨_,AR (Av (i:=1) Z0.nd rfl (Aa rfl) (Ed Li (pv 0) (DF AV) (DF (EL EK AV))))
   (AR (A0 (PW.pt (Eh (Eg (Jb OT PySem.F.slot_str_startswith PySem.F.type_str_startswith du (pv 0) (AB AZ AI)))
    (Eh (Eg (Jb OT PySem.F.slot_str_endswith PySem.F.type_str_endswith j4 (pv 0) (AB AZ AI)))
    (GB (Eg (Ca GI hr rfl mI FI.kp bI .nil BH (AB (pv 1) AI)))))))
    (AU (As (Bs (AB AZ (AB (pv 1) AI))))) BE)
   (AU (As (Bs (AB AZ (AB (pv 0) AI)))))),?_⟩;refine⟨_,rfl,_,rfl,_,rfl,_,rfl,x,rfl,h1,?_⟩;have h0:Hy x=false->∀H1,AO H H1->∀p,H1 p=none->Q (.ref p) (upd H1 p (.tup [.str "word",.str x])):=fun e H1 s1 p hp=>by
   have er:D7 x=(("word" :Str),x):=by unfold D7;rw[e];rfl
   refine k p _ (s1.upd (s1.free hp)) (s1.free hp) ?_;rw[AM,er]
  refine⟨_,rfl,rfl,_,_,rfl,rfl,_,rfl,?_⟩
  cases e1:Txt.startswith x "[" with
  |false=>refine BK (BK ⟨_,rfl,by exact zv,h0 (by unfold Hy;rw[e1];rfl) H (AO.refl H)⟩)
  |true=>
   refine Bk ⟨_,rfl,rfl,_,_,rfl,rfl,_,rfl,?_⟩
   cases e2:Txt.endswith x "]" with
   |false=>refine BK (BK ⟨_,rfl,by exact zv,h0 (by unfold Hy;rw[e1,e2];rfl) H (AO.refl H)⟩)
   |true=>
    refine Bk ⟨_,rfl,Lz x,rfl,h2,fun H1 s1=>⟨_,rfl,?_⟩⟩
    cases e3:isNm (Lz x) with
    |false=>refine BK ⟨_,rfl,by exact zv,h0 (by unfold Hy;rw[e1,e2,e3];rfl) H1 s1⟩
    |true=>
     refine Bk ⟨_,rfl,by exact zv,fun p hp=>?_⟩;have er:D7 x=(("to" :Str),Lz x):=by unfold D7 Hy;rw[e1,e2,e3];rfl
     refine k p _ (s1.upd (s1.free hp)) (s1.free hp) ?_;rw[AM,er];rfl
def VP(t p:Str)(h:p∈Txt.split t " "):p.length<=t.length:=by
 have hw:=Mo t " " (by decide);have h2:p.length<=((Txt.split t " ").map (·.length)).sum:=by
  generalize Txt.split t " " =L at h
  induction L with
  |nil=>cases h
  |cons a r ih=>
   rw[Au,Bv];rcases BI.mp h with e|e
   ·subst e;lia
   ·have:=ih e;lia
 have h3:1<=(Txt.split t " ").length:=OU h
 lia
def qA:A9 ["text"] ["text"] (Aq bH):=by left
def mY(F:Ak K "split_up" "split_up" bH f fd)(HR:Hv P w K mg base "read_word" 2 ["word"] aJ):
 AY P w K mg base Aj 3 f fd ["text"] Zy:=by
 refine F.ok qA ?_ ?_
 ·rintro _ _ _ _ ⟨_,rfl,_⟩;rfl
 ·rintro _ A _ s H _ Q E hr ⟨x,rfl,hx,k⟩;refine⟨_,AU (As (E4 (ts:=["piece"]) (cap:=[]) (ix:=[]) (cl:=[]) (JJ rfl rfl (by left) (by left))
   (Gv (Jb OT uF uG W2 (pv 0) (AB AZ AI)))
   (fun _ _ _ _ _=>Bg (i:=0) K2 rfl (Aa rfl) (Cc rfl)) (fun _ _ _ _ _=>La (Ar GH (pv 0) AZ (Am _)))
   (fun _ _ _ _ _=>DL HR hr rfl BH (AB (pv 0) AI)))),?_⟩;have h8:(Txt.split x " ").length<=10001:=by
   have:=Mo x " " (by decide)
   lia
  refine⟨_,rfl,rfl,x,_,rfl,rfl,by left,by rw[A8];lia,fun D0 h3=>?_⟩;refine⟨D0,rfl,⟨_,AL.of AM⟩,fun D hD=>?_⟩;have h1:D0≠D:=A7 AM hD;have h2:H D=none:=(Af h3).free hD;refine F5 (xs:=(Txt.split x " ").map V.str) (fun i H'=>AO H H'/\H' D0=some (.lst ((Txt.split x " ").map V.str))/\∃ys,H' D=some (.lst ys)/\ys.length<=i/\
   Ab (Ex H' D) ((((Txt.split x " ").take i).filter fun p:Str=> !decide (p="")).map Uj) ys) ?_ ?_ ?_ ?_
  ·refine⟨((AO.refl H).upd h3).upd h2,?_,[],AM,Ae _,Ab.nil⟩;rw[AN h1,AM]
  ·rintro i H' _ ⟨_,h0,_⟩;exact AL.of h0
  ·rintro i v H' hv ⟨sm,h0,ys,hy,h9,rp⟩;rw[Az] at hv
   cases ep:(Txt.split x " ")[i]?with
   |none=>rw[ep] at hv;cases hv
   |some pc=>
    rw[ep] at hv;obtain rfl:V.str pc=v:=Ag hv;have hi:i<(Txt.split x " ").length:=(BY.mp ep).1;have h5:pc.length<=100000:=by
     have:=VP x pc (CA ep)
     lia
    refine⟨FH,⟨_,rfl,rfl,_,rfl,?_⟩⟩;by_cases e:pc=""
    ·refine EN (by rw[e]) ⟨sm,h0,ys,hy,by lia,?_⟩;rw[C6,ep,MO];have:(Option.toList (some pc)).filter (fun p:Str=> !decide (p=""))=[]:=by rw[e];rfl
     rw[this,Cp];exact rp
    ·refine HD (fun z=>e (V.str.inj z)) ⟨_,rfl,pc,rfl,h5,fun p H2 s2 hp h7=>?_⟩;have h6:p≠D:=(A7 hy hp).symm;have h4:H2 D=some (.lst ys):=s2 _ _ hy;refine⟨ys,h4,by rw[A8];lia,(sm.trans s2).upd h2,by rw[AN h1];exact s2 _ _ h0,ys++[.ref p],AM,by rw[An,Cm];lia,?_⟩;rw[C6,ep,MO];have:(Option.toList (some pc)).filter (fun p:Str=> !decide (p=""))=[pc]:=by show List.filter (fun p:Str=> !decide (p="")) [pc]=[pc];rw[Et (by simpa using e)];rfl
     rw[this,BF,Ex.upd];refine(rp.same (Ex.mono s2)).snoc ?_;refine Rep.FT (Ex.at h7 h6) ?_;exact(Ab.snoc (Ab.snoc Ab.nil (Rep.str _)) (Rep.str _))
  ·rintro H' ⟨sm,_,ys,hy,_,rp⟩;rw[AJ,CT] at rp;exact k D H' sm (Rep.IE hy (rp.same Ex.sub))
structure Io(K:tW)(mg:Str->Option AD)(cR fR:OK):Prop where
 mR:mg "Refusal" =some (.ref cR)
 rd:readsIn K cR (.type "type")=true
 fi:findCls K (.ref cR) (.type "type") "__init__" =some (.val (.ref fR))
 sp:sY K (.ref cR) "__getattribute__" =some (some (.builtin "type.__getattribute__"))
 kp:rC K (.ref fR)=true
 cat:Tv K cR
def Il(K:tW):Sp:=fun vs H Q _=>∃e C ws h0,vs=[.ref e,.str h0]/\H e=some (xO e C none ws)/\Dc K C "answer" /\∀D,H D=none->D≠e->Q .BB (upd (upd H D (.xd [("answer",.str h0)])) e (xO e C (some D) ws))
def nW:A9 ["self","answer"] ["self","answer"] (Aq J1):=by left
def mG(F:Ak K "__init__" "Refusal.__init__" J1 f fd):AY P w K mg base Aj 1 f fd ["self","answer"] (Il K):=by
 refine F.ok nW ?_ ?_
 ·rintro _ _ _ _ ⟨_,_,_,_,rfl,_⟩;rfl
 ·rintro _ A _ s H _ Q E hr ⟨e,C,ws,h0,rfl,he,xa,q⟩;refine⟨_,(AU (jW (pv 0) (pv 1) rfl)),?_⟩;exact⟨_,rfl,_,rfl,e,C,ws,rfl,he,xa,fun d hd ne=>q d hd ne⟩
variable{fR cR:OK}{fdR:qk}
def Lj{st:g0}{p1 p2 p3 p4 p5 p6:Pos}(F:Ak K "__init__" qual st f fd)(S:A9 ["self"] ["self"] (Aq st))
 (hb:E3 st=[.Expr (.Call (.Attribute (.Name "Refusal" p1) "__init__" p2) [.Name "self" p3,.Constant (.str msg) k p4] [] p5) p6])(hg:(Aq st).names.lookup ("Refusal" :Str)=some .globalImplicit)(hs:(Aq st).names.lookup ("self" :Str)=some .local)
 (T:Io K mg cR fR)(G:AY P w K mg base Aj 1 fR fdR ["self","answer"] (Il K))(bR:Binds K fdR ["self","answer"] [])(xa:Dc K C "answer")
 (ht:∀env:Env,∃pl:Sem Bool,qh (.Call (.Attribute (.Name "Refusal" p1) "__init__" p2) [.Name "self" p3,.Constant (.str msg) k p4] [] p5) env=(do
  let ov<-qh (.Name "Refusal" p1) env
  standAt p2.atName
  let(f,first)<-sO [ov] (sg ov "__init__" pl)
  callWith p5 f first (qt p5 (dq [.Name "self" p3,.Constant (.str msg) k p4] env)) (rh p5 (rG [] env)))):AY P w K mg base Aj 2 f fd ["self"] (Fj C "answer" msg):=by
 refine F.ok S (fun vs H Q E h=>?_) (fun h2 A h0 s H vs Q E hr h=>?_)
 ·obtain⟨e,ws,rfl,_⟩:=h;rfl
 ·obtain⟨e,ws,rfl,he,q⟩:=h;rw[hb];obtain⟨pl,h1⟩:=ht (Jf Aj P w K mg base ["self"] qual (Aq st) f h2 A h0 s H E).env;refine⟨_,(AU (Bf (gz (pl:=pl) hg T.mR T.rd T.fi T.sp T.kp G hr bR .nil BH (AB (pv 0 (hv:=Aa hs)) (AB AZ AI)) (ht:=h1)))),?_⟩;exact⟨_,rfl,e,C,ws,msg,rfl,he,xa,fun D hD ne=>q D hD ne⟩
structure Rz(P:qf)(w:qj)(K:tW)(mg:Str->Option AD)(base:qi)(cR:OK)(x msg:Str):Prop where
 ex:∃C fI fd bm,mg x=some (.ref C)/\Um K C fI bm/\AY P w K mg base Aj 2 fI fd ["self"] (Fj C "answer" msg)/\Binds K fd ["self"] []/\UI K C cR/\Dc K C "answer"
def Xw(K:tW)(cR:OK)(E:XK)(H:Hp)(msg:Str):Prop:=∀C D H',UI K C cR->Dc K C "answer" ->AO H H'->H' D=some (.xd [("answer",.str msg)])->E (.ref C) (some D) H'
def Xw.mono{E:XK}(h:Xw K cR E H msg)(s:AO H H1):Xw K cR E H1 msg:=fun C D H' a b c d=>h C D H' a b (s.trans c) d
def Ke{E:XK}{np:Pos}(R:Rz P w K mg base cR x msg)
 (hr:Bn (k+3) (GQ P w K mg base N qual scope f cd A outer s H E).A)(hg:Gl (GQ P w K mg base N qual scope f cd A outer s H E) x)(hdb:(x==("__debug__" :Str))=false:=by decide):
 PS (GQ P w K mg base N qual scope f cd A outer s H E) (.Raise (some (.Call (.Name x np) [] [] cpos)) none pos) (fun _ _ H=>Xw K cR E H msg):=by
 obtain⟨C,fI,fd,bm,hm,M,F,hb,xs,xa⟩:=R.ex;have h1:Bn (2+1) (GQ P w K mg base N qual scope f cd A outer s H E).A:=hr.mono (by lia);intro h0 s1 σ H1 D I h;refine fj M F h1 hg hm hb hdb h0 s1 σ H1 D I fun e D' ws he hD ne=>h C D' _ xs xa ?_ ?_
 ·exact AO.trans (Af hD) (Af (by rw[AN (DG ne)];exact he))
 ·rw[AN ne,AM]
def iO:A9 ["self"] ["self"] (Aq RZ):=by left
def eY(F:Ak K "__init__" "NoPage.__init__" RZ f fd)(T:Io K mg cR fR)(G:AY P w K mg base Aj 1 fR fdR ["self","answer"] (Il K))(bR:Binds K fdR ["self","answer"] [])(xa:Dc K C "answer"):
 AY P w K mg base Aj 2 f fd ["self"] (Fj C "answer" "no page"):=Lj F iO rfl rfl rfl T G bR xa (fun _=>⟨_,rfl⟩)
def gb:A9 ["self"] ["self"] (Aq Ra):=by left
def eB(F:Ak K "__init__" "NoName.__init__" Ra f fd)(T:Io K mg cR fR)(G:AY P w K mg base Aj 1 fR fdR ["self","answer"] (Il K))(bR:Binds K fdR ["self","answer"] [])(xa:Dc K C "answer"):
 AY P w K mg base Aj 2 f fd ["self"] (Fj C "answer" "no name"):=Lj F gb rfl rfl rfl T G bR xa (fun _=>⟨_,rfl⟩)
def cV:A9 ["self"] ["self"] (Aq RR):=by left
def cL(F:Ak K "__init__" "SamePage.__init__" RR f fd)(T:Io K mg cR fR)(G:AY P w K mg base Aj 1 fR fdR ["self","answer"] (Il K))(bR:Binds K fdR ["self","answer"] [])(xa:Dc K C "answer"):
 AY P w K mg base Aj 2 f fd ["self"] (Fj C "answer" "same page"):=Lj F cV rfl rfl rfl T G bR xa (fun _=>⟨_,rfl⟩)
def j9:A9 ["self"] ["self"] (Aq Rk):=by left
def gP(F:Ak K "__init__" "Taken.__init__" Rk f fd)(T:Io K mg cR fR)(G:AY P w K mg base Aj 1 fR fdR ["self","answer"] (Il K))(bR:Binds K fdR ["self","answer"] [])(xa:Dc K C "answer"):
 AY P w K mg base Aj 2 f fd ["self"] (Fj C "answer" "taken"):=Lj F j9 rfl rfl rfl T G bR xa (fun _=>⟨_,rfl⟩)
def fB:A9 ["self"] ["self"] (Aq RX):=by left
def cw(F:Ak K "__init__" "NoPlace.__init__" RX f fd)(T:Io K mg cR fR)(G:AY P w K mg base Aj 1 fR fdR ["self","answer"] (Il K))(bR:Binds K fdR ["self","answer"] [])(xa:Dc K C "answer"):
 AY P w K mg base Aj 2 f fd ["self"] (Fj C "answer" "no place"):=Lj F fB rfl rfl rfl T G bR xa (fun _=>⟨_,rfl⟩)
def eh:A9 ["self"] ["self"] (Aq RV):=by left
def cu(F:Ak K "__init__" "NoWords.__init__" RV f fd)(T:Io K mg cR fR)(G:AY P w K mg base Aj 1 fR fdR ["self","answer"] (Il K))(bR:Binds K fdR ["self","answer"] [])(xa:Dc K C "answer"):
 AY P w K mg base Aj 2 f fd ["self"] (Fj C "answer" "no words"):=Lj F eh rfl rfl rfl T G bR xa (fun _=>⟨_,rfl⟩)
def Dg(ws:List PR):Dt:=.lst (ws.map Df)
noncomputable def Ly(ws:List PR):List Str:=(ws.filter fun p=>decide (p.1=("to" :Str))).map (·.2)
noncomputable def C3(ws:List PR)(a b:Str):List PR:=ws.map fun p=>if p=(("to" :Str),a) then(("to" :Str),b) else p
def Z1:Sp:=fun vs H Q _=>∃v ws a b,vs=[v,.str a,.str b]/\Rep H (Dg ws) v/\ws.length<=100000/\∀u H',AO H H'->Rep H' (Dg (C3 ws a b)) u->Q u H'
def pD:A9 ["words","name","fresh"] ["words","name","fresh"] (Aq Mt):=by left
def nU(F:Ak K "point_on" "point_on" Mt f fd):AY P w K mg base Aj 1 f fd ["words","name","fresh"] Z1:=by
 refine F.ok pD ?_ ?_
 ·rintro _ _ _ _ ⟨_,_,_,_,rfl,_⟩;rfl
 ·rintro h5 A _ s H _ Q E hr ⟨v,ws,a,b,rfl,rp,hz,q⟩;have h6:=Cq hr;have hu:(A.deeper (rS "point_on" (Aq Mt) s.heap.objs.size f h5)).units<qr:=by lia
  refine⟨_,(AU (As (E4 (ts:=["word"]) (cap:=["name","fresh"]) (ix:=[1,2]) (iX rfl rfl (by left) (by left) rfl (by left) rfl rfl rfl rfl rfl rfl rfl rfl) (Gv (pv 0))
   (fun _ _ _ _ _=>Bg (i:=0) (qO (by left) (by left) (by left)) rfl (Aa rfl) (Cc rfl)) (fun _ _ _ _ _=>Gs)
   (fun _ _ _ _ _=>hV (Ar (We hu) (pv 0) (Bs (AB AZ (AB (pv 1) AI))) (Am _)) (Bs (AB AZ (AB (pv 2) AI))) (pv 0))))),?_⟩;obtain⟨l,xs,rfl,hl,rr⟩:=E6 rp;refine⟨_,rfl,l,rfl,⟨_,AL.of hl⟩,fun D hD=>F5 (xs:=xs) (fun i H'=>CI H D ((C3 (ws.take i) a b).map Df) H') ?_ (fun i H' _ c=>AL.of (c.same _ _ hl)) (fun i x H' ex c=>?_) fun H' c=>?_⟩
  ·exact CI.start hD
  ·obtain⟨p,ep,rx⟩:=IZ rr ex;obtain⟨ad,rfl,ha⟩:=Ng rx;have h1:=c.same _ _ ha;refine⟨FH,_,rfl,_,rfl,(by exact zv),fun t ht=>?_⟩;have c2:=c.ext (Af (o:=.tup [.str "to",.str a]) ht);refine⟨ad,t,p,(("to" :Str),a),rfl,rfl,by rw[AN (A7 h1 ht)];exact h1,AM,_,rfl,?_⟩;have h0:((C3 (ws.take i) a b).map Df).length<=200000:=by
    have h2:=FY i ws;unfold C3;rw[AJ,AJ]
    lia
   have es:C3 (ws.take (i+1)) a b=C3 (ws.take i) a b++[if p=(("to" :Str),a) then(("to" :Str),b) else p]:=J7 ep;rw[es,BF];by_cases z:p=(("to" :Str),a)
   ·rw[Bb z,AG z];refine Bk ⟨_,rfl,(by exact zv),fun t2 h3=>?_⟩;have c3:=c2.ext (Af (o:=.tup [.str "to",.str b]) h3);obtain⟨ys,h4,_⟩:=c2.lst;refine c3.push (S9 (Ex.at AM ?_)) h0;intro zz;rw[zz,h4] at h3;cases h3
   ·rw[BN z,AF z];refine BK ⟨_,rfl,?_⟩;refine c2.push (S9 (Ex.at ?_ ?_)) h0
    ·rw[AN (A7 h1 ht)];exact h1
    ·intro zz;rw[zz,hD] at ha;cases ha
  ·have e:xs.length=ws.length:=by have:=rr.1;rw[AJ] at this;lia
   rw[e,CT] at c;exact q _ _ c.same c.done
structure Hx(mg:Str->Option AD):Prop where
 sum:mg "sum" =none
 so:mg "sorted" =none
 set:mg "set" =none
 len:mg "len" =none
 en:mg "enumerate" =none
 lst:mg "list" =none
 all:mg "all" =none
 mn:mg "min" =none
abbrev Pg:=Str×List PR
def Ay(AA:List (Str×V)):List (Key×V):=GL Sum.inr id AA
structure Dj(H:Hp)(AA:List (Str×V))(AE:List Pg):Prop where
 len:AA.length=AE.length
 row:∀(i:Nat) kv p,AA[i]? =some kv->AE[i]? =some p->kv.1=p.1/\Rep H (Dg p.2) kv.2
def Dj.same{H H':Hp}{AA:List (Str×V)}{AE:List Pg}(g:Dj H AA AE)(s:AO H H'):Dj H' AA AE:=⟨g.len,fun i kv p a b=>⟨(g.row i kv p a b).1,(g.row i kv p a b).2.same s⟩⟩
variable{AE:List Pg}{kk:List (Key×V)}
def Dj.ex{AA:List (Str×V)}(g:Dj H AA AE)(hd:H d=some (.dK kk)):Dj (Ex H d) AA AE:=⟨g.len,fun i kv p a b=>⟨(g.row i kv p a b).1,Mq hd (g.row i kv p a b).2⟩⟩
structure L4(AE:List Pg):Prop where
 Dl:AE.length<=1000
 short:∀p∈AE,p.2.length<=100000
def Ic{o:HO}:AO (Ex H d) (upd H d o):=fun b u e=>by
 unfold Ex at e;by_cases z:b=d
 ·rw[AG z] at e;cases e
 ·rw[AF z] at e;rw[AN z];exact e
def WH{o:HO}(hd:H d=some (.dK kk))(s:AO (upd H d o) H2):AO H (upd H2 d (.dK kk)):=fun b u e=>by
 by_cases z:b=d
 ·subst z;rw[hd] at e;cases e;exact AM
 ·rw[AN z];exact s b u (by rw[AN z];exact e)
def Pr{AA:List (Str×V)}{k:Key}{x:V}(h:(Ay AA)[i]? =some (k,x)):∃n,AA[i]? =some (n,x)/\k=Sum.inr n:=by
 have h':(AA.map fun p=>((Sum.inr p.1:Key),p.2))[i]? =some (k,x):=h;rw[Az] at h'
 cases e:AA[i]?with
 |none=>rw[e] at h';cases h'
 |some kv=>rw[e] at h';have:=Ag h';cases this;exact⟨kv.1,rfl,rfl⟩
noncomputable def Qa(ws:List PR)(a:Str):Int:=((ws.countP fun q=>decide (q=(("to" :Str),a)):Nat):Int)
def cnt(AE:List Pg)(a:Str):Int:=(AE.map fun p=>Qa p.2 a).sum
def ZU:Sp:=fun vs H Q _=>∃d a h1 h0,vs=[.ref d,.str a]/\H d=some (.dK (Ay h1))/\Dj H h1 h0/\L4 h0/\∀H',AO H H'->Q (.int (cnt h0 a)) H'
noncomputable def HL(AE:List Pg)(a:Str):List Str:=(AE.filter fun p=>p.2.any fun q=>decide (q=(("to" :Str),a))).map (·.1)
def ni:A9 ["pages","name"] ["pages","name"] (Aq RN):=by left
def Ry(r:Ab H (ns.map Dt.int) ys):ys=ns.map V.int:=by
 apply K7;intro i;rw[Az]
 cases e:ys[i]?with
 |none=>have h1:=OO.mp e;have h2:=r.1;rw[AJ] at h2;rw[F1 (by lia)];rfl
 |some y=>obtain⟨n,hn,rn⟩:=IZ r e;rw[hn];cases rn;rfl
def lE(F:Ak K "count_pointers" "count_pointers" RN f fd)(O:Hx mg):AY P w K mg base Aj 1 f fd ["pages","name"] ZU:=by
 refine F.ok ni ?_ ?_
 ·rintro _ _ _ _ ⟨_,_,_,_,rfl,_⟩;rfl
 ·rintro _ A _ s H _ Q E hr ⟨d,a,h0,h3,rfl,hd,g,sm,q⟩;have h8:=Cq hr;refine⟨_,(AU (As (BZ (WE rfl) rfl O.sum uL (AB (XW (E4 (ts:=["words"]) (cap:=["name"]) (ix:=[1]) (JK rfl rfl (by left) (by left) rfl rfl rfl rfl rfl)
   (jR (NZ K6 Uw uM WW (pv 0))) (fun _ _ _ _ _=>Bg (i:=0) (IB (by left)) rfl (Aa rfl) (Cc rfl)) (fun _ _ _ _ _=>Gs)
   (fun _ _ _ _ _=>kf K rfl DE PySem.F.slot_list_count PySem.F.type_list_count (cI h8) (pv 0) (AB (Bs (AB AZ (AB (pv 1) AI))) AI)))) AI)))),?_⟩;refine⟨d,Ay h0,hd,_,rfl,.inr (.inr (.inl ⟨rfl,.inl ⟨_,hd⟩⟩)),d,_,rfl,rfl,hd,fun p hp=>⟨p,d,Ay h0,rfl,AM,by rw[AN (A7 hd hp)];exact hd,fun o D hD=>?_⟩⟩;have s1:AO H (upd H p (Gz p d)):=Af hp;have h4:(upd H p (Gz p d)) d=some (.dK (Ay h0)):=s1 _ _ hd;have g1:=(g.same s1).ex h4;generalize upd H p (Gz p d)=H1 at s1 h4 g1 hD;have g2:=g1.same (Ic (o:=.BQ o (.dK (Ay h0))));have h5:(upd H1 d (.BQ o (.dK (Ay h0)))) d=some (.BQ o (.dK (Ay h0))):=AM;refine eQ (fun i H'=>CI (upd H1 d (.BQ o (.dK (Ay h0)))) D (((h3.take i).map fun p=>Qa p.2 a).map Dt.int) H') (CI.start hD) (fun i H' c=>c.same _ _ h5) (fun i k x H' ex c=>?_) fun H' c=>?_
  ·obtain⟨n,h6,rfl⟩:=Pr ex;have hi:i<h3.length:=by rw[<-g.len];exact(BY.mp h6).1
   have ep:h3[i]? =some h3[i]:=Ap hi;obtain⟨_,h7⟩:=g2.row i _ _ h6 ep;obtain⟨l,xs,rfl,hl,rr⟩:=E6 (h7.same c.same);refine⟨FH,_,rfl,.inl ⟨rfl,_,AL.of hl⟩,_,rfl,(by exact zv),fun t ht=>?_⟩;have st:=Af (o:=.tup [.str "to",.str a]) ht;have c2:=c.ext st;refine⟨t,l,(("to" :Str),a),h3[i].2,xs,rfl,rfl,AM,st _ _ hl,rr.same st,?_⟩;rw[J7 (f:=fun p:Pg=>Qa p.2 a) ep,BF];refine c2.push (.int _) ?_;have h1:=FY i h3;have h2:=sm.Dl;rw[AJ,AJ]
   lia
  ·have e:(Ay h0).length=h3.length:=by show(h0.map _).length=_;rw[AJ];exact g.len
   rw[e,CT] at c;obtain⟨ys,hy,ry⟩:=c.lst;have nd:D≠d:=fun z=>by rw[z,AM] at hD;cases hD
   refine⟨o,c.same _ _ h5,D,(h3.map fun p:Pg=>Qa p.2 a),rfl,AL.of ?_,q _ (s1.trans (WH h4 c.same))⟩;rw[AN nd,hy,Ry ry]
def lg:((["page","words"]:List Str)++(["name"]:List Str)).Nodup:=by left
def Zi:Sp:=fun vs H Q _=>∃d a h1 h0,vs=[.ref d,.str a]/\H d=some (.dK (Ay h1))/\Dj H h1 h0/\L4 h0/\h0.length<64/\∀u H',AO H H'->Rep H' (.lst ((QJ (HL h0 a)).map Dt.str)) u->Q u H'
def LP{ns:List Str}(r:Ab H (ns.map Dt.str) ys):ys=ns.map V.str:=by
 apply K7;intro i;rw[Az]
 cases e:ys[i]?with
 |none=>have h1:=OO.mp e;have h2:=r.1;rw[AJ] at h2;rw[F1 (by lia)];rfl
 |some y=>obtain⟨n,hn,rn⟩:=IZ r e;rw[hn];cases rn;rfl
def nM:A9 ["pages","name"] ["pages","name"] (Aq RM):=by left
def kT(F:Ak K "pages_pointing" "pages_pointing" RM f fd)(O:Hx mg):AY P w K mg base Aj 1 f fd ["pages","name"] Zi:=by
 refine F.ok nM ?_ ?_
 ·rintro _ _ _ _ ⟨_,_,_,_,rfl,_⟩;rfl
 ·rintro _ A _ s H _ Q E hr ⟨d,a,h4,h0,rfl,hd,g,sm,e8,q⟩;have e1:=Cq hr;refine⟨_,(AU (As (BZ cf rfl O.so O3 (AB (XW (E4 (ts:=["page","words"]) (cap:=["name"]) (ix:=[1]) (JK rfl rfl (by left) (by left) rfl rfl rfl rfl rfl)
   (W7 (NZ K6 Uz uN WZ (pv 0))) (fun _ _ _ _ _=>XU (K:=K) (i:=0) (j:=1) rfl rfl lg rfl (Aa rfl) (Cc rfl) rfl (Aa rfl) (Cc rfl))
   (fun _ _ _ _ _=>La (Ar (iP e1) (Bs (AB AZ (AB (pv 2) AI))) (pv 1) rfl)) (fun _ _ _ _ _=>pv 0))) AI)))),?_⟩;refine⟨d,Ay h4,hd,_,rfl,.inr (.inr (.inl ⟨rfl,.inl ⟨_,hd⟩⟩)),d,_,rfl,rfl,hd,fun p hp=>⟨p,d,Ay h4,rfl,AM,by rw[AN (A7 hd hp)];exact hd,fun o D hD=>?_⟩⟩;have s1:AO H (upd H p (Ho p d)):=Af hp;have h5:(upd H p (Ho p d)) d=some (.dK (Ay h4)):=s1 _ _ hd;have g1:=(g.same s1).ex h5;generalize upd H p (Ho p d)=H1 at s1 h5 g1 hD;have g2:=g1.same (Ic (o:=.BQ o (.dK (Ay h4))));have h6:(upd H1 d (.BQ o (.dK (Ay h4)))) d=some (.BQ o (.dK (Ay h4))):=AM;refine cq (fun i H'=>CI (upd H1 d (.BQ o (.dK (Ay h4)))) D ((HL (h0.take i) a).map Dt.str) H') (CI.start hD) (fun i H' c=>c.same _ _ h6) (fun i k x pr H' ex e4 c=>?_) fun H' c=>?_
  ·obtain⟨n,h7,rfl⟩:=Pr ex;have hi:i<h0.length:=by rw[<-g.len];exact(BY.mp h7).1
   have ep:h0[i]? =some h0[i]:=Ap hi;obtain⟨en,h9⟩:=g2.row i _ _ h7 ep;have en:n=h0[i].1:=en;obtain⟨l,xs,rfl,hl,rr⟩:=E6 (h9.same c.same);have s2:=Af (o:=.tup [kV (Sum.inr n),.ref l]) e4;have c2:=c.ext s2;have e6:=s2 _ _ hl;have e0:=rr.same s2;refine⟨pr,_,rfl,AS.of AM,rfl,_,_,rfl,_,_,rfl,rfl,aG,_,rfl,(by exact zv),fun t ht=>?_⟩;have st:=Af (o:=.tup [.str "to",.str a]) ht;have c3:=c2.ext st;refine⟨_,rfl,t,l,(("to" :Str),a),h0[i].2,xs,rfl,rfl,AM,st _ _ e6,e0.same st,_,rfl,?_⟩;have es:HL (h0.take (i+1)) a=HL (h0.take i) a++(if(h0[i].2.any fun q=>decide (q=(("to" :Str),a)))=true then[h0[i].1] else[]):=by unfold HL;rw[take_succ_filter ep,BF];congr 1;split<;>rfl
   rw[es,BF];by_cases z:(h0[i].2.any fun q=>decide (q=(("to" :Str),a)))=true
   ·rw[z,AG rfl];refine Bk ⟨_,rfl,?_⟩;have e2:kV (Sum.inr n)=V.str h0[i].1:=by rw[<-en];rfl
    refine c3.push (d:=.str h0[i].1) (y:=kV (Sum.inr n)) (by rw[e2];exact .str _) ?_;have h1:=FY i h0;have h2:=sm.Dl;have h3:=EY (fun p:Pg=>p.2.any fun q=>decide (q=(("to" :Str),a))) (h0.take i);unfold HL;rw[AJ,AJ]
    lia
   ·have z':(h0[i].2.any fun q=>decide (q=(("to" :Str),a)))=false:=(Bool.not_eq_true _).mp z;rw[z',AF CZ,LJ,Cp];exact BK c3
  ·have e:(Ay h4).length=h0.length:=by show(h4.map _).length=_;rw[AJ];exact g.len
   rw[e,CT] at c;obtain⟨ys,hy,ry⟩:=c.lst;have nd:D≠d:=fun z=>by rw[z,AM] at hD;cases hD
   have s3:=s1.trans (WH h5 c.same);refine⟨o,c.same _ _ h6,D,HL h0 a,rfl,AL.of (by rw[AN nd,hy,LP ry]),?_,fun D2 h8 e7 e5 e3=>?_⟩
   ·have h3:=EY (fun p:Pg=>p.2.any fun q=>decide (q=(("to" :Str),a))) h0;unfold HL;rw[AJ]
    lia
   ·refine q _ _ (s3.trans (Af e7)) ?_;show Rep _ (.lst ((HG Hk (HL h0 a)).map Dt.str)) _;rw[<-Pp Hk e5 e3];exact Rep.IE AM (LU h8)
def kN:((["place","word"]:List Str)++(["plain"]:List Str)).Nodup:=by left
noncomputable def CM(z:Str):Nat->List PR->List Int
 |_,[]=>[]
 |k,p::ws=>(if p=(("word" :Str),z) then[(k:Int)] else[])++CM z (k+1) ws
def WG(z:Str)(p:PR):∀(ws:List PR)(k:Nat),CM z k (ws++[p])=CM z k ws++(if p=(("word" :Str),z) then[((k+ws.length:Nat):Int)] else[])
 |[],k=>by simp[CM]
 |q::ws,k=>by rw[Oj,CM,CM,WG z p ws (k+1),Bu,CG];rw[show k+1+ws.length=k+(ws.length+1) by lia]
def SX(z:Str):∀(ws:List PR)(k:Nat),(CM z k ws).length<=ws.length
 |[],k=>by simp[CM]
 |q::ws,k=>by have:=SX z ws (k+1);rw[CM,An,CG];split<;>simp<;>lia
def ZK:Sp:=fun vs H Q _=>∃v ws z,vs=[v,.str z]/\Rep H (Dg ws) v/\ws.length<=100000/\∀u H',AO H H'->Rep H' (.lst ((CM z 0 ws).map Dt.int)) u->Q u H'
noncomputable def De(p:PR):Str:=if p.1=("to" :Str) then "[" ++p.2++ "]" else p.2
def Ti(ws:List PR):Str:=Qq " " (ws.map De)
def Z8:Sp:=fun vs H Q _=>∃v p,vs=[v]/\Rep H (Df p) v/\p.2.length<=4000000/\Q (.str (De p)) H
def oW:A9 ["words","plain"] ["words","plain"] (Aq O2):=by left
def lr(F:Ak K "places_of" "places_of" O2 f fd)(O:Hx mg):AY P w K mg base Aj 1 f fd ["words","plain"] ZK:=by
 refine F.ok oW ?_ ?_
 ·rintro _ _ _ _ ⟨_,_,_,rfl,_⟩;rfl
 ·rintro h4 A _ s H _ Q E hr ⟨v,ws,z,rfl,rp,hz,q⟩;have h5:=Cq hr;have hu:(A.deeper (rS "places_of" (Aq O2) s.heap.objs.size f h4)).units<qr:=by lia
  refine⟨_,(AU (As (E4 (ts:=["place","word"]) (cap:=["plain"]) (ix:=[1]) (JK rfl rfl (by left) (by left) rfl rfl rfl rfl rfl) (Xs rfl O.en (AB (pv 0) AI))
   (fun _ _ _ _ _=>XU (K:=K) (i:=0) (j:=1) rfl rfl kN rfl (Aa rfl) (Cc rfl) rfl (Aa rfl) (Cc rfl))
   (fun _ _ _ _ _=>La (Ar (We hu) (pv 1) (Bs (AB AZ (AB (pv 2) AI))) (Am _))) (fun _ _ _ _ _=>pv 0)))),?_⟩;obtain⟨l,xs,rfl,hl,rr⟩:=E6 rp;refine⟨_,rfl,l,rfl,⟨_,AL.of hl⟩,fun D hD=>eR (xs:=xs) (fun i H'=>CI H D ((CM z 0 (ws.take i)).map Dt.int) H') (CI.start hD) (fun i H' _ c=>AL.of (c.same _ _ hl)) (fun i x pr H' ex h0 c=>?_) fun H' c=>?_⟩
  ·obtain⟨p,ep,rx⟩:=IZ rr ex;obtain⟨ad,rfl,ha⟩:=Ng rx;have s2:=Af (o:=.tup [.int i,.ref ad]) h0;have c2:=c.ext s2;have h3:=c2.same _ _ ha;refine⟨pr,_,rfl,AS.of AM,rfl,_,_,rfl,_,_,rfl,rfl,aG,_,rfl,_,rfl,(by exact zv),fun t ht=>?_⟩;have st:=Af (o:=.tup [.str "word",.str z]) ht;have c3:=c2.ext st;refine⟨ad,t,p,(("word" :Str),z),rfl,rfl,st _ _ h3,AM,_,rfl,?_⟩;have hi:i<ws.length:=(BY.mp ep).1;have es:CM z 0 (ws.take (i+1))=CM z 0 (ws.take i)++(if p=(("word" :Str),z) then[(i:Int)] else[]):=by rw[C6,ep];show CM z 0 (ws.take i++[p])=_;rw[WG,Be,HY (by lia),J8]
   rw[es,BF];by_cases y:p=(("word" :Str),z)
   ·rw[Bb y,AG y];refine Bk ⟨_,rfl,?_⟩;refine c3.push (.int _) ?_;have h1:=SX z (ws.take i) 0;have h2:=FY i ws;rw[AJ]
    lia
   ·rw[BN y,AF y,LJ,Cp];exact BK c3
  ·have e:xs.length=ws.length:=by have:=rr.1;rw[AJ] at this;lia
   rw[e,CT] at c;exact q _ _ c.same c.done
def Zz:A9 ["word","inner"] ["word"] (Aq O0):=by left
def mX(F:Ak K "tell_word" "tell_word" O0 f fd):AY P w K mg base Aj 1 f fd ["word"] Z8:=by
 refine F.ok Zz ?_ ?_
 ·rintro _ _ _ _ ⟨_,_,rfl,_⟩;rfl
 ·rintro _ A _ s H _ Q E hr ⟨v,p,rfl,rp,hz,q⟩;refine⟨_,(AR (Av (i:=1) Zz.nd rfl (Aa rfl) (A3 (pv 0))) (AR (A0 (Ar Ba (A3 (pv 0)) AZ (Am _)) (AU (As (jo (pv 1) (by left) (by left)))) BE) (AU (As (pv 1))))),?_⟩;obtain⟨a,rfl,ha⟩:=Ng rp;refine⟨_,rfl,a,_,_,_,rfl,rfl,AS.of ha,Bh (j:=1) rfl,?_⟩;refine⟨_,rfl,a,_,_,_,rfl,rfl,AS.of ha,Bh (j:=0) rfl,rfl,_,rfl,?_⟩;unfold De at q;by_cases y:p.1=("to" :Str)
  ·rw[AG y] at q;refine El (fun _=>⟨_,rfl,p.2,rfl,hz,q⟩) (fun n=>absurd (Bb (show V.str p.1=V.str "to" by rw[y])) n)
  ·rw[AF y] at q;refine El (fun n=>absurd (V.str.inj (IS n)) y) (fun _=>⟨_,rfl,q⟩)
noncomputable def wt(p:PR):Nat:=max 40 p.2.length+3
def wsum(ws:List PR):Nat:=(ws.map wt).sum
def NA:∀ws:List PR,ws.length*43<=wsum ws
 |[]=>by simp[wsum]
 |p::ws=>by
  have h:=NA ws;unfold wsum at h⊢;rw[Au,Bv,CG,Nat.succ_mul];have:43<=wt p:=by unfold wt;lia
  lia
def PK(a b:List PR):wsum (a++b)=wsum a+wsum b:=by unfold wsum;rw[BF,List.sum_append]
def XE:∀{ws:List PR}{p:PR},p∈ws->wt p<=wsum ws
 |q::ws,p,h=>by
  unfold wsum;rw[Au,Bv];rcases BI.mp h with e|e
  ·rw[e];lia
  ·have:=XE e;unfold wsum at this
   lia
def PF(p:PR):(De p).length<=p.2.length+2:=by
 unfold De;split
 ·rw[Ha,Ha];have e1:("[" :Str).length=1:=by left
  have e2:("]" :Str).length=1:=by left
  lia
 ·lia
def Ws(k:Nat)(hk:k<=1):∀(ws:List PR)(acc:Nat),(ws.map De).foldl (·+·.length+k) acc<=acc+wsum ws
 |[],acc=>by simp[wsum]
 |p::ws,acc=>by
  rw[Au,List.foldl_cons];have h1:=Ws k hk ws (acc+(De p).length+k);have h2:=PF p;unfold wsum at h1⊢;rw[Au,Bv];have:p.2.length+3<=wt p:=by unfold wt;lia
  lia
def Wz(g:Str)(hg:g.length<=1):∀(ws:List PR)(acc:Array Nat),((ws.map De).foldl (fun acc p=>acc++g.cps++p.cps) acc).size<=acc.size+wsum ws
 |[],acc=>by simp[wsum]
 |p::ws,acc=>by
  rw[Au,List.foldl_cons];have h1:=Wz g hg ws (acc++g.cps++(De p).cps);rw[Array.size_append,Array.size_append] at h1;have h2:=PF p;have h3:g.cps.size=g.length:=rfl;have h4:(De p).cps.size=(De p).length:=rfl;unfold wsum at h1⊢;rw[Au,Bv];have:p.2.length+3<=wt p:=by unfold wt;lia
  lia
def i4{g:Str}(hg:g.length<=1):∀ws:List PR,(Qq g (ws.map De)).length<=wsum ws
 |[]=>CC _
 |[p]=>by
  have:=PF p;have h:p.2.length+3<=wt p:=by unfold wt;lia
  show(De p).length<=(List.map wt [p]).sum;rw[Au,Bv]
  lia
 |p::q::r=>by
  have h1:=Wz g hg (q::r) (De p).cps;have h2:=PF p;have h:p.2.length+3<=wt p:=by unfold wt;lia
  have h4:(De p).cps.size=(De p).length:=rfl;show(((q::r).map De).foldl (fun h0 p=>h0++g.cps++p.cps) (De p).cps).size<=_;unfold wsum at h1⊢;rw[show List.map wt (p::q::r)=wt p::List.map wt (q::r) from rfl,Bv]
  lia
def aF:Sp:=fun vs H Q _=>∃v ws,vs=[v]/\Rep H (Dg ws) v/\wsum ws<=4000000/\∀H',AO H H'->Q (.str (Ti ws)) H'
def pI:A9 ["words"] ["words"] (Aq Rn):=by left
def nr{fW:OK}{fdW:qk}(F:Ak K "tell_text" "tell_text" Rn f fd)(FW:Ak K "tell_word" "tell_word" O0 fW fdW)(bW:Binds K fdW ["word"] [])(mW:mg "tell_word" =some (.ref fW)):AY P w K mg base Aj 2 f fd ["words"] aF:=by
 have GW:AY P w K mg base Aj 1 fW fdW ["word"] Z8:=mX FW;refine F.ok pI ?_ ?_
 ·rintro _ _ _ _ ⟨_,_,rfl,_⟩;rfl
 ·rintro _ A _ s H _ Q E hr ⟨v,ws,rfl,rp,tl,q⟩;refine⟨_,(AU (As (Jb OT PySem.F.slot_str_join PySem.F.type_str_join jf AZ (AB (E4 (ts:=["word"]) (cap:=[]) (ix:=[]) (JJ rfl rfl (by left) (by left)) (Gv (pv 0))
   (fun _ _ _ _ _=>Bg (i:=0) K2 rfl (Aa rfl) (Cc rfl)) (fun _ _ _ _ _=>Gs) (fun _ _ _ _ _=>Ca GW hr rfl mW FW.kp bW .nil BH (AB (pv 0) AI))) AI)))),?_⟩;obtain⟨l,xs,rfl,hl,rr⟩:=E6 rp;refine⟨rfl,_,rfl,l,rfl,⟨_,AL.of hl⟩,fun D hD=>F5 (xs:=xs) (fun i H'=>CI H D (((ws.take i).map De).map Dt.str) H') (CI.start hD) (fun i H' _ c=>AL.of (c.same _ _ hl)) (fun i x H' ex c=>?_) fun H' c=>?_⟩
  ·obtain⟨p,ep,rx⟩:=IZ rr ex;refine⟨FH,_,rfl,x,p,rfl,rx.same c.same,?_,?_⟩
   ·have:=XE (CA ep);have h:p.2.length+3<=wt p:=by unfold wt;lia
    lia
   rw[J7 ep,BF];refine c.push (.str _) ?_;have h2:=FY i ws;have h3:=NA ws;rw[AJ,AJ]
   lia
  ·have e:xs.length=ws.length:=by have:=rr.1;rw[AJ] at this;lia
   rw[e,CT] at c;obtain⟨ys,hy,ry⟩:=c.lst;have lb:(" " :Str).length=1:=by left
   refine⟨" ",D,ws.map De,rfl,rfl,AL.of (by rw[hy,LP ry]),?_,?_,q _ c.same⟩
   ·have:=Ws (" " :Str).length (by lia) ws 0;rw[A8]
    lia
   ·have:=i4 (g:=" ") (by lia) ws;rw[A8]
    lia
def kB{α γ:Type}[DecidableEq α]{R:(α×β)->(α×γ)->Prop}(hR:∀t p,R t p->t.1=p.1){k:α}{u:β}{v:γ}(hn:R (k,u) (k,v))(l:List (α×β))(m:List (α×γ))(hl:l.length=m.length)(h:∀(i:Nat) t p,l[i]? =some t->m[i]? =some p->R t p):
 (AW l k u).length=(AW m k v).length/\∀(i:Nat) t p,(AW l k u)[i]? =some t->(AW m k v)[i]? =some p->R t p:=by
 have ek:∀(l:List (α×β))(m:List (α×γ)),l.length=m.length->(∀(i:Nat) t p,l[i]? =some t->m[i]? =some p->R t p)->(l.any fun p=>decide (p.1=k))=(m.any fun p=>decide (p.1=k)):=by
  intro l
  induction l with
  |nil=>intro m hl _;cases m with|nil=>rfl|cons _ _=>cases hl
  |cons t l ih=>
   intro m hl h
   cases m with
   |nil=>cases hl
   |cons p m=>rw[IV,IV,ih m (by simpa using hl) fun i t p a b=>h (i+1) t p (by simpa using a) (by simpa using b),hR t p (h 0 t p rfl rfl)]
 have e:=ek l m hl h;unfold AW;rw[<-e];by_cases c:(l.any fun p=>decide (p.1=k))=true
 ·rw[AG c,AG c];refine⟨by rw[AJ,AJ,hl],fun i t p a b=>?_⟩;rw[Az] at a b
  cases e1:l[i]?with
  |none=>rw[e1] at a;cases a
  |some t0=>
   cases e2:m[i]?with
   |none=>rw[e2] at b;cases b
   |some p0=>
    rw[e1] at a;rw[e2] at b;have h0:=h i t0 p0 e1 e2;have hk:=hR _ _ h0;have a':(if t0.1=k then(t0.1,u) else t0)=t:=Ag a;have b':(if p0.1=k then(p0.1,v) else p0)=p:=Ag b;by_cases z:t0.1=k
    ·rw[AG z] at a';rw[AG (hk▸z)] at b';rw[<-a',<-b',<-hk,z];exact hn
    ·rw[AF z] at a';rw[AF (hk▸z)] at b';rw[<-a',<-b'];exact h0
 ·rw[AF c,AF c];refine⟨by rw[An,An,hl];rfl,fun i t p a b=>?_⟩;by_cases hi:i<l.length
  ·rw[C2 hi] at a;rw[C2 (by lia)] at b;exact h i t p a b
  ·rw[Cj (by lia)] at a;rw[Cj (by lia),<-hl] at b
   cases ez:i-l.length with
   |zero=>
    rw[ez] at a b;have a':(k,u)=t:=by simpa using a
    have b':(k,v)=p:=by simpa using b
    rw[<-a',<-b'];exact hn
   |succ j=>rw[ez] at a;simp at a
def Y2{α β γ:Type}[DecidableEq α]{R:(α×β)->(α×γ)->Prop}(hR:∀t p,R t p->t.1=p.1)(k:α):∀(l:List (α×β))(m:List (α×γ)),l.length=m.length->(∀(i:Nat) t p,l[i]? =some t->m[i]? =some p->R t p)->
 (AH l k=none/\AH m k=none)\/∃u v,AH l k=some u/\AH m k=some v/\R (k,u) (k,v)
 |[],[],_,_=>.inl ⟨rfl,rfl⟩
 |t::l,p::m,hl,h=>by
  have h0:=h 0 t p rfl rfl;have hk:=hR _ _ h0;unfold AH;rw[C7,C7,<-hk];by_cases z:t.1=k
  ·rw[Bb z];refine .inr ⟨t.2,p.2,rfl,rfl,?_⟩;rw[<-z];have e:(t.1,p.2)=p:=by rw[hk]
   rw[e];exact h0
  ·rw[BN z];exact Y2 hR k l m (by simpa using hl) fun i t p a b=>h (i+1) t p (by simpa using a) (by simpa using b)
 |[],_::_,hl,_=>by cases hl
 |_::_,[],hl,_=>by cases hl
def Dj.get{AA:List (Str×V)}(g:Dj H AA AE)(n:Str):(AH AA n=none/\AH AE n=none)\/∃v ws,AH AA n=some v/\AH AE n=some ws/\Rep H (Dg ws) v:=by
 rcases Y2 (R:=fun t p=>t.1=p.1/\Rep H (Dg p.2) t.2) (fun _ _ r=>r.1) n AA AE g.len g.row with z|⟨u,v,a,b,c⟩
 ·exact .inl z
 ·exact .inr ⟨u,v,a,b,c.2⟩
def Dj.put{AA:List (Str×V)}(g:Dj H AA AE)(n:Str){ws:List PR}(r:Rep H (Dg ws) v):Dj H (AW AA n v) (AW AE n ws):=
 let⟨a,b⟩:=kB (R:=fun t p=>t.1=p.1/\Rep H (Dg p.2) t.2) (fun _ _ r=>r.1) (k:=n) (u:=v) (v:=ws) ⟨rfl,r⟩ AA AE g.len g.row
 ⟨a,b⟩
def Dj.drop{AA:List (Str×V)}(g:Dj H AA AE)(n:Str):Dj H (AQ AA n) (AQ AE n):=
 let⟨a,b⟩:=Sf (R:=fun t p=>t.1=p.1/\Rep H (Dg p.2) t.2) (fun _ _ r=>r.1) n AA AE g.len g.row
 ⟨a,b⟩
def Gy(AA:List (Str×V))(n:Str):BP (Ay AA) (.inr n)=AH AA n:=by unfold Ay;rw[Ec Ef];cases AH AA n<;>rfl
def Lg(AA:List (Str×V))(n:Str)(v:V):putK (Ay AA) (.inr n) v=Ay (AW AA n v):=JG (g:=id) Ef n v AA
def Sx(AA:List (Str×V))(n:Str):Ik (Ay AA) (.inr n)=Ay (AQ AA n):=KI (g:=id) Ef n AA
structure Cd(cN:OK)(H:Hp)(a d:OK)(AA:List (Str×V))(AE:List Pg):Prop where
 ins:∃dx,H a=some (.ins cN dx [("pages",.ref d)])
 Bt:H d=some (.dK (Ay AA))
 AE:Dj H AA AE
def Cd.same{cN:OK}{H H':Hp}{a d:OK}{AA:List (Str×V)}{AE:List Pg}(g:Cd cN H a d AA AE)(s:AO H H'):Cd cN H' a d AA AE:=
 let⟨dx,h⟩:=g.ins
 ⟨⟨dx,s _ _ h⟩,s _ _ g.Bt,g.AE.same s⟩
variable{cN:OK}
def Cd.upd{AA kvs':List (Str×V)}{pgs':List Pg}(g:Cd cN H a d AA AE)(g':Dj H kvs' pgs'):Cd cN (upd H d (.dK (Ay kvs'))) a d kvs' pgs':=by
 obtain⟨dx,h⟩:=g.ins;refine⟨⟨dx,?_⟩,AM,?_⟩
 ·rw[AN (CH h g.Bt (by intro z;cases z))];exact h
 ·exact(g'.ex g.Bt).same Ic
structure FJ(K:tW)(cN:OK):Prop where
 cl:IA K cN
 nf:KZ K cN "pages"
noncomputable def keys(AE:List Pg):List Str:=AE.map (·.1)
def Yk(K:tW)(cN cR:OK):Sp:=fun vs H Q E=>∃a d n h1 h0,vs=[.ref a,.str n]/\Cd cN H a d h1 h0/\(∀ws,AH h0 n=some ws->∀H',AO H H'->Q .BB H')/\(AH h0 n=none->Xw K cR E H "no page")
def Y3(K:tW)(cN cR:OK):Sp:=fun vs H Q E=>∃a d n h1 h0,vs=[.ref a,.str n]/\Cd cN H a d h1 h0/\n.length<=100000/\(isNm n=false->Xw K cR E H "no name")/\(∀ws,isNm n=true->AH h0 n=some ws->Xw K cR E H "taken")/\(isNm n=true->AH h0 n=none->∀H',AO H H'->Q .BB H')
def kS:A9 ["self","name"] ["self","name"] (Aq RJ):=by left
def jL(F:Ak K "need_page" "Nook.need_page" RJ f fd)(C:FJ K cN)(R:Rz P w K mg base cR "NoPage" "no page"):AY P w K mg base (Cs P w) 4 f fd ["self","name"] (Yk K cN cR):=by
 refine ID F kS ?_ ?_
 ·rintro _ _ _ _ ⟨_,_,_,_,_,rfl,_⟩;rfl
 ·rintro _ A _ s H _ Q E hr ⟨a,d,n,h1,AE,rfl,g,q1,q2⟩;have h0:=Cq hr;refine⟨_,(AU (A0 (JU (PB h0 (pv 1) (C9 (pv 0) rfl))) (AU (Ke (k:=0) R hr rfl)) BE)),?_⟩;obtain⟨dx,hi⟩:=g.ins;refine⟨_,rfl,_,rfl,a,cN,dx,_,_,rfl,hi,C.cl,C.nf,rfl,d,_,rfl,BW.kq (k:=.inr n) g.Bt,_,rfl,?_⟩;rw[Gy];rcases g.AE.get n with⟨e1,e2⟩|⟨v,ws,e1,e2,_⟩
  ·rw[e1];exact Bk (q2 e2)
  ·rw[e1];exact BK (q1 ws e2 H (AO.refl H))
def lQ:A9 ["self","name"] ["self","name"] (Aq Q1):=by left
def jc(F:Ak K "need_free_name" "Nook.need_free_name" Q1 f fd)(C:FJ K cN)(R1:Rz P w K mg base cR "NoName" "no name")(R2:Rz P w K mg base cR "Taken" "taken")
 (FI:Ak K "is_name" "is_name" OI fI fdI)(bI:Binds K fdI ["word"] [])(mI:mg "is_name" =some (.ref fI))(O:Hx mg):AY P w K mg base (Cs P w) 4 f fd ["self","name"] (Y3 K cN cR):=by
 have GI:AY P w K mg base Aj 1 fI fdI ["word"] QK:=To FI O.all;refine ID F lQ ?_ ?_
 ·rintro _ _ _ _ ⟨_,_,_,_,_,rfl,_⟩;rfl
 ·rintro _ A _ s H _ Q E hr ⟨a,d,n,h1,AE,rfl,g,hz,q1,q2,q3⟩;have h0:=Cq hr;refine⟨_,(AR (A0 (JV (Eg (Ca GI hr.mn rfl mI FI.kp bI .nil BH (AB (pv 1) AI)))) (AU (Ke (k:=0) R1 hr rfl)) BE) (AU (A0 (JU (YV h0 (pv 1) (C9 (pv 0) rfl))) (AU (Ke (k:=0) R2 hr rfl)) BE))),?_⟩;refine⟨_,rfl,n,rfl,hz,fun H1 s1=>⟨_,rfl,?_⟩⟩
  cases en:isNm n with
  |false=>exact Bk ((q1 en).mono s1)
  |true=>
   refine BK ?_;have g1:=g.same s1;obtain⟨dx,hi⟩:=g1.ins;refine⟨_,rfl,_,rfl,a,cN,dx,_,_,rfl,hi,C.cl,C.nf,rfl,d,_,rfl,BW.kq (k:=.inr n) g1.Bt,_,rfl,?_⟩;rw[Gy];rcases g1.AE.get n with⟨e1,e2⟩|⟨v,ws,e1,e2,_⟩
   ·rw[e1];exact BK (q3 en e2 H1 s1)
   ·rw[e1];exact Bk ((q2 ws en e2).mono s1)
def LR{α β:Type}[DecidableEq α]{k:α}{v w:β}:∀{l:List (α×β)}{i:Nat},(l.map (·.1)).Nodup->l[i]? =some (k,w)->AW l k v=l.set i (k,v)
 |[],i,_,h=>by simp at h
 |p::l,0,nd,h=>by
  have e:p=(k,w):=by simpa using h
  subst e;have h0:=Ea.mp nd;have h1:l.map (fun p=>if p.1=k then(p.1,v) else p)=l:=by
   conv=>rhs;rw[<-Mr l]
   refine Ew fun q hq=>?_;have:q.1≠k:=fun z=>h0.1 (by rw[<-z];exact BA.mpr ⟨q,hq,rfl⟩);rw[AF this];rfl
  unfold AW;rw[AG (by rw[IV];simp),Au,h1];simp
 |p::l,i+1,nd,h=>by
  have h':l[i]? =some (k,w):=by simpa using h
  have h0:=Ea.mp nd;have ih:=LR (v:=v) h0.2 h';have ne:p.1≠k:=fun z=>h0.1 (by show p.1∈_;rw[z];exact BA.mpr ⟨_,CA h',rfl⟩);have any:(l.any fun q=>decide (q.1=k))=true:=IT.mpr ⟨_,CA h',Bb rfl⟩;unfold AW at ih⊢;rw[AG any] at ih;rw[AG (by rw[IV,any,Bool.or_true]),Au,ih,AF ne];rfl
def DR(AE:List Pg)(n m:Str):List Pg:=AE.map fun p=>(p.1,C3 p.2 n m)
def E9(AE:List Pg)(n m:Str)(i:Nat):List Pg:=DR (AE.take i) n m++AE.drop i
def Vd(AE:List Pg)(n m:Str)(i:Nat):(E9 AE n m i).map (·.1)=AE.map (·.1):=by unfold E9 DR;rw[BF,Bo];show(AE.take i).map (·.1)++_=_;rw[<-BF,D9]
def dR{n m:Str}{p:Pg}(h:AE[i]? =some p):(E9 AE n m i)[i]? =some p:=by have hi:=(BY.mp h).1;unfold E9 DR;rw[Cj (by rw[AJ,Be];lia),AJ,Be,HY (by lia),E1,Jx,Nat.add_zero];exact h
def cO{n m:Str}{p:Pg}(h:AE[i]? =some p):(E9 AE n m i).set i (p.1,C3 p.2 n m)=E9 AE n m (i+1):=by
 have hi:=(BY.mp h).1;unfold E9 DR;have hl:((AE.take i).map fun p:Pg=>(p.1,C3 p.2 n m)).length=i:=by rw[AJ,Be];lia
 rw[List.set_append_right _ _ (by lia),hl,E1,C6,h,BF,Bu];congr 1;rw[OQ hi,List.set_cons_zero];rfl
def BM(AE:List Pg):Nat:=(AE.map fun p=>wsum p.2).sum
def NP:∀{AE:List Pg}{p:Pg},p∈AE->wsum p.2<=BM AE
 |q::AE,p,h=>by
  unfold BM;rw[Au,Bv];rcases BI.mp h with e|e
  ·rw[e];lia
  ·have:=NP e;unfold BM at this
   lia
structure DK(AE:List Pg):Prop where
 nd:(AE.map (·.1)).Nodup
 Dl:AE.length<=900
 BM:BM AE<=3900000
def DK.Fu(n:DK AE):L4 AE:=⟨BJ n.Dl (by lia),fun p hp=>by
 have h1:=NP hp;have h2:=NA p.2;have h3:=n.BM
 lia⟩
def W3(ws:List PR)(n m:Str):(C3 ws n m).length=ws.length:=by unfold C3;rw[AJ]
def X2(cN:OK):Sp:=fun vs H Q _=>∃a d n m h2 h0,vs=[.ref a,.str n,.str m]/\Cd cN H a d h2 h0/\DK h0/\∀H' h1,AO (Ex H d) H'->Cd cN H' a d h1 (DR h0 n m)->Q .BB H'
def Xo:A9 ["self","name","fresh","page"] ["self","name","fresh"] (Aq Q6):=by left
def gc{fP:OK}{fdP:qk}(F:Ak K "point_all_on" "Nook.point_all_on" Q6 f fd)(C:FJ K cN)(O:Hx mg)(FP:Ak K "point_on" "point_on" Mt fP fdP)(bP:Binds K fdP ["words","name","fresh"] [])(mP:mg "point_on" =some (.ref fP)):
 AY P w K mg base Aj 2 f fd ["self","name","fresh"] (X2 cN):=by
 have GP:AY P w K mg base Aj 1 fP fdP ["words","name","fresh"] Z1:=nU FP;refine F.ok Xo ?_ ?_
 ·rintro _ _ _ _ ⟨_,_,_,_,_,_,rfl,_⟩;rfl
 ·rintro _ A _ s H _ Q E hr ⟨a,d,n,m,h0,AE,rfl,g,nc,q⟩;have h5:=Cq hr;refine⟨_,(AU (DZ DX rfl (Gv (Gn (Ms rfl) rfl O.lst IY (AB (C9 (pv 0) rfl) AI))) (Bg (i:=3) Xo.nd rfl (Aa rfl))
   (AU (Ee h5 (C9 (pv 0) rfl) (pv 3) (Ca GP hr rfl mP FP.kp bP .nil BH (AB (D1 h5 (C9 (pv 0) rfl) (pv 3) (fun _ _=>rfl)) (AB (pv 1) (AB (pv 2) AI)))) rfl)))),?_⟩;obtain⟨dx,hi⟩:=g.ins;refine⟨_,rfl,a,cN,dx,_,_,rfl,hi,C.cl,C.nf,rfl,d,_,rfl,g.Bt,fun L hL=>⟨L,rfl,⟨_,AL.of AM⟩,?_⟩⟩;have s1:=Af (o:=.lst ((Ay h0).map fun kv=>kV kv.1)) hL;have g1:=g.same s1;have h6:(upd H L (.lst ((Ay h0).map fun kv=>kV kv.1))) L=some (.lst ((Ay h0).map fun kv=>kV kv.1)):=AM;have e7:=g.Bt;generalize upd H L (.lst ((Ay h0).map fun kv=>kV kv.1))=H1 at s1 g1 h6;have h2:(Ay h0).length=AE.length:=by show(h0.map _).length=_;rw[AJ];exact g.AE.len
  refine KJ (xs:=(Ay h0).map fun kv=>kV kv.1) (fun i σ H'=>σ[0]? =some (some (.ref a))/\σ[1]? =some (some (.str n))/\σ[2]? =some (some (.str m))/\3<σ.length/\AO (Ex H1 d) H'/\H' L=some (.lst ((Ay h0).map fun kv=>kV kv.1))/\∃h1,Cd cN H' a d h1 (E9 AE n m i))
   ⟨rfl,rfl,rfl,by show 3<4;decide,Ex.sub,h6,h0,g1⟩ (fun i σ H' _ c=>AL.of c.2.2.2.2.2.1) (fun i x σ H' ex c=>?_) (fun σ H' c=>?_)
  ·obtain⟨e0,e1,e2,e3,sm,e9,h1,g'⟩:=c;have ek:x=kV (Sum.inr (h0.map (·.1))[i]!):=by
    rw[Az] at ex
    cases e:(Ay h0)[i]?with
    |none=>rw[e] at ex;cases ex
    |some kv=>rw[e] at ex;obtain⟨nm,e5,e6⟩:=Pr (k:=kv.1) (x:=kv.2) e;have:kV kv.1=x:=Ag ex;rw[<-this,e6];congr 2;rw[List.getElem!_eq_getElem?_getD,Az,e5];rfl
   have h3:i<AE.length:=by have:=(BY.mp ex).1;rw[AJ,h2] at this;exact this
   have ep:AE[i]? =some AE[i]:=Ap h3;have hk:i<h0.length:=by rw[g.AE.len];exact h3
   have en:(h0.map (·.1))[i]! =AE[i].1:=by rw[List.getElem!_eq_getElem?_getD,Az,Ap hk];exact(g.AE.row i _ _ (Ap hk) ep).1
   rw[en] at ek;subst ek;have h4:((E9 AE n m i).map (·.1)).Nodup:=by rw[Vd];exact nc.nd
   have h7:=dR (n:=n) (m:=m) ep;have gt:AH (E9 AE n m i) AE[i].1=some AE[i].2:=JR h4 h7;obtain⟨s3,FN⟩:=g'.ins;rcases g'.AE.get AE[i].1 with⟨_,z⟩|⟨v,ws,v1,v2,h8⟩
   ·rw[gt] at z;cases z
   ·rw[gt] at v2;cases v2;have p0:(σ.set 3 (some (kV (Sum.inr AE[i].1))))[0]? =some (some (.ref a)):=by rw[OZ (by decide)];exact e0
    have p1:(σ.set 3 (some (kV (Sum.inr AE[i].1))))[1]? =some (some (.str n)):=by rw[OZ (by decide)];exact e1
    have p2:(σ.set 3 (some (kV (Sum.inr AE[i].1))))[2]? =some (some (.str m)):=by rw[OZ (by decide)];exact e2
    have p3:(σ.set 3 (some (kV (Sum.inr AE[i].1))))[3]? =some (some (kV (Sum.inr AE[i].1))):=OV e3;have dg:BW H' d (kV (Sum.inr AE[i].1)) (some v):=by have:=BW.kq (k:=.inr AE[i].1) g'.Bt;rw[Gy,v1] at this;exact this
    have h9:AE[i].2.length<=100000:=nc.Fu.short _ (EZ h3);refine⟨_,p0,a,cN,s3,_,_,rfl,FN,C.cl,C.nf,rfl,_,p3,d,_,rfl,dg,_,p1,_,p2,v,_,n,m,rfl,h8,h9,fun u H2 s2 ru=>?_⟩;have g2:=g'.same s2;obtain⟨s0,Ep⟩:=g2.ins;have e4:(Ay h1).length<sizeLine:=by
     show(h1.map _).length<_;rw[AJ,g'.AE.len,A8];have:=BD List.length (Vd AE n m i);rw[AJ,AJ] at this;have:=nc.Dl
     lia
    have dp:=DW.kq (k:=.inr AE[i].1) (v:=u) g2.Bt e4;rw[Lg] at dp;refine⟨_,p0,a,cN,s0,_,_,rfl,Ep,C.cl,C.nf,rfl,_,p3,d,_,rfl,dp,?_⟩;have g3:=g2.upd (g2.AE.put AE[i].1 ru);have es:AW (E9 AE n m i) AE[i].1 (C3 AE[i].2 n m)=E9 AE n m (i+1):=(LR (k:=AE[i].1) (w:=AE[i].2) h4 h7).trans (cO ep);rw[es] at g3;have e8:L≠d:=fun z=>by rw[z,e7] at hL;cases hL
    refine⟨p0,p1,p2,by rw[List.length_set];exact e3,?_,by rw[AN e8];exact s2 _ _ e9,_,g3⟩;have n1:(Ex H1 d) d=none:=by unfold Ex;rw[AG rfl]
    exact(sm.trans s2).upd n1
  ·obtain⟨_,_,_,_,sm,_,h1,g'⟩:=c;have e:E9 AE n m ((Ay h0).map fun kv=>kV kv.1).length=DR AE n m:=by rw[AJ,h2];unfold E9;rw[CT,List.drop_length,Cp]
   rw[e] at g';exact q H' h1 ((Ex.mono s1).trans sm) g'
def Cw{α:Type}[DecidableEq α]{k j:α}{v:β}:∀l:List (α×β),AH (AW l k v) j=if j=k then some v else AH l j:=fun l=>by
 have hm:∀l:List (α×β),AH (l.map fun p=>if p.1=k then(p.1,v) else p) j=if j=k then(if(l.any fun p=>decide (p.1=k))=true then some v else none) else AH l j:=by
  intro l
  induction l with
  |nil=>simp[AH]
  |cons p l ih=>
   unfold AH at ih⊢;rw[Au,C7,C7,IV];by_cases z:p.1=k
   ·rw[AG z];by_cases y:j=k
    ·rw[AG y,Bb (show(p.1,v).1=j by rw[y];exact z),Bb z,Bool.true_or,AG rfl];rfl
    ·rw[AF y,BN (show¬(p.1,v).1=j from fun x=>y (x.symm.trans z))];rw[AF y] at ih;exact ih
   ·rw[AF z];by_cases y:j=k
    ·rw[AG y,BN z,Rg,BN (show¬p.1=j from fun x=>z (x.trans y))];rw[AG y] at ih;exact ih
    ·rw[AF y];rw[AF y] at ih
     cases decide (p.1=j) with
     |true=>rfl
     |false=>exact ih
 unfold AW;by_cases c:(l.any fun p=>decide (p.1=k))=true
 ·rw[AG c,hm l];by_cases y:j=k
  ·rw[AG y,AG y,AG c]
  ·rw[AF y,AF y]
 ·rw[AF c];have hn:∀p∈l,¬p.1=k:=fun p hp z=>c (IT.mpr ⟨p,hp,Bb z⟩);unfold AH;rw[List.find?_append];by_cases y:j=k
  ·rw[AG y,VJ.mpr (fun p hp=>by rw[y];simp[hn p hp])];rw[C7,Bb (show(k,v).1=j from y.symm)];rfl
  ·rw[AF y,C7,BN (show¬(k,v).1=j from fun x=>y x.symm)];cases List.find? (fun p=>decide (p.1=j)) l<;>rfl
inductive Rs where
 |no (msg:Str)|ok (r:Dt) (AE:List Pg)|un (AE:List Pg)
def Out(K:tW)(cN cR:OK)(H:Hp)(a d:OK)(Q:VK)(E:XK):Rs->Prop
 |.no msg=>Xw K cR E H msg
 |.ok r pgs'=>∀H' h0 u,AO (Ex H d) H'->Cd cN H' a d h0 pgs'->Rep H' r u->Q u H'
 |.un pgs'=>∀H' h0 u,AO (Ex H d) H'->Cd cN H' a d h0 pgs'->Q u H'
def E7(t:Str):List PR:=(CQ t).map D7
def Hh(AE:List Pg)(n t:Str):Rs:=if isNm n=true then .ok (.int (E7 t).length) (AW AE n (E7 t)) else .no "no name"
def renamed(AE:List Pg)(n m:Str)(ws:List PR):List Pg:=DR (AW (AQ AE n) m ws) n m
def He(AE:List Pg)(n m:Str):Rs:=match AH AE n with
 |none=>.no "no page"
 |some ws=>if isNm m=true then(match AH AE m with
  |some _=>.no "taken"
  |none=>.ok (.int (cnt (renamed AE n m ws) m)) (renamed AE n m ws)) else .no "no name"
def joined(AE:List Pg)(n o:Str)(w1 w2:List PR):List Pg:=DR (AW (AQ AE o) n (w1++w2)) o n
def Fi(AE:List Pg)(n o:Str):Rs:=match AH AE n with
 |none=>.no "no page"
 |some w1=>match AH AE o with
  |none=>.no "no page"
  |some w2=>if n=o then .no "same page" else .ok (.int (cnt (joined AE n o w1 w2) n)) (joined AE n o w1 w2)
def cutAt(AE:List Pg)(n m:Str)(ws:List PR)(k:Nat):List Pg:=AW (AW AE m (ws.drop k)) n (ws.take k++[(("to" :Str),m)])
def Hu(AE:List Pg)(n:Str)(pl:Int)(m:Str):Rs:=match AH AE n with
 |none=>.no "no page"
 |some ws=>if isNm m=true then(match AH AE m with
  |some _=>.no "taken"
  |none=>if pl<0\/(ws.length:Int)<pl then .no "no place" else .ok (.int ((ws.drop pl.toNat).length:Nat)) (cutAt AE n m ws pl.toNat)) else .no "no name"
def Hj(AE:List Pg)(n:Str):Rs:=match AH AE n with
 |none=>.no "no page"
 |some _=>.ok (.int (cnt AE n)) (AQ AE n)
def Gw(AE:List Pg)(n:Str):Rs:=match AH AE n with
 |none=>.no "no page"
 |some ws=>.ok (.str (Ti ws)) AE
def mC(AE:List Pg)(n:Str):Rs:=.ok (.lst ((QJ (HL AE n)).map Dt.str)) AE
def F7:(Ex H d) d=none:=by unfold Ex;rw[AG rfl]
def My{AA:List (Str×V)}(g:Dj H AA AE)(h:AE.length<=1000):(Ay AA).length<sizeLine:=by
 show(AA.map _).length<_;rw[AJ,g.len,A8]
 lia
def Xm(K:tW)(cN cR:OK):Sp:=fun vs H Q E=>∃a d n t h1 h0,vs=[.ref a,.str n,.str t]/\Cd cN H a d h1 h0/\DK h0/\n.length<=100000/\t.length<=10000/\Out K cN cR H a d Q E (Hh h0 n t)
def ij:A9 ["self","name","text"] ["self","name","text"] (Aq RF):=by left
def gC(F:Ak K "write_page" "Nook.write_page" RF f fd)(C:FJ K cN)(O:Hx mg)(R1:Rz P w K mg base cR "NoName" "no name")
 (FI:Ak K "is_name" "is_name" OI fI fdI)(bI:Binds K fdI ["word"] [])(mI:mg "is_name" =some (.ref fI))(HS:Hv P w K mg base "split_up" 3 ["text"] Zy):
 AY P w K mg base (Cs P w) 4 f fd ["self","name","text"] (Xm K cN cR):=by
 have GI:AY P w K mg base Aj 1 fI fdI ["word"] QK:=To FI O.all;refine ID F ij ?_ ?_
 ·rintro _ _ _ _ ⟨_,_,_,_,_,_,rfl,_⟩;rfl
 ·rintro _ A _ s H _ Q E hr ⟨a,d,n,t,h0,AE,rfl,g,nc,hz,h4,q⟩;have h1:=Cq hr;refine⟨_,(AR (A0 (JV (Eg (Ca GI hr.mn rfl mI FI.kp bI .nil BH (AB (pv 1) AI)))) (AU (Ke (k:=0) R1 hr rfl)) BE)
   (AR (Ee h1 (C9 (pv 0) rfl) (pv 1) (DL HS hr rfl BH (AB (pv 2) AI)) rfl)
   (AU (As (BZ IW rfl O.len Cu (AB (D1 h1 (C9 (pv 0) rfl) (pv 1) (fun _ _=>rfl)) AI)))))),?_⟩;refine⟨_,rfl,n,rfl,hz,fun H1 s1=>⟨_,rfl,?_⟩⟩;unfold Hh at q
  cases en:isNm n with
  |false=>rw[en,AF CZ] at q;exact Bk (Xw.mono q s1)
  |true=>
   rw[en,AG rfl] at q;refine BK ?_;refine⟨_,rfl,t,rfl,h4,fun D H2 s2 rD=>?_⟩;have g2:=(g.same s1).same s2;obtain⟨dx,hi⟩:=g2.ins;have h3:Rep H2 (Dg (E7 t)) (.ref D):=by
    have e:Dg (E7 t)=.lst ((CQ t).map Uj):=by unfold Dg E7;rw[Bo];rfl
    rw[e];exact rD
   have dp:=DW.kq (k:=.inr n) (v:=.ref D) g2.Bt (My g2.AE (BJ nc.Dl (by lia)));rw[Lg] at dp;refine⟨_,rfl,a,cN,dx,_,_,rfl,hi,C.cl,C.nf,rfl,_,rfl,d,_,rfl,dp,?_⟩;have g3:=g2.upd (g2.AE.put n h3);have s3:AO (Ex H d) (upd H2 d (.dK (Ay (AW h0 n (.ref D))))):=((Ex.sub.trans s1).trans s2).upd F7;generalize upd H2 d (.dK (Ay (AW h0 n (.ref D))))=H3 at g3 s3;obtain⟨h5,Ep⟩:=g3.ins;rcases g3.AE.get n with⟨_,z⟩|⟨v,ws,v1,v2,h2⟩
   ·rw[Cw,AG rfl] at z;cases z
   ·have ev:ws=E7 t:=by rw[Cw,AG rfl] at v2;exact(Ag v2).symm
    subst ev;have dg:BW H3 d (.str n) (some v):=by have:=BW.kq (k:=.inr n) g3.Bt;rw[Gy,v1] at this;exact this
    obtain⟨l,xs,rfl,hl,rr⟩:=E6 h2;refine⟨_,rfl,a,cN,h5,_,_,rfl,Ep,C.cl,C.nf,rfl,_,rfl,d,_,rfl,dg,l,xs,rfl,.inl (AL.of hl),?_⟩;have el:xs.length=(E7 t).length:=by have:=rr.1;rw[AJ] at this;exact this.symm
    rw[el];exact q _ _ _ s3 g3 (.int _)
def Gu{α:Type}[DecidableEq α](l:List (α×β))(k:α)(v:β):(AW l k v).length<=l.length+1:=by
 unfold AW;split
 ·rw[AJ];lia
 ·rw[An];exact Ae _
def NI{α β:Type}[DecidableEq α]{k:α}{v:β}:∀{l:List (α×β)},AH l k=some v->(AQ l k).length+1<=l.length
 |[],h=>by cases h
 |p::l,h=>by
  by_cases c:p.1=k
  ·have d1:AQ (p::l) k=AQ l k:=by unfold AQ;rw[FV];simp[c]
   rw[d1,CG];have:=EY (fun p:α×β=>decide (p.1≠k)) l;show(l.filter _).length+1<=_
   lia
  ·have d1:AQ (p::l) k=p::AQ l k:=by unfold AQ;rw[Et];simp[c]
   have h':AH l k=some v:=by unfold AH at h⊢;rw[C7,BN c] at h;exact h
   have:=NI h';rw[d1,CG,CG]
   lia
def EJ{α:Type}[DecidableEq α]{l:List (α×β)}{k:α}{v:β}(h:(l.map (·.1)).Nodup):((AW l k v).map (·.1)).Nodup:=by
 unfold AW;by_cases c:(l.any fun p=>decide (p.1=k))=true
 ·rw[AG c,Bo];have e:(l.map ((fun x:α×β=>x.1)∘fun p=>if p.1=k then(p.1,v) else p))=l.map (·.1):=Ew fun p _=>by show(if p.1=k then(p.1,v) else p).1=p.1;split<;>rfl
  rw[e];exact h
 ·rw[AF c,BF];refine Oh.mpr ⟨h,by simp,fun x hx y hy=>?_⟩;intro z;have h0:y=k:=by simpa using hy
  obtain⟨p,hp,e⟩:=BA.mp hx;exact c (IT.mpr ⟨p,hp,Bb (e.trans (z.trans h0))⟩)
def Pm(AE:List Pg)(n:Str)(ws:List PR)(nd:(AE.map (·.1)).Nodup):BM (AW AE n ws)<=BM AE+wsum ws:=by
 cases h:AH AE n with
 |none=>
  unfold AW;rw[AF (by
   intro c;obtain⟨p,hp,e⟩:=IT.mp c;have e':=IS e;unfold AH at h
   cases f:AE.find? (fun p=>decide (p.1=n)) with
   |none=>exact absurd e' (by simpa using VJ.mp f p hp)
   |some q=>rw[f] at h;cases h)];unfold BM;rw[BF,List.sum_append];simp
 |some w0=>
  obtain⟨i,hi⟩:=GC h;rw[LR nd hi];unfold BM;have hl:=(BY.mp hi).1;have:∀(l:List Nat)(i x:Nat),(l.set i x).sum<=l.sum+x:=by
   intro l
   induction l with
   |nil=>intro i x;simp
   |cons y l ih=>
    intro i x
    cases i with
    |zero=>simp;lia
    |succ i=>rw[VI,Bv,Bv];have:=ih i x;lia
  rw[List.map_set];exact this _ _ _
def NG{n:Str}{ws:List PR}:∀{AE:List Pg},AH AE n=some ws->BM (AQ AE n)+wsum ws<=BM AE
 |[],h=>by cases h
 |p::AE,h=>by
  by_cases c:p.1=n
  ·have d1:AQ (p::AE) n=AQ AE n:=by unfold AQ;rw[FV];simp[c]
   have e:p.2=ws:=by unfold AH at h;rw[C7,Bb c] at h;exact Ag h
   have:∀l:List Pg,BM (AQ l n)<=BM l:=by
    intro l
    induction l with
    |nil=>exact Ae _
    |cons q l ih=>
     by_cases z:q.1=n
     ·have d2:AQ (q::l) n=AQ l n:=by unfold AQ;rw[FV];simp[z]
      rw[d2];unfold BM at ih⊢;rw[Au,Bv]
      lia
     ·have d2:AQ (q::l) n=q::AQ l n:=by unfold AQ;rw[Et];simp[z]
      rw[d2];unfold BM at ih⊢;rw[Au,Bv,Au,Bv]
      lia
   have:=this AE;rw[d1,<-e];unfold BM at this⊢;rw[Au,Bv]
   lia
  ·have d1:AQ (p::AE) n=p::AQ AE n:=by unfold AQ;rw[Et];simp[c]
   have h':AH AE n=some ws:=by unfold AH at h⊢;rw[C7,BN c] at h;exact h
   have:=NG h';rw[d1];unfold BM at this⊢;rw[Au,Bv,Au,Bv]
   lia
def DK.moved{n m:Str}{ws:List PR}(nc:DK AE)(h:AH AE n=some ws):DK (AW (AQ AE n) m ws):=by
 refine⟨EJ (DP nc.nd),?_,?_⟩
 ·have h1:=Gu (AQ AE n) m ws;have h2:=NI h;have h3:=nc.Dl
  lia
 ·have h1:=Pm (AQ AE n) m ws (DP nc.nd);have h2:=NG h;have h3:=nc.BM
  lia
def WU{n m:Str}(s:L4 AE):L4 (DR AE n m):=by refine⟨by unfold DR;rw[AJ];exact s.Dl,fun p hp=>?_⟩;obtain⟨q,hq,rfl⟩:=BA.mp hp;show(C3 q.2 n m).length<=_;rw[W3];exact s.short q hq
def Wx(K:tW)(cN cR:OK):Sp:=fun vs H Q E=>∃a d n m h1 h0,vs=[.ref a,.str n,.str m]/\Cd cN H a d h1 h0/\DK h0/\m.length<=100000/\Out K cN cR H a d Q E (He h0 n m)
structure L5(P:qf)(w:qj)(K:tW)(mg:Str->Option AD)(base:qi)(cN cR:OK):Prop where
 need:∃f fd,Meth K cN "need_page" f/\AY P w K mg base (Cs P w) 4 f fd ["self","name"] (Yk K cN cR)/\Binds K fd ["self","name"] []
 free:∃f fd,Meth K cN "need_free_name" f/\AY P w K mg base (Cs P w) 4 f fd ["self","name"] (Y3 K cN cR)/\Binds K fd ["self","name"] []
 DR:∃f fd,Meth K cN "point_all_on" f/\AY P w K mg base Aj 2 f fd ["self","name","fresh"] (X2 cN)/\Binds K fd ["self","name","fresh"] []
 cnt:∃f fd,mg "count_pointers" =some (.ref f)/\rC K (.ref f)=true/\AY P w K mg base Aj 1 f fd ["pages","name"] ZU/\Binds K fd ["pages","name"] []
def iM:A9 ["self","name","fresh"] ["self","name","fresh"] (Aq Q9):=by left
def dh(F:Ak K "rename_page" "Nook.rename_page" Q9 f fd)(C:FJ K cN)(M:L5 P w K mg base cN cR):AY P w K mg base (Cs P w) 5 f fd ["self","name","fresh"] (Wx K cN cR):=by
 obtain⟨f1,e5,m1,G1,b1⟩:=M.need;obtain⟨f2,e4,m2,G2,b2⟩:=M.free;obtain⟨f3,e3,m3,G3,b3⟩:=M.DR;obtain⟨f4,e2,m4,k4,G4,b4⟩:=M.cnt;refine ID F iM ?_ ?_
 ·rintro _ _ _ _ ⟨_,_,_,_,_,_,rfl,_⟩;rfl
 ·rintro _ A _ s H _ Q E hr ⟨a,d,n,m,h0,AE,rfl,g,nc,hz,q⟩;have h6:=Cq hr;refine⟨_,(AR (Bf (Dy (pv 0) C.cl m1 G1 hr b1 .nil Ei (AB (pv 1) AI))) (AR (Bf (Dy (pv 0) C.cl m2 G2 hr b2 .nil Ei (AB (pv 2) AI)))
   (AR (Ee h6 (C9 (pv 0) rfl) (pv 2) (JL (C9 (pv 0) rfl) (pv 1) ⟨rfl,rfl,rfl,rfl⟩) rfl)
   (AR (Bf (Dy (pv 0) C.cl m3 G3 hr.mn b3 .nil BH (AB (pv 1) (AB (pv 2) AI))))
   (AU (As (Ca G4 hr.mn rfl m4 k4 b4 .nil BH (AB (C9 (pv 0) rfl) (AB (pv 2) AI))))))))),?_⟩;obtain⟨dx,hi⟩:=g.ins;unfold He at q;refine⟨_,rfl,a,dx,_,rfl,hi,rfl,_,rfl,a,d,n,h0,AE,rfl,g,fun ws hw H1 s1=>?_,fun hw=>by rw[hw] at q;exact q⟩;rw[hw] at q;have g1:=g.same s1;obtain⟨e1,DD⟩:=g1.ins;refine⟨_,rfl,a,e1,_,rfl,DD,rfl,_,rfl,a,d,m,h0,AE,rfl,g1,hz,fun en=>?_,fun w2 en hm=>?_,fun en hm H2 s2=>?_⟩
  ·dsimp only at q;rw[en,AF CZ] at q;exact Xw.mono q s1
  ·dsimp only at q;rw[en,AG rfl,hm] at q;exact Xw.mono q s1
  ·dsimp only at q;rw[en,AG rfl,hm] at q;have g2:=g1.same s2;obtain⟨e0,FN⟩:=g2.ins;rcases g2.AE.get n with⟨_,z⟩|⟨v,h2,v1,v2,h5⟩
   ·rw[hw] at z;cases z
   have ev:h2=ws:=by rw[hw] at v2;exact(Ag v2).symm
   subst ev;have vv:BP (Ay h0) (.inr n)=some v:=by rw[Gy];exact v1
   refine⟨_,rfl,a,cN,e0,_,_,rfl,FN,C.cl,C.nf,rfl,d,rfl,.inl ⟨_,.inl g2.Bt⟩,_,rfl,_,.inr n,_,g2.Bt,rfl,vv,?_⟩;rw[Sx];have g3:=g2.upd (g2.AE.drop n);have r3:Rep (upd H2 d (.dK (Ay (AQ h0 n)))) (Dg h2) v:=(Mq g2.Bt h5).same Ic;have s3:AO (Ex H d) (upd H2 d (.dK (Ay (AQ h0 n)))):=((Ex.sub.trans s1).trans s2).upd F7;generalize upd H2 d (.dK (Ay (AQ h0 n)))=H3 at g3 s3 r3;obtain⟨h9,Ep⟩:=g3.ins;have dp:=DW.kq (k:=.inr m) (v:=v) g3.Bt (My g3.AE (by have:=NI hw;have:=nc.Dl;lia));rw[Lg] at dp;refine⟨_,rfl,a,cN,h9,_,_,rfl,Ep,C.cl,C.nf,rfl,_,rfl,d,_,rfl,dp,?_⟩;have g4:=g3.upd (g3.AE.put m r3);have s4:=s3.upd (o:=.dK (Ay (AW (AQ h0 n) m v))) F7;generalize upd H3 d (.dK (Ay (AW (AQ h0 n) m v)))=H4 at g4 s4;obtain⟨h8,Jr⟩:=g4.ins;have h3:DK (AW (AQ AE n) m h2):=nc.moved hw;refine⟨_,rfl,a,h8,_,rfl,Jr,rfl,_,rfl,_,rfl,a,d,n,m,_,_,rfl,g4,h3,fun H5 h1 s5 g5=>?_⟩;obtain⟨h7,K3⟩:=g5.ins;have h4:AO (Ex H d) H5:=by have:AO (Ex H d) (Ex H4 d):=Ex.of_none s4 F7;exact this.trans s5
   refine⟨_,rfl,a,cN,h7,_,_,rfl,K3,C.cl,C.nf,rfl,_,rfl,d,m,h1,_,rfl,g5.Bt,g5.AE,WU h3.Fu,fun H6 s6=>?_⟩;exact q H6 h1 _ (h4.trans s6) (g5.same s6) (.int _)
def Xj{l:OK}{w1 w2:List PR}(h:H l=some (.lst (xs++ys)))(r1:Ab H (w1.map Df) xs)(r2:Ab H (w2.map Df) ys):Rep H (Dg (w1++w2)) (.ref l):=by
 refine Rep.IE h ⟨?_,fun i d x h1 h2=>?_⟩
 ·rw[BF,An,An,r1.1,r2.1]
 ·rw[BF] at h1;by_cases hi:i<xs.length
  ·rw[C2 hi] at h2;rw[C2 (by rw[r1.1];exact hi)] at h1;exact r1.2 i d x h1 h2
  ·rw[Cj (by lia)] at h2;rw[Cj (by rw[r1.1];lia),r1.1] at h1;exact r2.2 _ d x h1 h2
def DK.join{n o:Str}{w1 w2:List PR}(nc:DK AE)(hno:n≠o)(h1:AH AE n=some w1)(h2:AH AE o=some w2):DK (AW (AQ AE o) n (w1++w2)):=by
 have h3:AH (AQ AE o) n=some w1:=by rw[EG hno];exact h1
 refine⟨EJ (DP nc.nd),?_,?_⟩
 ·have a1:=Gu (AQ AE o) n (w1++w2);have a2:=NI h2;have a3:=nc.Dl
  lia
 ·
  obtain⟨i,hi⟩:=GC h3;rw[LR (DP nc.nd) hi];have a2:=NG h2;have a3:=nc.BM;have h0:∀(l:List Nat)(i x y:Nat),l[i]? =some y->(l.set i x).sum+y=l.sum+x:=by
   intro l
   induction l with
   |nil=>intro i x y h;simp at h
   |cons z l ih=>
    intro i x y h
    cases i with
    |zero=>
     have:z=y:=by simpa using h
     subst this;simp
     lia
    |succ i=>
     rw[VI,Bv,Bv];have:=ih i x y (by simpa using h)
     lia
  have k1:=h0 ((AQ AE o).map fun p:Pg=>wsum p.2) i (wsum (w1++w2)) (wsum w1) (by rw[Az,hi];rfl);have k2:=PK w1 w2;have e2:((AQ AE o).set i (n,w1++w2)).map (fun p:Pg=>wsum p.2)=((AQ AE o).map fun p:Pg=>wsum p.2).set i (wsum (w1++w2)):=by rw[List.map_set]
  unfold L2.BM at a2 a3⊢;rw[e2]
  lia
def Yt(K:tW)(cN cR:OK):Sp:=fun vs H Q E=>∃a d n m h1 h0,vs=[.ref a,.str n,.str m]/\Cd cN H a d h1 h0/\DK h0/\Out K cN cR H a d Q E (Fi h0 n m)
def YW(K:tW)(cN cR:OK):Sp:=fun vs H Q E=>∃a d n h1 h0,vs=[.ref a,.str n]/\Cd cN H a d h1 h0/\DK h0/\Out K cN cR H a d Q E (Hj h0 n)
def YR(K:tW)(cN cR:OK):Sp:=fun vs H Q E=>∃a d n h1 h0,vs=[.ref a,.str n]/\Cd cN H a d h1 h0/\DK h0/\(∀ws,AH h0 n=some ws->∀H',AO H H'->Q (.str (Ti ws)) H')/\(AH h0 n=none->Xw K cR E H "no page")
def Yz(cN:OK):Sp:=fun vs H Q _=>∃a d n h1 h0,vs=[.ref a,.str n]/\Cd cN H a d h1 h0/\DK h0/\h0.length<64/\∀u H',AO H H'->Rep H' (.lst ((QJ (HL h0 n)).map Dt.str)) u->Q u H'
def YX:A9 ["self","name","other","behind"] ["self","name","other"] (Aq RE):=by left
def jv(F:Ak K "join_pages" "Nook.join_pages" RE f fd)(C:FJ K cN)(M:L5 P w K mg base cN cR)(R:Rz P w K mg base cR "SamePage" "same page"):AY P w K mg base (Cs P w) 5 f fd ["self","name","other"] (Yt K cN cR):=by
 obtain⟨f1,q0,m1,G1,b1⟩:=M.need;obtain⟨f3,r9,m3,G3,b3⟩:=M.DR;obtain⟨f4,r8,m4,k4,G4,b4⟩:=M.cnt;refine ID F YX ?_ ?_
 ·rintro _ _ _ _ ⟨_,_,_,_,_,_,rfl,_⟩;rfl
 ·rintro _ A _ s H _ Q E hr ⟨a,d,n,m,h0,AE,rfl,g,nc,q⟩;have e6:=Cq hr;refine⟨_,(AR (Bf (Dy (pv 0) C.cl m1 G1 hr b1 .nil Ei (AB (pv 1) AI))) (AR (Bf (Dy (pv 0) C.cl m1 G1 hr b1 .nil Ei (AB (pv 2) AI)))
   (AR (A0 (Ar Ba (pv 1) (pv 2) (Am _)) (AU (Ke (k:=1) R hr rfl)) BE)
   (AR (Av (i:=3) YX.nd rfl (Aa rfl) (JL (C9 (pv 0) rfl) (pv 2) ⟨rfl,rfl,rfl,rfl⟩))
   (AR (Ee e6 (C9 (pv 0) rfl) (pv 1) (Ah KW (D1 e6 (C9 (pv 0) rfl) (pv 1) (fun _ _=>rfl)) (pv 3)) rfl)
   (AR (Bf (Dy (pv 0) C.cl m3 G3 hr.mn b3 .nil BH (AB (pv 2) (AB (pv 1) AI))))
   (AU (As (Ca G4 hr.mn rfl m4 k4 b4 .nil BH (AB (C9 (pv 0) rfl) (AB (pv 1) AI))))))))))),?_⟩;obtain⟨dx,hi⟩:=g.ins;unfold Fi at q;refine⟨_,rfl,a,dx,_,rfl,hi,rfl,_,rfl,a,d,n,h0,AE,rfl,g,fun w1 e1 H1 s1=>?_,fun hw=>by rw[hw] at q;exact q⟩;rw[e1] at q;have g1:=g.same s1;obtain⟨r6,DD⟩:=g1.ins;refine⟨_,rfl,a,r6,_,rfl,DD,rfl,_,rfl,a,d,m,h0,AE,rfl,g1,fun w2 h4 H2 s2=>?_,fun hw=>by dsimp only at q;rw[hw] at q;exact Xw.mono q s1⟩;dsimp only at q;rw[h4] at q;refine⟨_,rfl,_,rfl,rfl,_,rfl,?_⟩;have r7:(H:Hp)->AO (Ex H d) H:=fun _=>Ex.sub;by_cases h5:n=m
  ·dsimp only at q;rw[AG h5] at q;refine Bp (by rw[h5]) (Xw.mono q (s1.trans s2))
  ·dsimp only at q;rw[AF h5] at q;refine B1 (fun z=>h5 (V.str.inj z)) ?_;have g2:=g1.same s2;obtain⟨r5,FN⟩:=g2.ins;rcases g2.AE.get m with⟨_,z⟩|⟨v,h3,v1,v2,e8⟩
   ·rw[h4] at z;cases z
   have ev:h3=w2:=by rw[h4] at v2;exact(Ag v2).symm
   subst ev;have vv:BP (Ay h0) (.inr m)=some v:=by rw[Gy];exact v1
   refine⟨_,rfl,a,cN,r5,_,_,rfl,FN,C.cl,C.nf,rfl,d,rfl,.inl ⟨_,.inl g2.Bt⟩,_,rfl,_,.inr m,_,g2.Bt,rfl,vv,?_⟩;rw[Sx];have g3:=g2.upd (g2.AE.drop m);have r3:Rep (upd H2 d (.dK (Ay (AQ h0 m)))) (Dg h3) v:=(Mq g2.Bt e8).same Ic;have s3:AO (Ex H d) (upd H2 d (.dK (Ay (AQ h0 m)))):=((Ex.sub.trans s1).trans s2).upd F7;generalize upd H2 d (.dK (Ay (AQ h0 m)))=H3 at g3 s3 r3;obtain⟨r2,Ep⟩:=g3.ins;have h8:AH (AQ AE m) n=some w1:=by rw[EG h5];exact e1
   rcases g3.AE.get n with⟨_,z⟩|⟨u,h6,u1,u2,ru⟩
   ·rw[h8] at z;cases z
   have s8:h6=w1:=by rw[h8] at u2;exact(Ag u2).symm
   subst s8;have dg:BW H3 d (.str n) (some u):=by have:=BW.kq (k:=.inr n) g3.Bt;rw[Gy,u1] at this;exact this
   obtain⟨l1,e0,rfl,s0,e4⟩:=E6 ru;obtain⟨l2,h9,rfl,e9,e3⟩:=E6 r3;have z1:e0.length<=100000:=by have h1:=e4.1;rw[AJ] at h1;have h2:h6.length<=100000:=nc.Fu.short (n,h6) (by obtain⟨i,hi⟩:=GC e1;exact CA hi);lia
   have z2:h9.length<=100000:=by have h1:=e3.1;rw[AJ] at h1;have h2:h3.length<=100000:=nc.Fu.short (m,h3) (by obtain⟨i,hi⟩:=GC h4;exact CA hi);lia
   refine⟨_,rfl,a,cN,r2,_,_,rfl,Ep,C.cl,C.nf,rfl,_,rfl,d,_,rfl,dg,_,rfl,l1,l2,_,_,rfl,rfl,s0,e9,by rw[A8];lia,fun l hl=>?_⟩;have s4:=Af (o:=.lst (e0++h9)) hl;have g4:=g3.same s4;have r4:Rep (upd H3 l (.lst (e0++h9))) (Dg (h6++h3)) (.ref l):=Xj AM (e4.same s4) (e3.same s4);have e2:=s3.trans s4;generalize upd H3 l (.lst (e0++h9))=H4 at g4 r4 e2;obtain⟨r1,Jr⟩:=g4.ins;have dp:=DW.kq (k:=.inr n) (v:=.ref l) g4.Bt (My g4.AE (by have:=NI h4;have:=nc.Dl;lia));rw[Lg] at dp;refine⟨_,rfl,a,cN,r1,_,_,rfl,Jr,C.cl,C.nf,rfl,_,rfl,d,_,rfl,dp,?_⟩;have g5:=g4.upd (g4.AE.put n r4);have s5:=e2.upd (o:=.dK (Ay (AW (AQ h0 m) n (.ref l)))) F7;generalize upd H4 d (.dK (Ay (AW (AQ h0 m) n (.ref l))))=H5 at g5 s5;obtain⟨r0,K3⟩:=g5.ins;have e5:DK (AW (AQ AE m) n (h6++h3)):=nc.join h5 e1 h4;refine⟨_,rfl,a,r0,_,rfl,K3,rfl,_,rfl,_,rfl,a,d,m,n,_,_,rfl,g5,e5,fun H6 h7 s6 g6=>?_⟩;obtain⟨s9,Us⟩:=g6.ins;have e7:AO (Ex H d) H6:=(Ex.of_none s5 F7).trans s6;refine⟨_,rfl,a,cN,s9,_,_,rfl,Us,C.cl,C.nf,rfl,_,rfl,d,n,h7,_,rfl,g6.Bt,g6.AE,WU e5.Fu,fun H7 s7=>?_⟩;exact q H7 h7 _ (e7.trans s7) (g6.same s7) (.int _)
def Yb:A9 ["self","name","led"] ["self","name"] (Aq RK):=by left
def i3(F:Ak K "drop_page" "Nook.drop_page" RK f fd)(C:FJ K cN)(M:L5 P w K mg base cN cR):AY P w K mg base (Cs P w) 5 f fd ["self","name"] (YW K cN cR):=by
 obtain⟨f1,h7,m1,G1,b1⟩:=M.need;obtain⟨f4,h6,m4,k4,G4,b4⟩:=M.cnt;refine ID F Yb ?_ ?_
 ·rintro _ _ _ _ ⟨_,_,_,_,_,rfl,_⟩;rfl
 ·rintro _ A _ s H _ Q E hr ⟨a,d,n,h0,AE,rfl,g,nc,q⟩;have h5:=Cq hr;refine⟨_,(AR (Bf (Dy (pv 0) C.cl m1 G1 hr b1 .nil Ei (AB (pv 1) AI))) (AR (Av (i:=2) Yb.nd rfl (Aa rfl) (Ca G4 hr.mn rfl m4 k4 b4 .nil BH (AB (C9 (pv 0) rfl) (AB (pv 1) AI))))
   (AR (Bf (JL (C9 (pv 0) rfl) (pv 1) ⟨rfl,rfl,rfl,rfl⟩)) (AU (As (pv 2)))))),?_⟩;obtain⟨dx,hi⟩:=g.ins;unfold Hj at q;refine⟨_,rfl,a,dx,_,rfl,hi,rfl,_,rfl,a,d,n,h0,AE,rfl,g,fun ws hw H1 s1=>?_,fun hw=>by rw[hw] at q;exact q⟩;rw[hw] at q;have g1:=g.same s1;obtain⟨h2,DD⟩:=g1.ins;refine⟨_,rfl,a,cN,h2,_,_,rfl,DD,C.cl,C.nf,rfl,_,rfl,d,n,h0,_,rfl,g1.Bt,g1.AE,nc.Fu,fun H2 s2=>?_⟩;have g2:=g1.same s2;obtain⟨h1,FN⟩:=g2.ins;rcases g2.AE.get n with⟨_,z⟩|⟨v,h3,v1,v2,h4⟩
  ·rw[hw] at z;cases z
  have vv:BP (Ay h0) (.inr n)=some v:=by rw[Gy];exact v1
  refine⟨_,rfl,a,cN,h1,_,_,rfl,FN,C.cl,C.nf,rfl,d,rfl,.inl ⟨_,.inl g2.Bt⟩,_,rfl,_,.inr n,_,g2.Bt,rfl,vv,?_⟩;rw[Sx];have g3:=g2.upd (g2.AE.drop n);have s3:AO (Ex H d) (upd H2 d (.dK (Ay (AQ h0 n)))):=((Ex.sub.trans s1).trans s2).upd F7;exact⟨_,rfl,q _ _ _ s3 g3 (.int _)⟩
def kQ:A9 ["self","name"] ["self","name"] (Aq RW):=by left
def i8(F:Ak K "text_of" "Nook.text_of" RW f fd)(C:FJ K cN)(M:L5 P w K mg base cN cR)(HT:Hv P w K mg base "tell_text" 2 ["words"] aF):
 AY P w K mg base (Cs P w) 5 f fd ["self","name"] (YR K cN cR):=by
 obtain⟨f1,h8,m1,G1,b1⟩:=M.need;refine ID F kQ ?_ ?_
 ·rintro _ _ _ _ ⟨_,_,_,_,_,rfl,_⟩;rfl
 ·rintro _ A _ s H _ Q E hr ⟨a,d,n,h5,AE,rfl,g,nc,q,qx⟩;have h6:=Cq hr;refine⟨_,(AR (Bf (Dy (pv 0) C.cl m1 G1 hr b1 .nil Ei (AB (pv 1) AI))) (AU (As (DL HT hr.mn rfl BH (AB (D1 h6 (C9 (pv 0) rfl) (pv 1) (fun _ _=>rfl)) AI))))),?_⟩;obtain⟨dx,hi⟩:=g.ins;refine⟨_,rfl,a,dx,_,rfl,hi,rfl,_,rfl,a,d,n,h5,AE,rfl,g,fun ws hw H1 s1=>?_,qx⟩;have g1:=g.same s1;obtain⟨h7,DD⟩:=g1.ins;rcases g1.AE.get n with⟨_,z⟩|⟨v,h0,v1,v2,h4⟩
  ·rw[hw] at z;cases z
  have ev:h0=ws:=by rw[hw] at v2;exact(Ag v2).symm
  subst ev;have dg:BW H1 d (.str n) (some v):=by have:=BW.kq (k:=.inr n) g1.Bt;rw[Gy,v1] at this;exact this
  refine⟨_,rfl,a,cN,h7,_,_,rfl,DD,C.cl,C.nf,rfl,_,rfl,d,_,rfl,dg,v,h0,rfl,h4,?_,fun H2 s2=>q h0 hw H2 (s1.trans s2)⟩;have h1:=nc.BM;obtain⟨i,hi⟩:=GC hw;have h2:=NP (CA hi);show wsum h0<=_;have h3:wsum h0<=BM AE:=h2
  lia
def mE:A9 ["self","name"] ["self","name"] (Aq RL):=by left
def jA(F:Ak K "back_from" "Nook.back_from" RL f fd)(C:FJ K cN)(HT:Hv P w K mg base "pages_pointing" 1 ["pages","name"] Zi):
 AY P w K mg base Aj 2 f fd ["self","name"] (Yz cN):=by
 refine F.ok mE ?_ ?_
 ·rintro _ _ _ _ ⟨_,_,_,_,_,rfl,_⟩;rfl
 ·rintro _ A _ s H _ Q E hr ⟨a,d,n,h0,AE,rfl,g,nc,h1,q⟩;refine⟨_,(AU (As (DL HT hr rfl BH (AB (C9 (pv 0) rfl) (AB (pv 1) AI))))),?_⟩;obtain⟨dx,hi⟩:=g.ins;exact⟨_,rfl,a,cN,dx,_,_,rfl,hi,C.cl,C.nf,rfl,_,rfl,d,n,h0,_,rfl,g.Bt,g.AE,nc.Fu,h1,fun u H1 s1 r=>q u H1 s1 r⟩
def W6{pl:Int}(h0:0<=pl)(h1:pl<=xs.length):CP xs (some pl) none=xs.drop pl.toNat:=by
 unfold CP;have e1:Ax xs.length 0 (some pl)=pl.toNat:=by
  show(if pl<0 then _ else min pl.toNat xs.length)=_;rw[AF (by lia)]
  lia
 rw[e1];show(xs.drop pl.toNat).take (xs.length-pl.toNat)=_;rw[Eu (by rw[Dr];exact Ae _)]
def YZ{pl:Int}(h0:0<=pl)(h1:pl<=xs.length):CP xs none (some pl)=xs.take pl.toNat:=by
 unfold CP;have e1:Ax xs.length xs.length (some pl)=pl.toNat:=by
  show(if pl<0 then _ else min pl.toNat xs.length)=_;rw[AF (by lia)]
  lia
 rw[e1];show(xs.drop 0).take (pl.toNat-0)=_;rw[Md,Nat.sub_zero]
def eU{ws:List PR}(r:Ab H (ws.map Df) xs)(k:Nat):Ab H ((ws.drop k).map Df) (xs.drop k):=by
 refine⟨?_,fun i d x h1 h2=>?_⟩
 ·have:=r.1;rw[AJ] at this;rw[AJ,Dr,Dr,this]
 ·rw[Mm,Jx] at h1;rw[Jx] at h2;exact r.2 _ d x h1 h2
def eT{ws:List PR}(r:Ab H (ws.map Df) xs)(k:Nat):Ab H ((ws.take k).map Df) (xs.take k):=by
 refine⟨?_,fun i d x h1 h2=>?_⟩
 ·have:=r.1;rw[AJ] at this;rw[AJ,Be,Be,this]
 ·rw[LD] at h1;by_cases hi:i<k
  ·rw[List.getElem?_take_of_lt hi] at h1 h2;exact r.2 _ d x h1 h2
  ·rw[RA,AF hi] at h2;cases h2
def f9{p:PR}{t:OK}(h:H t=some (.tup (Fw p))):Ab H ([p].map Df) [.ref t]:=by
 refine⟨rfl,fun i d x h1 h2=>?_⟩
 match i with
 |0=>cases h1;cases h2;exact S9 h
 |i+1=>simp at h1
def Zb(K:tW)(cN cR:OK):Sp:=fun vs H Q E=>∃a d n pl m h1 h0,vs=[.ref a,.str n,.int pl,.str m]/\Cd cN H a d h1 h0/\DK h0/\m.length<=100000/\Out K cN cR H a d Q E (Hu h0 n pl m)
def X8(cN:OK):Sp:=fun vs H Q _=>∃a dx,vs=[.ref a]/\H a=some (.ins cN dx [])/\∀H' d,H d=none->d≠a->AO (Ex H a) H'->Cd cN H' a d [] []->Q .BB H'
def ZG:A9 ["self","name","place","fresh","words"] ["self","name","place","fresh"] (Aq RT):=by left
def kY(F:Ak K "cut_page" "Nook.cut_page" RT f fd)(C:FJ K cN)(M:L5 P w K mg base cN cR)(R:Rz P w K mg base cR "NoPlace" "no place")(O:Hx mg):AY P w K mg base (Cs P w) 5 f fd ["self","name","place","fresh"] (Zb K cN cR):=by
 obtain⟨f1,q8,m1,G1,b1⟩:=M.need;obtain⟨f2,q7,m2,G2,b2⟩:=M.free;refine ID F ZG ?_ ?_
 ·rintro _ _ _ _ ⟨_,_,_,_,_,_,_,rfl,_⟩;rfl
 ·rintro _ A _ s H _ Q E hr ⟨a,d,n,pl,m,h3,AE,rfl,g,nc,hz,q⟩;have h4:=Cq hr;refine⟨_,(AR (Bf (Dy (pv 0) C.cl m1 G1 hr b1 .nil Ei (AB (pv 1) AI))) (AR (Bf (Dy (pv 0) C.cl m2 G2 hr b2 .nil Ei (AB (pv 3) AI)))
   (AR (Av (i:=4) ZG.nd rfl (Aa rfl) (D1 h4 (C9 (pv 0) rfl) (pv 1) (fun _ _=>rfl)))
   (AR (A0 (PW.pt (Ie (Ar Hn (pv 2) AV (Am _)) (Ib (Ar QE (pv 2) (BZ IW rfl O.len Cu (AB (pv 4) AI)) (Am _))))) (AU (Ke (k:=1) R hr rfl)) BE)
   (AR (Ee h4 (C9 (pv 0) rfl) (pv 3) (Ed PV (pv 4) (DF (pv 2)) JS) rfl)
   (AR (Ee h4 (C9 (pv 0) rfl) (pv 1) (Ah KW (Ed PV (pv 4) JS (DF (pv 2))) (CO (AB (Bs (AB AZ (AB (pv 3) AI))) AI))) rfl)
   (AU (As (BZ IW rfl O.len Cu (AB (D1 h4 (C9 (pv 0) rfl) (pv 3) (fun _ _=>rfl)) AI)))))))))),?_⟩;obtain⟨dx,hi⟩:=g.ins;unfold Hu at q;refine⟨_,rfl,a,dx,_,rfl,hi,rfl,_,rfl,a,d,n,h3,AE,rfl,g,fun ws hw H1 s1=>?_,fun hw=>by rw[hw] at q;exact q⟩;rw[hw] at q;have g1:=g.same s1;obtain⟨q4,DD⟩:=g1.ins;refine⟨_,rfl,a,q4,_,rfl,DD,rfl,_,rfl,a,d,m,h3,AE,rfl,g1,hz,fun en=>?_,fun w2 en hm=>?_,fun en hm H2 s2=>?_⟩
  ·dsimp only at q;rw[en,AF CZ] at q;exact Xw.mono q s1
  ·dsimp only at q;rw[en,AG rfl,hm] at q;exact Xw.mono q s1
  ·dsimp only at q;rw[en,AG rfl,hm] at q;dsimp only at q;have g2:=g1.same s2;obtain⟨q3,FN⟩:=g2.ins;rcases g2.AE.get n with⟨_,z⟩|⟨v,h1,v1,v2,r1⟩
   ·rw[hw] at z;cases z
   have ev:h1=ws:=by rw[hw] at v2;exact(Ag v2).symm
   subst ev;have dg:BW H2 d (.str n) (some v):=by have:=BW.kq (k:=.inr n) g2.Bt;rw[Gy,v1] at this;exact this
   obtain⟨l,xs,rfl,hl,rr⟩:=E6 r1;have el:xs.length=h1.length:=by have:=rr.1;rw[AJ] at this;exact this.symm
   have zl:xs.length<=100000:=by have h2:h1.length<=100000:=nc.Fu.short (n,h1) (by obtain⟨i,hi⟩:=GC hw;exact CA hi);lia
   refine⟨_,rfl,a,cN,q3,_,_,rfl,FN,C.cl,C.nf,rfl,_,rfl,d,_,rfl,dg,?_⟩;refine⟨_,rfl,_,_,rfl,rfl,_,rfl,?_⟩;by_cases c1:pl<0
   ·rw[AG (.inl c1)] at q;refine Bp c1 ?_;exact Bk (Xw.mono q (s1.trans s2))
   refine B1 c1 ⟨_,rfl,_,rfl,l,xs,rfl,.inl (AL.of hl),_,_,rfl,rfl,_,rfl,?_⟩;by_cases c2:(xs.length:Int)<pl
   ·rw[AG (.inr (by rw[<-el];exact c2))] at q;exact Bp c2 (Xw.mono q (s1.trans s2))
   refine B1 c2 ?_;rw[AF (by rw[<-el];exact fun z=>z.elim c1 c2)] at q;have p0:0<=pl:=by lia
   have p1:pl<=xs.length:=by lia
   refine⟨_,rfl,_,rfl,_,rfl,l,xs,rfl,AL.of hl,fun l3 r7=>?_⟩;rw[W6 p0 p1];have s3:=Af (o:=.lst (xs.drop pl.toNat)) r7;have g3:=g2.same s3;have r3:Rep (upd H2 l3 (.lst (xs.drop pl.toNat))) (Dg (h1.drop pl.toNat)) (.ref l3):=Rep.IE AM ((eU rr _).same s3);have e4:AO (Ex H d) (upd H2 l3 (.lst (xs.drop pl.toNat))):=((Ex.sub.trans s1).trans s2).trans s3;have h8:=s3 _ _ hl;have e7:=rr.same s3;generalize upd H2 l3 (.lst (xs.drop pl.toNat))=H3 at g3 r3 e4 h8 e7;obtain⟨q2,Ep⟩:=g3.ins;have dp:=DW.kq (k:=.inr m) (v:=.ref l3) g3.Bt (My g3.AE (BJ nc.Dl (by lia)));rw[Lg] at dp;refine⟨_,rfl,a,cN,q2,_,_,rfl,Ep,C.cl,C.nf,rfl,_,rfl,d,_,rfl,dp,?_⟩;have g4:=g3.upd (g3.AE.put m r3);have s4:=e4.upd (o:=.dK (Ay (AW h3 m (.ref l3)))) F7;have e1:(upd H3 d (.dK (Ay (AW h3 m (.ref l3))))) l=some (.lst xs):=by rw[AN (CH h8 g3.Bt (by intro z;cases z))];exact h8
   have e6:Ab (upd H3 d (.dK (Ay (AW h3 m (.ref l3))))) (h1.map Df) xs:=by obtain⟨l0,q6,e0,h0,r0⟩:=E6 ((Mq g3.Bt (Rep.IE h8 e7)).same (Ic (o:=.dK (Ay (AW h3 m (.ref l3))))));cases e0;rw[e1] at h0;cases h0;exact r0
   generalize upd H3 d (.dK (Ay (AW h3 m (.ref l3))))=H4 at g4 s4 e1 e6;refine⟨_,rfl,_,rfl,_,rfl,l,xs,rfl,AL.of e1,fun l5 r6=>⟨_,rfl,(by exact zv),fun t ht=>⟨(by exact zw),fun l6 e9=>?_⟩⟩⟩;rw[YZ p0 p1] at ht e9⊢;have s5:=Af (o:=.lst (xs.take pl.toNat)) r6;have s6:=Af (o:=.tup [.str "to",.str m]) ht;have s7:=Af (o:=.lst [.ref t]) e9;have h9:=s5.trans (s6.trans s7);have h5:=(s6.trans s7) _ _ (AM (H:=H4) (a:=l5) (o:=.lst (xs.take pl.toNat)));have h6:=s7 _ _ (AM (a:=t) (o:=.tup [.str "to",.str m]) (H:=upd H4 l5 (.lst (xs.take pl.toNat))));have h7:=AM (a:=l6) (o:=.lst [V.ref t]) (H:=upd (upd H4 l5 (.lst (xs.take pl.toNat))) t (.tup [.str "to",.str m]));have g7:=g4.same h9;have e5:=e6.same h9;have e3:=s4.trans h9;generalize upd (upd (upd H4 l5 (.lst (xs.take pl.toNat))) t (.tup [.str "to",.str m])) l6 (.lst [V.ref t])=H7 at h5 h6 h7 g7 e5 e3;refine⟨l5,l6,_,_,rfl,rfl,h5,h7,by rw[Be,A8,Cm];lia,fun l8 r5=>?_⟩;have s8:=Af (o:=.lst (xs.take pl.toNat++[.ref t])) r5;have g8:=g7.same s8;have r8:Rep (upd H7 l8 (.lst (xs.take pl.toNat++[.ref t]))) (Dg (h1.take pl.toNat++[(("to" :Str),m)])) (.ref l8):=Xj AM ((eT e5 _).same s8) (f9 (s8 _ _ h6));have e2:=e3.trans s8;generalize upd H7 l8 (.lst (xs.take pl.toNat++[.ref t]))=H8 at g8 r8 e2;obtain⟨q1,Qi⟩:=g8.ins;have s0:=DW.kq (k:=.inr n) (v:=.ref l8) g8.Bt (My g8.AE (by have:=Gu AE m (h1.drop pl.toNat);have:=nc.Dl;lia));rw[Lg] at s0;refine⟨_,rfl,a,cN,q1,_,_,rfl,Qi,C.cl,C.nf,rfl,_,rfl,d,_,rfl,s0,?_⟩;have g9:=g8.upd (g8.AE.put n r8);have s9:=e2.upd (o:=.dK (Ay (AW (AW h3 m (.ref l3)) n (.ref l8)))) F7;generalize upd H8 d (.dK (Ay (AW (AW h3 m (.ref l3)) n (.ref l8))))=H9 at g9 s9;obtain⟨q0,Ur⟩:=g9.ins;have e8:m≠n:=fun z=>by rw[z,hw] at hm;cases hm
   rcases g9.AE.get m with⟨_,z⟩|⟨u,wu,u1,u2,ru⟩
   ·rw[Cw,AF e8,Cw,AG rfl] at z;cases z
   have eu:wu=h1.drop pl.toNat:=by rw[Cw,AF e8,Cw,AG rfl] at u2;exact(Ag u2).symm
   subst eu;have q5:BW H9 d (.str m) (some u):=by have:=BW.kq (k:=.inr m) g9.Bt;rw[Gy,u1] at this;exact this
   obtain⟨lu,xu,rfl,r4,r2⟩:=E6 ru;refine⟨_,rfl,a,cN,q0,_,_,rfl,Ur,C.cl,C.nf,rfl,_,rfl,d,_,rfl,q5,lu,xu,rfl,.inl (AL.of r4),?_⟩;have r9:xu.length=(h1.drop pl.toNat).length:=by have:=r2.1;rw[AJ] at this;exact this.symm
   rw[r9];exact q _ _ _ s9 g9 (.int _)
def i5:A9 ["self"] ["self"] (Aq Rm):=by left
def gJ(F:Ak K "__init__" "Nook.__init__" Rm f fd)(C:FJ K cN):AY P w K mg base Aj 1 f fd ["self"] (X8 cN):=by
 refine F.ok i5 ?_ ?_
 ·rintro _ _ _ _ ⟨_,_,rfl,_⟩;rfl
 ·rintro _ A _ s H _ Q E hr ⟨a,dx,rfl,hi,q⟩;refine⟨_,(AU (ka (pv 0) NH rfl)),fun d hd=>?_⟩;have s1:=Af (o:=.dK []) hd;have nd:d≠a:=fun z=>by rw[z,hi] at hd;cases hd
  have DD:=s1 _ _ hi;refine⟨_,rfl,a,cN,dx,_,rfl,DD,C.cl,C.nf,(by show 0<1000;decide),?_⟩;refine q _ d hd nd ?_ ⟨⟨dx,AM⟩,by rw[AN nd];exact AM,⟨rfl,fun i kv p e=>by simp at e⟩⟩;exact(Ex.sub.trans s1).upd (by unfold Ex;rw[AG rfl])
noncomputable def mk(k:Nat):List (List Int)->List (Int×Nat)
 |[]=>[]
 |r::rs=>r.map (fun x=>(x,k))++mk (k+1) rs
def R0:∀(xs ys:List (List Int))(k:Nat),mk k (xs++ys)=mk k xs++mk (k+xs.length) ys
 |[],ys,k=>by simp[mk]
 |x::xs,ys,k=>by
  show x.map (fun z=>(z,k))++mk (k+1) (xs++ys)=x.map (fun z=>(z,k))++mk (k+1) xs++mk (k+(xs.length+1)) ys;rw[R0 xs ys (k+1),Bu];have e:k+1+xs.length=k+(xs.length+1):=by lia
  rw[e]
def mem_mk:∀(rows:List (List Int))(k:Nat)(p:Int)(r:Nat),(p,r)∈mk k rows↔∃i row,rows[i]? =some row/\r=k+i/\p∈row
 |[],k,p,r=>by simp[mk]
 |x::xs,k,p,r=>by
  show(p,r)∈x.map (fun z=>(z,k))++mk (k+1) xs↔_;rw[BS,mem_mk xs (k+1) p r];constructor
  ·rintro(h|⟨i,row,h1,h2,h3⟩)
   ·obtain⟨z,hz,e⟩:=BA.mp h;have e1:z=p:=BD Prod.fst e;have e2:k=r:=BD Prod.snd e;exact⟨0,x,rfl,by lia,by rw[<-e1];exact hz⟩
   ·exact⟨i+1,row,by simpa using h1,by lia,h3⟩
  ·rintro⟨i,row,h1,h2,h3⟩
   cases i with
   |zero=>
    have e:x=row:=by simpa using h1
    subst e;exact .inl (BA.mpr ⟨p,h3,by rw[h2];rfl⟩)
   |succ i=>exact .inr ⟨i,row,by simpa using h1,by lia,h3⟩
noncomputable def fl(r:Nat)(acc:Option Int):List (Int×Nat)->Option Int
 |[]=>acc
 |q::t=>fl r (if q.2=r then some q.1 else acc) t
def Xn(r:Nat):∀(pre:List (Int×Nat))(acc:Option Int)(q:Int×Nat),fl r acc (pre++[q])=if q.2=r then some q.1 else fl r acc pre
 |[],acc,q=>rfl
 |p::t,acc,q=>Xn r t _ q
def TU(r:Nat):∀(pre:List (Int×Nat))(acc:Option Int)(x:Int),fl r acc pre=some x->acc=some x\/(x,r)∈pre
 |[],acc,x,h=>.inl h
 |q::t,acc,x,h=>by
  rcases TU r t _ x h with e|e
  ·by_cases hq:q.2=r
   ·rw[AG hq] at e;refine .inr (BI.mpr (.inl ?_));have:q.1=x:=Ag e;rw[<-this,<-hq]
   ·rw[AF hq] at e;exact .inl e
  ·exact .inr (Cn _ e)
abbrev GK(l:List (Int×Nat)):Prop:=l.Pairwise fun a b=>a.1<=b.1
def Tf(r:Nat):∀(pre:List (Int×Nat))(z:Int),GK pre->(∀q∈pre,z<=q.1)->∃x,fl r (some z) pre=some x/\z<=x
 |[],z,_,_=>⟨z,rfl,Gj _⟩
 |q::t,z,h,hz=>by
  obtain⟨h1,h2⟩:=IP.mp h;show∃x,fl r (if q.2=r then some q.1 else some z) t=some x/\z<=x;by_cases hq:q.2=r
  ·rw[AG hq];obtain⟨x,e,l⟩:=Tf r t q.1 h2 fun y hy=>h1 y hy;exact⟨x,e,Int.le_trans (hz q Co) l⟩
  ·rw[AF hq];exact Tf r t z h2 fun y hy=>hz y (Cn _ hy)
def ZH(r:Nat):∀(pre:List (Int×Nat))(acc:Option Int)(y:Int),GK pre->(y,r)∈pre->∃x,fl r acc pre=some x/\y<=x
 |q::t,acc,y,h,hy=>by
  obtain⟨h1,h2⟩:=IP.mp h;rcases BI.mp hy with e|e
  ·subst e;show∃x,fl r (if r=r then some y else acc) t=some x/\y<=x;rw[AG rfl];exact Tf r t y h2 fun z hz=>h1 z hz
  ·exact ZH r t _ y h2 e
def II(n:Nat)(pre:List (Int×Nat))(m:Int):Prop:=∃h0 p k mn,pre=h0++[(p,k)]/\(∀r,r<n->∃x,fl r none pre=some x/\mn<=x)/\(∃r,r<n/\fl r none pre=some mn)/\m=p-mn+1
structure Ij(n:Nat)(qs:List (Int×Nat))(b:Option Int):Prop where
 snd:∀m,b=some m->∃i,i<qs.length/\II n (qs.take (i+1)) m
 low:∀i,i<qs.length->∀m,II n (qs.take (i+1)) m->∃m',b=some m'/\m'<=m
noncomputable def Fo(s:Int)(row:List Int):Option Int:=(row.filter fun x=>decide (s<=x)).head?
def Kv(rows:List (List Int))(s m:Int):Prop:=∃e,(∃h0∈rows,s∈h0)/\s<=e/\(∀h0∈rows,∃x,Fo s h0=some x/\x<=e)/\(e=s\/∃h0∈rows,Fo s h0=some e)/\m=e-s+1
structure Lk(rows:List (List Int))(b:Option Int):Prop where
 snd:∀m,b=some m->∃s,Kv rows s m
 low:∀s m,Kv rows s m->∃m',b=some m'/\m'<=m
def NF{s x:Int}{row:List Int}(h:Fo s row=some x):x∈row/\s<=x:=by unfold Fo at h;have hm:=List.mem_of_mem_head? (Option.mem_def.mpr h);have:=Gg.mp hm;exact⟨this.1,IS this.2⟩
def YQ{s y:Int}{row:List Int}(hr:row.Pairwise (·<·))(hy:y∈row)(hs:s<=y):∃x,Fo s row=some x/\x<=y:=by
 unfold Fo;have hm:y∈row.filter fun x=>decide (s<=x):=Gg.mpr ⟨hy,Bb hs⟩;have hp:(row.filter fun x=>decide (s<=x)).Pairwise (·<·):=hr.filter _
 cases e:row.filter fun x=>decide (s<=x) with
 |nil=>rw[e] at hm;cases hm
 |cons a t=>
  rw[e] at hm hp;refine⟨a,rfl,?_⟩;rcases BI.mp hm with z|z
  ·lia
  ·have:=(IP.mp hp).1 y z
   lia
variable{rows:List (List Int)}{qs:List (Int×Nat)}
def ku(hrow:∀row∈rows,row.Pairwise (·<·))(hp:qs.Perm (mk 0 rows))(hs:GK qs)(hi:i<qs.length)(h:II rows.length (qs.take (i+1)) m):∃s m',Kv rows s m'/\m'<=m:=by
 obtain⟨e4,p,k,mn,e,all,⟨r1,e7,h1⟩,em⟩:=h;have e0:GK (qs.take (i+1)):=hs.sublist (List.take_sublist _ _);have h9:∀x r,(x,r)∈qs.take (i+1)->∃row,rows[r]? =some row/\x∈row:=fun x r hx=>by
  have:=hp.mem_iff.mp (FX hx);obtain⟨j,row,h1,h2,h3⟩:=(mem_mk rows 0 x r).mp this;have ej:r=j:=by lia
  rw[ej];exact⟨row,h1,h3⟩
 have h8:∀x r,(x,r)∈qs.take (i+1)->x<=p:=fun x r hx=>by
  rw[e] at e0 hx;obtain⟨_,_,h3⟩:=U7.mp e0;rcases BS.mp hx with z|z
  ·exact h3 _ z _ (BR.mpr rfl)
  ·have:=BR.mp z;have e2:x=p:=BD Prod.fst this
   lia
 have m1:(mn,r1)∈qs.take (i+1):=(TU r1 _ none mn h1).elim (fun z=>by cases z) id;obtain⟨h6,h0,e6⟩:=h9 mn r1 m1;have h7:∀row∈rows,∃x,Fo mn row=some x/\x<=p:=fun row hr=>by
  obtain⟨r,e1,er⟩:=F2.mp hr;obtain⟨x,hx,e5⟩:=all r e1;have m2:(x,r)∈qs.take (i+1):=(TU r _ none x hx).elim (fun z=>by cases z) id;obtain⟨h5,g1,g2⟩:=h9 x r m2;have e3:h5=row:=by rw[Ap e1] at g1;rw[<-er];exact(Ag g1).symm
  rw[e3] at g2;obtain⟨y,hy,ly⟩:=YQ (hrow row hr) g2 e5;exact⟨y,hy,Int.le_trans ly (h8 x r m2)⟩
 have mx:∀l:List (List Int),(∀row∈l,row∈rows)->∃e,mn<=e/\e<=p/\(∀row∈l,∃x,Fo mn row=some x/\x<=e)/\(e=mn\/∃row∈l,Fo mn row=some e):=by
  intro l
  induction l with
  |nil=>exact fun _=>⟨mn,Gj _,h8 mn r1 m1,fun row hr=>(by cases hr),.inl rfl⟩
  |cons a t ih=>
   intro hl;obtain⟨e,h1,h2,h3,h4⟩:=ih fun row hr=>hl row (Cn _ hr);obtain⟨x,hx,lx⟩:=h7 a (hl a Co);by_cases hc:x<=e
   ·refine⟨e,h1,h2,fun row hr=>?_,h4.imp id fun⟨row,hr,z⟩=>⟨row,Cn _ hr,z⟩⟩;rcases BI.mp hr with z|z
    ·rw[z];exact⟨x,hx,hc⟩
    ·exact h3 row z
   ·refine⟨x,by lia,lx,fun row hr=>?_,.inr ⟨a,Co,hx⟩⟩;rcases BI.mp hr with z|z
    ·rw[z];exact⟨x,hx,Gj _⟩
    ·obtain⟨y,hy,ly⟩:=h3 row z;exact⟨y,hy,by lia⟩
 obtain⟨e2,g1,g2,g3,g4⟩:=mx rows fun _ h=>h;refine⟨mn,e2-mn+1,⟨e2,⟨h6,CA h0,e6⟩,g1,g3,g4,rfl⟩,?_⟩
 lia
def kc(hrow:∀row∈rows,row.Pairwise (·<·))(hp:qs.Perm (mk 0 rows))(hs:GK qs){s:Int}(h:Kv rows s m):∃i m',i<qs.length/\II rows.length (qs.take (i+1)) m'/\m'<=m:=by
 obtain⟨e,⟨h6,e3,e6⟩,s1,all,he,em⟩:=h;have e9:∃r,(e,r)∈qs:=by
  have go:∀row∈rows,e∈row->∃r,(e,r)∈qs:=fun row hr hx=>by obtain⟨r,h9,er⟩:=F2.mp hr;exact⟨r,hp.mem_iff.mpr ((mem_mk rows 0 e r).mpr ⟨r,row,by rw[Ap h9,er],by lia,hx⟩)⟩
  rcases he with z|⟨row,hr,z⟩
  ·exact go h6 e3 (by rw[z];exact e6)
  ·exact go row hr (NF z).1
 obtain⟨re,e2⟩:=e9;have h7:∀(l:List (Int×Nat)),GK l->(∃q∈l,q.1<=e)->∃i,∃hi:i<l.length,l[i].1<=e/\∀j,i<j->∀hj:j<l.length,e<l[j].1:=by
  intro l
  induction l with
  |nil=>rintro _ ⟨q,hq,_⟩;cases hq
  |cons a t ih=>
   intro hl hq;obtain⟨h1,h2⟩:=IP.mp hl;by_cases ht:∃q∈t,q.1<=e
   ·obtain⟨i,hi,g1,g2⟩:=ih h2 ht;refine⟨i+1,by simp;lia,by simpa using g1,fun j hj e0=>?_⟩
    cases j with
    |zero=>lia
    |succ j=>simpa using g2 j (by lia) (by simpa using e0)
   ·have ha:a.1<=e:=by
     obtain⟨q,e7,e4⟩:=hq;rcases BI.mp e7 with z|z
     ·rw[<-z];exact e4
     ·exact absurd ⟨q,z,e4⟩ ht
    refine⟨0,by simp,by simpa using ha,fun j hj e0=>?_⟩
    cases j with
    |zero=>lia
    |succ j=>
     have e8:j<t.length:=by simpa using e0
     have:¬t[j].1<=e:=fun z=>ht ⟨t[j],EZ e8,z⟩;simp
     lia
 obtain⟨i,hi,g1,g2⟩:=h7 qs hs ⟨(e,re),e2,Gj _⟩;have h4:∀x r,(x,r)∈qs->x<=e->(x,r)∈qs.take (i+1):=fun x r hx s0=>by
  obtain⟨j,hj,ej⟩:=F2.mp hx;by_cases s2:j<=i
  ·rw[List.mem_take_iff_getElem];exact⟨j,by lia,ej⟩
  ·have:=g2 j (by lia) hj;rw[ej] at this;have h3:e<x:=this
   lia
 have h5:qs.take (i+1)=qs.take i++[qs[i]]:=by rw[C6,Ap hi];rfl
 have h8:GK (qs.take (i+1)):=hs.sublist (List.take_sublist _ _);have pe:qs[i].1=e:=by
  have h1:=h4 e re e2 (Gj _);rw[h5] at h1 h8;obtain⟨_,_,h3⟩:=U7.mp h8;rcases BS.mp h1 with z|z
  ·have:e<=qs[i].1:=h3 _ z _ (BR.mpr rfl)
   lia
  ·rw[<-BR.mp z]
 have e1:∀r,r<rows.length->∃x,fl r none (qs.take (i+1))=some x/\s<=x:=fun r hr=>by obtain⟨x,hx,lx⟩:=all rows[r] (EZ hr);obtain⟨h1,h2⟩:=NF hx;have:(x,r)∈qs:=hp.mem_iff.mpr ((mem_mk rows 0 x r).mpr ⟨r,rows[r],Ap hr,by lia,h1⟩);obtain⟨y,hy,ly⟩:=ZH r _ none x h8 (h4 x r this lx);exact⟨y,hy,by lia⟩
 have hn:0<rows.length:=OU e3;have e5:∀n,n<=rows.length->0<n->∃mn,s<=mn/\(∀r,r<n->∃x,fl r none (qs.take (i+1))=some x/\mn<=x)/\∃r,r<n/\fl r none (qs.take (i+1))=some mn:=by
  intro n
  induction n with
  |zero=>intro _ h;lia
  |succ n ih=>
   intro h1 _;obtain⟨x,hx,lx⟩:=e1 n (by lia);by_cases h0:n=0
   ·subst h0;refine⟨x,lx,fun r hr=>?_,0,by lia,hx⟩;have er:r=0:=by lia
    rw[er];exact⟨x,hx,Gj _⟩
   ·obtain⟨mn,k1,k2,r,k3,k4⟩:=ih (by lia) (by lia);by_cases hc:mn<=x
    ·refine⟨mn,k1,fun r' h9=>?_,r,by lia,k4⟩;by_cases er:r'=n
     ·rw[er];exact⟨x,hx,hc⟩
     ·exact k2 r' (by lia)
    ·refine⟨x,lx,fun r' h9=>?_,n,by lia,hx⟩;by_cases er:r'=n
     ·rw[er];exact⟨x,hx,Gj _⟩
     ·obtain⟨y,hy,ly⟩:=k2 r' (by lia);exact⟨y,hy,by lia⟩
 obtain⟨mn,k1,k2,k3⟩:=e5 rows.length (Ae _) hn;refine⟨i,e-mn+1,hi,⟨qs.take i,e,qs[i].2,mn,?_,k2,k3,rfl⟩,by lia⟩;rw[h5,<-pe]
structure FU(n:Nat)(pre:List (Int×Nat))(AA:List (Key×V)):Prop where
 nd:(AA.map (·.1)).Nodup
 ks:∀k∈AA.map (·.1),∃r,r<n/\k=Sum.inl (r:Int)
 vl:∀r:Nat,BP AA (Sum.inl (r:Int):Key)=(fl r none pre).map V.int
def FU.nil:FU n [] []:=⟨J2,fun k hk=>(by cases hk),fun r=>rfl⟩
def WQ(AA:List (Key×V))(k:Key)(v:V):(putK AA k v).map (·.1)=if(BP AA k).isSome=true then AA.map (·.1) else AA.map (·.1)++[k]:=by
 unfold putK;rw[KL];split
 ·rw[Bo];refine Ew fun x _=>?_;show(if x.1=k then(x.1,v) else x).1=x.1;split<;>rfl
 ·rw[BF];rfl
variable{pre:List (Int×Nat)}
def FU.put(h:FU n pre AA)(p:Int){r:Nat}(hr:r<n):FU n (pre++[(p,r)]) (putK AA (Sum.inl (r:Int)) (.int p)):=by
 refine⟨?_,?_,fun j=>?_⟩
 ·rw[WQ];split
  ·exact h.nd
  ·rename_i e;refine Xq h.nd (gG ?_)
   cases z:BP AA (Sum.inl (r:Int):Key) with
   |none=>rfl
   |some v=>rw[z] at e;exact absurd rfl e
 ·intro k hk;rw[WQ] at hk;split at hk
  ·exact h.ks k hk
  ·rcases BS.mp hk with z|z
   ·exact h.ks k z
   ·exact⟨r,hr,BR.mp z⟩
 ·rw[gW,Xn];by_cases e:r=j
  ·subst e;rw[AG rfl,AG rfl];rfl
  ·rw[AF (fun z=>e (by have:=O4 z;lia)),AF e];exact h.vl j
def SS{k:Key}{v:V}:∀{AA:List (Key×V)},(AA.map (·.1)).Nodup->(k,v)∈AA->BP AA k=some v
 |q::t,hn,hm=>by
  obtain⟨h1,h2⟩:=Ea.mp hn;rcases BI.mp hm with e|e
  ·subst e;exact Ff (p:=(k,v)) rfl
  ·rw[Fe (fun z=>h1 (BA.mpr ⟨_,e,z.symm⟩))];exact SS h2 e
def cP{k:Key}(h:BP AA k=some v):(k,v)∈AA:=by unfold BP at h;obtain⟨q,h1,h2⟩:=Ju.mp h;have h3:=List.mem_of_find?_eq_some h1;have h0:=List.find?_some h1;have h4:q.1=k:=IS h0;rw[<-h4,<-h2];exact h3
def FU.vals(h:FU n pre AA):∃ns:List Int,AA.map (·.2)=ns.map V.int/\ns.length=AA.length/\∀x,x∈ns↔∃r,r<n/\fl r none pre=some x:=by
 have h0:∀q∈AA,∃x r,q.2=V.int x/\r<n/\q.1=Sum.inl (r:Int)/\fl r none pre=some x:=fun q hq=>by obtain⟨r,hr,e⟩:=h.ks q.1 (BA.mpr ⟨q,hq,rfl⟩);have h1:=SS h.nd (show(q.1,q.2)∈AA from hq);rw[e,h.vl r] at h1;obtain⟨x,h2,h3⟩:=Ju.mp h1;exact⟨x,r,h3.symm,hr,e,h2⟩
 refine⟨AA.map fun q=>match q.2 with|.int x=>x|_=>0,?_,AJ ..,fun x=>⟨fun hx=>?_,fun⟨r,hr,e⟩=>?_⟩⟩
 ·rw[Bo];refine Ew fun q hq=>?_;obtain⟨x,r,e,_⟩:=h0 q hq;show q.2=V.int (match q.2 with|.int x=>x|_=>0);rw[e]
 ·obtain⟨q,hq,e⟩:=BA.mp hx;obtain⟨y,r,e2,hr,_,e3⟩:=h0 q hq;rw[e2] at e;exact⟨r,hr,by rw[e3];exact BD some e⟩
 ·have h1:=h.vl r;rw[e] at h1;exact BA.mpr ⟨_,cP h1,rfl⟩
def M3{α:Type}[DecidableEq α]:∀{l m:List α},l.Nodup->(∀x∈l,x∈m)->l.length<=m.length
 |[],_,_,_=>CC _
 |a::t,m,hn,hs=>by
  obtain⟨h1,h2⟩:=Ea.mp hn;have ha:=hs a Co;have:=M3 (l:=t) (m:=m.erase a) h2 fun x hx=>(List.mem_erase_of_ne (fun z=>h1 (by rw[<-z];exact hx))).mpr (hs x (Cn _ hx));rw[List.length_erase_of_mem ha] at this;have hp:0<m.length:=OU ha;rw[CG]
  lia
noncomputable def Ji(n:Nat):List Key:=(List.range n).map fun(r:Nat)=>(Sum.inl (r:Int):Key)
def FU.full(h:FU n pre AA):AA.length=n↔∀r,r<n->∃x,fl r none pre=some x:=by
 have hk:∀k∈AA.map (·.1),k∈Ji n:=fun k hk=>by obtain⟨r,hr,e⟩:=h.ks k hk;exact BA.mpr ⟨r,HZ.mpr hr,e.symm⟩
 have hl:(Ji n).length=n:=by unfold Ji;rw[AJ,MV]
 have ha:(Ji n).Nodup:=by
  unfold Ji;rw[List.nodup_iff_pairwise_ne,MU];refine(List.nodup_iff_pairwise_ne.mp List.nodup_range).imp ?_;intro a b h4 z;have:=O4 z
  lia
 constructor
 ·intro e r hr;have hm:(Sum.inl (r:Int):Key)∈AA.map (·.1):=by
   by_cases hc:(Sum.inl (r:Int):Key)∈AA.map (·.1)
   ·exact hc
   ·have h2:=M3 (l:=(Sum.inl (r:Int):Key)::AA.map (·.1)) (m:=Ji n) (Ea.mpr ⟨hc,h.nd⟩) fun x hx=>by
     rcases BI.mp hx with z|z
     ·rw[z];exact BA.mpr ⟨r,HZ.mpr hr,rfl⟩
     ·exact hk x z
    rw[hl,CG,AJ] at h2
    lia
  obtain⟨q,hq,e2⟩:=BA.mp hm;have h1:=SS h.nd (show(q.1,q.2)∈AA from hq);rw[e2,h.vl r] at h1;obtain⟨x,h3,_⟩:=Ju.mp h1;exact⟨x,h3⟩
 ·intro all;have h1:=M3 h.nd hk;have h2:=M3 ha (m:=AA.map (·.1)) fun k h0=>by obtain⟨r,hr,e⟩:=BA.mp h0;obtain⟨x,hx⟩:=all r (HZ.mp hr);have h3:=h.vl r;rw[hx] at h3;rw[<-e];exact jZ h3
  rw[hl,AJ] at h1 h2
  lia
def eA:Ij n [] none:=⟨fun m h=>(by cases h),fun i hi=>absurd hi (by simp)⟩
def take_snoc(l:List α)(q:α)(i:Nat)(h:i<(l++[q]).length):(i<l.length/\(l++[q]).take (i+1)=l.take (i+1))\/(i=l.length/\(l++[q]).take (i+1)=l++[q]):=by
 rw[An,Cm] at h;by_cases hi:i<l.length
 ·exact .inl ⟨hi,by rw[Uu (by lia)]⟩
 ·have e:i=l.length:=by lia
  refine .inr ⟨e,?_⟩;rw[Eu (by rw[An,Cm];lia)]
def cz{q:Int×Nat}{b:Option Int}(hn:∀m,¬II n (pre++[q]) m)(h:Ij n pre b):Ij n (pre++[q]) b:=by
 refine⟨fun m e=>?_,fun i hi m hm=>?_⟩
 ·obtain⟨i,hi,ha⟩:=h.snd m e;refine⟨i,by rw[An];lia,?_⟩;rw[Uu (by lia)];exact ha
 ·rcases take_snoc pre q i hi with⟨h1,h2⟩|⟨h1,h2⟩
  ·rw[h2] at hm;exact h.low i h1 m hm
  ·rw[h2] at hm;exact absurd hm (hn m)
def dj{q:Int×Nat}{b:Option Int}{m0:Int}(ha:II n (pre++[q]) m0)(hu:∀m,II n (pre++[q]) m->m=m0)(h:Ij n pre b):
 ((b=none\/∃b0,b=some b0/\m0<b0)->Ij n (pre++[q]) (some m0))/\((∃b0,b=some b0/\¬m0<b0)->Ij n (pre++[q]) b):=by
 have h0:(pre++[q]).take (pre.length+1)=pre++[q]:=by rw[Eu (by simp)]
 constructor
 ·intro hb;refine⟨fun m e=>?_,fun i hi m hm=>?_⟩
  ·cases e;exact⟨pre.length,by simp,by rw[h0];exact ha⟩
  ·rcases take_snoc pre q i hi with⟨h1,h2⟩|⟨h1,h2⟩
   ·rw[h2] at hm;obtain⟨m',e,l⟩:=h.low i h1 m hm;rcases hb with z|⟨b0,z,l2⟩
    ·rw[z] at e;cases e
    ·rw[z] at e;have:b0=m':=Ag e;exact⟨m0,rfl,by lia⟩
   ·rw[h2] at hm;rw[hu m hm];exact⟨m0,rfl,Gj _⟩
 ·rintro⟨b0,z,l2⟩;refine⟨fun m e=>?_,fun i hi m hm=>?_⟩
  ·obtain⟨i,hi,h3⟩:=h.snd m e;refine⟨i,by rw[An];lia,?_⟩;rw[Uu (by lia)];exact h3
  ·rcases take_snoc pre q i hi with⟨h1,h2⟩|⟨h1,h2⟩
   ·rw[h2] at hm;exact h.low i h1 m hm
   ·rw[h2] at hm;rw[hu m hm];exact⟨b0,z,by lia⟩
def kJ{p:Int}{mn:Int}(h:FU n (pre++[(p,k)]) AA)(hf:AA.length=n)(hv:∀x,x∈ns↔∃r,r<n/\fl r none (pre++[(p,k)])=some x)
 (hm:mn∈ns)(hl:∀x∈ns,mn<=x):II n (pre++[(p,k)]) (p-mn+1)/\∀m,II n (pre++[(p,k)]) m->m=p-mn+1:=by
 have all:=h.full.mp hf;obtain⟨r1,h2,h1⟩:=(hv mn).mp hm;refine⟨⟨pre,p,k,mn,rfl,fun r hr=>?_,⟨r1,h2,h1⟩,rfl⟩,fun m hA=>?_⟩
 ·obtain⟨x,hx⟩:=all r hr;exact⟨x,hx,hl x ((hv x).mpr ⟨r,hr,hx⟩)⟩
 ·obtain⟨h3,p',k',h0,e,g1,⟨r2,h4,g2⟩,em⟩:=hA;have e2:=List.append_inj_right' e rfl;have ep:p=p':=BD Prod.fst (List.singleton_inj.mp e2);have l1:mn<=h0:=hl h0 ((hv h0).mpr ⟨r2,h4,g2⟩);obtain⟨x,hx,l2⟩:=g1 r1 h2;have ex:mn=x:=Ag (h1.symm.trans hx)
  lia
def jz(h:FU n pre AA)(hf:AA.length≠n)(m:Int):¬II n pre m:=by rintro⟨_,_,_,mn,_,g1,_⟩;exact hf (h.full.mpr fun r hr=>let⟨x,hx,_⟩:=g1 r hr;⟨x,hx⟩)
def j7{a b:Option Int}(ha:Lk rows a)(hb:Lk rows b):a=b:=by
 cases a with
 |none=>
  cases b with
  |none=>rfl
  |some m=>obtain⟨s,h⟩:=hb.snd m rfl;obtain⟨_,z,_⟩:=ha.low s m h;cases z
 |some m=>
  obtain⟨s,h⟩:=ha.snd m rfl;obtain⟨m2,e2,l2⟩:=hb.low s m h;obtain⟨s3,h3⟩:=hb.snd m2 e2;obtain⟨m4,e4,l4⟩:=ha.low s3 m2 h3;have e5:m=m4:=Ag e4;rw[e2];congr 1
  lia
open Classical in
noncomputable def short(rows:List (List Int)):Option Int:=if h:∃b,Lk rows b then Classical.choose h else none
def W5{b:Option Int}(h:Lk rows b):short rows=b:=by have hx:∃b,Lk rows b:=⟨b,h⟩;unfold short;rw[dif_pos hx];exact j7 (Classical.choose_spec hx) h
def rowsOf(ws:List PR)(pl:List Str):List (List Int):=pl.map fun z=>CM z 0 ws
noncomputable def NW(rows:List (List Int)):Int:=(rows.map fun r=>(r.length:Int)).sum
noncomputable def Cz(pl:List Str)(near:Int)(p:Pg):Option (List Key):=match short (rowsOf p.2 pl) with
 |some m=>if m<=near then some [.inl m,.inl (-(NW (rowsOf p.2 pl))),.inr p.1] else none
 |none=>none
def CV(ws:List Str):List Str:=QJ (Dv [] ws)
noncomputable def N6(AE:List Pg)(ws:List Str)(near:Int):List (List Key):=AE.filterMap (Cz (CV ws) near)
noncomputable def Hs:List Key->Dt
 |[.inl m,_,.inr n]=>.tup [.str n,.int m]
 |_=>.lst []
noncomputable def IG(AE:List Pg)(ws:List Str)(near:Int):Dt:=.lst ((HG lexOrd (N6 AE ws near)).map Hs)
noncomputable def E8(AE:List Pg):Aw->Rs
 |.write n t=>Hh AE n t
 |.rename n m=>He AE n m
 |.join n o=>Fi AE n o
 |.cut n p m=>Hu AE n p m
 |.drop n=>Hj AE n
 |.text n=>Gw AE n
 |.back n=>mC AE n
 |.find ws far=>if ws=[] then .no "no words" else .ok (IG AE ws far) AE
def Yg(K:tW)(cN cR:OK):Sp:=fun vs H Q E=>∃a d v ws h1 h2 h0,vs=[.ref a,v,.int h1]/\Cd cN H a d h2 h0/\DK h0/\h0.length<64/\Rep H (.tup (ws.map Dt.str)) v/\ws.length<=9/\Out K cN cR H a d Q E (if ws=[] then .no "no words" else .ok (IG h0 ws h1) h0)
def UM(K:tW)(cN cR:OK):Sp:=fun vs H Q E=>∃a d v x h1 h0,vs=[.ref a,v]/\Cd cN H a d h1 h0/\DK h0/\h0.length<64/\Rep H (Aw.dt x) v/\x.Good/\Out K cN cR H a d Q E (E8 h0 x)
structure bC(P:qf)(w:qj)(K:tW)(mg:Str->Option AD)(base:qi)(cN cR:OK):Prop where
 write:∃f fd,Meth K cN "write_page" f/\AY P w K mg base (Cs P w) 4 f fd ["self","name","text"] (Xm K cN cR)/\Binds K fd ["self","name","text"] []
 rename:∃f fd,Meth K cN "rename_page" f/\AY P w K mg base (Cs P w) 5 f fd ["self","name","fresh"] (Wx K cN cR)/\Binds K fd ["self","name","fresh"] []
 join:∃f fd,Meth K cN "join_pages" f/\AY P w K mg base (Cs P w) 5 f fd ["self","name","other"] (Yt K cN cR)/\Binds K fd ["self","name","other"] []
 cut:∃f fd,Meth K cN "cut_page" f/\AY P w K mg base (Cs P w) 5 f fd ["self","name","place","fresh"] (Zb K cN cR)/\Binds K fd ["self","name","place","fresh"] []
 drop:∃f fd,Meth K cN "drop_page" f/\AY P w K mg base (Cs P w) 5 f fd ["self","name"] (YW K cN cR)/\Binds K fd ["self","name"] []
 text:∃f fd,Meth K cN "text_of" f/\AY P w K mg base (Cs P w) 5 f fd ["self","name"] (YR K cN cR)/\Binds K fd ["self","name"] []
 back:∃f fd,Meth K cN "back_from" f/\AY P w K mg base Aj 2 f fd ["self","name"] (Yz cN)/\Binds K fd ["self","name"] []
 find:∃f fd,Meth K cN "find_pages" f/\AY P w K mg base (Cs P w) 5 f fd ["self","wanted","near"] (Yg K cN cR)/\Binds K fd ["self","wanted","near"] []
def HI{a b:Str}(h:a≠b):V.str a≠V.str b:=fun z=>h (V.str.inj z)
def aM:A9 ["nook","deed","kind"] ["nook","deed"] (Aq Rv):=by left
def mj(F:Ak K "do_deed" "do_deed" Rv f fd)(C:FJ K cN)(M:bC P w K mg base cN cR):AY P w K mg base (Cs P w) 6 f fd ["nook","deed"] (UM K cN cR):=by
 obtain⟨f1,e3,m1,G1,b1⟩:=M.write;obtain⟨f2,e2,m2,G2,b2⟩:=M.rename;obtain⟨f3,e1,m3,G3,b3⟩:=M.join;obtain⟨f4,e0,m4,G4,b4⟩:=M.cut;obtain⟨f5,h9,m5,G5,b5⟩:=M.drop;obtain⟨f6,h8,m6,G6,b6⟩:=M.text;obtain⟨f7,h7,m7,G7,b7⟩:=M.back;obtain⟨f8,h6,m8,G8,b8⟩:=M.find;refine ID F aM ?_ ?_
 ·rintro _ _ _ _ ⟨_,_,_,_,_,_,rfl,_⟩;rfl
 ·rintro _ A _ s H _ Q E hr ⟨a,d,v,x,h3,h2,rfl,g,nc,h4,rx,h1,q⟩;refine⟨_,(AR (Av (i:=2) aM.nd rfl (Aa rfl) (A3 (pv 1)))
   (AR (A0 (Ar Ba (pv 2) AZ (Am _)) (AU (As (Dy (pv 0) C.cl m1 G1 hr.mn b1 .nil Ei (AB (A3 (pv 1)) (AB (A3 (pv 1)) AI))))) BE)
   (AR (A0 (Ar Ba (pv 2) AZ (Am _)) (AU (As (Dy (pv 0) C.cl m2 G2 hr b2 .nil Ei (AB (A3 (pv 1)) (AB (A3 (pv 1)) AI))))) BE)
   (AR (A0 (Ar Ba (pv 2) AZ (Am _)) (AU (As (Dy (pv 0) C.cl m3 G3 hr b3 .nil Ei (AB (A3 (pv 1)) (AB (A3 (pv 1)) AI))))) BE)
   (AR (A0 (Ar Ba (pv 2) AZ (Am _)) (AU (As (Dy (pv 0) C.cl m4 G4 hr b4 .nil Ei (AB (A3 (pv 1)) (AB (A3 (pv 1)) (AB (A3 (pv 1)) AI)))))) BE)
   (AR (A0 (Ar Ba (pv 2) AZ (Am _)) (AU (As (Dy (pv 0) C.cl m5 G5 hr b5 .nil Ei (AB (A3 (pv 1)) AI)))) BE)
   (AR (A0 (Ar Ba (pv 2) AZ (Am _)) (AU (As (Dy (pv 0) C.cl m6 G6 hr b6 .nil Ei (AB (A3 (pv 1)) AI)))) BE)
   (AR (A0 (Ar Ba (pv 2) AZ (Am _)) (AU (As (Dy (pv 0) C.cl m7 G7 hr.mn b7 .nil BH (AB (A3 (pv 1)) AI)))) BE)
   (AU (As (Dy (pv 0) C.cl m8 G8 hr b8 .nil Ei (AB (A3 (pv 1)) (AB (A3 (pv 1)) AI))))))))))))),?_⟩;obtain⟨dx,hi⟩:=g.ins
  cases x with
  |write n t=>obtain⟨ad,xs,rfl,h0,rr⟩:=By rx;obtain⟨u1,u2,u3,rfl,r1,r2,r3⟩:=EO rr;cases r1;cases r2;cases r3;refine⟨_,rfl,ad,_,_,_,rfl,rfl,AS.of h0,Bh (j:=0) rfl,?_⟩;refine Jm rfl ?_;exact⟨_,rfl,a,dx,_,rfl,hi,rfl,_,rfl,ad,_,_,_,rfl,rfl,AS.of h0,Bh (j:=1) rfl,_,rfl,ad,_,_,_,rfl,rfl,AS.of h0,Bh (j:=2) rfl,a,d,n,t,h3,h2,rfl,g,nc,BJ h1.1 (by lia),BJ h1.2 (by lia),q⟩
  |rename n m=>obtain⟨ad,xs,rfl,h0,rr⟩:=By rx;obtain⟨u1,u2,u3,rfl,r1,r2,r3⟩:=EO rr;cases r1;cases r2;cases r3;refine⟨_,rfl,ad,_,_,_,rfl,rfl,AS.of h0,Bh (j:=0) rfl,?_⟩;refine Bj rfl (by left) ?_;refine Jm rfl ?_;exact⟨_,rfl,a,dx,_,rfl,hi,rfl,_,rfl,ad,_,_,_,rfl,rfl,AS.of h0,Bh (j:=1) rfl,_,rfl,ad,_,_,_,rfl,rfl,AS.of h0,Bh (j:=2) rfl,a,d,n,m,h3,h2,rfl,g,nc,BJ h1.2 (by lia),q⟩
  |join n m=>obtain⟨ad,xs,rfl,h0,rr⟩:=By rx;obtain⟨u1,u2,u3,rfl,r1,r2,r3⟩:=EO rr;cases r1;cases r2;cases r3;refine⟨_,rfl,ad,_,_,_,rfl,rfl,AS.of h0,Bh (j:=0) rfl,?_⟩;refine Bj rfl (by left) ?_;refine Bj rfl (by left) ?_;refine Jm rfl ?_;exact⟨_,rfl,a,dx,_,rfl,hi,rfl,_,rfl,ad,_,_,_,rfl,rfl,AS.of h0,Bh (j:=1) rfl,_,rfl,ad,_,_,_,rfl,rfl,AS.of h0,Bh (j:=2) rfl,a,d,n,m,h3,h2,rfl,g,nc,q⟩
  |cut n pl m=>obtain⟨ad,xs,rfl,h0,rr⟩:=By rx;obtain⟨u1,u2,u3,u4,rfl,r1,r2,r3,r4⟩:=P4 rr;cases r1;cases r2;cases r3;cases r4;refine⟨_,rfl,ad,_,_,_,rfl,rfl,AS.of h0,Bh (j:=0) rfl,?_⟩;refine Bj rfl (by left) ?_;refine Bj rfl (by left) ?_;refine Bj rfl (by left) ?_;refine Jm rfl ?_;exact⟨_,rfl,a,dx,_,rfl,hi,rfl,_,rfl,ad,_,_,_,rfl,rfl,AS.of h0,Bh (j:=1) rfl,_,rfl,ad,_,_,_,rfl,rfl,AS.of h0,Bh (j:=2) rfl,_,rfl,ad,_,_,_,rfl,rfl,AS.of h0,Bh (j:=3) rfl,a,d,n,pl,m,h3,h2,rfl,g,nc,BJ h1.2 (by lia),q⟩
  |drop n=>obtain⟨ad,xs,rfl,h0,rr⟩:=By rx;obtain⟨u1,u2,rfl,r1,r2⟩:=Hl rr;cases r1;cases r2;refine⟨_,rfl,ad,_,_,_,rfl,rfl,AS.of h0,Bh (j:=0) rfl,?_⟩;refine Bj rfl (by left) ?_;refine Bj rfl (by left) ?_;refine Bj rfl (by left) ?_;refine Bj rfl (by left) ?_;refine Jm rfl ?_;exact⟨_,rfl,a,dx,_,rfl,hi,rfl,_,rfl,ad,_,_,_,rfl,rfl,AS.of h0,Bh (j:=1) rfl,a,d,n,h3,h2,rfl,g,nc,q⟩
  |text n=>
   obtain⟨ad,xs,rfl,h0,rr⟩:=By rx;obtain⟨u1,u2,rfl,r1,r2⟩:=Hl rr;cases r1;cases r2;refine⟨_,rfl,ad,_,_,_,rfl,rfl,AS.of h0,Bh (j:=0) rfl,?_⟩;refine Bj rfl (by left) ?_;refine Bj rfl (by left) ?_;refine Bj rfl (by left) ?_;refine Bj rfl (by left) ?_;refine Bj rfl (by left) ?_;refine Jm rfl ?_;refine⟨_,rfl,a,dx,_,rfl,hi,rfl,_,rfl,ad,_,_,_,rfl,rfl,AS.of h0,Bh (j:=1) rfl,a,d,n,h3,h2,rfl,g,nc,fun ws hw H' s'=>?_,fun hw=>?_⟩
   ·have q':Out K cN cR H a d Q E (Gw h2 n):=q;unfold Gw at q';rw[hw] at q';exact q' H' h3 _ (Ex.sub.trans s') (g.same s') (.str _)
   ·have q':Out K cN cR H a d Q E (Gw h2 n):=q;unfold Gw at q';rw[hw] at q';exact q'
  |back n=>obtain⟨ad,xs,rfl,h0,rr⟩:=By rx;obtain⟨u1,u2,rfl,r1,r2⟩:=Hl rr;cases r1;cases r2;refine⟨_,rfl,ad,_,_,_,rfl,rfl,AS.of h0,Bh (j:=0) rfl,?_⟩;refine Bj rfl (by left) ?_;refine Bj rfl (by left) ?_;refine Bj rfl (by left) ?_;refine Bj rfl (by left) ?_;refine Bj rfl (by left) ?_;refine Bj rfl (by left) ?_;refine Jm rfl ?_;exact⟨_,rfl,a,dx,_,rfl,hi,rfl,_,rfl,ad,_,_,_,rfl,rfl,AS.of h0,Bh (j:=1) rfl,a,d,n,h3,h2,rfl,g,nc,h4,fun u H' s' r=>q H' h3 u (Ex.sub.trans s') (g.same s') r⟩
  |find ws h5=>obtain⟨ad,xs,rfl,h0,rr⟩:=By rx;obtain⟨u1,u2,u3,rfl,r1,r2,r3⟩:=EO rr;cases r1;cases r3;refine⟨_,rfl,ad,_,_,_,rfl,rfl,AS.of h0,Bh (j:=0) rfl,?_⟩;refine Bj rfl (by left) ?_;refine Bj rfl (by left) ?_;refine Bj rfl (by left) ?_;refine Bj rfl (by left) ?_;refine Bj rfl (by left) ?_;refine Bj rfl (by left) ?_;refine Bj rfl (by left) ?_;exact⟨_,rfl,a,dx,_,rfl,hi,rfl,_,rfl,ad,_,_,_,rfl,rfl,AS.of h0,Bh (j:=1) rfl,_,rfl,ad,_,_,_,rfl,rfl,AS.of h0,Bh (j:=2) rfl,a,d,u2,ws,h5,h3,h2,rfl,g,nc,h4,r2,h1.1,q⟩
noncomputable def Rs.next(AE:List Pg):Rs->List Pg
 |.no _=>AE
 |.ok _ p=>p
 |.un p=>p
noncomputable def Rs.ar:Rs->Option Dt
 |.no m=>some (.str m)
 |.ok r _=>some r
 |.un _=>none
def ZJ(cN:OK):Sp:=fun vs H Q _=>∃a d v x h2 h0,vs=[.ref a,v]/\Cd cN H a d h2 h0/\DK h0/\h0.length<64/\Rep H (Aw.dt x) v/\x.Good/\
 ∀H' h1 u,AO (Ex H d) H'->Cd cN H' a d h1 ((E8 h0 x).next h0)->(∀r,(E8 h0 x).ar=some r->Rep H' r u)->Q u H'
noncomputable def DA:List Pg->List Aw->List Pg
 |AE,[]=>AE
 |AE,x::xs=>DA ((E8 AE x).next AE) xs
def Vm(x:Aw):∀(xs:List Aw)(AE:List Pg),DA AE (xs++[x])=(E8 (DA AE xs) x).next (DA AE xs)
 |[],AE=>rfl
 |y::ys,AE=>Vm x ys _
def Small(AE:List Pg)(xs:List Aw):Prop:=∀k,k<=xs.length->DK (DA AE (xs.take k))/\(DA AE (xs.take k)).length<64
def Told(AE:List Pg)(xs:List Aw)(H:Hp)(zs:List V):Prop:=∀(k:Nat)(x:Aw)(v:V)(r:Dt),xs[k]? =some x->zs[k]? =some v->(E8 (DA AE (xs.take k)) x).ar=some r->Rep H r v
def ZS(cN:OK):Sp:=fun vs H Q _=>∃a d v xs h2 h0,vs=[.ref a,v]/\Cd cN H a d h2 h0/\Rep H (.lst (xs.map Aw.dt)) v/\(∀x∈xs,x.Good)/\xs.length<=1000/\Small h0 xs/\
 ∀H' h1 l zs,AO (Ex H d) H'->Cd cN H' a d h1 (DA h0 xs)->H' l=some (.lst zs)->zs.length=xs.length->Told h0 xs H' zs->Q (.ref l) H'
def Wq(hd:H d=some (.dK kk))(s:AO (Ex H d) H'){x:Dt}(r:Rep H x v):Rep H' x v:=(Mq hd r).same s
def ZE:A9 ["nook","deed","refusal"] ["nook","deed"] (Aq Rb):=by left
def kR{fD:OK}{fdD:qk}(F:Ak K "answer_deed" "answer_deed" Rb f fd)(T:Io K mg cR fR)(GD:AY P w K mg base (Cs P w) 6 fD fdD ["nook","deed"] (UM K cN cR))(bD:Binds K fdD ["nook","deed"] [])(mD:mg "do_deed" =some (.ref fD))(kD:rC K (.ref fD)=true):
 AY P w K mg base Aj 7 f fd ["nook","deed"] (ZJ cN):=by
 refine F.ok ZE ?_ ?_
 ·rintro _ _ _ _ ⟨_,_,_,_,_,_,rfl,_⟩;rfl
 ·rintro _ A _ s H _ Q E hr ⟨a,d,v,x,h3,h2,rfl,g,nc,h6,rx,h1,q⟩;refine⟨_,(AU (kj (tb:=fun E=>Zu (Nl (UM K cN cR) [] E (Nm (EU 0) (Nm (EU 1) Lw)))) (i:=2) (Rc:=cR) ZE.nd rfl rfl (fun h4 W E hp=>AU (As (Ca GD hr rfl mD kD bD .nil hp (AB (pv 0) (AB (pv 1) AI))))) rfl T.mR T.cat ⟨rfl,rfl⟩)),?_⟩;refine⟨_,rfl,_,rfl,a,d,v,x,h3,h2,rfl,g,nc,h6,rx,h1,?_⟩
  cases e:E8 h2 x with
  |no h5=>rw[e] at q;exact fun C D H' xs xa s' hD=>⟨C,D,h5,rfl,rfl,xs,xa,hD,q H' h3 _ (Ex.sub.trans s') (g.same s') fun r er=>by cases er;exact .str _⟩
  |ok r p=>rw[e] at q;exact fun H' h0 u s' g' rr=>q H' h0 u s' g' fun r er=>by cases er;exact rr
  |un p=>rw[e] at q;exact fun H' h0 u s' g'=>q H' h0 u s' g' fun r er=>by cases er
def oA:A9 ["nook","deeds"] ["nook","deeds"] (Aq Ri):=by left
def lS(F:Ak K "answer_all" "answer_all" Ri f fd)(HA:Hv P w K mg base "answer_deed" 7 ["nook","deed"] (ZJ cN)):
 AY P w K mg base Aj 8 f fd ["nook","deeds"] (ZS cN):=by
 refine F.ok oA ?_ ?_
 ·rintro _ _ _ _ ⟨_,_,_,_,_,_,rfl,_⟩;rfl
 ·rintro _ A _ s H _ Q E hr ⟨a,d,v,xs,e0,h6,rfl,g,rx,h5,hz,Fu,q⟩;refine⟨_,(AU (As (E4 (ts:=["deed"]) (cap:=["nook"]) (ix:=[0]) (JK rfl rfl (by left) (by left) rfl rfl rfl rfl rfl) (Gv (pv 1)) (fun _ _ _ _ _=>Bg (i:=0) (IB (by left)) rfl (Aa rfl) (Cc rfl))
   (fun _ _ _ _ _=>Gs) (fun _ _ _ _ _=>SJ (DL HA hr rfl BH (AB (pv 1) (AB (pv 0) AI))))))),?_⟩;obtain⟨l,ys,rfl,hl,rr⟩:=E6 rx;have h7:=g.Bt;have h9:l≠d:=CH hl h7 (by intro z;cases z);have nD:∀D,H D=none->(Ex H d) D=none:=fun D hD=>by
   by_cases z:D=d
   ·rw[z];exact F7
   ·unfold Ex;rw[AF z];exact hD
  refine⟨_,rfl,l,rfl,⟨_,AL.of hl⟩,fun D hD=>F5 (xs:=ys) (fun i H'=>∃H0 zs h1,H'=upd H0 D (.lst zs)/\H0 D=none/\AO (Ex H d) H0/\Cd cN H0 a d h1 (DA h6 (xs.take i))/\zs.length=i/\Told h6 xs H0 zs) ?_ (fun i H' _ c=>?_) (fun i x H' ex c=>?_) fun H' c=>?_⟩
  ·exact⟨H,[],e0,rfl,hD,Ex.sub,g,rfl,fun k x v r _ ev=>by cases ev⟩
  ·obtain⟨H0,zs,h1,rfl,h0,s0,_⟩:=c;have e:=s0 _ _ (Ex.at hl h9);exact AL.of (by rw[AN (A7 e h0)];exact e)
  ·obtain⟨H0,zs,h1,rfl,h0,s0,g',rz,tl⟩:=c;obtain⟨x0,h3,h8⟩:=IZ rr ex;have hi:i<xs.length:=(BY.mp h3).1;obtain⟨nc,e3⟩:=Fu i (by lia);have eE:Ex (upd H0 D (.lst zs)) D=H0:=by
    rw[Ex.upd];funext b;by_cases z:b=D
    ·rw[z,Ex.self,h0]
    ·rw[Ex.ne z]
   refine⟨FH,D,zs,AM,?_⟩;rw[eE];refine⟨_,rfl,_,rfl,a,d,x,x0,h1,_,rfl,g',nc,e3,Wq h7 s0 h8,h5 x0 (CA h3),fun H2 h4 u s2 g2 r2 h2=>?_⟩;have e2:xs.take (i+1)=xs.take i++[x0]:=by rw[C6,h3];rfl
   refine⟨zs,AM,?_,H2,zs++[u],h4,by rw[JT],h2,(Ex.of_none s0 F7).trans s2,by rw[e2,Vm];exact g2,?_,?_⟩
   ·rw[A8]
    lia
   ·rw[An,Cm,rz]
   ·intro k y v r ey ev er;by_cases hk:k<zs.length
    ·rw[C2 hk] at ev;exact Wq g'.Bt s2 (tl k y v r ey ev er)
    ·rw[Cj (by lia)] at ev;have e1:k=i:=by
      have:=(BY.mp ev).1;rw[Cm] at this
      lia
     subst e1;rw[rz,E1] at ev;cases ev;rw[h3] at ey;cases ey;exact r2 r er
  ·obtain⟨H0,zs,h1,rfl,h0,s0,g',rz,tl⟩:=c;have e:ys.length=xs.length:=by have:=rr.1;rw[AJ] at this;lia
   rw[e,CT] at g';have su:=Af (o:=.lst zs) h0;exact q _ h1 _ zs (s0.trans su) (g'.same su) AM (by lia) fun k x v r ex ev er=>(tl k x v r ex ev er).same su
abbrev bA:g0:=VN
abbrev ah:g0:=Vk
def KY(H:Hp)(as:List OK)(rows:List (List Int)):Prop:=as.length=rows.length/\∀(i:Nat) a h0,as[i]? =some a->rows[i]? =some h0->H a=some (.lst (h0.map V.int))
def KY.same{as:List OK}(s:AO H H')(h:KY H as rows):KY H' as rows:=⟨h.1,fun i a h0 h1 h2=>s _ _ (h.2 i a h0 h1 h2)⟩
noncomputable def keysOf(q:Int×Nat):List Key:=[Sum.inl q.1,Sum.inl (q.2:Int)]
def JQ(H:Hp)(l:List (OK×Int×Nat)):Prop:=∀p∈l,H p.1=some (.tup [.int p.2.1,.int (p.2.2:Int)])
def JQ.same{l:List (OK×Int×Nat)}(s:AO H H')(h:JQ H l):JQ H' l:=fun p hp=>s _ _ (h p hp)
def aQ:Sp:=fun vs H Q _=>∃(a:OK)(as:List OK)(h0:List (List Int)),vs=[.ref a]/\H a=some (.lst (as.map V.ref))/\KY H as h0/\(mk 0 h0).length<=1000000/\h0.length<=100/\
 ∀(D:OK)(l:List (OK×Int×Nat))(H':Hp),AO H H'->H' D=some (.lst (l.map fun p=>V.ref p.1))->JQ H' l->(l.map (·.2)).Perm (mk 0 h0)->GK (l.map (·.2))->Q (.ref D) H'
noncomputable def HM:List Key->Int×Nat
 |[.inl a,.inl b]=>(a,b.toNat)
 |_=>(0,0)
def PL(q:Int×Nat):HM (keysOf q)=q:=by show(q.1,(q.2:Int).toNat)=q;rw[HU]
def gN{a b:Int×Nat}(h:DJ (keysOf b) (keysOf a)=false):a.1<=b.1:=by
 have h':(if(Sum.inl b.1:Key)=Sum.inl a.1 then DJ [Sum.inl (b.2:Int)] [Sum.inl (a.2:Int)] else EE (Sum.inl b.1) (Sum.inl a.1))=false:=h;by_cases e:(Sum.inl b.1:Key)=Sum.inl a.1
 ·have:=O4 e
  lia
 ·rw[AF e] at h';have:¬b.1<a.1:=Od h'
  lia
def bz(rows:List (List Int))(i:Nat):(mk 0 (rows.take i)).length<=(mk 0 rows).length:=by
 have e:=R0 (rows.take i) (rows.drop i) 0;rw[D9] at e;rw[e,An]
 lia
def VT(rows:List (List Int))(i:Nat)(row:List Int)(h:rows[i]? =some row):mk 0 (rows.take (i+1))=mk 0 (rows.take i)++row.map fun x=>(x,i):=by have hi:i<rows.length:=(BY.mp h).1;rw[C6,h];show mk 0 (rows.take i++[row])=_;rw[R0,Be,HY (by lia),J8];show _++(row.map (fun x=>(x,i))++[])=_;rw[Cp]
def QV:A9 ["rows","marks","number","row"] ["rows"] (Aq bA):=by left
def nF(F:Ak K "places_in_order" "places_in_order" bA f fd)(hen:mg "enumerate" =none)(hso:mg "sorted" =none):AY P w K mg base Aj 1 f fd ["rows"] aQ:=by
 refine F.ok QV ?_ ?_
 ·rintro _ _ _ _ ⟨_,_,_,rfl,_⟩;rfl
 ·rintro _ A _ s H _ Q E hr ⟨a,as,h0,rfl,ha,h2,s6,s3,k⟩;refine⟨_,AR (Av (i:=1) QV.nd rfl (Aa rfl) (CO AI))
   (AR (DZ DX rfl (Xs rfl hen (AB (pv 0) AI)) (Na rfl (Gq (Bg (i:=2) QV.nd rfl (Cc rfl)) (Gq (Bg (i:=3) QV.nd rfl (Aa rfl)) NQ)))
    (AU (Bf (Jb DE PySem.F.slot_list_extend PySem.F.type_list_extend fK (pv 1)
     (AB (E4 (ts:=["place"]) (cap:=["number"]) (ix:=[2]) (JK rfl rfl (by left) (by left) rfl rfl rfl rfl rfl) (Gv (pv 3))
      (fun _ _ _ _ _=>Bg (i:=0) (IB (by left)) rfl (Aa rfl) (Cc rfl)) (fun _ _ _ _ _=>Gs) (fun _ _ _ _ _=>Bs (AB (pv 0) (AB (pv 1) AI)))) AI)))))
   (AU (As (BZ Rt rfl hso O3 (AB (pv 1) AI))))),?_⟩;refine⟨by exact zy,fun mr h9=>?_⟩;have e8:a≠mr:=A7 ha h9;refine⟨_,rfl,a,rfl,⟨_,AL.of (by rw[AN e8];exact ha)⟩,?_⟩;refine iY (K:=K) (a:=a) (xs:=as.map V.ref) (fun i σ H'=>∃(v2 v3:Option V)(l:List (OK×Int×Nat)),σ=[some (.ref a),some (.ref mr),v2,v3]/\AO H H'/\H' mr=some (.lst (l.map fun p=>V.ref p.1))/\JQ H' l/\l.map (·.2)=mk 0 (h0.take i))
   ⟨none,none,[],rfl,(AO.refl H).upd h9,AM,fun p hp=>(by cases hp),rfl⟩ (fun i σ H' _ ⟨_,_,_,_,sm,_⟩=>AL.of (sm _ _ ha)) ?_ ?_
  ·rintro i x p σ H' hx hp ⟨v2,v3,l,rfl,sm,hm,pl,el⟩;rw[Az] at hx
   cases ea:as[i]?with
   |none=>rw[ea] at hx;cases hx
   |some ai=>
   rw[ea] at hx;obtain rfl:V.ref ai=x:=Ag hx;have hi:i<h0.length:=by rw[<-h2.1];exact(BY.mp ea).1
   have er:h0[i]? =some h0[i]:=Ap hi;generalize h0[i]=h3 at er;have e7:H ai=some (.lst (h3.map V.int)):=h2.2 i ai h3 ea er;have s1:AO H' (upd H' p (.tup [.int (i:Int),.ref ai])):=Af hp;have s0:=BD List.length (VT h0 i h3 er);have s5:=bz h0 (i+1);have e4:=BD List.length el;rw[An,AJ] at s0;rw[AJ] at e4;refine⟨p,_,rfl,AS.of AM,rfl,_,_,rfl,_,_,rfl,rfl,?_⟩;have e0:=s1 _ _ hm;refine⟨_,rfl,.inl ⟨rfl,_,AL.of e0⟩,_,rfl,ai,rfl,⟨_,AL.of ((sm.trans s1) _ _ e7)⟩,fun D hD=>?_⟩;have s4:mr≠D:=A7 e0 hD;refine F5 (K:=K) (xs:=h3.map V.int) (fun j H2=>∃t:List (OK×Int×Nat),AO (upd H' p (.tup [.int (i:Int),.ref ai])) H2/\H2 D=some (.lst (t.map fun p=>V.ref p.1))/\JQ H2 t/\t.map (·.2)=(h3.take j).map fun x=>(x,i))
    ⟨[],Af hD,AM,fun p hp=>(by cases hp),rfl⟩ (fun j H2 _ ⟨_,s2,_⟩=>AL.of (s2 _ _ ((sm.trans s1) _ _ e7))) ?_ ?_
   ·rintro j y H2 hy ⟨t,s2,h5,pt,et⟩;rw[Az] at hy
    cases ey:h3[j]?with
    |none=>rw[ey] at hy;cases hy
    |some z=>
    rw[ey] at hy;obtain rfl:V.int z=y:=Ag hy;have hj:j<h3.length:=(BY.mp ey).1;have h8:=BD List.length et;rw[AJ,AJ,Be] at h8;refine⟨FH,_,rfl,_,rfl,by exact zv,fun tp h6=>⟨t.map fun p=>V.ref p.1,(Af h6) _ _ h5,by rw[AJ,A8];lia,t++[(tp,z,i)],(s2.upd (s2.free h6)).upd hD,?_,fun q hq=>?_,?_⟩⟩
    ·rw[AM,BF];rfl
    ·have e9:tp≠D:=(A7 h5 h6).symm;rcases BS.mp hq with e|e
     ·have h1:=pt q e;rw[AN (CH h1 h5 (by intro zz;cases zz)),AN (A7 h1 h6)];exact h1
     ·rw[BR.mp e,AN e9,AM]
    ·rw[BF,et,C6,ey,BF];rfl
   ·rintro H2 ⟨t,s2,h5,pt,et⟩;rw[AJ,CT] at et;have h8:=BD List.length et;rw[AJ,AJ] at h8;have e6:=s2 _ _ e0;refine⟨mr,D,_,_,rfl,rfl,e6,h5,by rw[AJ,AJ,A8];lia,some (.int (i:Int)),some (.ref ai),l++t,rfl,(sm.trans (s1.trans s2)).upd h9,?_,fun q hq=>?_,?_⟩
    ·rw[AM,BF]
    ·have h1:H2 q.1=some (.tup [.int q.2.1,.int (q.2.2:Int)]):=by
      rcases BS.mp hq with e|e
      ·exact(s1.trans s2) _ _ (pl q e)
      ·exact pt q e
     rw[AN (CH h1 e6 (by intro zz;cases zz))];exact h1
    ·rw[BF,el,et,VT h0 i h3 er]
  ·rintro σ H' ⟨v2,v3,l,rfl,sm,hm,pl,el⟩;rw[AJ,h2.1,CT] at el;have e4:=BD List.length el;rw[AJ] at e4;refine⟨_,rfl,mr,l.map (fun p=>(p.1,keysOf p.2)),[true,true],rfl,AL.of (by rw[hm,Bo];rfl),by simp,fun q hq=>?_,by rw[AJ];lia,fun D qs hD h4 hsort=>?_⟩
   ·obtain⟨p,hp,e⟩:=BA.mp hq;rw[<-e];exact⟨pl p hp,rfl⟩
   ·have h7:∀q∈qs,∃p∈l,q=(p.1,keysOf p.2):=fun q hq=>by obtain⟨p,hp,e⟩:=BA.mp (h4.mem_iff.mp hq);exact⟨p,hp,e.symm⟩
    have s7:qs.map (fun q=>(q.1,keysOf (HM q.2)))=qs:=by
     conv=>rhs;rw[<-Mr qs]
     refine Ew fun q hq=>?_;obtain⟨p,hp,e⟩:=h7 q hq;rw[e];show(p.1,keysOf (HM (keysOf p.2)))=(p.1,keysOf p.2);rw[PL]
    have p2:(qs.map fun q=>(q.1,HM q.2)).Perm l:=by
     have:=h4.map fun q=>(q.1,HM q.2);rw[Bo] at this;have e3:l.map ((fun q:OK×List Key=>(q.1,HM q.2))∘fun p:OK×Int×Nat=>(p.1,keysOf p.2))=l:=by
      conv=>rhs;rw[<-Mr l]
      refine Ew fun p hp=>?_;show(p.1,HM (keysOf p.2))=p;rw[PL]
     rw[e3] at this;exact this
    refine k D (qs.map fun q=>(q.1,HM q.2)) _ (sm.upd (sm.free hD)) ?_ (fun q hq=>?_) ?_ ?_
    ·rw[AM,Bo];rfl
    ·have h1:=pl q (p2.mem_iff.mp hq);rw[AN (A7 h1 hD)];exact h1
    ·rw[<-el];exact p2.map (·.2)
    ·show GK ((qs.map fun q=>(q.1,HM q.2)).map (·.2));rw[Bo];unfold GK;rw[MU];refine List.Pairwise.imp_of_mem ?_ hsort;intro x y hx hy e5;obtain⟨p,hp,e1⟩:=h7 x hx;obtain⟨q,hq,e2⟩:=h7 y hy;rw[e1,e2] at e5⊢;show(HM (keysOf p.2)).1<=(HM (keysOf q.2)).1;rw[PL,PL];exact gN e5
noncomputable def UG:Option Int->V
 |none=>.BB
 |some m=>.int m
def Zw:Sp:=fun vs H Q _=>∃(a:OK)(as:List OK)(h0:List (List Int)),vs=[.ref a]/\H a=some (.lst (as.map V.ref))/\KY H as h0/\(mk 0 h0).length<=1000000/\h0.length<=100/\
 ∀(b:Option Int)(qs:List (Int×Nat))(H':Hp),AO H H'->qs.Perm (mk 0 h0)->GK qs->Ij h0.length qs b->Q (UG b) H'
def XS(h:FU n pre AA):AA.length<=n:=by
 have:=M3 h.nd (m:=Ji n) fun k hk=>by obtain⟨r,hr,e⟩:=h.ks k hk;exact BA.mpr ⟨r,HZ.mpr hr,e.symm⟩
 rw[AJ] at this;unfold Ji at this;rw[AJ,MV] at this;exact this
def Kj:A9 ["rows","latest","best","place","number","length"] ["rows"] (Aq ah):=by left
def Vg:Du X (.builtin "len") (fun xs H Q=>∃a AA,xs=[V.ref a]/\H a=some (.dK AA)/\Q (.int AA.length) H):=by intro h0 s σ H xs us Q I r h;obtain⟨a,AA,rfl,ha,q⟩:=h;obtain⟨u,rfl,ru⟩:=vals1 r;cases ru;exact nR I (.inl ha) fun t s' I'=>⟨.int AA.length,H,I',⟨t,rfl⟩,q⟩
def nq(F:Ak K "shortest" "shortest" ah f fd)(HP:Hv P w K mg base "places_in_order" 1 ["rows"] aQ)
 (hlen:mg "len" =none)(hmin:mg "min" =none):AY P w K mg base Aj 2 f fd ["rows"] Zw:=by
 refine F.ok Kj ?_ ?_
 ·rintro _ _ _ _ ⟨_,_,_,rfl,_⟩;rfl
 ·rintro _ A _ s H _ Q E hr ⟨a,as,h4,rfl,ha,h9,q1,s5,k⟩;have hu:=Cq hr;refine⟨_,AR (Av (i:=1) Kj.nd rfl (Aa rfl) NH)
   (AR (Av (i:=2) Kj.nd rfl (Aa rfl) Yu)
   (AR (DZ DX rfl (Gv (DL HP hr rfl BH (AB (pv 0) AI))) (Na rfl (Gq (Bg (i:=3) Kj.nd rfl (Aa rfl)) (Gq (Bg (i:=4) Kj.nd rfl (Aa rfl)) NQ)))
    (AR (Ee hu (pv 1) (pv 4) (pv 3) rfl)
    (AU (A0 (Ar Ba (BZ Vg rfl hlen Cu (AB (pv 1) AI)) (BZ IW rfl hlen Cu (AB (pv 0) AI)) (Am _))
     (AR (Av (i:=5) Kj.nd rfl (Aa rfl) (Ah Cb (Ah Lf (pv 3) (BZ (dz rfl) rfl hmin boot_min (AB (NZ K6 Uw uM WW (pv 1)) AI))) AV))
     (AU (A0 (PW.pt (Ie (JU (mT (pv 2))) (Ib (Ar Hn (pv 5) (pv 2) (Am _))))) (AU (Av (i:=2) Kj.nd rfl (Aa rfl) (pv 5))) BE)))
     BE))))
   (AU (As (pv 2))))),?_⟩;intro d hd;have q3:a≠d:=A7 ha hd;have s0:AO H (upd H d (.dK [])):=Af hd;refine⟨_,rfl,a,as,h4,rfl,s0 _ _ ha,h9.same s0,q1,s5,fun D l H1 s1 hD pl h6 e0=>?_⟩;have q0:H1 d=some (.dK []):=s1 _ _ AM;have n:=h4.length;generalize eq:l.map (·.2)=qs at h6 e0;refine⟨D,rfl,⟨_,AL.of hD⟩,?_⟩;have r8:l.length=qs.length:=by rw[<-eq,AJ]
  refine KJ (K:=K) (a:=D) (xs:=l.map fun p=>V.ref p.1) (fun i σ H'=>∃(b:Option Int)(v3 v4 v5:Option V)(e3:List (Key×V)),σ=[some (.ref a),some (.ref d),some (UG b),v3,v4,v5]/\AO H H'/\H' D=some (.lst (l.map fun p=>V.ref p.1))/\JQ H' l/\H' d=some (.dK e3)/\
   FU h4.length (qs.take i) e3/\Ij h4.length (qs.take i) b) ⟨none,none,none,none,[],rfl,s0.trans s1,hD,pl,q0,FU.nil,eA⟩ (fun i σ H' _ ⟨_,_,_,_,_,_,_,h,_⟩=>AL.of h) ?_ ?_
  ·rintro i x σ H' hx ⟨b,v3,v4,v5,e3,rfl,sm,r2,e9,s4,s6,h7⟩;rw[Az] at hx
   cases el:l[i]?with
   |none=>rw[el] at hx;cases hx
   |some q=>
   rw[el] at hx;obtain rfl:V.ref q.1=x:=Ag hx;have hi:i<l.length:=(BY.mp el).1;obtain⟨ad,p,r⟩:=q;have hq:=e9 _ (CA el);have r3:qs[i]? =some (p,r):=by rw[<-eq,Az,el];rfl
   have s9:r<h4.length:=by
    have:=h6.mem_iff.mp (CA r3);obtain⟨j,q2,h1,h2,_⟩:=(mem_mk h4 0 p r).mp this;have:=(BY.mp h1).1
    lia
   have e4:qs.take (i+1)=qs.take i++[(p,r)]:=by rw[C6,r3];rfl
   have h3:=s6.put p s9;rw[<-e4] at h3;have q4:=(XS s6);have s3:=(XS h3);refine⟨ad,_,rfl,AS.of hq,rfl,_,_,rfl,_,_,rfl,rfl,?_⟩;refine⟨_,rfl,_,rfl,_,rfl,d,_,rfl,DW.kq (k:=Sum.inl (r:Int)) s4 (by rw[A8];lia),?_⟩;generalize q5:putK e3 (Sum.inl (r:Int)) (V.int p)=h0 at h3 s3;have h8:(upd H' d (.dK h0)) d=some (.dK h0):=AM;have r1:∀b o,H' b=some o->(∀z,o≠.dK z)->(upd H' d (.dK h0)) b=some o:=fun b o h hz=>by rw[AN (CH h s4 (hz e3))];exact h
   have e2:AO H (upd H' d (.dK h0)):=sm.upd hd;have e6:=r1 D _ r2 (by intro z zz;cases zz);have e5:JQ (upd H' d (.dK h0)) l:=fun y hy=>r1 _ _ (e9 y hy) (by intro z zz;cases zz);generalize upd H' d (.dK h0)=H2 at h8 e2 e6 e5;refine⟨_,rfl,d,h0,rfl,h8,_,rfl,a,_,rfl,.inl (AL.of (e2 _ _ ha)),rfl,_,rfl,?_⟩;have r4:((as.map V.ref).length:Nat)=h4.length:=by rw[AJ];exact h9.1
   by_cases h5:h0.length=h4.length
   ·refine Bp (by rw[r4,h5]) ?_;obtain⟨ns,hv,r0,s2⟩:=h3.vals;have r6:ns≠[]:=by
     intro z;rw[z] at r0;have:0<h4.length:=VH (CC _) s9;simp at r0
     lia
    refine⟨_,rfl,_,rfl,.inr (.inr (.inl ⟨rfl,.inl ⟨_,h8⟩⟩)),d,h0,rfl,rfl,h8,fun vp s8=>⟨vp,d,h0,ns,rfl,AM,(Af s8) _ _ h8,hv,r6,fun mn r7 r9=>⟨_,_,rfl,rfl,_,_,rfl,rfl,?_⟩⟩⟩;have sv:AO H2 (upd H2 vp (Gz vp d)):=Af s8;generalize upd H2 vp (Gz vp d)=H3 at sv;have e1:=s2;rw[e4] at h3 e1;obtain⟨r5,e8⟩:=kJ h3 h5 e1 r7 r9;obtain⟨up1,s7⟩:=dj r5 e8 h7;rw[<-e4] at up1 s7;rw[<-e4] at h3
    cases b with
    |none=>refine⟨_,rfl,_,rfl,Bp rfl (Bk ⟨_,rfl,?_⟩)⟩;exact⟨some (p-mn+1),_,_,_,h0,rfl,e2.trans sv,sv _ _ e6,e5.same sv,sv _ _ h8,h3,up1 (.inl rfl)⟩
    |some b0=>
     refine⟨_,rfl,_,rfl,B1 (by intro z;cases z) ⟨_,rfl,_,rfl,_,_,rfl,rfl,_,rfl,?_⟩⟩;by_cases e7:p-mn+1<b0
     ·refine Bp e7 ⟨_,rfl,?_⟩;exact⟨some (p-mn+1),_,_,_,h0,rfl,e2.trans sv,sv _ _ e6,e5.same sv,sv _ _ h8,h3,up1 (.inr ⟨b0,rfl,e7⟩)⟩
     ·refine B1 e7 ?_;exact⟨some b0,_,_,_,h0,rfl,e2.trans sv,sv _ _ e6,e5.same sv,sv _ _ h8,h3,s7 ⟨b0,rfl,e7⟩⟩
   ·refine B1 (by rw[r4];intro z;exact h5 (by have:=V.int.inj z;lia)) ?_;refine⟨b,_,_,_,h0,rfl,e2,e6,e5,h8,h3,?_⟩;rw[e4];rw[e4] at h3;exact cz (fun m=>jz h3 h5 m) h7
  ·rintro σ H' ⟨b,v3,v4,v5,e3,rfl,sm,r2,e9,s4,s6,h7⟩;rw[AJ,r8,CT] at h7;exact⟨_,rfl,k b qs H' sm h6 e0 h7⟩
def iz(hrow:∀row∈rows,row.Pairwise (·<·))(hp:qs.Perm (mk 0 rows))(hs:GK qs){a:Option Int}(ha:Ij rows.length qs a):Lk rows a:=by
 have low:∀s m,Kv rows s m->∃m',a=some m'/\m'<=m:=fun s m h=>by obtain⟨i,m',hi,h1,l1⟩:=kc hrow hp hs h;obtain⟨m2,e2,l2⟩:=ha.low i hi m' h1;exact⟨m2,e2,by lia⟩
 refine⟨fun m e=>?_,low⟩;obtain⟨i,hi,h1⟩:=ha.snd m e;obtain⟨s,m',h2,l1⟩:=ku hrow hp hs hi h1;obtain⟨m2,e2,l2⟩:=low s m' h2;rw[e] at e2;have:m=m2:=Ag e2;have:m=m':=by lia
 exact⟨s,this▸h2⟩
def Tu:Sp:=fun vs H Q _=>∃(a:OK)(as:List OK)(h0:List (List Int)),vs=[.ref a]/\H a=some (.lst (as.map V.ref))/\KY H as h0/\(∀h1∈h0,h1.Pairwise (·<·))/\(mk 0 h0).length<=1000000/\h0.length<=100/\
 ∀H',AO H H'->Q (UG (short h0)) H'
def YS{vs:List V}{Q:VK}{E:XK}(h:Tu vs H Q E):Zw vs H Q E:=by obtain⟨a,as,h0,e,ha,hr,h3,h1,h2,k⟩:=h;refine⟨a,as,h0,e,ha,hr,h1,h2,fun b qs H' s hp hs hb=>?_⟩;have:=k H' s;rw[W5 (iz h3 hp hs hb)] at this;exact this
def Y7:∀(rows:List (List Int))(k n:Nat),(∀r∈rows,r.length<=n)->(mk k rows).length<=rows.length*n
 |[],_,_,_=>by simp[mk]
 |r::rows,k,n,h=>by
  have ih:=Y7 rows (k+1) n fun x hx=>h x (Cn _ hx);have h1:=h r Co;show(r.map (fun x=>(x,k))++mk (k+1) rows).length<=_;rw[An,AJ,CG,Nat.succ_mul]
  lia
def Xb(z:Str):∀(ws:List PR)(k:Nat),∀x∈CM z k ws,(k:Int)<=x
 |[],k,x,h=>by cases h
 |p::ws,k,x,h=>by
  rw[CM] at h;rcases BS.mp h with e|e
  ·split at e
   ·rw[BR.mp e];exact Gj _
   ·cases e
  ·have:=Xb z ws (k+1) x e
   lia
def NL(z:Str):∀(ws:List PR)(k:Nat),(CM z k ws).Pairwise (·<·)
 |[],k=>List.Pairwise.nil
 |p::ws,k=>by
  rw[CM];split
  ·refine IP.mpr ⟨fun x hx=>?_,NL z ws (k+1)⟩;have:=Xb z ws (k+1) x hx
   lia
  ·exact NL z ws (k+1)
def XO:∀(ws σ:List Str),(Dv σ ws).length<=σ.length+ws.length
 |[],σ=>by simp[Dv]
 |z::ws,σ=>by
  have h1:=XO ws (Dw σ z);have h2:=Wu σ z;rw[Dv,CG]
  lia
def dF(ws:List Str):(CV ws).length<=ws.length:=by unfold CV;rw[(LO Hk _).length_eq];have:=XO ws [];simpa using this
def jG{zs:List V}(r:Ab H (rows.map fun r=>Dt.lst (r.map Dt.int)) zs):∃as,zs=as.map V.ref/\KY H as rows:=by
 have h3:∀(i:Nat) v,zs[i]? =some v->∃a h0,v=.ref a/\rows[i]? =some h0/\H a=some (.lst (h0.map V.int)):=fun i v e=>by obtain⟨h0,er,rd⟩:=IZ r e;obtain⟨a,xs,rfl,ha,rr⟩:=E6 rd;rw[Ry rr] at ha;exact⟨a,h0,rfl,er,ha⟩
 refine⟨zs.map fun v=>match v with|.ref a=>a|_=>0,?_,?_,fun i a h0 h1 h2=>?_⟩
 ·rw[Bo];conv=>lhs;rw[<-Mr zs]
  refine Ew fun v hv=>?_;obtain⟨i,hi⟩:=U8 hv;obtain⟨a,_,rfl,_⟩:=h3 i v hi;rfl
 ·have:=r.1;rw[AJ] at this;rw[AJ,this]
 ·rw[Az] at h1
  cases e:zs[i]?with
  |none=>rw[e] at h1;cases h1
  |some v=>rw[e] at h1;obtain⟨b,h4,rfl,e2,hb⟩:=h3 i v e;rw[h2] at e2;cases Ag e2;cases Ag h1;exact hb
def dE(hK:X.K=K):Du X (.builtin "len") (fun xs H Q=>∃p ys,xs=[.ref p]/\(AL K H p ys\/AS K H p ys)/\Q (.int ys.length) H):=by subst hK;exact IW
def YY:Sp:=fun vs H Q _=>∃d v h0 h2 h1 ws,vs=[.ref d,v,.int h0]/\H d=some (.dK (Ay h2))/\Dj H h2 h1/\L4 h1/\Rep H (.tup (ws.map Dt.str)) v/\ws.length<=9/\∀H' u,AO H H'->Rep H' (IG h1 ws h0) u->Q u H'
def kW{o:HO}(s:AO H H'):AO (Ex H d) (upd H' d o):=fun b u e=>by
 by_cases z:b=d
 ·rw[z,Ex.self] at e;cases e
 ·rw[Ex.ne z] at e;rw[AN z];exact s _ _ e
def cS{pl:List Str}{near:Int}{p:Pg}{k:List Key}(h:Cz pl near p=some k):∃m c n,k=[.inl m,.inl c,.inr n]:=by
 unfold Cz at h
 cases e:short (rowsOf p.2 pl) with
 |none=>rw[e] at h;cases h
 |some m=>
  rw[e] at h;dsimp only at h;split at h
  ·exact⟨_,_,_,(Ag h).symm⟩
  ·cases h
def pW{y:Str}{a b c:V}:Iy [x,y,z] [] σ [some a,some b,some c]:=⟨[some a,some b,some c],rfl,rfl⟩
def JX:A9 ["pages","wanted","near","plains","found","page","words","rows","length","places"] ["pages","wanted","near"] (Aq Rj):=by left
def lP:qm "set" =some (.type "set"):=by left
def lh:((["length","places","page"]:List Str)++([]:List Str)).Nodup:=by left
def ie(F:Ak K "pages_near" "pages_near" Rj f fd)(O:Hx mg)
 (HP:Hv P w K mg base "places_of" 1 ["words","plain"] ZK)
 (HS:Hv P w K mg base "shortest" 2 ["rows"] Tu):AY P w K mg base Aj 3 f fd ["pages","wanted","near"] YY:=by
 obtain⟨_,_,GP,bP,mP,kP⟩:=HP.ex;refine F.ok JX ?_ ?_
 ·rintro _ _ _ _ ⟨_,_,_,_,_,_,rfl,_⟩;rfl
 ·rintro _ A _ s H _ Q E hr ⟨d,v,h6,e3,h9,ws,rfl,hd,g,q2,rv,c1,q⟩;have c3:=Cq hr;refine⟨_,(AR (Av (i:=3) JX.nd rfl (Aa rfl) (BZ (cT (P:=P) (w:=w) rfl rfl rfl) rfl O.so O3 (AB (Gn (dU (P:=P) (w:=w) (K:=K) rfl rfl rfl rfl) rfl O.set lP (AB (pv 1) AI)) AI)))
   (AR (Av (i:=4) JX.nd rfl (Aa rfl) (CO AI))
   (AR (jQ (DZ DX rfl (W7 (NZ K6 Uz uN WZ (pv 0))) (Na rfl (Gq (Bg (i:=5) JX.nd rfl (Aa rfl)) (Gq (Bg (i:=6) JX.nd rfl (Cc rfl)) NQ)))
    (AR (Su (i:=7) (ts:=["plain"]) (cap:=["words"]) (ix:=[6]) (JK rfl rfl (by left) (by left) rfl rfl rfl rfl rfl) JX.nd rfl rfl (Gv (pv 3))
     (fun _ _ _ _ _=>Bg (i:=0) (IB (by left)) rfl (Aa rfl) (Cc rfl)) (fun _ _ _ _ _=>Gs) (fun _ _ _ _ _=>SJ (Ca (GP.mono (by decide:1<=2)) hr rfl mP kP bP .nil BH (AB (pv 1) (AB (pv 0) AI)))))
    (AR (Av (i:=8) JX.nd rfl (Aa rfl) (DL HS hr rfl BH (AB (pv 7) AI)))
    (AU (A0 (PW.pt (Eh (JU (j3 (pv 8))) (GB (Ar ZQ (pv 8) (pv 2) (Am _)))))
     (AR (Av (i:=9) JX.nd rfl (Aa rfl) (BZ (WE rfl) rfl O.sum uL (AB (E4 (ts:=["row"]) (cap:=[]) (ix:=[]) (cl:=[]) (JJ rfl rfl (by left) (by left)) (Gv (pv 7))
      (fun _ _ _ _ _=>Bg (i:=0) K2 rfl (Aa rfl) (Cc rfl)) (fun _ _ _ _ _=>Gs) (fun _ _ _ _ _=>BZ (dE (K:=K) rfl) rfl O.len Cu (AB (pv 0) AI))) AI)))
     (AU (Bf (Jb DE Dq Dm DN (pv 4) (AB (Bs (AB (pv 8) (AB (EL EK (pv 9)) (AB (pv 5) AI)))) AI))))) BE))))))
   (AU (As (E4 (ts:=["length","places","page"]) (cap:=[]) (ix:=[]) (cl:=[]) (JJ rfl rfl (by left) (by left)) (Gv (BZ Rt rfl O.so O3 (AB (pv 4) AI)))
    (fun _ _ _ _ _=>jy (K:=K) (i:=0) (j:=1) (l:=2) rfl rfl lh rfl (Aa rfl) (Cc rfl) rfl (Aa rfl) (Cc rfl) rfl (Aa rfl) (Cc rfl)) (fun _ _ _ _ _=>Gs) (fun _ _ _ _ _=>Bs (AB (pv 2) (AB (pv 0) AI))))))))),?_⟩;obtain⟨av,xs,rfl,ha,rr⟩:=By rv;rw[LP rr] at ha;refine⟨_,rfl,av,ws,rfl,AS.of ha,by lia,fun Dz hz=>⟨Dz,Dv [] ws,rfl,AM,fun Dp ys b7 pz sz=>?_⟩⟩;have ey:ys=CV ws:=Pp Hk pz sz;have q0:=dF ws;rw[<-ey] at q0;have s1:AO H (upd (upd H Dz (L9 P w Dz (Dv [] ws))) Dp (.lst (ys.map V.str))):=(Af hz).trans (Af b7);have a2:(upd (upd H Dz (L9 P w Dz (Dv [] ws))) Dp (.lst (ys.map V.str))) Dp=some (.lst (ys.map V.str)):=AM;refine⟨by exact zy,fun fo r8=>?_⟩;have s2:=s1.trans (Af (o:=.lst []) r8);have q5:=(Af (o:=.lst []) r8) _ _ a2;have q9:(upd (upd (upd H Dz (L9 P w Dz (Dv [] ws))) Dp (.lst (ys.map V.str))) fo (.lst [])) fo=some (.lst []):=AM;have b3:H fo=none:=s1.free r8;have b0:Dp≠fo:=A7 a2 r8;generalize upd (upd (upd H Dz (L9 P w Dz (Dv [] ws))) Dp (.lst (ys.map V.str))) fo (.lst [])=H2 at s2 q5 q9;have s8:=s2 _ _ hd;refine⟨d,Ay e3,s8,_,rfl,.inr (.inr (.inl ⟨rfl,.inl ⟨_,s8⟩⟩)),d,_,rfl,rfl,s8,fun p hp=>⟨p,d,Ay e3,rfl,AM,by rw[AN (A7 s8 hp)];exact s8,fun o=>?_⟩⟩;have gE:=g.ex hd;have sE:AO (Ex H d) (upd (upd H2 p (Ho p d)) d (.BQ o (.dK (Ay e3)))):=kW (s2.trans (Af hp));have a9:Dp≠d:=CH q5 s8 (by intro z;cases z);have r6:fo≠d:=CH q9 s8 (by intro z;cases z);have b2:(upd (upd H2 p (Ho p d)) d (.BQ o (.dK (Ay e3)))) Dp=some (.lst (ys.map V.str)):=by rw[AN a9];exact(Af hp) _ _ q5
  have b4:(upd (upd H2 p (Ho p d)) d (.BQ o (.dK (Ay e3)))) fo=some (.lst []):=by rw[AN r6];exact(Af hp) _ _ q9
  refine fc (fun i σ H'=>∃(v5 v6 v7 v8 v9:Option V)(l:List (OK×List Key)),σ=[some (.ref d),some (.ref av),some (.int h6),some (.ref Dp),some (.ref fo),v5,v6,v7,v8,v9]/\AO (Ex H d) H'/\H' d=some (.BQ o (.dK (Ay e3)))/\H' Dp=some (.lst (ys.map V.str))/\
   H' fo=some (.lst (l.map fun p=>V.ref p.1))/\(∀q∈l,H' q.1=some (.tup (q.2.map kV)))/\l.map (·.2)=(h9.take i).filterMap (Cz ys h6)) ⟨none,none,none,none,none,[],rfl,sE,AM,b2,b4,fun q hq=>(by cases hq),rfl⟩ (fun i σ H' ⟨_,_,_,_,_,_,_,_,h,_⟩=>h) ?_ ?_
  ·rintro i k x pr σ H' ex b1 ⟨v5,v6,v7,v8,v9,l,rfl,sm,r9,a1,q8,hl,el⟩;obtain⟨n,a5,rfl⟩:=Pr ex;have hi:i<h9.length:=by rw[<-g.len];exact(BY.mp a5).1
   have ep:h9[i]? =some h9[i]:=Ap hi;obtain⟨en,r4⟩:=gE.row i _ _ a5 ep;have en:n=h9[i].1:=en;have r4:Rep (Ex H d) (Dg h9[i].2) x:=r4;have wl:h9[i].2.length<=100000:=q2.short _ (EZ hi);generalize h9[i]=pg at ep en r4 wl;have s3:AO H' (upd H' pr (.tup [kV (Sum.inr n),x])):=Af b1;refine⟨pr,_,rfl,AS.of AM,rfl,_,_,rfl,_,_,rfl,rfl,?_⟩;generalize upd H' pr (.tup [kV (Sum.inr n),x])=H3 at s3;have t3:=sm.trans s3;have e6:=s3 _ _ a1;refine⟨_,rfl,Dp,rfl,⟨_,AL.of e6⟩,fun D hD=>F5 (xs:=ys.map V.str) (fun j H4=>∃H0 zs,H4=upd H0 D (.lst zs)/\H0 D=none/\AO H3 H0/\Ab H0 ((rowsOf pg.2 (ys.take j)).map fun r=>Dt.lst (r.map Dt.int)) zs) ?_ (fun j H4 _ c=>?_) (fun j y H4 h8 c=>?_) fun H4 c=>?_⟩
   ·exact⟨H3,[],rfl,hD,AO.refl _,Ab.nil⟩
   ·obtain⟨H0,zs,rfl,h0,s0,_⟩:=c;have e:=s0 _ _ e6;exact AL.of (by rw[AN (A7 e h0)];exact e)
   ·obtain⟨H0,zs,rfl,h0,s0,rz⟩:=c;rw[Az] at h8
    cases ez:ys[j]?with
    |none=>rw[ez] at h8;cases h8
    |some z=>
    rw[ez] at h8;obtain rfl:V.str z=y:=Ag h8;have eE:Ex (upd H0 D (.lst zs)) D=H0:=by
     rw[Ex.upd];funext b;by_cases c:b=D
     ·rw[c,Ex.self,h0]
     ·rw[Ex.ne c]
    refine⟨FH,D,zs,AM,?_⟩;rw[eE];refine⟨_,rfl,_,rfl,x,pg.2,z,rfl,r4.same (t3.trans s0),wl,fun u H5 s5 ru h5=>?_⟩;refine⟨zs,AM,?_,H5,zs++[u],by rw[JT],h5,s0.trans s5,?_⟩
    ·have h1:=rz.1;unfold rowsOf at h1;rw[AJ,AJ] at h1;have h2:=FY j ys;rw[A8]
     lia
    ·have e2:rowsOf pg.2 (ys.take (j+1))=rowsOf pg.2 (ys.take j)++[CM z 0 pg.2]:=by unfold rowsOf;rw[C6,ez,BF];rfl
     rw[e2,BF];exact(rz.same s5).snoc ru
   ·obtain⟨H0,zs,rfl,h0,s0,rz⟩:=c;rw[AJ,CT] at rz;obtain⟨as,rfl,ra⟩:=jG rz;have s4:AO H0 (upd H0 D (.lst (as.map V.ref))):=Af h0;have t1:(upd H0 D (.lst (as.map V.ref))) D=some (.lst (as.map V.ref)):=AM;have r5:=ra.same s4;have t5:=s0.trans s4;generalize upd H0 D (.lst (as.map V.ref))=H4 at s4 t1 r5 t5;have rl:(rowsOf pg.2 ys).length=ys.length:=by unfold rowsOf;rw[AJ]
    have t6:∀row∈rowsOf pg.2 ys,row.Pairwise (·<·):=fun row q4=>by obtain⟨z,_,rfl⟩:=BA.mp q4;exact NL z pg.2 0
    have t7:∀row∈rowsOf pg.2 ys,row.length<=100000:=fun row q4=>by obtain⟨z,_,rfl⟩:=BA.mp q4;exact BJ (SX z pg.2 0) wl
    have t8:(mk 0 (rowsOf pg.2 ys)).length<=1000000:=by
     have:=Y7 (rowsOf pg.2 ys) 0 100000 t7;rw[rl] at this;have h2:ys.length*100000<=9*100000:=Nat.mul_le_mul_right _ (by lia)
     lia
    generalize er:rowsOf pg.2 ys=h7 at r5 rl t6 t7 t8 rz ra;refine⟨_,rfl,D,as,h7,rfl,t1,r5,t6,t8,by lia,fun H5 s5=>?_⟩;have s9:=t5.trans s5;have e9:=(s3.trans s9) _ _ r9;have e5:=s9 _ _ e6;have e8:=(s3.trans s9) _ _ q8;have q7:∀q∈l,H5 q.1=some (.tup (q.2.map kV)):=fun q hq=>(s3.trans s9) _ _ (hl q hq);have q1:=t3.trans s9;have t2:(h9.take (i+1)).filterMap (Cz ys h6)=(h9.take i).filterMap (Cz ys h6)++(Cz ys h6 pg).toList:=by rw[C6,ep,Q3];show _++List.filterMap (Cz ys h6) [pg]=_;congr 1
    cases hs:short h7 with
    |none=>
     refine⟨_,rfl,_,rfl,EN rfl ?_⟩;have e1:Cz ys h6 pg=none:=by unfold Cz;rw[er,hs]
     exact⟨_,_,_,_,_,l,rfl,q1,e9,e5,e8,q7,by rw[t2,e1,el];simp⟩
    |some m=>
     refine⟨_,rfl,_,rfl,HD (by intro z;cases z) ⟨_,rfl,_,rfl,_,_,rfl,rfl,_,rfl,?_⟩⟩;by_cases r7:m<=h6
     ·refine Bp r7 ?_;have e1:Cz ys h6 pg=some [.inl m,.inl (-(NW h7)),.inr pg.1]:=by unfold Cz;rw[er,hs];exact AG r7
      have a3:=s5 _ _ t1;have q3:=r5.same s5;refine⟨_,rfl,D,rfl,⟨_,AL.of a3⟩,fun D2 b9=>F5 (xs:=as.map V.ref) (fun j H6=>CI H5 D2 (((h7.take j).map fun r=>(r.length:Int)).map Dt.int) H6) (CI.start b9) (fun j H6 _ c=>AL.of (c.same _ _ a3)) (fun j y H6 h8 c=>?_) fun H6 c=>?_⟩
      ·rw[Az] at h8
       cases ea:as[j]?with
       |none=>rw[ea] at h8;cases h8
       |some aj=>
       rw[ea] at h8;obtain rfl:V.ref aj=y:=Ag h8;have hj:j<h7.length:=by rw[<-q3.1];exact(BY.mp ea).1
       have a4:h7[j]? =some h7[j]:=Ap hj;have b5:=c.same _ _ (q3.2 j aj _ ea a4);refine⟨FH,_,rfl,aj,_,rfl,.inl (AL.of b5),?_⟩;rw[J7 (f:=fun r:List Int=>(r.length:Int)) a4,BF,AJ];refine c.push (.int _) ?_;rw[AJ,AJ];have:=FY j h7
       lia
      ·rw[AJ,q3.1,CT] at c;obtain⟨z2,t9,a7⟩:=c.lst;rw[Ry a7] at t9;have s6:=c.same;have e7:=s6 _ _ e8;have ll:l.length<=1000:=by
        have h1:=BD List.length el;have h2:=OR (Cz ys h6) (h9.take i);have h3:=FY i h9;have h4:=q2.Dl;rw[AJ] at h1
        lia
       refine⟨D2,_,rfl,AL.of t9,_,rfl,.inl ⟨rfl,_,AL.of e7⟩,_,rfl,_,rfl,_,rfl,_,rfl,by exact z_0,fun tp r0=>?_⟩;have st:=Af (o:=.tup [.int m,.int (-(((h7.map fun r=>(r.length:Int))).sum)),kV (Sum.inr n)]) r0;have r3:=st _ _ e7;have s7:=s6.trans st;have hE:(Ex H d) fo=none:=by rw[Ex.ne r6];exact b3
       have a8:tp≠fo:=(A7 e7 r0).symm;refine⟨fo,_,_,rfl,rfl,r3,by rw[AJ,A8];lia,?_⟩;refine⟨_,_,_,_,_,l++[(tp,[.inl m,.inl (-(NW h7)),.inr pg.1])],rfl,(q1.trans s7).upd hE,by rw[AN r6.symm];exact s7 _ _ e9,by rw[AN b0];exact s7 _ _ e5,?_,fun q hq=>?_,?_⟩
       ·rw[AM,BF];rfl
       ·rcases BS.mp hq with e|e
        ·have h1:=s7 _ _ (q7 q e);rw[AN (CH h1 r3 (by intro z;cases z))];exact h1
        ·rw[BR.mp e,AN a8,AM,en];rfl
       ·rw[BF,el,t2,e1];rfl
     ·refine B1 r7 ?_;have e1:Cz ys h6 pg=none:=by unfold Cz;rw[er,hs];exact AF r7
      exact⟨_,_,_,_,_,l,rfl,q1,e9,e5,e8,q7,by rw[t2,e1,el];simp⟩
  ·rintro σ H' ⟨v5,v6,v7,v8,v9,l,rfl,sm,r9,a1,q8,hl,el⟩;have e0:(Ay e3).length=h9.length:=by show(e3.map _).length=_;rw[AJ];exact g.len
   rw[e0,CT] at el;refine⟨o,r9,?_⟩;have sH:AO H (upd H' d (.dK (Ay e3))):=fun b u e=>by
    by_cases z:b=d
    ·subst z;rw[hd] at e;cases e;exact AM
    ·rw[AN z];exact sm b u (Ex.at e z)
   have r2:(upd H' d (.dK (Ay e3))) fo=some (.lst (l.map fun p=>V.ref p.1)):=by rw[AN r6];exact q8
   have q6:∀q∈l,(upd H' d (.dK (Ay e3))) q.1=some (.tup (q.2.map kV)):=fun q hq=>by have h1:=hl q hq;rw[AN (CH h1 r9 (by intro z;cases z))];exact h1
   generalize upd H' d (.dK (Ay e3))=HA at sH r2 q6;have t4:∀q∈l,∃m c n,q.2=[.inl m,.inl c,.inr n]:=fun q hq=>by have h1:q.2∈l.map (·.2):=BA.mpr ⟨q,hq,rfl⟩;rw[el] at h1;obtain⟨p',_,e⟩:=Oe.mp h1;exact cS e
   have ll:l.length<=1000:=by
    have h1:=BD List.length el;have h2:=OR (Cz ys h6) h9;have h4:=q2.Dl;rw[AJ] at h1
    lia
   refine⟨_,rfl,fo,l,[true,true,false],rfl,AL.of r2,by simp,fun q hq=>⟨q6 q hq,?_⟩,by lia,fun Ds qs b6 e4 r1=>?_⟩
   ·obtain⟨m,c,n,e⟩:=t4 q hq;rw[e];rfl
   have c0:qs.map (·.2)=HG lexOrd (N6 h9 ws h6):=by
    refine Pp lexOrd ?_ ?_
    ·have:=e4.map (·.2);rw[el,ey] at this;exact this
    ·exact MU.mpr r1
   have sB:=Af (o:=.lst (qs.map fun p=>V.ref p.1)) b6;have t0:(upd HA Ds (.lst (qs.map fun p=>V.ref p.1))) Ds=some (.lst (qs.map fun p=>V.ref p.1)):=AM;generalize upd HA Ds (.lst (qs.map fun p=>V.ref p.1))=HB at sB t0;have a6:=sH.trans sB;refine⟨Ds,rfl,⟨_,AL.of t0⟩,fun D3 b8=>F5 (xs:=qs.map fun p=>V.ref p.1) (fun j H6=>CI HB D3 (((qs.take j).map (·.2)).map Hs) H6) (CI.start b8) (fun j H6 _ c=>AL.of (c.same _ _ t0)) (fun j y H6 h8 c=>?_) fun H6 c=>?_⟩
   ·rw[Az] at h8
    cases ea:qs[j]?with
    |none=>rw[ea] at h8;cases h8
    |some qq=>
    rw[ea] at h8;obtain rfl:V.ref qq.1=y:=Ag h8;have hq:qq∈l:=e4.mem_iff.mp (CA ea);obtain⟨m,c',n,e⟩:=t4 qq hq;have a0:=(sB.trans c.same) _ _ (q6 qq hq);rw[e] at a0;refine⟨qq.1,_,rfl,AS.of a0,rfl,_,_,rfl,_,_,rfl,_,_,rfl,rfl,pW,_,rfl,_,rfl,by exact zv,fun tp r0=>?_⟩;have st:=Af (o:=.tup [kV (Sum.inr n),kV (Sum.inl m)]) r0;have c2:=c.ext st;have nt:tp≠D3:=by obtain⟨zz,hz,_⟩:=c.lst;exact(A7 hz r0).symm
    rw[J7 (f:=fun q:OK×List Key=>q.2) ea,BF];refine c2.push (d:=Hs qq.2) ?_ ?_
    ·rw[e];exact Rep.FT (Ex.at AM nt) (Ab.snoc (Ab.snoc Ab.nil (.str n)) (.int m))
    ·rw[AJ,AJ];have h1:=FY j qs;have h2:=e4.length_eq
     lia
   ·rw[AJ,CT,c0] at c;exact q _ _ (a6.trans c.same) c.done
def gV{d1 d2:List Dt}{x1 x2:List V}(r1:Ab H d1 x1)(r2:Ab H d2 x2):Ab H (d1++d2) (x1++x2):=by
 have l1:=r1.1;refine⟨by rw[An,An,l1,r2.1],fun i d x h1 h2=>?_⟩;by_cases hi:i<d1.length
 ·rw[C2 hi] at h1;rw[C2 (by lia)] at h2;exact r1.2 i d x h1 h2
 ·rw[Cj (by lia)] at h1;rw[Cj (by lia),<-l1] at h2;exact r2.2 _ d x h1 h2
def kO:A9 ["self","wanted","near"] ["self","wanted","near"] (Aq RD):=by left
def j8(F:Ak K "find_pages" "Nook.find_pages" RD f fd)(C:FJ K cN)(R:Rz P w K mg base cR "NoWords" "no words")(O:Hx mg)(HT:Hv P w K mg base "pages_near" 3 ["pages","wanted","near"] YY):
 AY P w K mg base (Cs P w) 4 f fd ["self","wanted","near"] (Yg K cN cR):=by
 refine ID F kO ?_ ?_
 ·rintro _ _ _ _ ⟨_,_,_,_,_,_,_,rfl,_⟩;rfl
 ·rintro _ A _ s H _ Q E hr ⟨a,d,v,ws,h3,h0,AE,rfl,g,nc,h5,rv,h2,q⟩;have h4:=Cq hr;refine⟨_,(AR (A0 (Ar Ba (BZ IW rfl O.len Cu (AB (pv 1) AI)) AV (Am _)) (AU (Ke (k:=0) R hr rfl)) BE) (AU (As (DL HT hr rfl BH (AB (C9 (pv 0) rfl) (AB (pv 1) (AB (pv 2) AI))))))),?_⟩;have h1:=rv;obtain⟨av,xs,rfl,ha,rr⟩:=By rv;rw[LP rr] at ha;refine⟨_,rfl,av,_,rfl,.inr (AS.of ha),rfl,_,rfl,?_⟩;by_cases e:ws=[]
  ·rw[AG e] at q;subst e;exact Bp rfl q
  ·rw[AF e] at q;refine B1 (fun z=>e ?_) ?_
   ·have:=V.int.inj z;rw[AJ] at this;exact OS.mp (by lia)
   ·obtain⟨dx,hi⟩:=g.ins;exact⟨_,rfl,a,cN,dx,_,_,rfl,hi,C.cl,C.nf,rfl,_,rfl,_,rfl,d,.ref av,h3,h0,AE,ws,rfl,g.Bt,g.AE,nc.Fu,h1,h2,fun H1 u s1 r=>q H1 h0 u (Ex.sub.trans s1) (g.same s1) r⟩
def V5:Sp:=fun vs H Q _=>∃v xs,vs=[v]/\Rep H (.lst (xs.map Aw.dt)) v/\(∀x∈xs,x.Good)/\xs.length<=1000/\Small [] xs/\∀H' l zs,AO H H'->H' l=some (.lst zs)->zs.length=xs.length->Told [] xs H' zs->Q (.ref l) H'
def oJ{o p:HO}(ha:H a=none)(hdx:H dx=none)(hd:(upd (upd H dx o) a p) d=none)(hda:d≠a)(s1:AO (Ex (upd (upd H dx o) a p) a) H1):AO H H1/\H d=none:=by
 refine⟨fun b u e=>?_,?_⟩
 ·refine s1 b u ?_;have n1:b≠a:=A7 e ha;have n2:b≠dx:=A7 e hdx;rw[Ex.at (by rw[AN n1,AN n2];exact e) n1]
 ·rw[AN hda] at hd;by_cases n2:d=dx
  ·rw[n2,AM] at hd;cases hd
  ·rw[AN n2] at hd;exact hd
def de:A9 ["deeds"] ["deeds"] (Aq Rw):=by left
def dJ(F:Ak K "answers" "answers" Rw f fd)(M:Mk K cN fI)(GI:AY P w K mg base Aj 1 fI fdI ["self"] (X8 cN))(bI:Binds K fdI ["self"] [])(mN:mg "Nook" =some (.ref cN))
 (HA:Hv P w K mg base "answer_all" 8 ["nook","deeds"] (ZS cN)):AY P w K mg base Aj 9 f fd ["deeds"] V5:=by
 refine F.ok de ?_ ?_
 ·rintro _ _ _ _ ⟨_,_,rfl,_⟩;rfl
 ·rintro _ A _ s H _ Q E hr ⟨v,xs,rfl,rv,h0,hl,Fu,q⟩;refine⟨_,(AU (As (DL HA hr rfl BH (AB (iB M GI hr.mn rfl mN bI .nil BH) (AB (pv 0) AI))))),?_⟩;intro a dx ha h3 h6;refine⟨a,dx,rfl,AM,fun H1 d hd h4 s1 g=>⟨rfl,?_⟩⟩;obtain⟨sH,h5⟩:=oJ ha h3 hd h4 s1;exact⟨_,rfl,a,d,v,xs,[],[],rfl,g,rv.same sH,h0,hl,Fu,fun H2 h1 l zs s2 g2 hz h2 t=>q H2 l zs (fun b z e=>s2 b z (Ex.at (sH _ _ e) (A7 e h5))) hz h2 t⟩
def X4:∀{l:List Pg}{i:Nat}{p q:Pg},l[i]? =some p->BM (l.set i q)+wsum p.2=BM l+wsum q.2
 |x::l,0,p,q,h=>by
  cases Ag h;unfold BM;rw[List.set_cons_zero,Au,Bv,Au,Bv]
  lia
 |x::l,i+1,p,q,h=>by
  have ih:=X4 (l:=l) (i:=i) (p:=p) (q:=q) (by simpa using h);unfold BM at ih⊢;rw[VI,Au,Bv,Au,Bv]
  lia
def Xv{l:List Pg}{n:Str}{w0 ws:List PR}(nd:(l.map (·.1)).Nodup)(h:AH l n=some w0):BM (AW l n ws)+wsum w0=BM l+wsum ws:=by obtain⟨i,hi⟩:=GC h;rw[LR nd hi];exact X4 hi
def jU(ws:List PR)(n m:Str)(hm:m.length<=40):wsum (C3 ws n m)<=wsum ws:=by
 unfold C3 wsum
 induction ws with
 |nil=>simp
 |cons p ws ih=>
  rw[Au,Au,Bv,Au,Bv];have:wt (if p=(("to" :Str),n) then(("to" :Str),m) else p)<=wt p:=by
   split
   ·show max 40 m.length+3<=wt p;unfold wt
    lia
   ·exact Ae _
  lia
def Yv(AE:List Pg)(n m:Str)(hm:m.length<=40):BM (DR AE n m)<=BM AE:=by
 unfold DR BM
 induction AE with
 |nil=>simp
 |cons p AE ih=>
  rw[Au,Au,Bv,Au,Bv];have:=jU p.2 n m hm;show wsum (C3 p.2 n m)+_<=_
  lia
def Pc(AE:List Pg)(n m:Str):(DR AE n m).map (·.1)=AE.map (·.1):=by unfold DR;rw[Bo];rfl
def i6(x:Str):(D7 x).2.length<=x.length:=by
 unfold D7;split
 ·exact Oy x _ _
 ·exact Ae _
def dP(t:Str):wsum (E7 t)<=44*(t.length+1):=by
 have h:=Mo t " " (by decide);unfold E7 CQ;generalize Txt.split t " " =L at h;have:∀L:List Str,wsum ((L.filter fun p:Str=> !decide (p=("" :Str))).map D7)<=43*L.length+(L.map (·.length)).sum:=by
  intro L
  induction L with
  |nil=>simp[wsum]
  |cons x L ih=>
   rw[Au,Bv,CG];by_cases e:x=("" :Str)
   ·rw[FV (by simp[e])]
    lia
   ·rw[Et (by simp[e])];unfold wsum at ih⊢;rw[Au,Au,Bv];have:wt (D7 x)<=43+x.length:=by
     have:=i6 x;unfold wt
     lia
    lia
 have h2:=this L;have h3:43*L.length<=43*(t.length+1):=Q7 _ (by lia)
 lia
structure Sz(k:Nat)(AE:List Pg):Prop where
 nd:(AE.map (·.1)).Nodup
 len:AE.length<=k
 BM:BM AE<=50000*k
def Sz.more(s:Sz k AE):Sz (k+1) AE:=⟨s.nd,Nat.le_succ_of_le s.len,by have:=s.BM;lia⟩
def Sr(AE:List Pg)(n:Str):(AQ AE n).length<=AE.length:=EY _ _
def dZ(AE:List Pg)(n:Str):L2.BM (AQ AE n)<=L2.BM AE:=by
 unfold AQ L2.BM
 induction AE with
 |nil=>simp
 |cons p AE ih=>
  rw[Au,Bv];by_cases e:p.1=n
  ·rw[FV (by simp[e])];lia
  ·rw[Et (by simp[e]),Au,Bv];lia
def Sz.next{k:Nat}{AE:List Pg}(s:Sz k AE){x:Aw}(g:x.Good):Sz (k+1) ((E8 AE x).next AE):=by
 have s':=s.more;have st:=s.BM;have sl:=s.len
 cases x with
 |write n t=>
  show Sz (k+1) ((Hh AE n t).next AE);unfold Hh;split
  ·refine⟨EJ s.nd,BJ (Gu _ _ _) (by lia),?_⟩;have h1:=Pm AE n (E7 t) s.nd;have h2:=dP t;have h3:t.length<=1000:=g.2;show L2.BM (AW AE n (E7 t))<=_
   lia
  ·exact s'
 |rename n m=>
  show Sz (k+1) ((He AE n m).next AE);unfold He
  cases e:AH AE n with
  |none=>exact s'
  |some ws=>
   dsimp only;split
   ·cases e2:AH AE m with
    |some _=>exact s'
    |none=>
     show Sz (k+1) (renamed AE n m ws);unfold renamed;refine⟨by rw[Pc];exact EJ (DP s.nd),?_,?_⟩
     ·have h1:=Gu (AQ AE n) m ws;have h2:=Sr AE n;show(List.map _ _).length<=_;rw[AJ]
      lia
     ·have h1:=Yv (AW (AQ AE n) m ws) n m g.2;have h2:=Pm (AQ AE n) m ws (DP s.nd);have h3:=NG e
      lia
   ·exact s'
 |join n o=>
  show Sz (k+1) ((Fi AE n o).next AE);unfold Fi
  cases e:AH AE n with
  |none=>exact s'
  |some w1=>
   dsimp only
   cases e2:AH AE o with
   |none=>exact s'
   |some w2=>
    dsimp only;split
    ·exact s'
    ·rename_i hne;show Sz (k+1) (joined AE n o w1 w2);unfold joined;refine⟨by rw[Pc];exact EJ (DP s.nd),?_,?_⟩
     ·have h1:=Gu (AQ AE o) n (w1++w2);have h2:=Sr AE o;show(List.map _ _).length<=_;rw[AJ]
      lia
     ·have h1:=Yv (AW (AQ AE o) n (w1++w2)) o n g.1;have h2:=Xv (ws:=w1++w2) (DP (k:=o) s.nd) (show AH (AQ AE o) n=some w1 by rw[EG hne];exact e);have h3:=NG e2;rw[PK] at h2
      lia
 |cut n pl m=>
  show Sz (k+1) ((Hu AE n pl m).next AE);unfold Hu
  cases e:AH AE n with
  |none=>exact s'
  |some ws=>
   dsimp only;split
   ·cases e2:AH AE m with
    |some _=>exact s'
    |none=>
     dsimp only;split
     ·exact s'
     ·show Sz (k+1) (cutAt AE n m ws pl.toNat);unfold cutAt;have e3:AH (AW AE m (ws.drop pl.toNat)) n=some ws:=by rw[Cw];rw[AF (fun z=>by rw[z,e2] at e;cases e)];exact e
      have IB:((AW AE m (ws.drop pl.toNat)).map (·.1)).Nodup:=EJ s.nd;refine⟨EJ IB,?_,?_⟩
      ·obtain⟨i,hi⟩:=GC e3;rw[LR IB hi,List.length_set];have:=Gu AE m (ws.drop pl.toNat)
       lia
      ·have h1:=Xv (ws:=ws.take pl.toNat++[(("to" :Str),m)]) IB e3;have h2:=Pm AE m (ws.drop pl.toNat) s.nd;have h3:wsum (ws.take pl.toNat)+wsum (ws.drop pl.toNat)=wsum ws:=by rw[<-PK,D9]
       rw[PK] at h1;have h4:wsum [(("to" :Str),m)]=43:=by
        have:m.length<=40:=g.2;show(max 40 m.length+3)+0=43
        lia
       lia
   ·exact s'
 |drop n=>
  show Sz (k+1) ((Hj AE n).next AE);unfold Hj
  cases e:AH AE n with
  |none=>exact s'
  |some ws=>
   refine⟨DP s.nd,BJ (Sr _ _) (by lia),?_⟩;have:=dZ AE n;show L2.BM (AQ AE n)<=_
   lia
 |text n=>
  show Sz (k+1) ((Gw AE n).next AE);unfold Gw
  cases e:AH AE n with
  |none=>exact s'
  |some ws=>exact s'
 |back n=>exact s'
 |find ws h0=>
  show Sz (k+1) (Rs.next AE (if ws=[] then .no "no words" else .ok (IG AE ws h0) AE));split
  ·exact s'
  ·exact s'
def P0:∀(xs:List Aw)(k:Nat)(AE:List Pg),Sz k AE->(∀x∈xs,x.Good)->Sz (k+xs.length) (DA AE xs)
 |[],k,AE,s,_=>s
 |x::xs,k,AE,s,g=>by have:=P0 xs (k+1) _ (s.next (g x Co)) fun y hy=>g y (Cn _ hy);rw[CG,show k+(xs.length+1)=k+1+xs.length by lia];exact this
def TM:Sz 0 []:=⟨J2,Ae _,Ae _⟩
def iC{xs:List Aw}(g:∀x∈xs,x.Good)(hl:xs.length<=63):Small [] xs:=fun k hk=>by
 have s:=P0 (xs.take k) 0 [] TM fun x hx=>g x (FX hx);have h0:(xs.take k).length<=63:=by rw[Be];lia
 have h1:=s.len;have h2:=s.BM;refine⟨⟨s.nd,by lia,?_⟩,by lia⟩;have:50000*(0+(xs.take k).length)<=50000*63:=Q7 _ (by lia)
 lia
section
variable[DecidableEq α]
def Bc{l:List (α×β)}{k:α}{v:β}(h:AH l k=some v):(k,v)∈l:=by obtain⟨i,hi⟩:=GC h;exact CA hi
def KN{l:List (α×β)}{k:α}{v:β}(nd:(l.map (·.1)).Nodup)(h:(k,v)∈l):AH l k=some v:=by obtain⟨i,hi⟩:=U8 h;exact JR nd hi
def XA{l:List (α×β)}{k:α}(h:k∈l.map (·.1)):∃v,AH l k=some v:=by
 cases e:AH l k with
 |some v=>exact⟨v,rfl⟩
 |none=>exact absurd h (NB e)
def Sw{l:List (α×β)}{k:α}{v:β}(h:AH l k=some v):k∈l.map (·.1):=BA.mpr ⟨_,Bc h,rfl⟩
def M4{l m:List (α×β)}(hk:l.map (·.1)=m.map (·.1))(nd:(l.map (·.1)).Nodup)(h:∀k,k∈l.map (·.1)->AH l k=AH m k):l=m:=by
 have h0:l.length=m.length:=by have:=BD List.length hk;simpa using this
 refine K7 fun i=>?_;by_cases hi:i<l.length
 ·have hj:i<m.length:=by lia
  have e1:l[i]? =some l[i]:=Ap hi;have e2:m[i]? =some m[i]:=Ap hj;have ek:l[i].1=m[i].1:=by have:=BD (fun x=>x[i]?) hk;rw[Az,Az,e1,e2] at this;exact Ag this
  have g1:=JR nd e1;have g2:=JR (hk▸nd) e2;have:=h l[i].1 (BA.mpr ⟨_,EZ hi,rfl⟩);rw[g1,ek,g2] at this;rw[e1,e2];exact BD some (Prod.ext ek (Ag this))
 ·rw[F1 (by lia),F1 (by lia)]
def JI(l:List (α×β))(k:α)(v:β):(AW l k v).map (·.1)=if k∈l.map (·.1) then l.map (·.1) else l.map (·.1)++[k]:=by
 by_cases h:k∈l.map (·.1)
 ·obtain⟨w,hw⟩:=XA h;rw[AG h];have hm:=Bc hw;unfold AW;rw[AG (IT.mpr ⟨_,hm,by simp⟩),Bo];refine Ew fun p _=>?_;show(if p.1=k then(p.1,v) else p).1=p.1;split<;>rfl
 ·rw[AF h];have hn:AH l k=none:=by
   cases e:AH l k with
   |none=>rfl
   |some w=>exact absurd (Sw e) h
  rw[Hb hn,BF];rfl
def KH(l:List (α×β))(k:α):(AQ l k).map (·.1)=(l.map (·.1)).filter fun x=>decide (x≠k):=by unfold AQ;rw[List.filter_map];rfl
def JD(l:List (α×β))(k:α):AH (AQ l k) k=none:=by
 cases e:AH (AQ l k) k with
 |none=>rfl
 |some v=>have:=Bc e;unfold AQ at this;have:=(Gg.mp this).2;simp at this
def JO{l:List (α×β)}{k:α}{v:β}{p:α×β}(h:p∈AW l k v):p∈l\/p=(k,v):=by
 unfold AW at h;split at h
 ·obtain⟨q,hq,e⟩:=BA.mp h;split at e
  ·rename_i e1;rw[<-e,e1];exact .inr rfl
  ·rw[<-e];exact .inl hq
 ·rcases BS.mp h with z|z
  ·exact .inl z
  ·exact .inr (BR.mp z)
def F6{l:List (α×β)}{k:α}{p:α×β}(h:p∈AQ l k):p∈l/\p.1≠k:=by unfold AQ at h;have:=Gg.mp h;exact⟨this.1,by simpa using this.2⟩
def Hc{l:List (α×β)}{k:α}{p:α×β}(h:p∈l)(hk:p.1≠k):p∈AQ l k:=Gg.mpr ⟨h,by simpa using hk⟩
end
def sh(names:List (Str×Int))(w:Wd):PR:=if w.to=true then(("to" :Str),if w.no= -1 then w.nm else nameOf names w.no) else(("word" :Str),w.nm)
def Al(n:Nk)(no:Int):List PR:=((AH n.texts no).getD []).map (sh n.names)
def vw(n:Nk):List Pg:=n.names.map fun p=>(p.1,Al n p.2)
def EX(names:List (Str×Int))(w:Wd):Prop:=w.to=true->(w.no= -1/\AH names w.nm=none)\/∃nm,(nm,w.no)∈names
structure Bq(n:Nk):Prop where
 Ct:(n.names.map (·.1)).Nodup
 inj:(n.names.map (·.2)).Nodup
 Ce:(n.texts.map (·.1)).Nodup
 tx:∀p∈n.names,∃ws,AH n.texts p.2=some ws
 own:∀p∈n.texts,∃nm,(nm,p.1)∈n.names
 lt:∀p∈n.texts,0<=p.1/\p.1<n.made
 wd:∀p∈n.texts,∀w∈p.2,EX n.names w
variable{l:List (Str×Int)}
def Ka(inj:(l.map (·.2)).Nodup){a b:Str}(ha:(a,no)∈l)(hb:(b,no)∈l):a=b:=by
 induction l with
 |nil=>cases ha
 |cons p l ih=>
  rw[Au,Ea] at inj;rcases BI.mp ha with e1|e1
  ·rcases BI.mp hb with e2|e2
   ·rw[<-e1] at e2;exact(LL e2).1.symm
   ·exact absurd (BA.mpr ⟨_,e2,by rw[<-e1]⟩) inj.1
  ·rcases BI.mp hb with e2|e2
   ·exact absurd (BA.mpr ⟨_,e1,by rw[<-e2]⟩) inj.1
   ·exact ih inj.2 e1 e2
def fH(inj:(l.map (·.2)).Nodup){a:Str}(h:(a,no)∈l):nameOf l no=a:=by
 unfold nameOf
 cases e:l.find? fun p=>decide (p.2=no) with
 |none=>have:=VJ.mp e _ h;simp at this
 |some p=>
  have h1:=List.mem_of_find?_eq_some e;have h2:p.2=no:=by simpa using List.find?_some e
  show p.1=a;exact Ka inj (show(p.1,no)∈l by rw[<-h2];exact h1) h
variable{nm:Str}
def Bq.Fs{n:Nk}(b:Bq n)(h:(nm,no)∈n.names):0<=no/\no<n.made:=by obtain⟨ws,hw⟩:=b.tx _ h;exact b.lt _ (Bc hw)
def EH(n:Nk):(vw n).map (·.1)=n.names.map (·.1):=by unfold vw;rw[Bo];rfl
def Fh(n:Nk)(k:Str):AH (vw n) k=(AH n.names k).map (Al n):=by
 unfold vw AH;generalize n.names=l
 induction l with
 |nil=>rfl
 |cons p l ih=>
  rw[Au];by_cases e:p.1=k
  ·rw[MG (by simpa using e),MG (by simpa using e)];rfl
  ·rw[MH (by simpa using e),MH (by simpa using e)];exact ih
def TK(l:List Pg)(a b k:Str):AH (DR l a b) k=(AH l k).map fun ws=>C3 ws a b:=by
 unfold DR AH
 induction l with
 |nil=>rfl
 |cons p l ih=>
  rw[Au];by_cases e:p.1=k
  ·rw[MG (by simpa using e),MG (by simpa using e)];rfl
  ·rw[MH (by simpa using e),MH (by simpa using e)];exact ih
def NJ(n:Nk)(g:Wd->Wd)(no:Int):AH (n.Iq g).texts no=(AH n.texts no).map (List.map g):=by
 show AH (n.texts.map fun p=>(p.1,p.2.map g)) no=_;unfold AH;generalize n.texts=l
 induction l with
 |nil=>rfl
 |cons p l ih=>
  rw[Au];by_cases e:p.1=no
  ·rw[MG (by simpa using e),MG (by simpa using e)];rfl
  ·rw[MH (by simpa using e),MH (by simpa using e)];exact ih
def Bq.same{n:Nk}(b:Bq n){a k:Str}{no':Int}(ha:AH n.names a=some no)(hk:AH n.names k=some no'):no'=no↔k=a:=by
 constructor
 ·intro e;rw[e] at hk;exact Ka b.inj (Bc hk) (Bc ha)
 ·intro e;rw[e,ha] at hk;exact(Ag hk).symm
def Bq.text{n:Nk}(b:Bq n){a:Str}(ha:AH n.names a=some no):∃ws,AH n.texts no=some ws/\∀w∈ws,EX n.names w:=by obtain⟨ws,hw⟩:=b.tx _ (Bc ha);exact⟨ws,hw,b.wd _ (Bc hw)⟩
noncomputable def Jp(a b:Str)(p:PR):PR:=if p=(("to" :Str),a) then(("to" :Str),b) else p
def Sd(ws:List PR)(a b:Str):C3 ws a b=ws.map (Jp a b):=rfl
def oF{a:Str}:((("word" :Str),x):PR)≠(("to" :Str),a):=by intro z;have:("word" :Str)="to" :=(LL z).1;exact absurd this (by left)
def YJ(a b x:Str):Jp a b (("word" :Str),x)=(("word" :Str),x):=AF oF
def ZW(a b:Str):Jp a b (("to" :Str),a)=(("to" :Str),b):=AG rfl
def PU{a b:Str}(h:x≠a):Jp a b (("to" :Str),x)=(("to" :Str),x):=AF fun z=>h (LL z).2
def F8{w:Wd}(h:w.to=false):sh names w=(("word" :Str),w.nm):=by unfold sh;rw[h];rfl
def Gp{w:Wd}(h:w.to=true)(hn:w.no= -1):sh names w=(("to" :Str),w.nm):=by unfold sh;rw[AG h,AG hn]
def gO{w:Wd}(h:w.to=true)(hn:w.no≠-1):sh names w=(("to" :Str),nameOf names w.no):=by unfold sh;rw[AG h,AF hn]
def FE(inj:(names.map (·.2)).Nodup){w:Wd}(h:w.to=true)(hn:w.no≠-1)(hx:(x,w.no)∈names):sh names w=(("to" :Str),x):=by rw[gO h hn,fH inj hx]
variable{ws:List Wd}
def S6{n n':Nk}{g:Wd->Wd}{h:PR->PR}(e1:AH n.texts no=some ws)(e2:AH n'.texts no=some (ws.map g))(hw:∀w∈ws,sh n'.names (g w)=h (sh n.names w)):Al n' no=(Al n no).map h:=by unfold Al;rw[e1,e2];show(ws.map g).map _=(ws.map _).map h;rw[Bo,Bo];exact Ew fun w h0=>hw w h0
def Sg{k:Str}{v:Int}(inj:(l.map (·.2)).Nodup)(hk:AH l k=none)(hv:v∉l.map (·.2)):((AW l k v).map (·.2)).Nodup:=by
 rw[Hb hk,BF];refine Oh.mpr ⟨inj,by simp,fun a ha b hb e=>?_⟩;have:b=v:=by simpa using hb
 rw[<-e] at this;exact hv (this▸ha)
def M6{k:Str}(inj:(l.map (·.2)).Nodup):((AQ l k).map (·.2)).Nodup:=by unfold AQ;exact List.Nodup.sublist ((List.filter_sublist).map _) inj
section
variable{n:Nk}{o:Str}
def O1(ho:AH n.names o=none):(n.added o).names=n.names++[(o,n.made)]:=Hb ho
def PD(no:Int):AH (n.added o).texts no=((if no=n.made then some [] else AH n.texts no):Option (List Wd)).map (List.map (CL o n.made)):=by show AH (Nk.Iq _ (CL o n.made)).texts no=_;rw[NJ];show(AH (AW n.texts n.made []) no).map _=_;rw[Cw]
def Bq.fresh(b:Bq n):n.made∉n.names.map (·.2):=fun h=>by
 obtain⟨p,hp,e⟩:=BA.mp h;have:=(b.Fs (nm:=p.1) (no:=p.2) hp).2
 lia
def Vn(b:Bq n)(h0:0<=n.made)(ho:AH n.names o=none){w:Wd}(ok:EX n.names w):sh (n.added o).names (CL o n.made w)=sh n.names w/\EX (n.added o).names (CL o n.made w):=by
 have h1:((n.added o).names.map (·.2)).Nodup:=Sg b.inj ho b.fresh;rw[O1 ho] at h1⊢;unfold CL
 cases ht:w.to with
 |false=>rw[AF (fun z=>by cases z.1)];exact⟨by rw[F8 ht,F8 ht],fun z=>by rw[ht] at z;cases z⟩
 |true=>
  rcases ok ht with⟨hl,h4⟩|⟨x,hx⟩
  ·by_cases e:w.nm=o
   ·rw[AG ⟨rfl,hl,e⟩];have h3:(o,n.made)∈n.names++[(o,n.made)]:=EA _ (BR.mpr rfl);refine⟨?_,fun _=>.inr ⟨o,h3⟩⟩;rw[Gp ht hl,e];exact FE h1 (w:=⟨true,o,n.made⟩) rfl (by show n.made≠-1;lia) h3
   ·rw[AF (fun z=>e z.2.2)];refine⟨by rw[Gp ht hl,Gp ht hl],fun _=>.inl ⟨hl,?_⟩⟩;rw[<-Hb ho,Cw,AF e];exact h4
  ·have hp:=b.Fs hx;have hn:w.no≠-1:=by lia
   rw[AF (fun z=>hn z.2.1)];have h2:(x,w.no)∈n.names++[(o,n.made)]:=IM _ hx;exact⟨by rw[FE h1 ht hn h2,FE b.inj ht hn hx],fun _=>.inr ⟨x,h2⟩⟩
def Bq.added(b:Bq n)(h0:0<=n.made)(ho:AH n.names o=none):Bq (n.added o):=by
 have h5:=O1 ho;have tn:AH n.texts n.made=none:=by
  cases e:AH n.texts n.made with
  |none=>rfl
  |some ws=>have:=(b.lt _ (Bc e)).2;dsimp only at this;lia
 have h4:(n.added o).texts=(AW n.texts n.made []).map fun p=>(p.1,p.2.map (CL o n.made)):=rfl;have kt:(n.added o).texts.map (·.1)=n.texts.map (·.1)++[n.made]:=by rw[h4,Bo];show(AW n.texts n.made []).map (·.1)=_;rw[Hb tn,BF];rfl
 have h2:((n.added o).texts.map (·.1)).Nodup:=by rw[h4,Bo];exact EJ b.Ce
 have h1:∀p∈(n.added o).texts,∃q∈AW n.texts n.made [],p=(q.1,q.2.map (CL o n.made)):=fun p hp=>by rw[h4] at hp;obtain⟨q,hq,e⟩:=BA.mp hp;exact⟨q,hq,e.symm⟩
 refine⟨EJ b.Ct,Sg b.inj ho b.fresh,h2,fun p hp=>?_,fun p hp=>?_,fun p hp=>?_,fun p hp w hw=>?_⟩
 ·rw[PD];rw[h5] at hp;rcases BS.mp hp with e|e
  ·obtain⟨ws,hw⟩:=b.tx p e;by_cases z:p.2=n.made
   ·rw[AG z];exact⟨_,rfl⟩
   ·rw[AF z,hw];exact⟨_,rfl⟩
  ·rw[BR.mp e,AG rfl];exact⟨_,rfl⟩
 ·obtain⟨q,hq,rfl⟩:=h1 p hp;rw[h5];rcases JO hq with e|e
  ·obtain⟨nm,h⟩:=b.own q e;exact⟨nm,IM _ h⟩
  ·rw[e];exact⟨o,EA _ (BR.mpr rfl)⟩
 ·obtain⟨q,hq,rfl⟩:=h1 p hp;show 0<=q.1/\q.1<n.made+1;rcases JO hq with e|e
  ·have:=b.lt q e
   lia
  ·rw[e];show 0<=n.made/\n.made<n.made+1
   lia
 ·obtain⟨q,hq,rfl⟩:=h1 p hp;obtain⟨w0,h3,rfl⟩:=BA.mp hw;rcases JO hq with e|e
  ·exact(Vn b h0 ho (b.wd q e w0 h3)).2
  ·rw[e] at h3;cases h3
def Wr(b:Bq n)(h0:0<=n.made)(ho:AH n.names o=none)(hw:AH n.texts no=some ws):Al (n.added o) no=Al n no:=by
 have h2:no≠n.made:=by have:=(b.lt _ (Bc hw)).2;dsimp only at this;lia
 have e2:AH (n.added o).texts no=some (ws.map (CL o n.made)):=by rw[PD,AF h2,hw];rfl
 have:=S6 (h:=id) hw e2 fun w h1=>(Vn b h0 ho (b.wd _ (Bc hw) w h1)).1;rw[this,Mr]
def Wf(b:Bq n)(h0:0<=n.made)(ho:AH n.names o=none):vw (n.added o)=AW (vw n) o []:=by
 have hv:AH (vw n) o=none:=by rw[Fh,ho];rfl
 rw[Hb hv];unfold vw;rw[O1 ho,BF];congr 1
 ·refine Ew fun p hp=>?_;obtain⟨ws,hw⟩:=b.tx p hp;show(p.1,Al (n.added o) p.2)=_;rw[Wr b h0 ho hw]
 ·show[(o,Al (n.added o) n.made)]=_;unfold Al;rw[PD,AG rfl];rfl
end
section
variable{n:Nk}{a:Str}
def Nk.Cg(n:Nk)(no:Int)(ws:List Wd):Nk:={n with texts:=AW n.texts no ws}
def Bq.Cg(b:Bq n)(ha:AH n.names a=some no)(ok:∀w∈ws,EX n.names w):Bq (n.Cg no ws):=by
 refine⟨b.Ct,b.inj,EJ b.Ce,fun p hp=>?_,fun p hp=>?_,fun p hp=>?_,fun p hp w hw=>?_⟩
 ·show∃x,AH (AW n.texts no ws) p.2=some x;rw[Cw];by_cases z:p.2=no
  ·rw[AG z];exact⟨_,rfl⟩
  ·rw[AF z];exact b.tx p hp
 ·rcases JO hp with e|e
  ·exact b.own p e
  ·rw[e];exact⟨a,Bc ha⟩
 ·rcases JO hp with e|e
  ·exact b.lt p e
  ·rw[e];exact b.Fs (Bc ha)
 ·rcases JO hp with e|e
  ·exact b.wd p e w hw
  ·rw[e] at hw;exact ok w hw
def Pj(b:Bq n)(ha:AH n.names a=some no):vw (n.Cg no ws)=AW (vw n) a (ws.map (sh n.names)):=by
 have h3:a∈(vw n).map (·.1):=by rw[EH];exact Sw ha
 refine M4 ?_ (by rw[EH];exact b.Ct) fun k hk=>?_
 ·rw[JI,AG h3,EH,EH];rfl
 ·rw[Fh,Cw,Fh];rw[EH] at hk;obtain⟨h0,h2⟩:=XA hk;have h1:AH n.names k=some h0:=h2;show(AH n.names k).map (Al (n.Cg no ws))=_;rw[h1];show some (Al (n.Cg no ws) h0)=_;have e:Al (n.Cg no ws) h0=((AH (AW n.texts no ws) h0).getD []).map (sh n.names):=rfl;rw[e,Cw];by_cases z:k=a
  ·rw[AG z,AG ((b.same ha h1).mpr z)];rfl
  ·rw[AF z,AF (fun y=>z ((b.same ha h1).mp y))];rfl
end
def YD{l:List Pg}{k:Str}{x y:List PR}(nd:(l.map (·.1)).Nodup):AW (AW l k x) k y=AW l k y:=by
 refine M4 ?_ (EJ (EJ nd)) fun j hj=>?_
 ·rw[JI,JI,JI];by_cases h:k∈l.map (·.1)
  ·rw[AG h,AG h]
  ·rw[AF h,AG (by simp)]
 ·rw[Cw,Cw,Cw];split<;>rfl
section
variable{n:Nk}{a o:Str}
def Nk.renamed(n:Nk)(a o:Str)(no:Int):Nk:=({n with names:=AQ n.names a}:Nk).named o no
def Mv{a o:Str}(h:AH l o=none):AH (AQ l a) o=none:=by
 by_cases z:o=a
 ·rw[z];exact JD ..
 ·rw[EG z];exact h
def Mz(ho:AH n.names o=none):(n.renamed a o no).names=AQ n.names a++[(o,no)]:=Hb (Mv ho)
def X0(b:Bq n)(ha:AH n.names a=some no)(ho:AH n.names o=none):((n.renamed a o no).names.map (·.2)).Nodup:=by refine Sg (M6 b.inj) (Mv ho) fun h=>?_;obtain⟨p,hp,e⟩:=BA.mp h;obtain⟨h1,h2⟩:=F6 hp;exact h2 (Ka b.inj (show(p.1,no)∈n.names by rw[<-e];exact h1) (Bc ha))
def XH(b:Bq n)(ha:AH n.names a=some no)(ho:AH n.names o=none){w:Wd}(ok:EX n.names w):sh (n.renamed a o no).names (CL o no w)=Jp a o (sh n.names w)/\EX (n.renamed a o no).names (CL o no w):=by
 have h0:=X0 b ha ho;have e1:o≠a:=fun z=>by rw[z,ha] at ho;cases ho
 have h8:=b.Fs (Bc ha);have h6:(o,no)∈(n.renamed a o no).names:=by rw[Mz ho];exact EA _ (BR.mpr rfl)
 have gn:∀k,k≠o->AH n.names k=none->AH (n.renamed a o no).names k=none:=fun k h1 h2=>by show AH (AW (AQ n.names a) o no) k=none;rw[Cw,AF h1];exact Mv h2
 have mn:∀x m,(x,m)∈n.names->x≠a->(x,m)∈(n.renamed a o no).names:=fun x m h1 h2=>by rw[Mz ho];exact IM _ (Hc h1 h2)
 obtain⟨t,nm,m⟩:=w;unfold CL
 cases t with
 |false=>rw[AF (fun z=>by cases z.1)];exact⟨by rw[F8 rfl,F8 rfl,YJ],fun z=>by cases z⟩
 |true=>
  rcases ok rfl with⟨hl,h9⟩|⟨x,hx⟩
  ·have e0:m= -1:=hl;have h3:AH n.names nm=none:=h9;have h7:nm≠a:=fun z=>by rw[z,ha] at h3;cases h3
   rw[Gp (names:=n.names) rfl hl,PU h7];by_cases e:nm=o
   ·rw[AG ⟨rfl,e0,e⟩];refine⟨?_,fun _=>.inr ⟨o,h6⟩⟩;show _=(("to" :Str),nm);rw[e];exact FE h0 (w:=⟨true,_,no⟩) rfl (by show no≠-1;lia) h6
   ·rw[AF (fun z=>e z.2.2)];exact⟨Gp rfl hl,fun _=>.inl ⟨hl,gn _ e h3⟩⟩
  ·have h4:(x,m)∈n.names:=hx;have hp:=b.Fs h4;have hn:m≠-1:=by lia
   rw[AF (fun z=>hn z.2.1),FE b.inj (w:=⟨true,nm,m⟩) rfl hn h4];by_cases e:x=a
   ·have em:m=no:=by have h1:=KN b.Ct h4;rw[e,ha] at h1;exact(Ag h1).symm
    rw[e,ZW];have h5:(o,m)∈(n.renamed a o no).names:=by rw[em];exact h6
    exact⟨FE h0 (w:=⟨true,nm,m⟩) rfl hn h5,fun _=>.inr ⟨o,h5⟩⟩
   ·rw[PU e];exact⟨FE h0 (w:=⟨true,nm,m⟩) rfl hn (mn _ _ h4 e),fun _=>.inr ⟨x,mn _ _ h4 e⟩⟩
def YL(m:Int):AH (n.renamed a o no).texts m=(AH n.texts m).map (List.map (CL o no)):=NJ _ _ _
def Bq.renamed(b:Bq n)(ha:AH n.names a=some no)(ho:AH n.names o=none):Bq (n.renamed a o no):=by
 have h2:(n.renamed a o no).texts=n.texts.map fun p=>(p.1,p.2.map (CL o no)):=rfl;have h0:∀p∈(n.renamed a o no).texts,∃q∈n.texts,p=(q.1,q.2.map (CL o no)):=fun p hp=>by rw[h2] at hp;obtain⟨q,hq,e⟩:=BA.mp hp;exact⟨q,hq,e.symm⟩
 refine⟨EJ (DP b.Ct),X0 b ha ho,by rw[h2,Bo];exact b.Ce,fun p hp=>?_,fun p hp=>?_,fun p hp=>?_,fun p hp w hw=>?_⟩
 ·rw[YL];rw[Mz ho] at hp;have:∃ws,AH n.texts p.2=some ws:=by
   rcases BS.mp hp with e|e
   ·exact b.tx p (F6 e).1
   ·rw[BR.mp e];exact b.tx (a,no) (Bc ha)
  obtain⟨ws,hw⟩:=this;rw[hw];exact⟨_,rfl⟩
 ·obtain⟨q,hq,rfl⟩:=h0 p hp;obtain⟨nm,h⟩:=b.own q hq;rw[Mz ho];by_cases z:nm=a
  ·have:q.1=no:=by have h1:=KN b.Ct h;rw[z,ha] at h1;exact(Ag h1).symm
   exact⟨o,EA _ (by show(o,q.1)∈_;rw[this];exact BR.mpr rfl)⟩
  ·exact⟨nm,IM _ (Hc h z)⟩
 ·obtain⟨q,hq,rfl⟩:=h0 p hp;exact b.lt q hq
 ·obtain⟨q,hq,rfl⟩:=h0 p hp;obtain⟨w0,h3,rfl⟩:=BA.mp hw;exact(XH b ha ho (b.wd q hq w0 h3)).2
def kK(b:Bq n)(ha:AH n.names a=some no)(ho:AH n.names o=none):vw (n.renamed a o no)=DR (AW (AQ (vw n) a) o (Al n no)) a o:=by
 have h3:(vw n).map (·.1)=n.names.map (·.1):=EH n;refine M4 ?_ (by rw[EH];exact EJ (DP b.Ct)) fun k hk=>?_
 ·rw[EH,Pc,JI,KH,h3];show(AW (AQ n.names a) o no).map (·.1)=_;rw[JI,KH]
 ·rw[Fh,TK,Cw];show(AH (AW (AQ n.names a) o no) k).map _=_;rw[Cw];have h0:∀m x,AH n.names x=some m->Al (n.renamed a o no) m=C3 (Al n m) a o:=fun m x hx=>by obtain⟨ws,h1,h2⟩:=b.text hx;rw[Sd];exact S6 (h:=Jp a o) h1 (by rw[YL,h1];rfl) fun w hw=>(XH b ha ho (h2 w hw)).1
  by_cases z:k=o
  ·rw[AG z,AG z];exact BD some (h0 no a ha)
  ·rw[AF z,AF z];by_cases z2:k=a
   ·rw[z2,JD,JD];rfl
   ·rw[EG z2,EG z2,Fh]
    cases e:AH n.names k with
    |none=>rfl
    |some m=>exact BD some (h0 m k e)
end
section
variable{n:Nk}{a o:Str}{no2:Int}
def Nk.dropped(n:Nk)(a:Str)(no:Int):Nk:=({n with names:=AQ n.names a,texts:=AQ n.texts no}:Nk).turned no a (-1)
def WT(b:Bq n)(ha:AH n.names a=some no){w:Wd}(ok:EX n.names w):sh (AQ n.names a) (CK no a (-1) w)=sh n.names w/\EX (AQ n.names a) (CK no a (-1) w):=by
 have h3:=M6 (k:=a) b.inj;obtain⟨t,nm,m⟩:=w;unfold CK
 cases t with
 |false=>rw[AF (fun z=>by cases z.1)];exact⟨by rw[F8 rfl,F8 rfl],fun z=>by cases z⟩
 |true=>
  have h4:=b.Fs (Bc ha);rcases ok rfl with⟨hl,h5⟩|⟨x,hx⟩
  ·have h6:m= -1:=hl;rw[AF (fun z=>by have h2:m=no:=z.2;lia)];exact⟨by rw[Gp rfl hl,Gp rfl hl],fun _=>.inl ⟨hl,Mv h5⟩⟩
  ·have h0:(x,m)∈n.names:=hx;have hn:m≠-1:=by have:=b.Fs h0;lia
   rw[FE b.inj (w:=⟨true,nm,m⟩) rfl hn h0];by_cases e:m=no
   ·rw[AG ⟨rfl,e⟩];have ex:x=a:=Ka b.inj (by rw[<-e];exact h0) (Bc ha);rw[ex];exact⟨Gp (w:=⟨true,a,-1⟩) rfl rfl,fun _=>.inl ⟨rfl,JD ..⟩⟩
   ·rw[AF (fun z=>e z.2)];have ex:x≠a:=fun z=>by have h1:=KN b.Ct h0;rw[z,ha] at h1;exact e (Ag h1).symm
    exact⟨FE h3 (w:=⟨true,nm,m⟩) rfl hn (Hc h0 ex),fun _=>.inr ⟨x,Hc h0 ex⟩⟩
def Bq.dropped(b:Bq n)(ha:AH n.names a=some no):Bq (n.dropped a no):=by
 have h4:(n.dropped a no).texts=(AQ n.texts no).map fun p=>(p.1,p.2.map (CK no a (-1))):=rfl;have h0:∀p∈(n.dropped a no).texts,∃q∈n.texts,q.1≠no/\p=(q.1,q.2.map (CK no a (-1))):=fun p hp=>by rw[h4] at hp;obtain⟨q,hq,e⟩:=BA.mp hp;exact⟨q,(F6 hq).1,(F6 hq).2,e.symm⟩
 refine⟨DP b.Ct,M6 b.inj,by rw[h4,Bo];exact DP b.Ce,fun p hp=>?_,fun p hp=>?_,fun p hp=>?_,fun p hp w hw=>?_⟩
 ·obtain⟨h1,h2⟩:=F6 hp;obtain⟨ws,hw⟩:=b.tx p h1;have h3:p.2≠no:=fun z=>h2 (Ka b.inj (show(p.1,no)∈n.names by rw[<-z];exact h1) (Bc ha));have:AH (n.dropped a no).texts p.2=(AH (AQ n.texts no) p.2).map (List.map (CK no a (-1))):=NJ _ _ _;rw[this,EG h3,hw];exact⟨_,rfl⟩
 ·obtain⟨q,hq,h3,rfl⟩:=h0 p hp;obtain⟨nm,h⟩:=b.own q hq;refine⟨nm,Hc h fun z=>h3 ?_⟩;have h1:=KN b.Ct h;have z':nm=a:=z;rw[z',ha] at h1;exact(Ag h1).symm
 ·obtain⟨q,hq,_,rfl⟩:=h0 p hp;exact b.lt q hq
 ·obtain⟨q,hq,_,rfl⟩:=h0 p hp;obtain⟨w0,h5,rfl⟩:=BA.mp hw;exact(WT b ha (b.wd q hq w0 h5)).2
def ji(b:Bq n)(ha:AH n.names a=some no):vw (n.dropped a no)=AQ (vw n) a:=by
 refine M4 ?_ (by rw[EH];exact DP b.Ct) fun k hk=>?_
 ·rw[EH,KH,EH];exact KH ..
 ·rw[Fh];show(AH (AQ n.names a) k).map _=_;by_cases z:k=a
  ·rw[z,JD,JD];rfl
  ·rw[EG z,EG z,Fh]
   cases e:AH n.names k with
   |none=>rfl
   |some m=>
    obtain⟨ws,h1,h2⟩:=b.text e;have h0:m≠no:=fun y=>z ((b.same ha e).mp y);have e2:AH (n.dropped a no).texts m=some (ws.map (CK no a (-1))):=by have:AH (n.dropped a no).texts m=(AH (AQ n.texts no) m).map (List.map (CK no a (-1))):=NJ _ _ _;rw[this,EG h0,h1];rfl
    have:=S6 (n':=n.dropped a no) (h:=id) h1 e2 fun w hw=>(WT b ha (h2 w hw)).1;show some (Al (n.dropped a no) m)=some (Al n m);rw[this,Mr]
end
section
variable{n:Nk}{a o:Str}{no2:Int}{w1 w2:List Wd}
def V8(b:Bq n)(ha:AH n.names a=some no)(ho:AH n.names o=some no2)(hne:a≠o){w:Wd}(ok:EX n.names w):sh (AQ n.names o) (CK no2 "" no w)=Jp o a (sh n.names w)/\EX (AQ n.names o) (CK no2 "" no w):=by
 have h3:=M6 (k:=o) b.inj;have h7:(a,no)∈AQ n.names o:=Hc (Bc ha) hne;have h9:=b.Fs (Bc ha);have h5:=b.Fs (Bc ho);obtain⟨t,nm,m⟩:=w;unfold CK
 cases t with
 |false=>rw[AF (fun z=>by cases z.1)];exact⟨by rw[F8 rfl,F8 rfl,YJ],fun z=>by cases z⟩
 |true=>
  rcases ok rfl with⟨hl,h6⟩|⟨x,hx⟩
  ·have e0:m= -1:=hl;have h4:AH n.names nm=none:=h6;have h8:nm≠o:=fun z=>by rw[z,ho] at h4;cases h4
   rw[AF (fun z=>by have h2:m=no2:=z.2;lia)];exact⟨by rw[Gp rfl hl,Gp rfl hl,PU h8],fun _=>.inl ⟨hl,Mv h6⟩⟩
  ·have h0:(x,m)∈n.names:=hx;have hn:m≠-1:=by have:=b.Fs h0;lia
   rw[FE b.inj (w:=⟨true,nm,m⟩) rfl hn h0];by_cases e:m=no2
   ·rw[AG ⟨rfl,e⟩];have ex:x=o:=Ka b.inj (by rw[<-e];exact h0) (Bc ho);rw[ex,ZW];exact⟨FE h3 (w:=⟨true,"",no⟩) rfl (by show no≠-1;lia) h7,fun _=>.inr ⟨a,h7⟩⟩
   ·rw[AF (fun z=>e z.2)];have ex:x≠o:=fun z=>by have h1:=KN b.Ct h0;rw[z,ho] at h1;exact e (Ag h1).symm
    rw[PU ex];exact⟨FE h3 (w:=⟨true,nm,m⟩) rfl hn (Hc h0 ex),fun _=>.inr ⟨x,Hc h0 ex⟩⟩
def SN(m:Int):AH (n.joined no o no2 w1 w2).texts m=((if m=no then some (w1++w2) else AH (AQ n.texts no2) m):Option (List Wd)).map (List.map (CK no2 "" no)):=by show AH (Nk.Iq _ (CK no2 "" no)).texts m=_;rw[NJ];show(AH (AW (AQ n.texts no2) no (w1++w2)) m).map _=_;rw[Cw]
def Bq.joined(b:Bq n)(ha:AH n.names a=some no)(ho:AH n.names o=some no2)(hne:a≠o)(h1:AH n.texts no=some w1)(h2:AH n.texts no2=some w2):Bq (n.joined no o no2 w1 w2):=by
 have nn:no≠no2:=fun z=>hne ((b.same ho ha).mp z);have h5:(n.joined no o no2 w1 w2).texts=(AW (AQ n.texts no2) no (w1++w2)).map fun p=>(p.1,p.2.map (CK no2 "" no)):=rfl;have h0:∀p∈(n.joined no o no2 w1 w2).texts,∃q,((q∈n.texts/\q.1≠no2)\/q=(no,w1++w2))/\p=(q.1,q.2.map (CK no2 "" no)):=fun p hp=>by
  rw[h5] at hp;obtain⟨q,hq,e⟩:=BA.mp hp;refine⟨q,?_,e.symm⟩;rcases JO hq with z|z
  ·exact .inl (F6 z)
  ·exact .inr z
 refine⟨DP b.Ct,M6 b.inj,by rw[h5,Bo];exact EJ (DP b.Ce),fun p hp=>?_,fun p hp=>?_,fun p hp=>?_,fun p hp w hw=>?_⟩
 ·obtain⟨g1,g2⟩:=F6 hp;obtain⟨ws,hw⟩:=b.tx p g1;rw[SN];by_cases z:p.2=no
  ·rw[AG z];exact⟨_,rfl⟩
  ·have h3:p.2≠no2:=fun z=>g2 (Ka b.inj (show(p.1,no2)∈n.names by rw[<-z];exact g1) (Bc ho));rw[AF z,EG h3,hw];exact⟨_,rfl⟩
 ·obtain⟨q,hq,rfl⟩:=h0 p hp;rcases hq with⟨hq,h6⟩|rfl
  ·obtain⟨nm,h⟩:=b.own q hq;refine⟨nm,Hc h fun z=>h6 ?_⟩;have g1:=KN b.Ct h;have z':nm=o:=z;rw[z',ho] at g1;exact(Ag g1).symm
  ·exact⟨a,Hc (Bc ha) hne⟩
 ·obtain⟨q,hq,rfl⟩:=h0 p hp;rcases hq with⟨hq,_⟩|rfl
  ·exact b.lt q hq
  ·exact b.Fs (Bc ha)
 ·obtain⟨q,hq,rfl⟩:=h0 p hp;obtain⟨w0,h4,rfl⟩:=BA.mp hw;refine(V8 b ha ho hne ?_).2;rcases hq with⟨hq,_⟩|rfl
  ·exact b.wd q hq w0 h4
  ·rcases BS.mp h4 with z|z
   ·exact b.wd _ (Bc h1) w0 z
   ·exact b.wd _ (Bc h2) w0 z
def jd(b:Bq n)(ha:AH n.names a=some no)(ho:AH n.names o=some no2)(hne:a≠o)(h1:AH n.texts no=some w1)(h2:AH n.texts no2=some w2):
 vw (n.joined no o no2 w1 w2)=DR (AW (AQ (vw n) o) a (Al n no++Al n no2)) o a:=by
 have h3:(vw n).map (·.1)=n.names.map (·.1):=EH n;have h0:∀ws:List Wd,(∀w∈ws,EX n.names w)->(ws.map (CK no2 "" no)).map (sh (AQ n.names o))=(ws.map (sh n.names)).map (Jp o a):=fun ws h=>by rw[Bo,Bo];exact Ew fun w hw=>(V8 b ha ho hne (h w hw)).1
 refine M4 ?_ (by rw[EH];exact DP b.Ct) fun k hk=>?_
 ·rw[EH,Pc,JI,KH,h3,AG]
  ·exact KH ..
  ·exact Gg.mpr ⟨Sw ha,by simpa using hne⟩
 ·rw[Fh,TK,Cw];show(AH (AQ n.names o) k).map _=_;by_cases z:k=o
  ·rw[z,JD,AF hne.symm,JD];rfl
  ·rw[EG z];by_cases y:k=a
   ·rw[AG y,y,ha];show some (((AH (n.joined no o no2 w1 w2).texts no).getD []).map (sh (AQ n.names o)))=some (C3 _ o a);rw[SN,AG rfl,Sd];show some (((w1++w2).map (CK no2 "" no)).map (sh (AQ n.names o)))=_;rw[h0 _ fun w hw=>by
     rcases BS.mp hw with z|z
     ·exact b.wd _ (Bc h1) w z
     ·exact b.wd _ (Bc h2) w z];unfold Al;rw[h1,h2,BF];rfl
   ·rw[AF y,EG z,Fh]
    cases e:AH n.names k with
    |none=>rfl
    |some m=>obtain⟨ws,g1,g2⟩:=b.text e;have m1:m≠no:=fun q=>y ((b.same ha e).mp q);have m2:m≠no2:=fun q=>z ((b.same ho e).mp q);show some (((AH (n.joined no o no2 w1 w2).texts m).getD []).map (sh (AQ n.names o)))=some (C3 (Al n m) o a);rw[SN,AF m1,EG m2,g1,Sd];show some ((ws.map (CK no2 "" no)).map (sh (AQ n.names o)))=_;rw[h0 ws g2];unfold Al;rw[g1];rfl
end
def Nk.wrote(n:Nk)(a t:Str):Nk:=match AH n.names a with
 |some no=>n.Cg no (GF n.names t)
 |none=>(n.added a).Cg n.made (GF (n.added a).names t)
def Nk.Hw(n:Nk)(no:Int)(k:Nat)(o:Str):Nk:=((n.added o).Cg n.made (((AH (n.added o).texts no).getD []).drop k)).Cg no (((AH (n.added o).texts no).getD []).take k++[⟨true,o,n.made⟩])
def str_list{a b:Str}:a=b↔a.cps.toList=b.cps.toList:=⟨fun h=>by rw[h],fun h=>VU h⟩
def Ve(l:List Nat)(a:Nat):∀m,(List.range m).filterMap (fun k=>l[a+k]?)=(l.drop a).take m
 |0=>by simp
 |m+1=>by rw[List.range_succ,Q3,Ve l a m,List.take_succ,Jx];congr 1
def slice_list(x:Str)(l u:Option Int)(lo hi:Nat)(hl:lo<=x.length)(hu:hi<=x.length)
 (DD:Builtin.Str.strSliceIndices l u 1 x.length=sliceRange (lo:Int) (hi:Int) 1):(Txt.slice x l u).cps.toList=(x.cps.toList.drop lo).take (hi-lo):=by
 have hn:x.cps.toList.length=x.length:=by simp[Str.length]
 have h1:Builtin.Str.strSliceIndices l u 1 x.length=(List.range (hi-lo)).map fun k=>lo+k:=by
  rw[DD];unfold sliceRange;simp only[show(1:Int)>0 by decide,CJ];have ec:((if(lo:Int)<(hi:Int) then((hi:Int)-lo+1-1)/1 else 0):Int).toNat=hi-lo:=by split<;>lia
  rw[ec];refine Ew fun k _=>?_;show((lo:Int)+1*(k:Int)).toNat=lo+k
  lia
 unfold Txt.slice;rw[h1];split
 ·rename_i h;have:hi-lo=x.length:=by simpa using h
  have h0:lo=0:=by lia
  rw[h0,Md,Eu (by lia)]
 ·show(((List.range (hi-lo)).map fun k=>lo+k).filterMap fun i=>x.cps[i]?)=_;rw[List.filterMap_map];have:=Ve x.cps.toList lo (hi-lo);rw[<-this];have ef:((fun i=>x.cps[i]?)∘fun k=>lo+k)=fun k=>x.cps.toList[lo+k]? :=funext fun k=>by show x.cps[lo+k]? =_;rw[Gd]
  rw[ef]
def dS(x:Str):(Txt.slice x none (some 1)).cps.toList=x.cps.toList.take 1:=by
 have:=slice_list x none (some 1) 0 (min 1 x.length) (CC _) (Nat.min_le_right ..) (by
  unfold Builtin.Str.strSliceIndices;simp only[show(1:Int)>0 by decide,CJ,show¬(1:Int)<0 by decide,Bw];congr 1
  lia);rw[this,Md];have hn:x.cps.toList.length=x.length:=by simp[Str.length]
 by_cases h:1<=x.length
 ·rw[show min 1 x.length-0=1 by lia]
 ·rw[Eu (by lia),Eu (by lia)]
def ba(x:Str):(Txt.slice x (some (-1)) none).cps.toList=x.cps.toList.drop (x.length-1):=by
 have:=slice_list x (some (-1)) none (x.length-1) x.length (by lia) (Ae _) (by
  unfold Builtin.Str.strSliceIndices;simp only[show(1:Int)>0 by decide,CJ,show(-1:Int)<0 by decide];congr 1
  lia);rw[this];have hn:x.cps.toList.length=x.length:=by simp[Str.length]
 rw[Eu (by rw[Dr];lia)]
def ZD:("[" :Str).cps.toList=[91]:=by left
def Y1:("]" :Str).cps.toList=[93]:=by left
def fC(x:Str):decide (V.str (Txt.slice x none (some 1))=V.str "[")=Txt.startswith x "[" :=by
 have hn:x.cps.toList.length=x.length:=by simp[Str.length]
 have l1:("[" :Str).length=1:=by left
 have e1:(V.str (Txt.slice x none (some 1))=V.str "[")↔x.cps.toList.take 1=[91]:=by rw[V.str.injEq,str_list,dS,ZD]
 have e2:Txt.startswith x "[" =true↔x.cps.toList.take 1=[91]:=by
  unfold Txt.startswith Builtin.Str.subAt;rw[l1,FZ,Of,Fd,<-Jz,ZD,VA];constructor
  ·intro h;have:=h.2;simpa[Uv] using this
  ·intro h;refine⟨?_,by simpa[Uv] using h⟩;have:=BD List.length h;rw[Be,hn] at this;have t2:min 1 x.length=1:=this
   lia
 cases e:Txt.startswith x "[" with
 |true=>exact Bb (e1.mpr (e2.mp e))
 |false=>exact BN fun z=>by rw[e2.mpr (e1.mp z)] at e;cases e
def js(x:Str):decide (V.str (Txt.slice x (some (-1)) none)=V.str "]")=Txt.endswith x "]" :=by
 have hn:x.cps.toList.length=x.length:=by simp[Str.length]
 have l1:("]" :Str).length=1:=by left
 have e1:(V.str (Txt.slice x (some (-1)) none)=V.str "]")↔x.cps.toList.drop (x.length-1)=[93]:=by rw[V.str.injEq,str_list,ba,Y1]
 have e2:Txt.endswith x "]" =true↔x.cps.toList.drop (x.length-1)=[93]:=by
  unfold Txt.endswith Builtin.Str.subAt;rw[l1,FZ,Of,Fd,<-Jz,Y1,VA];have et:∀h:1<=x.length,List.extract x.cps.toList (x.length-1) (x.length-1+1)=x.cps.toList.drop (x.length-1):=fun h=>by rw[Uv,Eu (by rw[Dr];lia)]
  constructor
  ·intro h;rw[<-et (by lia)];exact h.2
  ·intro h;have h1:1<=x.length:=by
    have:=BD List.length h;rw[Dr,hn] at this;have t2:x.length-(x.length-1)=1:=this
    lia
   exact⟨by lia,by rw[et h1];exact h⟩
 cases e:Txt.endswith x "]" with
 |true=>exact Bb (e1.mpr (e2.mp e))
 |false=>exact BN fun z=>by rw[e2.mpr (e1.mp z)] at e;cases e
def Pn(z:Str):DI z=isNm z:=by
 unfold DI isNm;congr 1;generalize z.cps.toList=l
 induction l with
 |nil=>rfl
 |cons c l ih=>
  have hb:Er c= !Dx c:=by unfold Er Dx;rw[Bool.not_or]
  rw[LF,hb,<-ih]
  cases e:Dx c with
  |true=>rw[Et e];rfl
  |false=>rw[FV (by simp[e])];rfl
def Wn(p:Str):Hq p=Hy p:=by unfold Hq Hy;rw[fC,js,Pn];rfl
def WJ(inj:(names.map (·.2)).Nodup)(pos:∀p∈names,0<=p.2)(t:Str):(GF names t).map (sh names)=E7 t/\∀w∈GF names t,EX names w:=by
 have one:∀p:Str,(D5 names p=none/\p="")\/∃w,D5 names p=some w/\p≠ "" /\sh names w=D7 p/\EX names w:=fun p=>by
  unfold D5;by_cases hp:Hq p=true
  ·rw[AG hp];refine .inr ⟨_,rfl,fun z=>?_,?_,fun _=>?_⟩
   ·rw[z] at hp;exact absurd hp (by left)
   ·have h0:Hy p=true:=by rw[<-Wn];exact hp
    have er:D7 p=(("to" :Str),inner p):=by unfold D7;rw[AG h0];rfl
    rw[er]
    cases e:AH names (inner p) with
    |none=>exact Gp (w:=⟨true,inner p,-1⟩) rfl rfl
    |some no=>have hm:=Bc e;have:=pos _ hm;exact FE inj (w:=⟨true,inner p,no⟩) rfl (by show no≠-1;have t2:(0:Int)<=no:=this;lia) hm
   ·cases e:AH names (inner p) with
    |none=>exact .inl ⟨rfl,rfl⟩
    |some no=>exact .inr ⟨inner p,Bc e⟩
  ·rw[AF hp];by_cases he:p=""
   ·rw[AG he];exact .inl ⟨rfl,he⟩
   ·rw[AF he];refine .inr ⟨_,rfl,he,?_,fun z=>by cases z⟩;have h0:¬Hy p=true:=by rw[<-Wn];exact hp
    have er:D7 p=(("word" :Str),p):=by unfold D7;rw[AF h0]
    rw[er];exact F8 rfl
 unfold GF E7 CQ;generalize Txt.split t " " =L
 induction L with
 |nil=>exact⟨rfl,fun w hw=>by cases hw⟩
 |cons p L ih=>
  obtain⟨h2,h1⟩:=ih;rcases one p with⟨e1,e2⟩|⟨w,e1,e2,e3,e4⟩
  ·rw[List.filterMap_cons_none e1,FV (by simp[e2])];exact⟨h2,h1⟩
  ·rw[List.filterMap_cons_some e1,Et (by simp[e2]),Au,Au,h2,e3];refine⟨rfl,fun w' h3=>?_⟩;rcases BI.mp h3 with z|z
   ·rw[z];exact e4
   ·exact h1 w' z
def wl(n:Nk):Prop:=∀p∈n.texts,∀w∈p.2,w.nm.length<=1000
structure Bd(n:Nk):Prop where
 b:Bq n
 h0:0<=n.made
 nm:∀p∈n.names,p.1.length<=40
 wl:wl n
def X1(o:Str)(no:Int)(w:Wd):(CL o no w).nm=w.nm:=by unfold CL;split<;>rfl
def YE{other:Int}{w:Wd}(h1:nm.length<=1000)(h2:w.nm.length<=1000):(CK no nm other w).nm.length<=1000:=by
 unfold CK;split
 ·exact h1
 ·exact h2
def Pz{n:Nk}{g:Wd->Wd}(h:wl n)(hg:∀w,w.nm.length<=1000->(g w).nm.length<=1000):wl (n.Iq g):=fun p hp w hw=>by obtain⟨q,hq,rfl⟩:=BA.mp hp;obtain⟨w0,h0,rfl⟩:=BA.mp hw;exact hg w0 (h q hq w0 h0)
def TR{n:Nk}(h:wl n)(hw:∀w∈ws,w.nm.length<=1000):wl {n with texts:=AW n.texts no ws}:=fun p hp w h0=>by
 rcases JO hp with e|e
 ·exact h p e w h0
 ·rw[e] at h0;exact hw w h0
def YG{n:Nk}(h:wl n):wl {n with texts:=AQ n.texts no}:=fun p hp w h0=>h p (F6 hp).1 w h0
def V2{t:Str}(ht:t.length<=1000):∀w∈GF names t,w.nm.length<=1000:=fun w hw=>by
 unfold GF at hw;obtain⟨p,hp,e⟩:=Oe.mp hw;have h1:=VP t p hp;unfold D5 at e;split at e
 ·cases Ag e;have:=Oy p (some 1) (some (-1));show(inner p).length<=1000;unfold inner
  lia
 ·split at e
  ·cases e
  ·cases Ag e;show p.length<=1000
   lia
def Bd.added{n:Nk}{o:Str}(h:Bd n)(ho:AH n.names o=none)(hl:o.length<=40):Bd (n.added o):=by
 refine⟨h.b.added h.h0 ho,by show 0<=n.made+1;have:=h.h0;lia,fun p hp=>?_,Pz (TR (n:={n with made:=n.made+1}) h.wl (fun w hw=>by cases hw)) fun w hw=>by rw[X1];exact hw⟩;rw[O1 ho] at hp;rcases BS.mp hp with e|e
 ·exact h.nm p e
 ·rw[BR.mp e];exact hl
def Bd.Cg{n:Nk}{a:Str}{no:Int}{ws:List Wd}(h:Bd n)(ha:AH n.names a=some no)(ok:∀w∈ws,EX n.names w)(hw:∀w∈ws,w.nm.length<=1000):Bd (n.Cg no ws):=
 ⟨h.b.Cg ha ok,h.h0,h.nm,TR h.wl hw⟩
noncomputable def Aw.asks:Aw->Bool
 |.text _=>true
 |.back _=>true
 |.find _ _=>true
 |_=>false
def A1(n:Nk)(a:Str):Int:=(AH n.names a).getD 0
def CF(n:Nk)(no:Int):List Wd:=(AH n.texts no).getD []
def P8(n:Nk):Aw->Nk
 |.write a t=>n.wrote a t
 |.rename a o=>n.renamed a o (A1 n a)
 |.join a o=>n.joined (A1 n a) o (A1 n o) (CF n (A1 n a)) (CF n (A1 n o))
 |.cut a p o=>n.Hw (A1 n a) p.toNat o
 |.drop a=>n.dropped a (A1 n a)
 |_=>n
def G0(n:Nk)(x:Aw):Nk:=if x.asks=true then n else if BU n x="" then P8 n x else n
def gf{n:Nk}{a t:Str}(h:Bd n)(hl:a.length<=40)(ht:t.length<=1000):Bd (n.wrote a t)/\vw (n.wrote a t)=AW (vw n) a (E7 t):=by
 have h1:∀{m:Nk},Bd m->∀p∈m.names,0<=p.2:=fun hm p hp=>(hm.b.Fs (nm:=p.1) (no:=p.2) hp).1;unfold Nk.wrote
 cases e:AH n.names a with
 |some no=>obtain⟨p1,p2⟩:=WJ h.b.inj (h1 h) t;exact⟨h.Cg e p2 (V2 ht),by rw[Pj h.b e,p1]⟩
 |none=>
  have h':=h.added e hl;have e2:AH (n.added a).names a=some n.made:=by show AH (AW n.names a n.made) a=_;rw[Cw,AG rfl]
  obtain⟨p1,p2⟩:=WJ h'.b.inj (h1 h') t;refine⟨h'.Cg e2 p2 (V2 ht),?_⟩;show vw ((n.added a).Cg n.made _)=_;rw[Pj h'.b e2,p1,Wf h.b h.h0 e,YD (by rw[EH];exact h.b.Ct)]
def lz{n:Nk}{a o:Str}(h:Bd n)(ha:AH n.names a=some no)(ho:AH n.names o=none)(hl:o.length<=40):
 Bd (n.Hw no k o)/\vw (n.Hw no k o)=AW (AW (vw n) o ((Al n no).drop k)) a ((Al n no).take k++[(("to" :Str),o)]):=by
 have h1:=h.added ho hl;have em:AH (n.added o).names o=some n.made:=by show AH (AW n.names o n.made) o=_;rw[Cw,AG rfl]
 have h8:a≠o:=fun z=>by rw[z,ho] at ha;cases ha
 have ea:AH (n.added o).names a=some no:=by show AH (AW n.names o n.made) a=_;rw[Cw,AF h8];exact ha
 obtain⟨w0,h7,h9⟩:=h.b.text ha;obtain⟨ws,hw,ok⟩:=h1.b.text ea;have pg:Al n no=ws.map (sh (n.added o).names):=by rw[<-Wr h.b h.h0 ho h7];unfold Al;rw[hw];rfl
 have h4:∀w∈ws,w.nm.length<=1000:=fun w h3=>h1.wl _ (Bc hw) w h3;unfold Nk.Hw;rw[hw];show Bd (((n.added o).Cg n.made (ws.drop k)).Cg no (ws.take k++[⟨true,o,n.made⟩]))/\_;have h2:=h1.Cg (ws:=ws.drop k) em (fun w h3=>ok w (Jv h3)) fun w h3=>h4 w (Jv h3);have h6:∀w∈ws.take k++[(⟨true,o,n.made⟩:Wd)],EX (n.added o).names w:=fun w h3=>by
  rcases BS.mp h3 with z|z
  ·exact ok w (FX z)
  ·rw[BR.mp z];exact fun _=>.inr ⟨o,Bc em⟩
 have h5:AH ((n.added o).Cg n.made (ws.drop k)).names a=some no:=ea;refine⟨h2.Cg h5 h6 fun w h3=>?_,?_⟩
 ·rcases BS.mp h3 with z|z
  ·exact h4 w (FX z)
  ·rw[BR.mp z];show o.length<=1000
   lia
 ·show vw (((n.added o).Cg n.made (ws.drop k)).Cg no (ws.take k++[⟨true,o,n.made⟩]))=_;have sm:sh (n.added o).names ⟨true,o,n.made⟩=(("to" :Str),o):=FE h1.b.inj (w:=⟨true,o,n.made⟩) rfl (by show n.made≠-1;have:=h.h0;lia) (Bc em);rw[Pj h2.b h5,Pj h1.b em,Wf h.b h.h0 ho,YD (by rw[EH];exact h.b.Ct)];show AW (AW (vw n) o ((ws.drop k).map (sh (n.added o).names))) a ((ws.take k++[(⟨true,o,n.made⟩:Wd)]).map (sh (n.added o).names))=_;rw[pg,BF,Mm,LD];show AW _ a (_++[sh (n.added o).names (Wd.mk true o n.made)])=_;rw[sm]
def Bd.renamed{n:Nk}{a o:Str}{no:Int}(h:Bd n)(ha:AH n.names a=some no)(ho:AH n.names o=none)(hl:o.length<=40):Bd (n.renamed a o no):=by
 refine⟨h.b.renamed ha ho,h.h0,fun p hp=>?_,Pz (n:={n with names:=AW (AQ n.names a) o no}) h.wl fun w hw=>by rw[X1];exact hw⟩;rw[Mz ho] at hp;rcases BS.mp hp with e|e
 ·exact h.nm p (F6 e).1
 ·rw[BR.mp e];exact hl
def Bd.dropped{n:Nk}{a:Str}{no:Int}(h:Bd n)(ha:AH n.names a=some no):Bd (n.dropped a no):=
 ⟨h.b.dropped ha,h.h0,fun p hp=>h.nm p (F6 hp).1,Pz (n:={n with names:=AQ n.names a,texts:=AQ n.texts no}) (YG (n:=n) h.wl) fun w hw=>YE (by have:=h.nm _ (Bc ha);dsimp only at this;lia) hw⟩
def Bd.joined{n:Nk}{a o:Str}{no no2:Int}{w1 w2:List Wd}(h:Bd n)(ha:AH n.names a=some no)(ho:AH n.names o=some no2)(hne:a≠o)(h1:AH n.texts no=some w1)(h2:AH n.texts no2=some w2):Bd (n.joined no o no2 w1 w2):=by
 refine⟨h.b.joined ha ho hne h1 h2,h.h0,fun p hp=>h.nm p (F6 hp).1,Pz (TR (n:={n with names:=AQ n.names o,texts:=AQ n.texts no2}) (YG (n:=n) h.wl) fun w hw=>?_) fun w hw=>YE (by left) hw⟩;rcases BS.mp hw with z|z
 ·exact h.wl _ (Bc h1) w z
 ·exact h.wl _ (Bc h2) w z
def C1(s:Str):Rs->Prop
 |.no m=>s=m/\m≠ ""
 |.ok _ _=>s=""
 |.un _=>s=""
def Yo(n:Nk)(x:Aw):C1 (BU n x) (E8 (vw n) x):=by
 have hg:=Fh n
 cases x with
 |write a t=>
  show C1 (if DI a=true then "" else "no name") (Hh (vw n) a t);unfold Hh;rw[Pn];by_cases e:isNm a=true
  ·rw[AG e,AG e];exact rfl
  ·rw[AF e,AF e];exact⟨rfl,by left⟩
 |rename a o=>
  show C1 (if AH n.names a=none then "no page" else if DI o=false then "no name" else if AH n.names o=none then "" else "taken") (He (vw n) a o);unfold He;rw[Pn,hg a]
  cases e:AH n.names a with
  |none=>rw[AG rfl];exact⟨rfl,by left⟩
  |some no=>
   rw[AF (by simp)];show C1 _ (if isNm o=true then _ else _)
   cases e2:isNm o with
   |false=>exact⟨rfl,by left⟩
   |true=>
    rw[AG rfl,AF (by simp),hg o]
    cases e3:AH n.names o with
    |none=>rw[AG rfl];exact rfl
    |some h1=>rw[AF (by simp)];exact⟨rfl,by left⟩
 |join a o=>
  show C1 (if AH n.names a=none then "no page" else if AH n.names o=none then "no page" else if a=o then "same page" else "") (Fi (vw n) a o);unfold Fi;rw[hg a]
  cases e:AH n.names a with
  |none=>rw[AG rfl];exact⟨rfl,by left⟩
  |some no=>
   rw[AF (by simp),hg o]
   cases e2:AH n.names o with
   |none=>rw[AG rfl];exact⟨rfl,by left⟩
   |some h1=>
    rw[AF (by simp)];show C1 _ (if a=o then _ else _);by_cases e3:a=o
    ·rw[AG e3,AG e3];exact⟨rfl,by left⟩
    ·rw[AF e3,AF e3];exact rfl
 |cut a p o=>
  show C1 (match AH n.names a with
   |none=>"no page"
   |some no=>if DI o=false then "no name" else if AH n.names o=none then(if p<0 then "no place" else if((AH n.texts no).getD []).length<p then "no place" else "") else "taken") (Hu (vw n) a p o);unfold Hu;rw[Pn,hg a]
  cases e:AH n.names a with
  |none=>exact⟨rfl,by left⟩
  |some no=>
   show C1 (if isNm o=false then _ else _) (if isNm o=true then _ else _)
   cases e2:isNm o with
   |false=>exact⟨rfl,by left⟩
   |true=>
    rw[AG rfl,AF (by simp),hg o]
    cases e3:AH n.names o with
    |some h1=>rw[AF (by simp)];exact⟨rfl,by left⟩
    |none=>
     rw[AG rfl];have h0:(Al n no).length=((AH n.texts no).getD []).length:=by unfold Al;rw[AJ]
     show C1 _ (if p<0\/((Al n no).length:Int)<p then _ else _);rw[h0];by_cases c1:p<0
     ·rw[AG c1,AG (Aa c1)];exact⟨rfl,by left⟩
     ·by_cases c2:(((AH n.texts no).getD []).length:Int)<p
      ·rw[AF c1,AG c2,AG (Cc c2)];exact⟨rfl,by left⟩
      ·rw[AF c1,AF c2,AF (fun z=>Or.elim z c1 c2)];exact rfl
 |drop a=>
  show C1 (if AH n.names a=none then "no page" else "") (Hj (vw n) a);unfold Hj;rw[hg a]
  cases e:AH n.names a with
  |none=>rw[AG rfl];exact⟨rfl,by left⟩
  |some no=>rw[AF (by simp)];exact rfl
 |text a=>
  show C1 (if AH n.names a=none then "no page" else "") (Gw (vw n) a);unfold Gw;rw[hg a]
  cases e:AH n.names a with
  |none=>rw[AG rfl];exact⟨rfl,by left⟩
  |some no=>rw[AF (by simp)];exact rfl
 |back a=>exact rfl
 |find ws h2=>
  show C1 (if ws=[] then "no words" else "") (if ws=[] then .no "no words" else .ok (IG (vw n) ws h2) (vw n));by_cases e:ws=[]
  ·rw[AG e,AG e];exact⟨rfl,by left⟩
  ·rw[AF e,AF e];exact rfl
def iy{n:Nk}(h:Bd n){x:Aw}(g:x.Good):Bd (G0 n x)/\vw (G0 n x)=(E8 (vw n) x).next (vw n):=by
 have br:=Yo n x;have hg:=Fh n;unfold G0;by_cases ha:x.asks=true
 ·rw[AG ha];refine⟨h,?_⟩
  cases x with
  |text a=>show _=(Gw (vw n) a).next (vw n);unfold Gw;cases AH (vw n) a<;>rfl
  |back a=>rfl
  |find ws h5=>show _=Rs.next (vw n) (if ws=[] then .no "no words" else .ok (IG (vw n) ws h5) (vw n));split<;>rfl
  |_=>cases ha
 ·rw[AF ha];by_cases hb:BU n x=""
  ·rw[AG hb];rw[hb] at br
   cases x with
   |write a t=>
    obtain⟨r1,r2⟩:=gf (n:=n) (a:=a) (t:=t) h g.1 g.2;refine⟨r1,r2.trans ?_⟩;have h0:C1 "" (Hh (vw n) a t):=br;show _=(Hh (vw n) a t).next (vw n);unfold Hh at h0⊢;by_cases e:isNm a=true
    ·rw[AG e];rfl
    ·rw[AF e] at h0;exact absurd h0.1.symm h0.2
   |rename a o=>
    have h0:C1 "" (He (vw n) a o):=br;show Bd (n.renamed a o (A1 n a))/\vw (n.renamed a o (A1 n a))=(He (vw n) a o).next (vw n);unfold He A1 at*;rw[hg a] at h0⊢
    cases e:AH n.names a with
    |none=>rw[e] at h0;exact absurd h0.1.symm h0.2
    |some no=>
     rw[e] at h0;have h3:C1 "" (if isNm o=true then(match AH (vw n) o with|some _=>.no "taken" |none=>.ok (.int (L2.cnt (L2.renamed (vw n) a o (Al n no)) o)) (L2.renamed (vw n) a o (Al n no))) else .no "no name"):=h0;show Bd (n.renamed a o no)/\vw (n.renamed a o no)=Rs.next (vw n) (if isNm o=true then(match AH (vw n) o with|some _=>.no "taken" |none=>.ok (.int (L2.cnt (L2.renamed (vw n) a o (Al n no)) o)) (L2.renamed (vw n) a o (Al n no))) else .no "no name");by_cases e2:isNm o=true
     ·rw[AG e2,hg o] at h3⊢
      cases e3:AH n.names o with
      |some h4=>rw[e3] at h3;exact absurd h3.1.symm h3.2
      |none=>exact⟨h.renamed e e3 g.2,kK h.b e e3⟩
     ·rw[AF e2] at h3;exact absurd h3.1.symm h3.2
   |join a o=>
    have h0:C1 "" (Fi (vw n) a o):=br;show Bd (n.joined (A1 n a) o (A1 n o) (CF n (A1 n a)) (CF n (A1 n o)))/\vw (n.joined (A1 n a) o (A1 n o) (CF n (A1 n a)) (CF n (A1 n o)))=(Fi (vw n) a o).next (vw n);unfold Fi at*;rw[hg a,hg o] at h0⊢;unfold A1
    cases e:AH n.names a with
    |none=>rw[e] at h0;exact absurd h0.1.symm h0.2
    |some no=>
     cases e2:AH n.names o with
     |none=>rw[e,e2] at h0;exact absurd h0.1.symm h0.2
     |some h4=>
      rw[e,e2] at h0;have h3:C1 "" (if a=o then .no "same page" else .ok (.int (L2.cnt (L2.joined (vw n) a o (Al n no) (Al n h4)) a)) (L2.joined (vw n) a o (Al n no) (Al n h4))):=h0;show Bd (n.joined no o h4 (CF n no) (CF n h4))/\vw (n.joined no o h4 (CF n no) (CF n h4))=Rs.next (vw n) (if a=o then .no "same page" else .ok (.int (L2.cnt (L2.joined (vw n) a o (Al n no) (Al n h4)) a)) (L2.joined (vw n) a o (Al n no) (Al n h4)));by_cases e3:a=o
      ·rw[AG e3] at h3;exact absurd h3.1.symm h3.2
      ·rw[AF e3];obtain⟨w1,h1,_⟩:=h.b.text e;obtain⟨w2,h2,_⟩:=h.b.text e2;unfold CF;rw[h1,h2];exact⟨h.joined e e2 e3 h1 h2,jd h.b e e2 e3 h1 h2⟩
   |cut a p o=>
    have h0:C1 "" (Hu (vw n) a p o):=br;show Bd (n.Hw (A1 n a) p.toNat o)/\vw (n.Hw (A1 n a) p.toNat o)=(Hu (vw n) a p o).next (vw n);unfold Hu at*;rw[hg a,hg o] at h0⊢;unfold A1
    cases e:AH n.names a with
    |none=>rw[e] at h0;exact absurd h0.1.symm h0.2
    |some no=>
     rw[e] at h0;by_cases e2:isNm o=true
     ·cases e3:AH n.names o with
      |some h4=>rw[e3] at h0;have h3:C1 "" (if isNm o=true then .no "taken" else .no "no name"):=h0;rw[AG e2] at h3;exact absurd h3.1.symm h3.2
      |none=>
       rw[e3] at h0;have h3:C1 "" (if isNm o=true then(if p<0\/((Al n no).length:Int)<p then .no "no place" else .ok (.int (((Al n no).drop p.toNat).length:Nat)) (cutAt (vw n) a o (Al n no) p.toNat)) else .no "no name"):=h0;show Bd (n.Hw no p.toNat o)/\vw (n.Hw no p.toNat o)=Rs.next (vw n) (if isNm o=true then(if p<0\/((Al n no).length:Int)<p then .no "no place" else .ok (.int (((Al n no).drop p.toNat).length:Nat)) (cutAt (vw n) a o (Al n no) p.toNat)) else .no "no name");rw[AG e2] at h3⊢;by_cases c:p<0\/((Al n no).length:Int)<p
       ·rw[AG c] at h3;exact absurd h3.1.symm h3.2
       ·rw[AF c];exact lz h e e3 g.2
     ·cases e3:AH n.names o with
      |some h4=>rw[e3] at h0;have h3:C1 "" (if isNm o=true then .no "taken" else .no "no name"):=h0;rw[AF e2] at h3;exact absurd h3.1.symm h3.2
      |none=>rw[e3] at h0;have h3:C1 "" (if isNm o=true then(if p<0\/((Al n no).length:Int)<p then .no "no place" else .ok (.int (((Al n no).drop p.toNat).length:Nat)) (cutAt (vw n) a o (Al n no) p.toNat)) else .no "no name"):=h0;rw[AF e2] at h3;exact absurd h3.1.symm h3.2
   |drop a=>
    have h0:C1 "" (Hj (vw n) a):=br;show Bd (n.dropped a (A1 n a))/\vw (n.dropped a (A1 n a))=(Hj (vw n) a).next (vw n);unfold Hj at*;rw[hg a] at h0⊢;unfold A1
    cases e:AH n.names a with
    |none=>rw[e] at h0;exact absurd h0.1.symm h0.2
    |some no=>exact⟨h.dropped e,ji h.b e⟩
   |text a=>exact absurd rfl ha
   |back a=>exact absurd rfl ha
   |find ws h5=>exact absurd rfl ha
  ·rw[AF hb];refine⟨h,?_⟩;generalize E8 (vw n) x=r at br
   cases r with
   |no m=>rfl
   |ok a b=>exact absurd br hb
   |un a=>exact absurd br hb
def chg(n:Nk):Aw->Int
 |.write a t=>(GF (n.wrote a t).names t).length
 |.rename a o=>(n.renamed a o (A1 n a)).led (A1 n a)
 |.join a o=>(n.joined (A1 n a) o (A1 n o) (CF n (A1 n a)) (CF n (A1 n o))).led (A1 n a)
 |.cut a p o=>((CF (n.added o) (A1 n a)).length:Int)-p
 |.drop a=>n.led (A1 n a)
 |_=>0
def V3:Sp:=fun vs H Q _=>∃(a:OK)(d:V)(x:Aw)(H0:Hp)(n:Nk),vs=[.ref a,d]/\Cy H0 H a n/\Fits n/\Bd n/\n.texts.length<1000/\n.names.length<1000/\Rep H0 x.dt d/\x.Good/\x.asks=false/\BU n x="" /\
 (∀a' o',x=.join a' o'->(CF n (A1 n a')++CF n (A1 n o')).length<=100000)/\∀H',Cy H0 H' a (P8 n x)->Q (.int (chg n x)) H'
def Fits.Tj{n:Nk}(h:Fits n)(a:Str):Fits {n with names:=AQ n.names a}:=
 ⟨DP h.Ct,h.Ce,BJ (EY _ _) h.names,h.texts,h.words⟩
def Fits.P2{n:Nk}(h:Fits n)(no:Int):Fits {n with texts:=AQ n.texts no}:=
 ⟨h.Ct,DP h.Ce,h.names,BJ (EY _ _) h.texts,fun p hp=>h.words p (F6 hp).1⟩
def Fits.named{n:Nk}(h:Fits n)(o:Str)(no:Int)(hl:n.names.length<1000):Fits (n.named o no):=by have h1:Fits {n with names:=AW n.names o no}:=⟨EJ h.Ct,h.Ce,by show(AW n.names o no).length<=1000;have:=Gu n.names o no;lia,h.texts,h.words⟩;exact h1.map
def Cy.ext{H0 H H':Hp}{a:OK}{n:Nk}(h:Cy H0 H a n)(s:AO H H'):Cy H0 H' a n:=by obtain⟨x,y,z,nk⟩:=h;exact⟨x,y,z,nk.ext s⟩
def Vz{n:Nk}(b:Bq n):AH n.texts n.made=none:=by
 cases e:AH n.texts n.made with
 |none=>rfl
 |some ws=>have:=(b.lt _ (Bc e)).2;dsimp only at this;lia
def PJ{n:Nk}{x:Aw}{a:Str}(h:BU n x="")(hx:(∃o,x=.rename a o)\/(∃o,x=.join a o)\/(∃p o,x=.cut a p o)\/x=.drop a):∃no,AH n.names a=some no:=by
 cases e:AH n.names a with
 |some no=>exact⟨no,rfl⟩
 |none=>
  exfalso;rcases hx with⟨o,rfl⟩|⟨o,rfl⟩|⟨p,o,rfl⟩|rfl
  ·have h':(if AH n.names a=none then("no page" :Str) else _)="" :=h;rw[e,AG rfl] at h';exact absurd h' (by left)
  ·have h':(if AH n.names a=none then("no page" :Str) else _)="" :=h;rw[e,AG rfl] at h';exact absurd h' (by left)
  ·simp only[BU,e] at h;exact absurd h (by left)
  ·have h':(if AH n.names a=none then("no page" :Str) else _)="" :=h;rw[e,AG rfl] at h';exact absurd h' (by left)
def KG:A9 ["_law_nook","_law_deed","_law_name","_law_words","_law_number","_law_fresh","_law_many"] ["_law_nook","_law_deed"] (Aq SY):=by left
def cY{fNa fLe fTu:OK}{fdNa fdLe fdTu:qk}(F:Ak K "_law_changed" "_law_changed" SY f fd)(O:Own mg)
 (HAd:Hv P w K mg base "_law_added" 2 ["_law_nook","_law_name"] X9)
 (HPi:Hv P w K mg base "_law_penned_in" 2 ["_law_nook","_law_text"] Vi)
 (FNa:Ak K "_law_named" "_law_named" NX fNa fdNa)(bNa:Binds K fdNa ["_law_nook","_law_name","_law_number"] [])(mNa:mg "_law_named" =some (.ref fNa))
 (FLe:Ak K "_law_led" "_law_led" N5 fLe fdLe)(bLe:Binds K fdLe ["_law_nook","_law_number"] [])(mLe:mg "_law_led" =some (.ref fLe))
 (HJo:Hv P w K mg base "_law_joined" 2 ["_law_nook","_law_number","_law_other"] Wg)
 (FTu:Ak K "_law_turned" "_law_turned" NS fTu fdTu)(bTu:Binds K fdTu ["_law_nook","_law_number","_law_name","_law_other"] [])(mTu:mg "_law_turned" =some (.ref fTu)):
 AY P w K mg base Aj 3 f fd ["_law_nook","_law_deed"] V3:=by
 have c2:AY P w K mg base Aj 1 fNa fdNa ["_law_nook","_law_name","_law_number"] S3:=XB FNa O;have t9:AY P w K mg base Aj 1 fLe fdLe ["_law_nook","_law_number"] Th:=Y8 FLe O;have b9:AY P w K mg base Aj 1 fTu fdTu ["_law_nook","_law_number","_law_name","_law_other"] SV:=WI FTu O;refine F.ok KG ?_ ?_
 ·rintro _ _ _ _ ⟨_,_,_,_,_,rfl,_⟩;rfl
 ·rintro _ A _ s H _ Q E hr ⟨a,dv,x,H0,n,rfl,a3,s4,bd,tl,nl,rd,gd,na,br,jl,q⟩;have e0:=Cq hr;refine⟨_,(AR (Av (i:=2) KG.nd rfl (Aa rfl) (A3 (pv 1))) (AR (A0 (Ar Ba (A3 (pv 1)) AZ (Am _))
   (AR (A0 (JU (PB e0 (pv 2) (CY e0 (pv 0))))
   (AU (Bf (DL HAd hr rfl BH (AB (pv 0) (AB (pv 2) AI)))))
   BE) (AR (Av (i:=3) KG.nd rfl (Aa rfl) (DL HPi hr rfl BH (AB (pv 0) (AB (A3 (pv 1)) AI)))) (AR (Ee e0 (CY e0 (pv 0)) (D1 e0 (CY e0 (pv 0)) (pv 2) (fun _ _=>rfl)) (pv 3) rfl) (AU (As (BZ EM rfl O.len Cu (AB (pv 3) AI)))))))
   BE) (AR (Av (i:=4) KG.nd rfl (Aa rfl) (D1 e0 (CY e0 (pv 0)) (pv 2) (fun _ _=>rfl))) (AR (A0 (Ar Ba (A3 (pv 1)) AZ (Am _))
   (AR (Bf (JL (CY e0 (pv 0)) (pv 2) ⟨rfl,rfl,rfl,rfl⟩)) (AR (Bf (Ca c2 hr.mn rfl mNa FNa.kp bNa .nil BH (AB (pv 0) (AB (A3 (pv 1)) (AB (pv 4) AI))))) (AU (As (Ca t9 hr.mn rfl mLe FLe.kp bLe .nil BH (AB (pv 0) (AB (pv 4) AI)))))))
   BE) (AR (A0 (Ar Ba (A3 (pv 1)) AZ (Am _))
   (AU (As (DL HJo hr rfl BH (AB (pv 0) (AB (pv 4) (AB (A3 (pv 1)) AI))))))
   BE) (AR (A0 (Ar Ba (A3 (pv 1)) AZ (Am _))
   (AR (Av (i:=5) KG.nd rfl (Aa rfl) (DL HAd hr rfl BH (AB (pv 0) (AB (A3 (pv 1)) AI)))) (AR (Av (i:=3) KG.nd rfl (Aa rfl) (D1 e0 (CY e0 (pv 0)) (pv 4) (fun _ _=>rfl))) (AR (Ee e0 (CY e0 (pv 0)) (pv 5) (Ed T3 (pv 3) (DF (A3 (pv 1))) JS) rfl) (AR (Ee e0 (CY e0 (pv 0)) (pv 4) (Ah KW (Ed T3 (pv 3) JS (DF (A3 (pv 1)))) (CO (AB (CO (AB AZ (AB (A3 (pv 1)) (AB (pv 5) AI)))) AI))) rfl) (AU (As (Ah Lf (BZ EM rfl O.len Cu (AB (pv 3) AI)) (A3 (pv 1)))))))))
   BE) (AR (Av (i:=6) KG.nd rfl (Aa rfl) (Ca t9 hr.mn rfl mLe FLe.kp bLe .nil BH (AB (pv 0) (AB (pv 4) AI)))) (AR (Bf (JL (CY e0 (pv 0)) (pv 4) ⟨rfl,rfl,rfl,rfl⟩)) (AR (Bf (JL (CY e0 (pv 0)) (pv 2) ⟨rfl,rfl,rfl,rfl⟩)) (AR (Bf (Ca b9 hr.mn rfl mTu FTu.kp bTu .nil BH (AB (pv 0) (AB (pv 4) (AB (pv 2) (AB (EL EK AV) AI)))))) (AU (As (pv 6))))))))))))),?_⟩;obtain⟨an,at_,tx,nk⟩:=a3;have sm:=nk.same;have t2:∀{p r:Str},p≠r->V.str p≠V.str r:=fun h z=>h (V.str.inj z)
  cases x with
  |write nm t=>
   obtain⟨d,xs,rfl,e5,rs⟩:=By rd;obtain⟨u,v,x,rfl,r1,r2,r3⟩:=EO rs;cases Bi r1;cases Bi r2;cases Bi r3;have hd:=sm _ _ e5;refine⟨_,rfl,d,_,_,.str nm,rfl,rfl,AS.of hd,rfl,?_⟩;refine Qh rfl hd ?_;refine⟨_,rfl,_,rfl,a,_,rfl,E2 nk.ha,an,_,rfl,EI nk.hn nm,_,rfl,?_⟩;rcases e:AH n.names nm with _|no;refine Bk ?_;refine⟨_,rfl,_,rfl,a,nm,H0,n,rfl,⟨an,at_,tx,nk⟩,s4,tl,Vz bd.b,fun H1 e4=>?_⟩;have g1:AH (n.added nm).names nm=some n.made:=by show AH (AW n.names nm n.made) nm=_;rw[Cw,AG rfl]
   have e1:n.wrote nm t=(n.added nm).Cg n.made (GF (n.added nm).names t):=by unfold Nk.wrote;rw[e]
   have K4:(n.added nm).texts.length<=1000:=by
    show((AW n.texts n.made []).map _).length<=1000;rw[AJ];have:=Gu n.texts n.made []
    lia
   rotate_left
   refine BK ?_;have g1:=e;have e1:n.wrote nm t=n.Cg no (GF n.names t):=by unfold Nk.wrote;rw[e]
   have e4:Cy H0 H a n:=⟨an,at_,tx,nk⟩;have K4:n.texts.length<=1000:=by lia
   all_goals
    obtain⟨q2,e7,h4,k1⟩:=e4;have q0:=k1.same _ _ e5;refine⟨_,rfl,_,rfl,d,_,_,.str t,rfl,rfl,AS.of q0,rfl,a,t,H0,_,rfl,⟨q2,e7,h4,k1⟩,gd.2,fun L ws H2 s2 hL q8 pw=>?_⟩;have k2:=k1.ext s2;have a4:(CN h4).length<sizeLine:=by
     show(h4.map _).length<_;rw[AJ,k1.len,A8]
     lia
    have e6:=EI k2.hn nm;rw[g1] at e6;have dp:=fun no=>DW.kq (k:=.inl no) (v:=.ref L) k2.ht a4;have e2:=fun no=>(JG (g:=fun p:OK×List OK=>V.ref p.1) E5 no (L,ws) h4:putK (CN h4) (.inl no) (.ref L)=CN (AW h4 no (L,ws)));simp only[e2] at dp;refine⟨_,rfl,_,rfl,a,_,rfl,Gk k2.ha,_,rfl,a,_,rfl,E2 k2.ha,_,rfl,q2,_,rfl,e6,e7,_,rfl,dp _,?_⟩;have k3:=fun no=>k2.N1 no (l:=L) (ws:=ws) (CQ:=_) q8 pw.len pw.at_ (fun w hw=>k1.same.free (pw.new w hw));have b6:∀no,(upd H2 e7 (.dK (CN (AW h4 no (L,ws))))) L=some (.lst (ws.map V.ref)):=fun no=>by rw[AN (CH q8 k2.ht (by intro z;cases z))];exact q8
    refine⟨_,rfl,L,_,rfl,.inl (AL.of (b6 _)),?_⟩;have q1:=q _ (by show Cy H0 _ a (n.wrote nm t);rw[e1];exact⟨q2,e7,_,k3 _⟩);have ec:chg n (.write nm t)=((ws.map V.ref).length:Nat):=by show((GF (n.wrote nm t).names t).length:Int)=_;rw[e1,AJ,pw.len];rfl
    rw[ec] at q1;exact q1
  |rename nm o=>
   obtain⟨d,xs,rfl,e5,rs⟩:=By rd;obtain⟨u,v,x,rfl,r1,r2,r3⟩:=EO rs;cases Bi r1;cases Bi r2;cases Bi r3;have hd:=sm _ _ e5;obtain⟨no,e⟩:=PJ br (.inl ⟨o,rfl⟩);have e9:A1 n nm=no:=by unfold A1;rw[e];rfl
   have e6:=EI nk.hn nm;rw[e] at e6;refine⟨_,rfl,d,_,_,.str nm,rfl,rfl,AS.of hd,rfl,?_⟩;refine IC rfl hd (by left) ?_;refine⟨_,rfl,a,_,rfl,E2 nk.ha,_,rfl,an,_,rfl,e6,?_⟩;refine Qh rfl hd ?_;have v1:BP (GZ n.names) (.inr nm)=some (.int no):=by rw[Ec Ef,e];rfl
   refine⟨_,rfl,a,_,rfl,E2 nk.ha,an,rfl,.inl ⟨_,.inl nk.hn⟩,_,rfl,_,.inr nm,_,nk.hn,rfl,v1,?_⟩;rw[KI Ef];have e4:=nk.putN (AQ n.names nm);generalize upd H an (.dK (GZ (AQ n.names nm)))=H1 at e4;have q0:=e4.same _ _ e5;have a1:(AQ n.names nm).length<1000:=VH (EY _ _) nl;refine⟨_,rfl,_,rfl,d,_,_,.str o,rfl,rfl,AS.of q0,rfl,_,rfl,a,o,no,H0,_,rfl,⟨an,at_,tx,e4⟩,s4.Tj nm,fun H2 s0=>?_⟩;refine⟨_,rfl,_,rfl,a,no,H0,_,rfl,s0,(s4.Tj nm).named o no a1,fun H3 s3=>?_⟩;have q1:=q H3 (by show Cy H0 H3 a (n.renamed nm o (A1 n nm));rw[e9];exact s0.ext s3);have ec:chg n (.rename nm o)=((n.renamed nm o no).led no:Nat):=by show((n.renamed nm o (A1 n nm)).led (A1 n nm):Int)=_;rw[e9]
   rw[ec] at q1;exact q1
  |join nm o=>
   obtain⟨d,xs,rfl,e5,rs⟩:=By rd;obtain⟨u,v,x,rfl,r1,r2,r3⟩:=EO rs;cases Bi r1;cases Bi r2;cases Bi r3;have hd:=sm _ _ e5;obtain⟨no,e⟩:=PJ br (.inr (.inl ⟨o,rfl⟩));have h9:(if AH n.names nm=none then("no page" :Str) else if AH n.names o=none then "no page" else if nm=o then "same page" else "")="" :=br;rw[e,AF (by simp)] at h9
   cases e2:AH n.names o with
   |none=>rw[e2,AG rfl] at h9;exact absurd h9 (by left)
   |some r5=>
   rw[e2,AF (by simp)] at h9;have a8:nm≠o:=fun z=>by rw[AG z] at h9;exact absurd h9 (by left)
   have e9:A1 n nm=no:=by unfold A1;rw[e];rfl
   have r0:A1 n o=r5:=by unfold A1;rw[e2];rfl
   obtain⟨w1,h1,_⟩:=bd.b.text e;obtain⟨w2,h2,_⟩:=bd.b.text e2;have t0:CF n no=w1:=by unfold CF;rw[h1];rfl
   have q9:CF n r5=w2:=by unfold CF;rw[h2];rfl
   have nn:no≠r5:=fun z=>a8 ((bd.b.same e2 e).mp z);have t4:=jl nm o rfl;rw[e9,r0,t0,q9] at t4;have e6:=EI nk.hn nm;rw[e] at e6;refine⟨_,rfl,d,_,_,.str nm,rfl,rfl,AS.of hd,rfl,?_⟩;refine IC rfl hd (by left) ?_;refine⟨_,rfl,a,_,rfl,E2 nk.ha,_,rfl,an,_,rfl,e6,?_⟩;refine IC rfl hd (by left) ?_;refine Qh rfl hd ?_;refine⟨_,rfl,_,rfl,_,rfl,d,_,_,.str o,rfl,rfl,AS.of hd,rfl,a,no,o,H0,n,r5,w1,w2,rfl,⟨an,at_,tx,nk⟩,s4,e2,h1,h2,nn,t4,fun H2 s0=>?_⟩;have es:P8 n (.join nm o)=n.joined no o r5 w1 w2:=by show n.joined (A1 n nm) o (A1 n o) (CF n (A1 n nm)) (CF n (A1 n o))=_;rw[e9,r0,t0,q9]
   have q1:=q H2 (by rw[es];exact s0);have ec:chg n (.join nm o)=((n.joined no o r5 w1 w2).led no:Nat):=by show((n.joined (A1 n nm) o (A1 n o) (CF n (A1 n nm)) (CF n (A1 n o))).led (A1 n nm):Int)=_;rw[e9,r0,t0,q9]
   rw[ec] at q1;exact q1
  |cut nm p o=>
   obtain⟨d,xs,rfl,e5,rs⟩:=By rd;obtain⟨u,v,x,y,rfl,r1,r2,r3,r4⟩:=P4 rs;cases Bi r1;cases Bi r2;cases r3;cases Bi r4;have hd:=sm _ _ e5;obtain⟨no,e⟩:=PJ br (.inr (.inr (.inl ⟨p,o,rfl⟩)));have e9:A1 n nm=no:=by unfold A1;rw[e];rfl
   obtain⟨w0,h0,_⟩:=bd.b.text e;have h9:(if DI o=false then("no name" :Str) else if AH n.names o=none then(if p<0 then "no place" else if((w0.length:Nat):Int)<p then "no place" else "") else "taken")="" :=by have:=br;simp only[BU,e,h0] at this;exact this
   have a7:¬DI o=false:=fun z=>by rw[AG z] at h9;exact absurd h9 (by left)
   rw[AF a7] at h9;have ho:AH n.names o=none:=by
    cases eo:AH n.names o with
    |none=>rfl
    |some z=>rw[eo,AF (by simp)] at h9;exact absurd h9 (by left)
   rw[AG ho] at h9;have p0:¬p<0:=fun z=>by rw[AG z] at h9;exact absurd h9 (by left)
   rw[AF p0] at h9;have p1:¬((w0.length:Nat):Int)<p:=fun z=>by rw[AG z] at h9;exact absurd h9 (by left)
   have e6:=EI nk.hn nm;rw[e] at e6;refine⟨_,rfl,d,_,_,.str nm,rfl,rfl,AS.of hd,rfl,?_⟩;refine IC rfl hd (by left) ?_;refine⟨_,rfl,a,_,rfl,E2 nk.ha,_,rfl,an,_,rfl,e6,?_⟩;refine IC rfl hd (by left) ?_;refine IC rfl hd (by left) ?_;refine Qh rfl hd ?_;refine⟨_,rfl,_,rfl,d,_,_,.str o,rfl,rfl,AS.of hd,rfl,a,o,H0,n,rfl,⟨an,at_,tx,nk⟩,s4,tl,Vz bd.b,fun H1 e4=>?_⟩;obtain⟨q2,e7,h4,k1⟩:=e4;have q0:=k1.same _ _ e5;have b7:=bd.b.added bd.h0 ho;have a0:no≠n.made:=by have:=(bd.b.Fs (Bc e)).2;lia
   have hw:AH (n.added o).texts no=some (w0.map (CL o n.made)):=by rw[PD,AF a0,h0];rfl
   have q3:(w0.map (CL o n.made)).length=w0.length:=AJ .. ;generalize w0.map (CL o n.made)=ws at hw q3;obtain⟨l1,h3,g1,q7,EV,t1,r6⟩:=k1.find b7.Ce hw;have d1:BW H1 e7 (.int no) (some (.ref l1)):=by have:=BW.kq (k:=.inl no) k1.ht;rw[Ec E5,g1] at this;exact this
   have c0:0<=p:=by lia
   have c1:p<=(h3.map V.ref).length:=by rw[AJ];lia
   have zl:h3.length<=100000:=by
    have:=s4.words _ (Bc h0);dsimp only at this
    lia
   have K4:h4.length<=1000:=by
    have h1:=k1.len;have h2:(n.added o).texts.length<=n.texts.length+1:=by show((AW n.texts n.made []).map _).length<=_;rw[AJ];exact Gu ..
    lia
   refine⟨_,rfl,a,_,rfl,Gk k1.ha,_,rfl,e7,_,rfl,d1,?_⟩;refine⟨_,rfl,_,rfl,d,_,_,.int p,rfl,rfl,AS.of q0,rfl,_,rfl,l1,_,rfl,AL.of q7,fun l3 b3=>?_⟩;rw[W6 c0 c1,<-Mm];have s3:=Af (o:=.lst ((h3.drop p.toNat).map V.ref)) b3;have k2:=k1.ext s3;have r8:(upd H1 l3 (.lst ((h3.drop p.toNat).map V.ref))) l3=some (.lst ((h3.drop p.toNat).map V.ref)):=AM;have r9:=s3 _ _ q7;have at2:=fun j w wd (e1:h3[j]? =some w)(e2:ws[j]? =some wd)=>s3 _ _ (t1 j w wd e1 e2);generalize upd H1 l3 (.lst ((h3.drop p.toNat).map V.ref))=H2 at k2 r8 r9 at2;have dp:=DW.kq (k:=.inl n.made) (v:=.ref l3) k2.ht (by show(h4.map _).length<_;rw[AJ,A8];lia);have e3:putK (CN h4) (.inl n.made) (.ref l3)=CN (AW h4 n.made (l3,h3.drop p.toNat)):=JG (g:=fun p:OK×List OK=>V.ref p.1) E5 n.made (l3,h3.drop p.toNat) h4;rw[e3] at dp;refine⟨_,rfl,a,_,rfl,Gk k2.ha,_,rfl,e7,_,rfl,dp,?_⟩;have k3:=k2.N1 n.made (l:=l3) (ws:=h3.drop p.toNat) (CQ:=ws.drop p.toNat) r8 (by rw[Dr,Dr,EV]) (fun j w wd f1 f2=>by
    rw[Jx] at f1 f2;exact at2 _ w wd f1 f2) (fun w q5=>r6 w (Jv q5));have keep:∀b xs,H2 b=some (.lst xs)->(upd H2 e7 (.dK (CN (AW h4 n.made (l3,h3.drop p.toNat))))) b=some (.lst xs):=fun b xs f=>by
    rw[AN (CH f k2.ht (by intro z;cases z))];exact f
   have s9:=keep _ _ r9;have t8:=fun j w wd (e1:h3[j]? =some w)(e2:ws[j]? =some wd)=>keep _ _ (at2 j w wd e1 e2);generalize upd H2 e7 (.dK (CN (AW h4 n.made (l3,h3.drop p.toNat))))=H3 at k3 s9 t8;have t6:=k3.same _ _ e5;refine⟨_,rfl,_,rfl,d,_,_,.int p,rfl,rfl,AS.of t6,rfl,_,rfl,l1,_,rfl,AL.of s9,fun l5 b2=>?_⟩;rw[YZ c0 c1,<-LD];have s5:=Af (o:=.lst ((h3.take p.toNat).map V.ref)) b2;have h5:(upd H3 l5 (.lst ((h3.take p.toNat).map V.ref))) l5=some (.lst ((h3.take p.toNat).map V.ref)):=AM;generalize upd H3 l5 (.lst ((h3.take p.toNat).map V.ref))=H5 at s5 h5;refine⟨_,rfl,d,_,_,.str o,rfl,rfl,AS.of (s5 _ _ t6),rfl,_,rfl,by exact z_0,fun wq t5=>⟨by exact zw,fun l6 b1=>?_⟩⟩;have s6:=Af (o:=.lst (⟨true,o,n.made⟩:Wd).vq) t5;have h6:(upd H5 wq (.lst (⟨true,o,n.made⟩:Wd).vq)) wq=some (.lst (⟨true,o,n.made⟩:Wd).vq):=AM;have a6:H0 wq=none:=k3.same.free (s5.free t5);have q6:(upd H5 wq (.lst (⟨true,o,n.made⟩:Wd).vq)) l6=none:=b1;show∃_,_;have s7:=Af (o:=.lst [V.ref wq]) q6;have h7:(upd (upd H5 wq (.lst (⟨true,o,n.made⟩:Wd).vq)) l6 (.lst [V.ref wq])) l6=some (.lst [V.ref wq]):=AM;refine⟨l5,l6,(h3.take p.toNat).map V.ref,[V.ref wq],rfl,rfl,(s6.trans s7) _ _ h5,h7,by rw[AJ,Be,A8,Cm];lia,fun l8 b0=>?_⟩;have s8:=Af (o:=.lst ((h3.take p.toNat).map V.ref++[V.ref wq])) b0;have q4:=s5.trans (s6.trans (s7.trans s8));have k8:=k3.ext q4;have h8:(upd (upd (upd H5 wq (.lst (⟨true,o,n.made⟩:Wd).vq)) l6 (.lst [V.ref wq])) l8 (.lst ((h3.take p.toNat).map V.ref++[V.ref wq]))) l8=some (.lst ((h3.take p.toNat).map V.ref++[V.ref wq])):=AM;have a5:=(s7.trans s8) _ _ h6;have b8:=fun j w wd (e1:h3[j]? =some w)(e2:ws[j]? =some wd)=>q4 _ _ (t8 j w wd e1 e2);have r7:=q4 _ _ s9;have t7:=DW.kq (k:=.inl no) (v:=.ref l8) k8.ht (by
    show((AW h4 n.made (l3,h3.drop p.toNat)).map _).length<_;rw[AJ,A8];have:=Gu h4 n.made (l3,h3.drop p.toNat)
    lia);have e8:putK (CN (AW h4 n.made (l3,h3.drop p.toNat))) (.inl no) (.ref l8)=CN (AW (AW h4 n.made (l3,h3.drop p.toNat)) no (l8,h3.take p.toNat++[wq])):=JG (g:=fun p:OK×List OK=>V.ref p.1) E5 no (l8,h3.take p.toNat++[wq]) _;rw[e8] at t7;refine⟨_,rfl,a,_,rfl,Gk k8.ha,_,rfl,e7,_,rfl,t7,?_⟩;have k9:=k8.N1 no (l:=l8) (ws:=h3.take p.toNat++[wq]) (CQ:=ws.take p.toNat++[⟨true,o,n.made⟩]) (by rw[BF];exact h8) (by rw[An,An,Be,Be,EV];rfl) (fun j w wd f1 f2=>by
    by_cases hj:j<(h3.take p.toNat).length
    ·rw[C2 hj] at f1;rw[C2 (by rw[Be] at hj⊢;lia)] at f2;rw[RA] at f1 f2;split at f1
     ·rename_i hjp;rw[AG hjp] at f2;exact b8 j w wd f1 f2
     ·cases f1
    ·have b4:j<(h3.take p.toNat++[wq]).length:=(BY.mp f1).1;rw[An,Cm] at b4;obtain rfl:j=(h3.take p.toNat).length:=by lia
     have el:(h3.take p.toNat).length=(ws.take p.toNat).length:=by rw[Be,Be,EV]
     rw[Cj (Ae _),E1] at f1;rw[Cj (by lia),el,E1] at f2;cases Ag f1;cases Ag f2;exact a5) (fun w q5=>(BS.mp q5).elim (fun z=>r6 w (FX z)) fun z=>by rw[BR.mp z];exact a6);have b5:=k9.same _ _ e5;have a9:(upd (upd (upd (upd H5 wq (.lst (⟨true,o,n.made⟩:Wd).vq)) l6 (.lst [V.ref wq])) l8 (.lst ((h3.take p.toNat).map V.ref++[V.ref wq]))) e7 (.dK (CN (AW (AW h4 n.made (l3,h3.drop p.toNat)) no (l8,h3.take p.toNat++[wq]))))) l1=some (.lst (h3.map V.ref)):=by
    rw[AN (CH r7 k8.ht (by intro z;cases z))];exact r7
   refine⟨_,rfl,l1,_,rfl,.inl (AL.of a9),_,rfl,d,_,_,.int p,rfl,rfl,AS.of b5,rfl,_,_,rfl,rfl,?_⟩;have ew:CF (n.added o) no=ws:=by unfold CF;rw[hw];rfl
   have es:P8 n (.cut nm p o)=((n.added o).Cg n.made (ws.drop p.toNat)).Cg no (ws.take p.toNat++[⟨true,o,n.made⟩]):=by show n.Hw (A1 n nm) p.toNat o=_;rw[e9];unfold Nk.Hw;rw[hw];rfl
   have q1:=q _ (by rw[es];exact⟨q2,e7,_,k9⟩);have ec:chg n (.cut nm p o)=(((h3.map V.ref).length:Nat):Int)-p:=by show((CF (n.added o) (A1 n nm)).length:Int)-p=_;rw[e9,ew,AJ,EV]
   rw[ec] at q1;exact q1
  |drop nm=>
   obtain⟨d,xs,rfl,e5,rs⟩:=By rd;obtain⟨u,v,rfl,r1,r2⟩:=Hl rs;cases Bi r1;cases Bi r2;have hd:=sm _ _ e5;obtain⟨no,e⟩:=PJ br (.inr (.inr (.inr rfl)));have e9:A1 n nm=no:=by unfold A1;rw[e];rfl
   have e6:=EI nk.hn nm;rw[e] at e6;obtain⟨w1,h1,_⟩:=bd.b.text e;refine⟨_,rfl,d,_,_,.str nm,rfl,rfl,AS.of hd,rfl,?_⟩;refine IC rfl hd (by left) ?_;refine⟨_,rfl,a,_,rfl,E2 nk.ha,_,rfl,an,_,rfl,e6,?_⟩;refine IC rfl hd (by left) ?_;refine IC rfl hd (by left) ?_;refine IC rfl hd (by left) ?_;refine⟨_,rfl,_,rfl,a,no,H0,n,rfl,⟨an,at_,tx,nk⟩,s4,fun H1 s1=>?_⟩;have e4:=nk.ext s1;obtain⟨l1,h3,g1,q7,_⟩:=e4.find s4.Ce h1;have v2:BP (CN tx) (.inl no)=some (.ref l1):=by rw[Ec E5,g1];rfl
   refine⟨_,rfl,a,_,rfl,Gk e4.ha,at_,rfl,.inl ⟨_,.inl e4.ht⟩,_,rfl,_,.inl no,_,e4.ht,rfl,v2,?_⟩;rw[KI E5];have s0:=e4.P2 no;generalize upd H1 at_ (.dK (CN (AQ tx no)))=H2 at s0;have v1:BP (GZ n.names) (.inr nm)=some (.int no):=by rw[Ec Ef,e];rfl
   refine⟨_,rfl,a,_,rfl,E2 s0.ha,an,rfl,.inl ⟨_,.inl s0.hn⟩,_,rfl,_,.inr nm,_,s0.hn,rfl,v1,?_⟩;rw[KI Ef];have t3:=s0.putN (AQ n.names nm);generalize upd H2 an (.dK (GZ (AQ n.names nm)))=H3 at t3;refine⟨_,rfl,_,rfl,_,rfl,_,rfl,a,no,nm,-1,H0,_,rfl,⟨an,at_,_,t3⟩,(s4.P2 no).Tj nm,fun H4 a2=>⟨_,rfl,?_⟩⟩;have q1:=q H4 (by show Cy H0 H4 a (n.dropped nm (A1 n nm));rw[e9];exact a2);have ec:chg n (.drop nm)=(n.led no:Nat):=by show(n.led (A1 n nm):Int)=_;rw[e9]
   rw[ec] at q1;exact q1
  |text nm=>cases na
  |back nm=>cases na
  |find ws c3=>cases na
def HH:Du X (.builtin "isinstance") (fun xs H Q=>∃x c t b,xs=[x,.ty c]/\(∀K:tW,Bl K H x t)/\(∀K:tW,sF K t (.type c)=some b)/\Q (.bl b) H):=
 fun _ _ _ _ _ _ _ I r ⟨x,c,t,b,e,y,k,z⟩=>fu _ _ _ _ _ _ _ I r ⟨x,c,t,b,e,y _,k _,z⟩
def nY:Du X (.builtin "isinstance") (fun xs H Q=>∃(x:V)(p:OK)(cs:List String)(t:AD)(b:Bool),xs=[x,.ref p]/\H p=some (.tup (cs.map V.ty))/\(∀K:tW,Bl K H x t)/\(∀K:tW,kitAny K t (cs.map Value.type)=some b)/\Q (.bl b) H):=
 fun _ _ _ _ _ _ _ I r ⟨x,p,cs,t,b,e,h,y,k,z⟩=>fQ _ _ _ _ _ _ _ I r ⟨x,p,cs,t,b,e,h,y _,k _,z⟩
def Zx:HK X (qD []):=Cr.or (QU.or Pw)
section
variable{o:hX}{to:TE}{id:String}
def pC(pa:sP T)(slot:Slot T name id)(hty:typeOf (.builtin id)=pure (.type "method_descriptor"))(hm:N9 X id r)(ho:PE X o to)
 (hbase:qo o name X.env (qh o X.env)=qh o X.env:=by rfl)(hline:(apos.endLine==cpos.line)=true:=by rfl):PE X (.Call (.Attribute o name apos) [] [] cpos) (Z3 [] T r to):=
 fun h0 s σ H Q I h=>NZ pa slot hty hm ho.mc hbase hline h0 s σ H Q I ⟨_,h,fun _ _ ⟨y,z⟩=>⟨aI y,z⟩⟩
def pd(hu:X.A.units<qr):Br X (qg .NotEq) (fun x y H Q=>∃a b xs,x=.ref a/\y=.ref b/\AL [] H a xs/\AL [] H b []/\Q (.bl (!xs.isEmpty)) H):=
 fun _ _ _ _ _ _ _ _ _ I r r' ⟨p,b,xs,e,e',q,q',z⟩=>df hu _ _ _ _ _ _ _ _ _ I r r' ⟨p,b,xs,e,e',Fm q,Fm q',z⟩
end
abbrev Uh:g0:=Yc
abbrev Z2:g0:=bT
def aD:Sp:=fun vs H Q _=>∃(x y:V)(d:Dt),vs=[x,y]/\Rep H d x/\Rep H d y/\d.sz<=1000000/\∀H',AO H H'->Q (.bl true) H'
def Zt:Sp:=fun vs H Q _=>∃i:Int,vs=[.int i]/\Q (.bl true) H
def p8:A9 ["_law_found"] ["_law_found"] (Aq Uh):=by left
def mw(F:Ak K "_law_whole" "_law_whole" Uh f fd)(O:Own mg):AY P w K mg base Aj 1 f fd ["_law_found"] Zt:=by
 refine F.ok p8 ?_ ?_
 ·rintro _ _ _ _ ⟨_,rfl,_⟩;rfl
 ·rintro _ A _ s H _ Q E hr ⟨i,rfl,k⟩;refine⟨_,AU (As (Pu (BZ HH rfl O.GX GG (AB (pv 0) (AB (Fg (v:=.ty "int") rfl O.int Lc rfl) AI)))
   (Pt (kb (BZ HH rfl O.GX GG (AB (pv 0) (AB (Fg (v:=.ty "bool") rfl O.bl Sh rfl) AI))))))),?_⟩;exact⟨_,rfl,_,_,_,_,rfl,(fun _=>Bl.int i),(fun _=>Hf _),_,rfl,Bk ⟨_,rfl,_,_,_,_,rfl,(fun _=>Bl.int i),(fun _=>ZX),_,rfl,k⟩⟩
def QL:A9 ["_law_found","_law_due","_law_todo","_law_pair","_law_k"] ["_law_found","_law_due"] (Aq Z2):=by left
theorem my{fW:OK}{fdW:qk}(F:Ak K "_law_alike" "_law_alike" Z2 f fd)(O:Own mg)(FW:Ak K "_law_whole" "_law_whole" Uh fW fdW)(bW:Binds K fdW ["_law_found"] [])(mW:mg "_law_whole" =some (.ref fW)):
 AY P w K mg base Aj 2 f fd ["_law_found","_law_due"] aD:=by
 have GW:AY P w K mg base Aj 1 fW fdW ["_law_found"] Zt:=mw FW O;refine F.ok QL ?_ ?_
 ·rintro _ _ _ _ ⟨_,_,_,rfl,_⟩;rfl
 ·rintro _ A _ s H _ Q E hr ⟨x0,y0,d0,rfl,rx0,r9,q9,k⟩;have hu:=hr.TC;refine⟨_,AR (Av (i:=2) QL.nd rfl (Aa rfl) (CO (AB (Bs (AB (pv 0) (AB (pv 1) AI))) AI)))
   (AR (iZ DX (Ar (pd hu) (pv 2) (CO AI) (Am _))
    (AR (Av (i:=3) QL.nd rfl (Aa rfl) (pC DE PySem.F.slot_list_pop PySem.F.type_list_pop mF (pv 2)))
    (AU (A0 (Eg (BZ nY rfl O.GX GG (AB (A3 (pv 3)) (AB (Bs (AB (Fg (v:=.ty "list") rfl O.lst IY rfl) (AB (Fg (v:=.ty "tuple") rfl O.tup SG rfl) AI))) AI))))
     (AR (A0 (Ar GH (BZ HH rfl O.GX GG (AB (A3 (pv 3)) (AB (Fg (v:=.ty "list") rfl O.lst IY rfl) AI))) (BZ HH rfl O.GX GG (AB (A3 (pv 3)) (AB (Fg (v:=.ty "list") rfl O.lst IY rfl) AI))) (Am _)) (AU (As Ih)) BE)
     (AR (A0 (Ar GH (BZ HH rfl O.GX GG (AB (A3 (pv 3)) (AB (Fg (v:=.ty "tuple") rfl O.tup SG rfl) AI))) (BZ HH rfl O.GX GG (AB (A3 (pv 3)) (AB (Fg (v:=.ty "tuple") rfl O.tup SG rfl) AI))) (Am _)) (AU (As Ih)) BE)
     (AR (A0 (Ar GH (BZ EM rfl O.len Cu (AB (A3 (pv 3)) AI)) (BZ EM rfl O.len Cu (AB (A3 (pv 3)) AI)) (Am _)) (AU (As Ih)) BE)
     (AU (DZ DX rfl (M5 rfl O.IK (AB (BZ EM rfl O.len Cu (AB (A3 (pv 3)) AI)) AI)) (Bg (i:=4) QL.nd rfl (Aa rfl))
      (AU (Bf (Dh DE Dq Dm DN (pv 2) (AB (Bs (AB (Bz Zx (A3 (pv 3)) (pv 4) (fun _ _=>rfl)) (AB (Bz Zx (A3 (pv 3)) (pv 4) (fun _ _=>rfl)) AI))) AI)))))))))
     (AU (A0 (Eg (BZ HH rfl O.GX GG (AB (A3 (pv 3)) (AB (Fg (v:=.ty "str") rfl O.str YO rfl) AI))))
      (AU (A0 (PW.pt (Ie (JV (Eg (BZ HH rfl O.GX GG (AB (A3 (pv 3)) (AB (Fg (v:=.ty "str") rfl O.str YO rfl) AI))))) (Ib (Ar GH (A3 (pv 3)) (A3 (pv 3)) (Am _))))) (AU (As Ih)) BE))
      (AU (A0 (Eg (BZ HH rfl O.GX GG (AB (A3 (pv 3)) (AB (Fg (v:=.ty "bool") rfl O.bl Sh rfl) AI))))
       (AU (A0 (PW.pt (Ie (JV (Eg (BZ HH rfl O.GX GG (AB (A3 (pv 3)) (AB (Fg (v:=.ty "bool") rfl O.bl Sh rfl) AI))))) (Ib (Ar GH (A3 (pv 3)) (A3 (pv 3)) (Am _))))) (AU (As Ih)) BE))
       (AU (A0 (PW.pt (Ie (JV (Eg (Ca GW hr rfl mW FW.kp bW .nil BH (AB (A3 (pv 3)) AI)))) (Ib (Ar GH (A3 (pv 3)) (A3 (pv 3)) (Am _))))) (AU (As Ih)) BE))))))))))
   (AU (As Ih))),?_⟩;refine⟨_,rfl,_,rfl,by exact zv,fun p0 r2=>⟨by exact zw,fun t ht=>?_⟩⟩;have s8:p0≠t:=A7 AM ht;have s0:H t=none:=(Af r2).free ht;refine⟨fun m σ H'=>∃(ps:List OK)(ds:List Dt)(v3 v4:Option V),σ=[some x0,some y0,some (.ref t),v3,v4]/\H' t=some (.lst (ps.map V.ref))/\AO H H'/\m=Dt.CW ds/\m<=1000000/\EF H H' ds ps,
   ⟨Dt.CW [d0],[p0],[d0],none,none,rfl,AM,((AO.refl H).upd r2).upd s0,rfl,by simp only[Dt.CW];lia,?_⟩,?_⟩
  ·refine EF.snoc (ds:=[]) (ps:=[]) (x:=x0) (y:=y0) ⟨rfl,fun i d p e=>by simp at e⟩ ?_ rx0 r9;rw[AN s8,AM]
  rintro m σ H' ⟨ps,ds,v3,v4,rfl,hT,sm,rfl,hm,st⟩;refine⟨_,rfl,by exact zy,fun q hq=>⟨t,q,_,rfl,rfl,AL.of (by rw[AN (A7 hT hq)];exact hT),AL.of AM,_,rfl,?_⟩⟩;have s1:AO H' (upd H' q (.lst [])):=Af hq;rcases List.eq_nil_or_concat ps with e|⟨h0,p,e⟩
  ·subst e;refine BK ?_;exact k _ (sm.trans s1)
  rw[List.concat_eq_append] at e;subst e;obtain⟨h6,d,x,y,rfl,r8,hp,rx,ry⟩:=st.lJ;have q7:t≠q:=A7 hT hq;have q8:p≠t:=CH hp hT (by intro z;cases z);have em:((h0++[p]).map V.ref)=h0.map V.ref++[V.ref p]:=by rw[BF];rfl
  have q4:(!((h0++[p]).map V.ref).isEmpty)=true:=by rw[em];simp
  rw[q4];refine Bk ⟨fun σ' H2=>∃(ps:List OK)(ds:List Dt)(v3 v4:Option V),σ'=[some x0,some y0,some (.ref t),v3,v4]/\H2 t=some (.lst (ps.map V.ref))/\AO H H2/\Dt.CW ds<Dt.CW (h6++[d])/\EF H H2 ds ps,
   fun σ' H2 ⟨q0,r6,a3,a4,e1,e2,e3,e4,e5⟩=>⟨Dt.CW r6,e4,q0,r6,a3,a4,e1,e2,e3,rfl,by lia,e5⟩,?_⟩;have r3:(upd H' q (.lst [])) t=some (.lst (h0.map V.ref++[V.ref p])):=by rw[AN q7,hT,em]
  refine⟨_,rfl,.inl ⟨rfl,_,AL.of r3⟩,t,_,.ref p,rfl,rfl,r3,by simp,?_⟩;have r5:Dt.CW (h6++[d])=Dt.CW h6+d.sz:=by rw[Dt.PZ];simp only[Dt.CW];lia
  have q6:(h0.map V.ref++[V.ref p]).dropLast=h0.map V.ref:=by simp
  rw[q6];generalize s9:upd (upd H' q (.lst [])) t (.lst (h0.map V.ref))=H2;have s2:AO H H2:=by rw[<-s9];exact(sm.trans s1).upd s0
  have t2:H2 t=some (.lst (h0.map V.ref)):=by rw[<-s9];exact AM
  have r1:∀b xs,H' b=some (.tup xs)->H2 b=some (.tup xs):=fun b xs e=>by rw[<-s9,AN (CH e hT (by intro z;cases z)),AN (A7 e hq)];exact e
  have p2:H2 p=some (.tup [x,y]):=r1 _ _ hp;have r7:EF H H2 h6 h0:=r8.same r1;refine⟨_,rfl,p,_,1,y,rfl,rfl,AS.of p2,rfl,by exact zv,fun tq q1=>?_⟩;generalize r4:upd H2 tq (.tup [V.ty "list",V.ty "tuple"])=H3;have e9:AO H2 H3:=by rw[<-r4];exact Af q1
  have s3:AO H H3:=s2.trans e9;have t3:H3 t=some (.lst (h0.map V.ref)):=e9 _ _ t2;have p3:H3 p=some (.tup [x,y]):=e9 _ _ p2;have q3:H3 tq=some (.tup [V.ty "list",V.ty "tuple"]):=by rw[<-r4];exact AM
  have s5:EF H H3 h6 h0:=r7.same fun b xs e=>e9 _ _ e;have r0:∃(ps:List OK)(ds:List Dt)(a3 a4:Option V),([some x0,some y0,some (V.ref t),some (V.ref p),v4]:St)=[some x0,some y0,some (.ref t),a3,a4]/\H3 t=some (.lst (ps.map V.ref))/\AO H H3/\Dt.CW ds<Dt.CW (h6++[d])/\EF H H3 ds ps:=by have:=d.Y0;exact⟨h0,h6,_,_,rfl,t3,s3,by lia,s5⟩
  cases d with
  |lst h5=>
   cases rx with
   |@lst _ a xs hx lx fx=>
   cases ry with
   |@lst _ b ys hy ly fy=>
   have a3:H3 a=some (.lst xs):=s3 _ _ hx;have b3:H3 b=some (.lst ys):=s3 _ _ hy;have s7:(Dt.lst h5).sz=1+Dt.CW h5:=by simp only[Dt.sz]
   have q5:=Dt.KQ h5;refine⟨.ref b,tq,["list","tuple"],.type "list",true,rfl,q3,(fun _=>Bl.lst b3),(fun _=>Ye _ (.inl rfl)),_,rfl,Bk ?_⟩;refine⟨_,rfl,p,_,0,.ref a,rfl,rfl,AS.of p3,rfl,.ref a,"list",.type "list",true,rfl,(fun _=>Bl.lst a3),(fun _=>Hf _),_,rfl,p,_,1,.ref b,rfl,rfl,AS.of p3,rfl,.ref b,"list",.type "list",true,rfl,(fun _=>Bl.lst b3),(fun _=>Hf _),rfl,_,rfl,EN rfl ?_⟩;refine⟨_,rfl,p,_,0,.ref a,rfl,rfl,AS.of p3,rfl,.ref a,"tuple",.type "list",false,rfl,(fun _=>Bl.lst a3),(fun _=>Zd),_,rfl,p,_,1,.ref b,rfl,rfl,AS.of p3,rfl,.ref b,"tuple",.type "list",false,rfl,(fun _=>Bl.lst b3),(fun _=>Zd),rfl,_,rfl,EN rfl ?_⟩;refine⟨_,rfl,p,_,0,.ref a,rfl,rfl,AS.of p3,rfl,a,xs,rfl,.inl (AL.of a3),_,rfl,p,_,1,.ref b,rfl,rfl,AS.of p3,rfl,b,ys,rfl,.inl (AL.of b3),rfl,_,rfl,EN (by rw[<-lx,<-ly]) ?_⟩;refine⟨_,rfl,p,_,1,.ref b,rfl,rfl,AS.of p3,rfl,b,ys,rfl,.inl (AL.of b3),(ys.length:Int),rfl,by lia,by lia,?_⟩;refine KD (lo:=0) (n:=ys.length) (fun i σ' H4=>∃(h4:List OK)(u4:Option V),σ'=[some x0,some y0,some (.ref t),some (.ref p),u4]/\H4 t=some (.lst ((h0++h4).map V.ref))/\AO H H4/\H4 p=some (.tup [.ref a,.ref b])/\EF H H4 (h6++h5.take i) (h0++h4))
    ⟨[],v4,rfl,by rw[Cp];exact t3,s3,p3,by rw[LA,Cp,Cp];exact s5⟩ ?_ ?_
   ·rintro i σ' H4 hi ⟨h4,u4,rfl,t4,s4,p4,h7⟩;have e8:xs[i]? =some xs[i]:=Ap (by lia);have e7:ys[i]? =some ys[i]:=Ap hi;have e6:h5[i]? =some h5[i]:=Ap (by lia);have q2:(h0++h4).length<=1000000:=by
     have h1:=h7.1;have h2:=Dt.KQ (h6++h5.take i);have h3:=Dt.KQ h6;rw[An,Be] at h1
     lia
    have e0:(0:Int)+(i:Nat)=(i:Nat):=Int.zero_add _;refine⟨_,rfl,.inl ⟨rfl,_,AL.of t4⟩,_,rfl,p,_,0,.ref a,rfl,rfl,AS.of p4,rfl,_,rfl,.inl ⟨a,xs,_,xs[i],rfl,rfl,AL.of (s4 _ _ hx),by rw[e0];exact Bh e8,_,rfl,p,_,1,.ref b,rfl,rfl,AS.of p4,rfl,_,rfl,
     .inl ⟨b,ys,_,ys[i],rfl,rfl,AL.of (s4 _ _ hy),by rw[e0];exact Bh e7,by exact zv,fun np h8=>?_⟩⟩⟩;have Ly:t≠np:=A7 t4 h8;have s6:p≠np:=A7 p4 h8;have h9:p≠t:=CH p4 t4 (by intro z;cases z);refine⟨t,_,.ref np,rfl,rfl,by rw[AN Ly];exact t4,by rw[AJ,A8];lia,h4++[np],_,rfl,?_,(s4.upd (s4.free h8)).upd s0,by rw[AN h9,AN s6];exact p4,?_⟩
    ·rw[AM];simp only[BF,Au,LJ,Bu]
    ·have kk:∀c zs,H4 c=some (.tup zs)->(upd (upd H4 np (.tup [xs[i],ys[i]])) t (.lst ((h0++h4).map V.ref++[V.ref np]))) c=some (.tup zs):=fun c zs e=>by rw[AN (CH e t4 (by intro z;cases z)),AN (A7 e h8)];exact e
     rw[C6,e6,<-Bu,<-Bu];refine(h7.same kk).snoc (x:=xs[i]) (y:=ys[i]) ?_ (fx i _ _ e6 e8) (fy i _ _ e6 e7);rw[AN Ly.symm,AM]
   ·rintro σ' H4 ⟨h4,u4,rfl,t4,s4,p4,h7⟩;rw[<-ly,CT] at h7;refine⟨h0++h4,h6++h5,_,_,rfl,t4,s4,?_,h7⟩;rw[r5,Dt.PZ,s7]
    lia
  |tup h5=>
   cases rx with
   |@tup _ a xs hx lx fx=>
   cases ry with
   |@tup _ b ys hy ly fy=>
   have a3:H3 a=some (.tup xs):=s3 _ _ hx;have b3:H3 b=some (.tup ys):=s3 _ _ hy;have s7:(Dt.tup h5).sz=1+Dt.CW h5:=by simp only[Dt.sz]
   have q5:=Dt.KQ h5;refine⟨.ref b,tq,["list","tuple"],.type "tuple",true,rfl,q3,(fun _=>Bl.tup b3),(fun _=>Ye _ (.inr rfl)),_,rfl,Bk ?_⟩;refine⟨_,rfl,p,_,0,.ref a,rfl,rfl,AS.of p3,rfl,.ref a,"list",.type "tuple",false,rfl,(fun _=>Bl.tup a3),(fun _=>ZY),_,rfl,p,_,1,.ref b,rfl,rfl,AS.of p3,rfl,.ref b,"list",.type "tuple",false,rfl,(fun _=>Bl.tup b3),(fun _=>ZY),rfl,_,rfl,EN rfl ?_⟩;refine⟨_,rfl,p,_,0,.ref a,rfl,rfl,AS.of p3,rfl,.ref a,"tuple",.type "tuple",true,rfl,(fun _=>Bl.tup a3),(fun _=>Hf _),_,rfl,p,_,1,.ref b,rfl,rfl,AS.of p3,rfl,.ref b,"tuple",.type "tuple",true,rfl,(fun _=>Bl.tup b3),(fun _=>Hf _),rfl,_,rfl,EN rfl ?_⟩;refine⟨_,rfl,p,_,0,.ref a,rfl,rfl,AS.of p3,rfl,a,xs,rfl,.inr (AS.of a3),_,rfl,p,_,1,.ref b,rfl,rfl,AS.of p3,rfl,b,ys,rfl,.inr (AS.of b3),rfl,_,rfl,EN (by rw[<-lx,<-ly]) ?_⟩;refine⟨_,rfl,p,_,1,.ref b,rfl,rfl,AS.of p3,rfl,b,ys,rfl,.inr (AS.of b3),(ys.length:Int),rfl,by lia,by lia,?_⟩;refine KD (lo:=0) (n:=ys.length) (fun i σ' H4=>∃(h4:List OK)(u4:Option V),σ'=[some x0,some y0,some (.ref t),some (.ref p),u4]/\H4 t=some (.lst ((h0++h4).map V.ref))/\AO H H4/\H4 p=some (.tup [.ref a,.ref b])/\EF H H4 (h6++h5.take i) (h0++h4))
    ⟨[],v4,rfl,by rw[Cp];exact t3,s3,p3,by rw[LA,Cp,Cp];exact s5⟩ ?_ ?_
   ·rintro i σ' H4 hi ⟨h4,u4,rfl,t4,s4,p4,h7⟩;have e8:xs[i]? =some xs[i]:=Ap (by lia);have e7:ys[i]? =some ys[i]:=Ap hi;have e6:h5[i]? =some h5[i]:=Ap (by lia);have q2:(h0++h4).length<=1000000:=by
     have h1:=h7.1;have h2:=Dt.KQ (h6++h5.take i);have h3:=Dt.KQ h6;rw[An,Be] at h1
     lia
    have e0:(0:Int)+(i:Nat)=(i:Nat):=Int.zero_add _;refine⟨_,rfl,.inl ⟨rfl,_,AL.of t4⟩,_,rfl,p,_,0,.ref a,rfl,rfl,AS.of p4,rfl,_,rfl,.inr (.inl ⟨a,xs,_,xs[i],rfl,rfl,AS.of (s4 _ _ hx),by rw[e0];exact Bh e8,_,rfl,p,_,1,.ref b,rfl,rfl,AS.of p4,rfl,_,rfl,
     .inr (.inl ⟨b,ys,_,ys[i],rfl,rfl,AS.of (s4 _ _ hy),by rw[e0];exact Bh e7,by exact zv,fun np h8=>?_⟩)⟩)⟩;have Ly:t≠np:=A7 t4 h8;have s6:p≠np:=A7 p4 h8;have h9:p≠t:=CH p4 t4 (by intro z;cases z);refine⟨t,_,.ref np,rfl,rfl,by rw[AN Ly];exact t4,by rw[AJ,A8];lia,h4++[np],_,rfl,?_,(s4.upd (s4.free h8)).upd s0,by rw[AN h9,AN s6];exact p4,?_⟩
    ·rw[AM];simp only[BF,Au,LJ,Bu]
    ·have kk:∀c zs,H4 c=some (.tup zs)->(upd (upd H4 np (.tup [xs[i],ys[i]])) t (.lst ((h0++h4).map V.ref++[V.ref np]))) c=some (.tup zs):=fun c zs e=>by rw[AN (CH e t4 (by intro z;cases z)),AN (A7 e h8)];exact e
     rw[C6,e6,<-Bu,<-Bu];refine(h7.same kk).snoc (x:=xs[i]) (y:=ys[i]) ?_ (fx i _ _ e6 e8) (fy i _ _ e6 e7);rw[AN Ly.symm,AM]
   ·rintro σ' H4 ⟨h4,u4,rfl,t4,s4,p4,h7⟩;rw[<-ly,CT] at h7;refine⟨h0++h4,h6++h5,_,_,rfl,t4,s4,?_,h7⟩;rw[r5,Dt.PZ,s7]
    lia
  |str z=>cases rx;cases ry;refine⟨.str z,tq,["list","tuple"],.type "str",false,rfl,q3,(fun _=>Bl.str z),(fun _=>Sy _ (.inl rfl)),_,rfl,BK ?_⟩;refine⟨_,rfl,p,_,1,.str z,rfl,rfl,AS.of p3,rfl,.str z,"str",.type "str",true,rfl,(fun _=>Bl.str z),(fun _=>Hf _),_,rfl,Bk ?_⟩;refine⟨_,rfl,p,_,0,.str z,rfl,rfl,AS.of p3,rfl,.str z,"str",.type "str",true,rfl,(fun _=>Bl.str z),(fun _=>Hf _),_,rfl,BK ⟨_,rfl,p,_,0,.str z,rfl,rfl,AS.of p3,rfl,_,rfl,p,_,1,.str z,rfl,rfl,AS.of p3,rfl,rfl,_,rfl,EN rfl r0⟩⟩
  |bl z=>cases rx;cases ry;refine⟨.bl z,tq,["list","tuple"],.type "bool",false,rfl,q3,(fun _=>Bl.bl z),(fun _=>Sy _ (.inr (.inr rfl))),_,rfl,BK ?_⟩;refine⟨_,rfl,p,_,1,.bl z,rfl,rfl,AS.of p3,rfl,.bl z,"str",.type "bool",false,rfl,(fun _=>Bl.bl z),(fun _=>mh),_,rfl,BK ?_⟩;refine⟨_,rfl,p,_,1,.bl z,rfl,rfl,AS.of p3,rfl,.bl z,"bool",.type "bool",true,rfl,(fun _=>Bl.bl z),(fun _=>Hf _),_,rfl,Bk ?_⟩;refine⟨_,rfl,p,_,0,.bl z,rfl,rfl,AS.of p3,rfl,.bl z,"bool",.type "bool",true,rfl,(fun _=>Bl.bl z),(fun _=>Hf _),_,rfl,BK ⟨_,rfl,p,_,0,.bl z,rfl,rfl,AS.of p3,rfl,_,rfl,p,_,1,.bl z,rfl,rfl,AS.of p3,rfl,rfl,_,rfl,EN rfl r0⟩⟩
  |int z=>cases rx;cases ry;refine⟨.int z,tq,["list","tuple"],.type "int",false,rfl,q3,(fun _=>Bl.int z),(fun _=>Sy _ (.inr (.inl rfl))),_,rfl,BK ?_⟩;refine⟨_,rfl,p,_,1,.int z,rfl,rfl,AS.of p3,rfl,.int z,"str",.type "int",false,rfl,(fun _=>Bl.int z),(fun _=>nj),_,rfl,BK ?_⟩;refine⟨_,rfl,p,_,1,.int z,rfl,rfl,AS.of p3,rfl,.int z,"bool",.type "int",false,rfl,(fun _=>Bl.int z),(fun _=>ZX),_,rfl,BK ?_⟩;exact⟨_,rfl,p,_,0,.int z,rfl,rfl,AS.of p3,rfl,z,rfl,_,rfl,BK ⟨_,rfl,p,_,0,.int z,rfl,rfl,AS.of p3,rfl,_,rfl,p,_,1,.int z,rfl,rfl,AS.of p3,rfl,rfl,_,rfl,EN rfl r0⟩⟩
def WR{α:Type}[DecidableEq α]:∀{l m:List α},l.Nodup->(∀x∈l,x∈m)->l.length<=m.length
 |[],_,_,_=>CC _
 |a::t,m,hn,hs=>by
  obtain⟨h1,h2⟩:=Ea.mp hn;have ha:=hs a Co;have:=WR (l:=t) (m:=m.erase a) h2 fun x hx=>(List.mem_erase_of_ne (fun z=>h1 (by rw[<-z];exact hx))).mpr (hs x (Cn _ hx));rw[List.length_erase_of_mem ha] at this;have hp:0<m.length:=OU ha;rw[CG]
  lia
def FA(n:Nk)(xs:List Aw):Nk:=xs.foldl G0 n
def dB(n:Nk)(xs:List Aw)(x:Aw):FA n (xs++[x])=G0 (FA n xs) x:=by unfold FA;rw[List.foldl_append];rfl
def SQ:∀(xs:List Aw)(n:Nk),Bd n->(∀x∈xs,x.Good)->Bd (FA n xs)/\vw (FA n xs)=DA (vw n) xs
 |[],n,h,_=>⟨h,rfl⟩
 |x::xs,n,h,g=>by obtain⟨p1,p2⟩:=iy h (g x Co);obtain⟨q1,q2⟩:=SQ xs (G0 n x) p1 fun y hy=>g y (Cn _ hy);refine⟨q1,?_⟩;show vw (FA (G0 n x) xs)=DA ((E8 (vw n) x).next (vw n)) xs;rw[q2,p2]
def bM:Bd GU:=⟨⟨J2,J2,J2,fun p hp=>(by cases hp),fun p hp=>(by cases hp),fun p hp=>(by cases hp),fun p hp=>(by cases hp)⟩,Gj _,fun p hp=>(by cases hp),fun p hp=>(by cases hp)⟩
def nK{n:Nk}(b:Bq n){p:Int×List Wd}(hp:p∈n.texts):∃nm,(nm,Al n p.1)∈vw n/\(Al n p.1).length=p.2.length:=by obtain⟨nm,h⟩:=b.own p hp;refine⟨nm,BA.mpr ⟨_,h,rfl⟩,?_⟩;unfold Al;rw[KN b.Ce (show(p.1,p.2)∈n.texts from hp)];show(p.2.map _).length=_;rw[AJ]
def QC(ws:List PR):Nat:=wsum ws
def fits_of{n:Nk}(h:Bd n)(s:Sz k (vw n))(hk:k<=64):Fits n/\n.names.length<=k/\n.texts.length<=k:=by
 have hl:n.names.length<=k:=by have:=s.len;unfold vw at this;rw[AJ] at this;exact this
 have ht:n.texts.length<=n.names.length:=by
  have:=WR (l:=n.texts.map (·.1)) (m:=n.names.map (·.2)) h.b.Ce fun x hx=>by obtain⟨p,hp,rfl⟩:=BA.mp hx;obtain⟨nm,hn⟩:=h.b.own p hp;exact BA.mpr ⟨_,hn,rfl⟩
  rw[AJ,AJ] at this;exact this
 refine⟨⟨h.b.Ct,h.b.Ce,by lia,by lia,fun p hp=>?_⟩,hl,by lia⟩;obtain⟨nm,h1,h2⟩:=nK h.b hp;have h3:=NP h1;have h4:=NA (Al n p.1);have h5:=s.BM;have h6:QC (Al n p.1)<=L2.BM (vw n):=h3;have h7:50000*k<=50000*64:=Q7 _ hk;unfold QC at h6
 lia
def cp{n:Nk}(h:Bd n)(s:Sz k (vw n))(hk:k<=63){a o:Str}(g:(Aw.join a o).Good)(br:BU n (.join a o)=""):(CF n (A1 n a)++CF n (A1 n o)).length<=100000:=by
 have s':=s.next g;have be:=Yo n (.join a o);rw[br] at be;have h1:C1 "" (Fi (vw n) a o):=be;have s2:Sz (k+1) ((Fi (vw n) a o).next (vw n)):=s';unfold Fi at h1 s2;rw[Fh n a,Fh n o] at h1 s2
 cases e:AH n.names a with
 |none=>rw[e] at h1;exact absurd h1.1.symm h1.2
 |some no=>
  cases e2:AH n.names o with
  |none=>rw[e,e2] at h1;exact absurd h1.1.symm h1.2
  |some h0=>
   rw[e,e2] at h1 s2;have h2:C1 "" (if a=o then .no "same page" else .ok (.int (L2.cnt (L2.joined (vw n) a o (Al n no) (Al n h0)) a)) (L2.joined (vw n) a o (Al n no) (Al n h0))):=h1;have s3:Sz (k+1) (Rs.next (vw n) (if a=o then .no "same page" else .ok (.int (L2.cnt (L2.joined (vw n) a o (Al n no) (Al n h0)) a)) (L2.joined (vw n) a o (Al n no) (Al n h0)))):=s2;by_cases e3:a=o
   ·rw[AG e3] at h2;exact absurd h2.1.symm h2.2
   ·rw[AF e3] at s3;have s4:Sz (k+1) (L2.joined (vw n) a o (Al n no) (Al n h0)):=s3;have ga:AH (L2.joined (vw n) a o (Al n no) (Al n h0)) a=some (C3 (Al n no++Al n h0) o a):=by unfold L2.joined;rw[TK,Cw,AG rfl];rfl
    have h3:=NP (Bc ga);have h4:=NA (C3 (Al n no++Al n h0) o a);rw[W3,An] at h4;have h5:=s4.BM;have h6:QC (C3 (Al n no++Al n h0) o a)<=L2.BM (L2.joined (vw n) a o (Al n no) (Al n h0)):=h3;unfold QC at h6;have l1:(CF n (A1 n a)).length=(Al n no).length:=by unfold CF A1 Al;rw[e,AJ];rfl
    have l2:(CF n (A1 n o)).length=(Al n h0).length:=by unfold CF A1 Al;rw[e2,AJ];rfl
    have h7:50000*(k+1)<=50000*64:=Q7 _ (by lia);rw[An,l1,l2]
    lia
def Wm:Sp:=fun vs H Q _=>∃(v:V)(xs:List Aw),vs=[v]/\Rep H (.lst (xs.map Aw.dt)) v/\(∀x∈xs,x.Good)/\xs.length<=63/\∀a H',Cy H H' a (FA GU xs)->Q (.ref a) H'
noncomputable def Aw.word:Aw->Str
 |.write _ _=>"write" |.rename _ _=>"rename" |.join _ _=>"join" |.cut _ _ _=>"cut" |.drop _=>"drop" |.text _=>"text" |.back _=>"back" |.find _ _=>"find"
def dW(x:Aw):(En (.str x.word) [.str "text",.str "back",.str "find"])=x.asks:=by
 cases x with
 |write a b=>exact(by left:En (.str "write") [.str "text",.str "back",.str "find"]=false)
 |rename a b=>exact(by left:En (.str "rename") [.str "text",.str "back",.str "find"]=false)
 |join a b=>exact(by left:En (.str "join") [.str "text",.str "back",.str "find"]=false)
 |cut a p b=>exact(by left:En (.str "cut") [.str "text",.str "back",.str "find"]=false)
 |drop a=>exact(by left:En (.str "drop") [.str "text",.str "back",.str "find"]=false)
 |text a=>exact(by left:En (.str "text") [.str "text",.str "back",.str "find"]=true)
 |back a=>exact(by left:En (.str "back") [.str "text",.str "back",.str "find"]=true)
 |find a b=>exact(by left:En (.str "find") [.str "text",.str "back",.str "find"]=true)
def ig{x:Aw}(r:Rep H x.dt v):∃d xs,v=.ref d/\H d=some (.tup (.str x.word::xs)):=by
 cases x with
 |write a b=>obtain⟨d,xs,rfl,hd,rs⟩:=By r;obtain⟨u,v,x,rfl,r1,_⟩:=EO rs;cases Bi r1;exact⟨d,_,rfl,hd⟩
 |rename a b=>obtain⟨d,xs,rfl,hd,rs⟩:=By r;obtain⟨u,v,x,rfl,r1,_⟩:=EO rs;cases Bi r1;exact⟨d,_,rfl,hd⟩
 |join a b=>obtain⟨d,xs,rfl,hd,rs⟩:=By r;obtain⟨u,v,x,rfl,r1,_⟩:=EO rs;cases Bi r1;exact⟨d,_,rfl,hd⟩
 |cut a p b=>obtain⟨d,xs,rfl,hd,rs⟩:=By r;obtain⟨u,v,x,y,rfl,r1,_⟩:=P4 rs;cases Bi r1;exact⟨d,_,rfl,hd⟩
 |drop a=>obtain⟨d,xs,rfl,hd,rs⟩:=By r;obtain⟨u,v,rfl,r1,_⟩:=Hl rs;cases Bi r1;exact⟨d,_,rfl,hd⟩
 |text a=>obtain⟨d,xs,rfl,hd,rs⟩:=By r;obtain⟨u,v,rfl,r1,_⟩:=Hl rs;cases Bi r1;exact⟨d,_,rfl,hd⟩
 |back a=>obtain⟨d,xs,rfl,hd,rs⟩:=By r;obtain⟨u,v,rfl,r1,_⟩:=Hl rs;cases Bi r1;exact⟨d,_,rfl,hd⟩
 |find ws h0=>obtain⟨d,xs,rfl,hd,rs⟩:=By r;obtain⟨u,v,x,rfl,r1,_⟩:=EO rs;cases Bi r1;exact⟨d,_,rfl,hd⟩
def SD:A9 ["_law_asked","_law_nook","_law_deed"] ["_law_asked"] (Aq S5):=by left
def fM{fBe:OK}{fdBe:qk}(F:Ak K "_law_played" "_law_played" S5 f fd)
 (FBe:Ak K "_law_begun" "_law_begun" Pq fBe fdBe)(bBe:Binds K fdBe [] [])(mBe:mg "_law_begun" =some (.ref fBe))
 (HBa:Hv P w K mg base "_law_barred" 2 ["_law_nook","_law_deed"] Wj)
 (HCh:Hv P w K mg base "_law_changed" 3 ["_law_nook","_law_deed"] V3):AY P w K mg base Aj 4 f fd ["_law_asked"] Wm:=by
 have e2:AY P w K mg base Aj 1 fBe fdBe [] Xg:=gK FBe;refine F.ok SD ?_ ?_
 ·rintro _ _ _ _ ⟨_,_,rfl,_⟩;rfl
 ·rintro _ A _ s H _ Q E hr ⟨v,xs,rfl,rv,h1,hl,q⟩;refine⟨_,(AR (Av (i:=1) SD.nd rfl (Aa rfl) (XN e2 hr.mn rfl mBe FBe.kp bBe .nil BH)) (AR (DZ DX rfl (Fn (pv 0)) (Bg (i:=2) SD.nd rfl (Aa rfl))
   (AU (A0 (PW.pt (Eh (Ar bw (A3 (pv 2)) (CO (AB AZ (AB AZ (AB AZ AI)))) rfl) (GB (Ar Ba (DL HBa hr.mn rfl BH (AB (pv 1) (AB (pv 2) AI))) AZ (Am _)))))
   (AU (Bf (DL HCh hr rfl BH (AB (pv 1) (AB (pv 2) AI)))))
   BE))) (AU (As (pv 1))))),?_⟩;obtain⟨l,ys,rfl,h7,rr⟩:=E6 rv;refine⟨rfl,fun a H1 h6=>?_⟩;have h2:∀{n:Nk}{H':Hp},Cy H H' a n->AO H H':=fun h=>let⟨_,_,_,nk⟩:=h;nk.same;refine⟨_,rfl,l,rfl,⟨_,AL.of (h2 h6 _ _ h7)⟩,KJ (K:=[]) (a:=l) (xs:=ys) (fun i σ H'=>∃v2:Option V,σ=[some (.ref l),some (.ref a),v2]/\Cy H H' a (FA GU (xs.take i)))
   ⟨none,rfl,h6⟩ (fun i σ H' _ ⟨_,_,h⟩=>AL.of (h2 h _ _ h7)) ?_ ?_⟩
  ·rintro i y σ H' ey ⟨v2,rfl,nk⟩;obtain⟨x,ex,rx⟩:=IZ rr ey;have hi:i<xs.length:=(BY.mp ex).1;have gi:∀z∈xs.take i,z.Good:=fun z hz=>h1 z (FX hz);obtain⟨bd,ev⟩:=SQ (xs.take i) GU bM gi;have sz:=P0 (xs.take i) 0 [] TM gi;have e1:vw (FA GU (xs.take i))=DA [] (xs.take i):=ev;rw[<-e1] at sz;have hk:0+(xs.take i).length<=63:=by rw[Be];lia
   obtain⟨h4,nl,tl⟩:=fits_of bd sz (by lia);have h3:FA GU (xs.take (i+1))=G0 (FA GU (xs.take i)) x:=by rw[C6,ex];exact dB ..
   have gx:=h1 x (CA ex);generalize FA GU (xs.take i)=n at nk bd sz h4 nl tl h3;obtain⟨d,ds,rfl,hd⟩:=ig rx;have e0:=h2 nk _ _ hd;refine⟨_,rfl,d,_,_,.str x.word,rfl,rfl,AS.of e0,Bh (j:=0) rfl,by exact z_0,fun lq h9=>?_⟩;have s2:=Af (o:=.lst [V.str "text",V.str "back",V.str "find"]) h9;have h0:=nk.ext s2;refine⟨lq,_,rfl,.inl (AL.of AM),rfl,rfl,_,rfl,?_⟩;have aw:=dW x;show if(!En (.str x.word) [.str "text",.str "back",.str "find"])=true then _ else _;rw[aw]
   cases ha:x.asks with
   |true=>refine BK (BK ?_);refine⟨_,rfl,?_⟩;rw[h3];unfold G0;rw[AG ha];exact h0
   |false=>
    generalize upd H' lq (.lst [V.str "text",V.str "back",V.str "find"])=H2 at h0;refine Bk ⟨_,rfl,_,rfl,a,.ref d,x,H,n,rfl,h0,h4,rx.same (h2 h0),gx,fun nm no h=>bd.b.tx _ (Bc h),fun H3 s3=>⟨rfl,_,rfl,?_⟩⟩;have h5:=h0.ext s3;by_cases hb:BU n x=""
    ·refine Bp (by rw[hb]) ⟨_,rfl,_,rfl,a,.ref d,x,H,n,rfl,h5,h4,bd,by lia,by lia,rx,gx,ha,hb,fun a' o' e=>?_,fun H4 h8=>⟨_,rfl,?_⟩⟩
     ·subst e;exact cp bd sz hk gx hb
     ·rw[h3];unfold G0;rw[AF (by rw[ha];exact CZ),AG hb];exact h8
    ·refine B1 (fun z=>hb (V.str.inj z)) ?_;refine⟨_,rfl,?_⟩;rw[h3];unfold G0;rw[AF (by rw[ha];exact CZ),AF hb];exact h5
  ·rintro σ H' ⟨v2,rfl,nk⟩;have e6:ys.length=xs.length:=by have:=rr.1;rw[AJ] at this;exact this.symm
   rw[e6,CT] at nk;exact⟨_,rfl,q a H' nk⟩
def Jk(ws:List Wd)(i:Nat)(z:Str):Prop:=∃w,ws[i]? =some w/\w.to=false/\w.nm=z
def Fz(ws:List Wd)(zs:List Str)(s e:Nat):Prop:=∀z∈zs,∃i,s<=i/\i<e/\Jk ws i z
structure FF(ws:List Wd)(zs:List Str)(k:Nat)(b:Int):Prop where
 snd:0<=b->∃s e:Nat,s<k/\s<e/\e<=ws.length/\Fz ws zs s e/\b=e-s
 low:∀s e:Nat,s<k->s<e->e<=ws.length->Fz ws zs s e->0<=b/\b<=e-s
structure IL(ws:List Wd)(zs:List Str)(s e:Nat)(l:List (Str×Bool)):Prop where
 mem:∀z,z∈l.map (·.1)↔z∈zs/\∀i,s<=i->i<e->¬Jk ws i z
section
variable{s e:Nat}{l:List (Str×Bool)}{b:Int}
def IL.qE(h:IL ws zs s e l)(hl:l=[]):Fz ws zs s e:=fun z hz=>by
 rcases Classical.em (∃i,s<=i/\i<e/\Jk ws i z) with q|q
 ·exact q
 ·have:=(h.mem z).mpr ⟨hz,fun i h1 h2 h3=>q ⟨i,h1,h2,h3⟩⟩;rw[hl] at this;cases this
def IL.not(h:IL ws zs s e l)(hl:l≠[]):¬Fz ws zs s e:=fun c=>by
 cases l with
 |nil=>exact hl rfl
 |cons p l=>obtain⟨h1,h2⟩:=(h.mem p.1).mp Co;obtain⟨i,a,b,q⟩:=c _ h1;exact h2 i a b q
def Fz.mono{e':Nat}(h:Fz ws zs s e)(he:e<=e'):Fz ws zs s e':=fun z hz=>by obtain⟨i,a,b,q⟩:=h z hz;exact⟨i,a,by lia,q⟩
def IL.step{w:Wd}(h:IL ws zs s e l)(hs:s<=e)(hw:ws[e]? =some w):IL ws zs s (e+1) (if w.to=false then AQ l w.nm else l):=by
 have h0:∀z,(∀i,s<=i->i<e+1->¬Jk ws i z)↔(∀i,s<=i->i<e->¬Jk ws i z)/\¬(w.to=false/\w.nm=z):=fun z=>by
  constructor
  ·intro q;exact⟨fun i a b=>q i a (by lia),fun⟨a,b⟩=>q e hs (by lia) ⟨w,hw,a,b⟩⟩
  ·rintro⟨q,r⟩ i a b ⟨w',e1,e2,e3⟩;by_cases hi:i<e
   ·exact q i a hi ⟨w',e1,e2,e3⟩
   ·obtain rfl:i=e:=by lia
    rw[hw] at e1;cases e1;exact r ⟨e2,e3⟩
 refine⟨fun z=>?_⟩;rw[h0];by_cases t:w.to=false
 ·rw[AG t,KH,Gg,h.mem,decide_eq_true_iff];exact⟨fun⟨⟨a,b⟩,c⟩=>⟨a,b,fun y=>c y.2.symm⟩,fun⟨a,b,c⟩=>⟨⟨a,b⟩,fun y=>c ⟨t,y.symm⟩⟩⟩
 ·rw[AF t,h.mem];exact⟨fun⟨a,b⟩=>⟨a,b,fun y=>t y.1⟩,fun⟨a,b,_⟩=>⟨a,b⟩⟩
def FF.nil:FF ws zs 0 (-1):=⟨fun h=>by lia,fun s e h=>by lia⟩
def FF.skip(h:FF ws zs k b)(q:¬Fz ws zs k ws.length):FF ws zs (k+1) b:=
 ⟨fun h0=>let⟨s,e,a,r⟩:=h.snd h0;⟨s,e,by lia,r⟩,fun s e a b c d=>by
  by_cases z:s<k
  ·exact h.low s e z b c d
  ·obtain rfl:s=k:=by lia
   exact absurd (d.mono c) q⟩
def FF.put{e:Nat}(h:FF ws zs k b)(hk:k<e)(he:e<=ws.length)(c:Fz ws zs k e)(n:∀e',e'<e->¬Fz ws zs k e'):FF ws zs (k+1) (if b<0\/(e:Int)-k<b then(e:Int)-k else b):=by
 have low:∀e',k<e'->Fz ws zs k e'->e<=e':=fun e' _ d=>by
  rcases Nat.lt_or_ge e' e with z|z
  ·exact absurd d (n e' z)
  ·exact z
 by_cases t:b<0\/(e:Int)-k<b
 ·rw[AG t];refine⟨fun _=>⟨k,e,by lia,hk,he,c,rfl⟩,fun s e' a q r d=>?_⟩;by_cases z:s<k
  ·have:=h.low s e' z q r d
   lia
  ·obtain rfl:s=k:=by lia
   have:=low e' q d
   lia
 ·rw[AF t];refine⟨fun h0=>let⟨s,e,a,r⟩:=h.snd h0;⟨s,e,by lia,r⟩,fun s e' a q r d=>?_⟩;by_cases z:s<k
  ·exact h.low s e' z q r d
  ·obtain rfl:s=k:=by lia
   have:=low e' q d
   lia
end
structure P5(H:Hp)(l:OK)(as:List OK)(ws:List Wd):Prop where
 lst:H l=some (.lst (as.map V.ref))
 len:as.length=ws.length
 at_:∀(j:Nat) a w,as[j]? =some a->ws[j]? =some w->H a=some (.lst w.vq)
def P5.same{l:OK}{as:List OK}(h:P5 H l as ws)(s:AO H H'):P5 H' l as ws:=⟨s _ _ h.lst,h.len,fun j a w e1 e2=>s _ _ (h.at_ j a w e1 e2)⟩
def ZO:Sp:=fun vs H Q _=>∃(l t:OK)(as:List OK)(ws:List Wd)(zs:List Str),vs=[.ref l,.ref t]/\P5 H l as ws/\ws.length<=100000/\H t=some (.tup (zs.map V.str))/\zs≠[]/\zs.length<=9/\∀b H',AO H H'->FF ws zs ws.length b->Q (.int b) H'
def P7(l:List (Str×Bool)):List (Key×V):=GL Sum.inr V.bl l
def Kb:A9 ["_law_words","_law_wanted","_law_best","_law_start","_law_left","_law_word","_law_stop"] ["_law_words","_law_wanted"] (Aq SA):=by left
def lV(F:Ak K "_law_stretch" "_law_stretch" SA f fd)(O:Own mg):AY P w K mg base Aj 1 f fd ["_law_words","_law_wanted"] ZO:=by
 refine F.ok Kb ?_ ?_
 ·rintro _ _ _ _ ⟨_,_,_,_,_,rfl,_⟩;rfl
 ·rintro _ A _ s H _ Q E hr ⟨l,t,as,ws,zs,rfl,wa,e7,ht,e4,e6,q⟩;have e5:=Cq hr;refine⟨_,(AR (Av (i:=2) Kb.nd rfl (Aa rfl) (EL EK AV)) (AR (DZ DX rfl (M5 rfl O.IK (AB (BZ EM rfl O.len Cu (AB (pv 0) AI)) AI)) (Bg (i:=3) Kb.nd rfl (Aa rfl))
   (AR (Av (i:=4) Kb.nd rfl (Aa rfl) NH) (AR (DZ DX rfl (kg (pv 1)) (Bg (i:=5) Kb.nd rfl (Aa rfl))
   (AU (Ee e5 (pv 4) (pv 5) Ih rfl))) (AU (DZ DX rfl (dr rfl O.IK (AB (pv 3) (AB (BZ EM rfl O.len Cu (AB (pv 0) AI)) AI))) (Bg (i:=6) Kb.nd rfl (Aa rfl))
   (AR (A0 (Ar Ba (HE (Bz Cr (pv 0) (pv 6) (fun _ _=>rfl))) AZ (Am _))
   (AU (Bf (gH (pv 4) (HE (Bz Cr (pv 0) (pv 6) (fun _ _=>rfl))) Yu ⟨rfl,rfl,rfl,rfl⟩)))
   BE) (AU (A0 (Ar Ba (BZ Vg rfl O.len Cu (AB (pv 4) AI)) AV (Am _))
   (AR (A0 (PW.pt (Ie (Ar Hn (pv 2) AV (Am _)) (Ib (Ar Hn (Ah Cb (Ah Lf (pv 6) (pv 3)) AV) (pv 2) (Am _)))))
   (AU (Av (i:=2) Kb.nd rfl (Aa rfl) (Ah Cb (Ah Lf (pv 6) (pv 3)) AV)))
   BE) (AU gU))
   BE)))))))) (AU (As (pv 2))))),?_⟩;have al:(as.map V.ref).length=ws.length:=by rw[AJ,wa.len]
  refine⟨_,rfl,_,rfl,l,_,rfl,.inl (AL.of wa.lst),_,rfl,by lia,by lia,?_⟩;refine KD (lo:=0) (n:=(as.map V.ref).length) (fun i σ H'=>∃(b:Int)(v3 v4 v5 v6:Option V),σ=[some (.ref l),some (.ref t),some (.int b),v3,v4,v5,v6]/\AO H H'/\FF ws zs i b) ⟨-1,none,none,none,none,rfl,AO.refl _,FF.nil⟩ ?_ ?_
  ·rintro i σ H' hi ⟨b,v3,v4,v5,v6,rfl,sm,sb⟩;rw[al] at hi;intro d hd;have h6:=sm.free hd;have s1:AO H (upd H' d (.dK [])):=sm.upd h6;refine⟨_,rfl,t,rfl,⟨_,AS.of (s1 _ _ ht)⟩,jT (K:=K) (a:=t) (xs:=zs.map V.str) (fun j σ H2=>∃(v5:Option V)(lf:List (Str×Bool)),σ=[some (.ref l),some (.ref t),some (.int b),some (.int (0+(i:Int))),some (.ref d),v5,v6]/\AO H H2/\H2 d=some (.dK (P7 lf))/\(∀z,z∈lf.map (·.1)↔z∈zs.take j)/\lf.length<=j)
    ⟨v5,[],rfl,s1,AM,fun z=>Iff.rfl,Ae 0⟩ (fun j σ H2 _ ⟨_,_,_,s2,_⟩=>AS.of (s2 _ _ ht)) ?_ ?_⟩
   ·rintro j y σ H2 ey ⟨v5,lf,rfl,s2,h7,ml,ll⟩;rw[Az] at ey
    cases ez:zs[j]?with
    |none=>rw[ez] at ey;cases ey
    |some z=>
    rw[ez] at ey;obtain rfl:V.str z=y:=Ag ey;have hj:=(BY.mp ez).1;have e:=JG (f:=(Sum.inr:Str->Key)) (g:=V.bl) Ef z true lf;have lp:(AW lf z true).length<=lf.length+1:=by
     unfold AW;split
     ·rw[AJ];lia
     ·rw[An];exact Ae _
    refine⟨_,rfl,_,rfl,d,_,rfl,DW.kq (k:=Sum.inr z) h7 (by show(lf.map _).length<_;rw[AJ,A8];lia),some (.str z),AW lf z true,rfl,s2.upd h6,by rw[AM];exact BD (fun q=>some (HO.dK q)) e,fun x=>?_,by lia⟩;rw[JI,C6,ez];by_cases h:z∈lf.map (·.1)
    ·rw[AG h,ml,BS];exact⟨.inl,fun q=>q.elim id fun q=>by rw[BR.mp q];exact(ml z).mp h⟩
    ·rw[AF h,BS,BS,ml];exact Iff.rfl
   ·rintro σ H2 ⟨v5,lf,rfl,s2,h7,ml,ll⟩;rw[AJ,CT] at ml;have e1:=wa.same s2;have e3:IL ws zs i i lf:=⟨fun z=>by rw[ml];exact⟨fun q=>⟨q,fun k h1 h2=>by lia⟩,fun q=>q.1⟩⟩;refine⟨_,rfl,_,rfl,l,_,rfl,.inl (AL.of e1.lst),_,_,rfl,⟨by lia,by lia,by lia,by lia⟩,?_⟩;have en:(((as.map V.ref).length:Nat)-(0+(i:Int)):Int).toNat=ws.length-i:=by rw[al];lia
    rw[en];refine KD (lo:=0+(i:Int)) (n:=ws.length-i) (fun j σ H3=>∃(v6:Option V)(lf:List (Str×Bool)),σ=[some (.ref l),some (.ref t),some (.int b),some (.int (0+(i:Int))),some (.ref d),v5,v6]/\AO H H3/\H3 d=some (.dK (P7 lf))/\IL ws zs i (i+j) lf/\¬Fz ws zs i (i+j)/\lf.length<=9)
     ⟨v6,lf,rfl,s2,h7,e3,fun c=>?_,by rw[AJ] at ll;lia⟩ ?_ ?_
    ·cases zs with
     |nil=>exact e4 rfl
     |cons z zs=>
      obtain⟨k,h1,h2,_⟩:=c z Co
      lia
    ·rintro j σ H3 hj ⟨v6,lf,rfl,s3,h4,lt,nc,l9⟩;have h8:i+j<ws.length:=by lia
     have ew:ws[i+j]? =some ws[i+j]:=Ap h8;generalize ws[i+j]=wd at ew;have ha:i+j<as.length:=by rw[wa.len];exact h8
     have ea:as[i+j]? =some as[i+j]:=Ap ha;generalize as[i+j]=aw at ea;have ix:Fq (as.map V.ref) (0+(i:Int)+(j:Int))=some (.ref aw):=by rw[show(0+(i:Int)+(j:Int))=((i+j:Nat):Int) by lia];exact Bh (by rw[Az,ea];rfl)
     have h5:=wa.same s3;have e0:=h5.at_ _ _ _ ea ew;have h3:=lt.step (Nat.le_add_right i j) ew;dsimp only[DT];refine JH (fun σ H4=>∃lf:List (Str×Bool),σ=[some (.ref l),some (.ref t),some (.int b),some (.int (0+(i:Int))),some (.ref d),v5,some (.int (0+(i:Int)+(j:Int)))]/\AO H H4/\H4 d=some (.dK (P7 lf))/\IL ws zs i (i+j+1) lf/\lf.length<=9) ?_ ?_
     ·rintro σ H4 ⟨lf,rfl,s4,h9,lt,l9⟩;refine⟨_,rfl,d,_,rfl,h9,rfl,_,rfl,?_⟩;have ll:((P7 lf).length:Int)=(lf.length:Nat):=by show(((lf.map _).length:Nat):Int)=_;rw[AJ]
      by_cases h0:lf=[]
      ·subst h0;have cv:=lt.qE rfl;have pt:=sb.put (k:=i) (e:=i+j+1) (by lia) (by lia) cv fun e' he c=>nc (c.mono (by lia));have eb:(0+(i:Int)+(j:Int)-(0+(i:Int))+1:Int)=(((i+j+1:Nat)):Int)-(i:Int):=by lia
       rw[<-eb] at pt;refine Bp rfl ?_;refine JH (fun σ H5=>∃b':Int,σ=[some (.ref l),some (.ref t),some (.int b'),some (.int (0+(i:Int))),some (.ref d),v5,some (.int (0+(i:Int)+(j:Int)))]/\H5=H4/\FF ws zs (i+1) b') ?_ ?_
       ·rintro σ H5 ⟨b',rfl,rfl,e2⟩;exact⟨b',_,_,_,_,rfl,s4,e2⟩
       ·intro hG;refine⟨_,rfl,_,_,rfl,rfl,_,rfl,?_⟩;by_cases hb:b<0
        ·rw[AG (.inl hb)] at pt;exact Bp hb (Bk ⟨_,rfl,_,rfl,_,_,rfl,rfl,_,_,rfl,rfl,hG _ _ ⟨_,rfl,rfl,pt⟩⟩)
        ·refine B1 hb ⟨_,rfl,_,rfl,_,_,rfl,rfl,_,_,rfl,rfl,_,rfl,_,_,rfl,rfl,_,rfl,?_⟩;by_cases hc:0+(i:Int)+(j:Int)-(0+(i:Int))+1<b
         ·rw[AG (.inr hc)] at pt;exact Bp hc ⟨_,rfl,_,rfl,_,_,rfl,rfl,_,_,rfl,rfl,hG _ _ ⟨_,rfl,rfl,pt⟩⟩
         ·rw[AF fun q=>q.elim hb hc] at pt;exact B1 hc (hG _ _ ⟨_,rfl,rfl,pt⟩)
      ·refine B1 (fun q=>h0 ?_) ⟨_,lf,rfl,s4,h9,lt,lt.not h0,l9⟩;have:=V.int.inj q;rw[ll] at this;exact OS.mp (by lia)
     ·intro hG;refine⟨_,rfl,_,rfl,l,_,_,.ref aw,rfl,rfl,AL.of h5.lst,ix,aw,_,_,_,rfl,rfl,AL.of e0,Bh (j:=0) rfl,rfl,_,rfl,?_⟩
      cases tw:wd.to with
      |true=>rw[tw,AF (by decide)] at h3;exact B1 (by rw[AG rfl];exact HI (by left)) (hG _ _ ⟨lf,rfl,s3,h4,h3,l9⟩)
      |false=>
       rw[tw,AG rfl] at h3;have ld:=EY (fun p:Str×Bool=>decide (p.1≠wd.nm)) lf;refine Bp (by rw[AF (by decide)]) ⟨_,rfl,d,rfl,.inl ⟨_,.inl h4⟩,_,rfl,_,rfl,l,_,_,.ref aw,rfl,rfl,AL.of h5.lst,ix,aw,_,_,.str wd.nm,rfl,rfl,AL.of e0,Bh (j:=1) rfl,_,Sum.inr wd.nm,h4,rfl,fun v hv=>?_,fun hv=>?_⟩
       ·refine hG _ _ ⟨AQ lf wd.nm,rfl,s3.upd h6,by rw[AM];exact BD (fun q=>some (HO.dK q)) (KI (f:=(Sum.inr:Str->Key)) (g:=V.bl) Ef wd.nm lf),h3,BJ ld l9⟩
       ·have e:=Ec (f:=(Sum.inr:Str->Key)) (g:=V.bl) Ef wd.nm lf;have hg:AH lf wd.nm=none:=by
         cases hg:AH lf wd.nm with
         |none=>rfl
         |some _=>rw[hg] at e;exact absurd (e.symm.trans hv) (by intro z;cases z)
        have ed:AQ lf wd.nm=lf:=List.filter_eq_self.mpr fun p hp=>Bb fun z=>NB hg (BA.mpr ⟨p,hp,z⟩);rw[ed] at h3;exact hG _ _ ⟨lf,rfl,s3,h4,h3,l9⟩
    ·rintro σ H3 ⟨v6,lf,rfl,s3,h4,lt,nc,l9⟩;rw[show i+(ws.length-i)=ws.length by lia] at nc;exact⟨b,_,_,_,_,rfl,s3,sb.skip nc⟩
  ·rintro σ H' ⟨b,v3,v4,v5,v6,rfl,sm,sb⟩;rw[al] at sb;exact⟨_,rfl,q b H' sm sb⟩
def M8(z:Str):∀(ps:List PR)(k:Nat)(x:Int),x∈CM z k ps↔∃i:Nat,x=((k+i:Nat):Int)/\ps[i]? =some (("word" :Str),z)
 |[],k,x=>by
  rw[CM];constructor
  ·intro h;cases h
  ·rintro⟨i,_,h⟩;cases h
 |p::ps,k,x=>by
  rw[CM,BS,M8 z ps (k+1) x];constructor
  ·rintro(h|⟨i,e,h⟩)
   ·by_cases t:p=(("word" :Str),z)
    ·rw[AG t] at h;exact⟨0,BR.mp h,by rw[t];rfl⟩
    ·rw[AF t] at h;cases h
   ·exact⟨i+1,by rw[e];congr 1;lia,h⟩
  ·rintro⟨i,e,h⟩
   cases i with
   |zero=>have t:p=(("word" :Str),z):=Ag h;rw[AG t];exact .inl (by rw[e];exact BR.mpr rfl)
   |succ i=>exact .inr ⟨i,by rw[e];congr 1;lia,h⟩
def fq{σ:List Str}:x∈Dw σ z↔x∈σ\/x=z:=by
 unfold Dw;by_cases h:z∈σ
 ·rw[AG h];exact⟨.inl,fun q=>q.elim id fun e=>e▸h⟩
 ·rw[AF h,BS,BR]
def Wy:∀(zs σ:List Str)(x:Str),x∈Dv σ zs↔x∈σ\/x∈zs
 |[],σ,x=>by rw[Dv];exact⟨.inl,fun q=>q.elim id fun h=>by cases h⟩
 |z::zs,σ,x=>by rw[Dv,Wy zs,fq,BI,or_assoc]
def j0{σ:List Str}(h:σ.Nodup):(Dw σ z).Nodup:=by
 unfold Dw;by_cases t:z∈σ
 ·rw[AG t];exact h
 ·rw[AF t];exact Oh.mpr ⟨h,Ea.mpr ⟨JC,J2⟩,fun a ha b hb e=>t (by rw[BR.mp hb] at e;exact e▸ha)⟩
def Xr:∀(zs σ:List Str),σ.Nodup->(Dv σ zs).Nodup
 |[],_,h=>h
 |z::zs,σ,h=>Xr zs _ (j0 h)
def O6:x∈CV zs↔x∈zs:=by unfold CV;rw[(LO Hk _).mem_iff,Wy];exact⟨fun q=>q.elim (fun h=>by cases h) id,.inr⟩
def dX(zs:List Str):(CV zs).Nodup:=(LO Hk _).nodup_iff.mpr (Xr zs [] J2)
def Yn{s e:Int}:∀{rows:List (List Int)},rows≠[]->(∀row∈rows,∃x,Fo s row=some x/\x<=e)->∃f,f<=e/\(∃row∈rows,Fo s row=some f)/\∀row∈rows,∃x,Fo s row=some x/\x<=f
 |[],h,_=>absurd rfl h
 |[r],_,h=>by obtain⟨x,h1,h2⟩:=h r Co;exact⟨x,h2,⟨r,Co,h1⟩,fun q hq=>⟨x,by rw[BR.mp hq];exact h1,Gj _⟩⟩
 |r::r2::rows,_,h=>by
  obtain⟨x,h1,h2⟩:=h r Co;obtain⟨f,a,⟨q,hq,b⟩,c⟩:=Yn (rows:=r2::rows) (RP _ _) fun q hq=>h q (Cn _ hq);by_cases t:x<=f
  ·refine⟨f,a,⟨q,Cn _ hq,b⟩,fun y hy=>?_⟩;rcases BI.mp hy with z|z
   ·exact⟨x,by rw[z];exact h1,t⟩
   ·exact c y z
  ·refine⟨x,h2,⟨r,Co,h1⟩,fun y hy=>?_⟩;rcases BI.mp hy with z|z
   ·exact⟨x,by rw[z];exact h1,Gj _⟩
   ·obtain⟨w,e1,e2⟩:=c y z;exact⟨w,e1,by lia⟩
section
variable{ps:List PR}{b:Int}
def eG(hp:∀i z,Jk ws i z↔ps[i]? =some (("word" :Str),z))(hl:ps.length=ws.length)(h0:zs≠[])(st:FF ws zs ws.length b):L2.short (rowsOf ps (CV zs))=if b<0 then none else some b:=by
 have up:∀h4∈rowsOf ps (CV zs),h4.Pairwise (·<·):=fun h4 hr=>by obtain⟨z,_,rfl⟩:=BA.mp hr;exact NL z ps 0
 have h4:∀z∈zs,CM z 0 ps∈rowsOf ps (CV zs):=fun z hz=>BA.mpr ⟨z,O6.mpr hz,rfl⟩;have inr:∀h4∈rowsOf ps (CV zs),∃z∈zs,h4=CM z 0 ps:=fun h4 hr=>by obtain⟨z,hz,rfl⟩:=BA.mp hr;exact⟨z,O6.mp hz,rfl⟩
 have lt:∀h4∈rowsOf ps (CV zs),∀x∈h4,∃i:Nat,x=(i:Int)/\i<ws.length:=fun h4 hr x hx=>by obtain⟨z,_,rfl⟩:=inr h4 hr;obtain⟨i,e,h⟩:=(M8 z ps 0 x).mp hx;exact⟨i,by rw[e,J8],by rw[<-hl];exact(BY.mp h).1⟩
 have low:∀s m,Kv (rowsOf ps (CV zs)) s m->0<=b/\b<=m:=by
  rintro s m ⟨e,⟨r1,h9,hs⟩,se,all,e0,rfl⟩;obtain⟨s',rfl,h7⟩:=lt r1 h9 s hs;obtain⟨e',rfl,e5⟩:∃i:Nat,e=(i:Int)/\i<ws.length:=by
   rcases e0 with q|⟨r2,h5,q⟩
   ·exact⟨s',q,h7⟩
   ·exact lt r2 h5 e (NF q).1
  have:=st.low s' (e'+1) h7 (by lia) (by lia) fun z hz=>by obtain⟨x,e1,e2⟩:=all _ (h4 z hz);obtain⟨hx,e4⟩:=NF e1;obtain⟨i,e3,h⟩:=(M8 z ps 0 x).mp hx;rw[J8] at e3;exact⟨i,by lia,by lia,(hp i z).mpr h⟩
  lia
 refine W5 ⟨fun m hm=>?_,fun s m h=>?_⟩
 ·by_cases hb:b<0
  ·rw[AG hb] at hm;cases hm
  ·rw[AF hb] at hm;obtain rfl:b=m:=Ag hm;obtain⟨s,e,h1,h2,h3,cv,eb⟩:=st.snd (by lia);have all:∀h4∈rowsOf ps (CV zs),∃x,Fo (s:Int) h4=some x/\x<=(e:Int)-1:=fun h4 hr=>by obtain⟨z,hz,rfl⟩:=inr h4 hr;obtain⟨i,a,c,q⟩:=cv z hz;have hx:(i:Int)∈CM z 0 ps:=(M8 z ps 0 _).mpr ⟨i,by rw[J8],(hp i z).mp q⟩;obtain⟨x,e1,e2⟩:=YQ (s:=(s:Int)) (NL z ps 0) hx (by lia);exact⟨x,e1,by lia⟩
   have h8:∃h4∈rowsOf ps (CV zs),(s:Int)∈h4:=by
    rcases Classical.em (∃z∈zs,Jk ws s z) with⟨z,hz,q⟩|q
    ·exact⟨_,h4 z hz,(M8 z ps 0 _).mpr ⟨s,by rw[J8],(hp s z).mp q⟩⟩
    ·have c2:Fz ws zs (s+1) e:=fun z hz=>by obtain⟨i,a,c,r⟩:=cv z hz;have:i≠s:=fun z2=>q ⟨z,hz,z2▸r⟩;exact⟨i,by lia,c,r⟩
     have:s+1<e:=by
      cases zs with
      |nil=>exact absurd rfl h0
      |cons z zs=>
       obtain⟨i,a,c,_⟩:=c2 z Co
       lia
     have:=st.low (s+1) e (by lia) this h3 c2
     lia
   obtain⟨f,a,c,d⟩:=Yn (rows:=rowsOf ps (CV zs)) (fun z=>by obtain⟨r,hr,_⟩:=h8;rw[z] at hr;cases hr) all;obtain⟨r2,h5,q⟩:=c;have h6:Kv (rowsOf ps (CV zs)) s (f-s+1):=⟨f,h8,(NF q).2,d,.inr ⟨r2,h5,q⟩,rfl⟩;have:=low _ _ h6;exact⟨s,(show b=f-s+1 by lia)▸h6⟩
 ·obtain⟨h1,h2⟩:=low s m h;exact⟨b,AF (by lia),h2⟩
noncomputable def D6(ws:List Wd):List Str:=(ws.filter fun w=> !w.to).map (·.nm)
def many(ws:List Wd)(zs:List Str):Nat:=((D6 ws).filter fun x=>decide (x∈zs)).length
def jr{L:List Str}(nd:L.Nodup)(p:PR):((L.map fun z=>if p=(("word" :Str),z) then(1:Int) else 0).sum)=if p.1=("word" :Str)/\p.2∈L then 1 else 0:=by
 induction L with
 |nil=>rw[AF fun q=>by cases q.2];rfl
 |cons z L ih=>
  obtain⟨h1,h2⟩:=Ea.mp nd;rw[Au,Bv,ih h2];by_cases e:p=(("word" :Str),z)
  ·rw[AG e,AF fun q=>h1 (by rw[e] at q;exact q.2),AG ⟨by rw[e],by rw[e];exact Co⟩];rfl
  ·rw[AF e];by_cases t:p.1=("word" :Str)/\p.2∈L
   ·rw[AG t,AG ⟨t.1,Cn _ t.2⟩];rfl
   ·rw[AF t,AF fun q=>?_]
    ·rfl
    ·rcases BI.mp q.2 with y|y
     ·exact e (Prod.ext q.1 y)
     ·exact t ⟨q.1,y⟩
def marks_cons(L:List Str)(p:PR):∀(k:Nat)(ps:List PR),(L.map fun z=>((CM z k (p::ps)).length:Int)).sum=(L.map fun z=>if p=(("word" :Str),z) then(1:Int) else 0).sum+(L.map fun z=>((CM z (k+1) ps).length:Int)).sum:=fun k ps=>by
 induction L with
 |nil=>rfl
 |cons z L ih=>
  rw[Au,Au,Au,Bv,Bv,Bv,ih,CM];by_cases e:p=(("word" :Str),z)
  ·rw[AG e,AG e,An,Cm]
   lia
  ·rw[AF e,AF e,Oo]
   lia
def Vl(names:List (Str×Int)):∀(ws:List Wd)(k:Nat),((CV zs).map fun z=>((CM z k (ws.map (sh names))).length:Int)).sum=(many ws zs:Nat)
 |[],k=>by
  show((CV zs).map fun z=>((CM z k []).length:Int)).sum=0;generalize CV zs=L
  induction L with
  |nil=>rfl
  |cons z L ih=>rw[Au,Bv,ih];rfl
 |w::ws,k=>by
  rw[Au,marks_cons,Vl names ws (k+1),jr (dX zs)];unfold many D6
  cases t:w.to with
  |true=>
   rw[FV (by rw[t];decide),AF fun q=>?_]
   ·lia
   ·have:(sh names w).1=("to" :Str):=by unfold sh;rw[AG t]
    exact absurd (this.symm.trans q.1) (by left)
  |false=>
   rw[Et (by rw[t];rfl),Au,F8 t];by_cases hz:w.nm∈zs
   ·rw[AG ⟨rfl,O6.mpr hz⟩,Et (p:=fun x:Str=>decide (x∈zs)) (Bb hz),CG]
    lia
   ·rw[AF fun q=>hz (O6.mp q.2),FV (by simpa using hz)]
    lia
def mU(names:List (Str×Int))(ws:List Wd)(i:Nat)(z:Str):Jk ws i z↔(ws.map (sh names))[i]? =some (("word" :Str),z):=by
 rw[Az];constructor
 ·rintro⟨w,h1,h2,h3⟩;rw[h1,<-h3,<-F8 h2];rfl
 ·intro h
  cases e:ws[i]?with
  |none=>rw[e] at h;cases h
  |some w=>
   rw[e] at h;have h:sh names w=(("word" :Str),z):=Ag h
   cases t:w.to with
   |true=>
    have:(sh names w).1=("to" :Str):=by unfold sh;rw[AG t]
    rw[h] at this;exact absurd (show("word" :Str)="to" from this) (by left)
   |false=>rw[F8 t] at h;exact⟨w,e,t,BD Prod.snd h⟩
def jq{near:Int}(h0:zs≠[])(st:FF ws zs ws.length b):Cz (CV zs) near (nm,ws.map (sh names))=if 0<b/\b<=near then some [.inl b,.inl (0-(many ws zs:Nat)),.inr nm] else none:=by
 have e:=eG (mU names ws) (AJ _) h0 st;have m:NW (rowsOf (ws.map (sh names)) (CV zs))=(many ws zs:Nat):=by unfold NW rowsOf;rw[Bo];exact Vl names ws 0
 unfold Cz;rw[e,m];by_cases hb:b<0
 ·rw[AG hb,AF fun q=>by lia]
 ·have h1:0<b:=by
   obtain⟨s,e,_,h2,_,_,eb⟩:=st.snd (by lia)
   lia
  rw[AF hb];dsimp only;by_cases t:b<=near
  ·rw[AG t,AG ⟨h1,t⟩,Int.zero_sub]
  ·rw[AF t,AF fun q=>t q.2]
end
def Yh:Sp:=fun vs H Q _=>∃(a t:OK)(h0:Int)(zs:List Str)(H0:Hp)(n:Nk),vs=[.ref a,.ref t,.int h0]/\Cy H0 H a n/\Fits n/\Bd n/\n.names.length<=1000/\H t=some (.tup (zs.map V.str))/\zs≠[]/\zs.length<=9/\∀u H',AO H H'->Rep H' (IG (vw n) zs h0) u->Q u H'
def KU:A9 ["_law_nook","_law_wanted","_law_near","_law_rows","_law_name","_law_words","_law_length","_law_plain","_law_many"] ["_law_nook","_law_wanted","_law_near"] (Aq Td):=by left
def i9(F:Ak K "_law_hits" "_law_hits" Td f fd)(O:Own mg)(hso:mg "sorted" =none)
 (HSt:Hv P w K mg base "_law_stretch" 1 ["_law_words","_law_wanted"] ZO):AY P w K mg base Aj 2 f fd ["_law_nook","_law_wanted","_law_near"] Yh:=by
 refine F.ok KU ?_ ?_
 ·rintro _ _ _ _ ⟨_,_,_,_,_,_,rfl,_⟩;rfl
 ·rintro _ A _ s H _ Q E hr ⟨a,t,near,zs,H0,n,rfl,⟨an,r7,tx,nk⟩,r5,bd,t6,ht,s9,q3,q⟩;have h5:=Cq hr;refine⟨_,(AR (Av (i:=3) KU.nd rfl (Aa rfl) (CO AI)) (AR (DZ DX rfl (Fn (Gn (Ms rfl) rfl O.lst IY (AB (CY h5 (pv 0)) AI))) (Bg (i:=4) KU.nd rfl (Aa rfl))
   (AR (Av (i:=5) KU.nd rfl (Aa rfl) (D1 h5 (CY h5 (pv 0)) (D1 h5 (CY h5 (pv 0)) (pv 4) (fun _ _=>rfl)) (fun _ _=>rfl))) (AR (Av (i:=6) KU.nd rfl (Aa rfl) (DL HSt hr rfl BH (AB (pv 5) (AB (pv 1) AI)))) (AR (Su (i:=7) (ts:=["_law_word"]) (cap:=[]) (ix:=[]) (JJ rfl rfl (by left) (by left)) KU.nd rfl rfl (Fn (pv 5)) (fun _ _ _ _ _=>Bg (i:=0) K2 rfl (Aa rfl) (Cc rfl)) (fun _ _ _ _ _=>(La (Ar Ba (HE (pv 0)) AZ (Am _)))) (fun _ _ _ _ _=>(HE (pv 0)))) (AR (Av (i:=8) KU.nd rfl (Aa rfl) (BZ EM rfl O.len Cu (AB (E4 (ts:=["_law_word"]) (cap:=["_law_wanted"]) (ix:=[1]) (JK rfl rfl (by left) (by left) rfl rfl rfl rfl rfl) (Fn (pv 7)) (fun _ _ _ _ _=>Bg (i:=0) (IB (by left)) rfl (Aa rfl) (Cc rfl)) (fun _ _ _ _ _=>(La (Ar Z5 (pv 0) (pv 1) rfl))) (fun _ _ _ _ _=>(pv 0))) AI))) (AU (A0 (PW.pt (Eh (Ar QE (pv 6) AV (Am _)) (GB (Ar ZQ (pv 6) (pv 2) (Am _)))))
   (AU (Bf (Dh DE Dq Dm DN (pv 3) (AB (Bs (AB (pv 6) (AB (Ah Lf AV (pv 8)) (AB (pv 4) AI)))) AI))))
   BE))))))) (AU (As (E4 (ts:=["_law_row"]) (cap:=[]) (ix:=[]) (JJ rfl rfl (by left) (by left)) (Fn (BZ Rt rfl hso O3 (AB (pv 3) AI))) (fun _ _ _ _ _=>Bg (i:=0) K2 rfl (Aa rfl) (Cc rfl)) (fun _ _ _ _ _=>Gs) (fun _ _ _ _ _=>(Bs (AB (A3 (pv 0)) (AB (A3 (pv 0)) AI))))))))),?_⟩;refine⟨by exact zy,fun rq r1=>?_⟩;have s1:AO H (upd H rq (.lst [])):=Af r1;have h1:(upd H rq (.lst [])) rq=some (.lst []):=AM;generalize upd H rq (.lst [])=H1 at s1 h1;have s8:=nk.ext s1;refine⟨_,rfl,a,_,rfl,E2 s8.ha,an,_,rfl,s8.hn,fun L hL=>?_⟩;have ek:((GZ n.names).map fun kv=>kV kv.1)=n.names.map fun p=>V.str p.1:=by
   show(n.names.map _).map _=_;rw[Bo];rfl
  rw[ek];have s2:AO H (upd H1 L (.lst (n.names.map fun p=>V.str p.1))):=s1.trans (Af hL);have h2:=(Af (o:=.lst (n.names.map fun p=>V.str p.1)) hL) _ _ h1;have t5:H L=none:=s1.free hL;have q2:L≠rq:=(A7 h1 hL).symm;have e9:(upd H1 L (.lst (n.names.map fun p=>V.str p.1))) L=some (.lst (n.names.map fun p=>V.str p.1)):=AM;generalize upd H1 L (.lst (n.names.map fun p=>V.str p.1))=H2 at s2 h2 e9;refine⟨L,rfl,⟨_,AL.of e9⟩,KJ (K:=[]) (a:=L) (xs:=n.names.map fun p=>V.str p.1) (fun i σ H'=>∃(v4 v5 v6 v7 v8:Option V)(l:List (OK×List Key)),σ=[some (.ref a),some (.ref t),some (.int near),some (.ref rq),v4,v5,v6,v7,v8]/\AO H H'/\H' L=some (.lst (n.names.map fun p=>V.str p.1))/\
   H' rq=some (.lst (l.map fun p=>V.ref p.1))/\(∀q∈l,H' q.1=some (.tup (q.2.map kV))/\∃m c z,q.2=[.inl m,.inl c,.inr z])/\l.map (·.2)=((vw n).take i).filterMap (Cz (CV zs) near)) ⟨none,none,none,none,none,[],rfl,s2,e9,h2,fun q hq=>(by cases hq),rfl⟩ (fun i σ H' _ ⟨_,_,_,_,_,_,_,_,h,_⟩=>AL.of h) ?_ ?_⟩
  ·rintro i x σ H' hx ⟨v4,v5,v6,v7,v8,l,rfl,sm,r4,e5,hl,el⟩;rw[Az] at hx
   cases ep:n.names[i]?with
   |none=>rw[ep] at hx;cases hx
   |some p=>
   rw[ep] at hx;obtain rfl:V.str p.1=x:=Ag hx;obtain⟨nm,no⟩:=p;have r2:=JR bd.b.Ct ep;obtain⟨ws,e0,_⟩:=bd.b.text r2;have h4:=nk.ext sm;obtain⟨l1,h8,g1,e7,EV,r8,_⟩:=h4.find r5.Ce e0;have r6:=EI h4.hn nm;rw[r2] at r6;have d1:BW H' r7 (.int no) (some (.ref l1)):=by have:=BW.kq (k:=.inl no) h4.ht;rw[Ec E5,g1] at this;exact this
   have t1:(vw n)[i]? =some (nm,ws.map (sh n.names)):=by unfold vw;rw[Az,ep];show some (nm,Al n no)=_;unfold Al;rw[e0];rfl
   have q6:ws.length<=100000:=r5.words _ (Bc e0);have ll:l.length<=1000:=by
    have e1:=BD List.length el;have e2:=OR (Cz (CV zs) near) ((vw n).take i);have e3:=FY i (vw n);have e4:(vw n).length=n.names.length:=by unfold vw;rw[AJ]
    rw[AJ] at e1
    lia
   refine⟨_,rfl,a,_,rfl,Gk h4.ha,_,rfl,a,_,rfl,E2 h4.ha,_,rfl,an,_,rfl,r6,r7,_,rfl,d1,?_⟩;refine⟨_,rfl,_,rfl,l1,t,h8,ws,zs,rfl,⟨e7,EV,r8⟩,q6,sm _ _ ht,s9,q3,fun b H4 s4 st=>?_⟩;have e1:=jq (names:=n.names) (nm:=nm) (near:=near) s9 st;have s3:((vw n).take (i+1)).filterMap (Cz (CV zs) near)=((vw n).take i).filterMap (Cz (CV zs) near)++(Cz (CV zs) near (nm,ws.map (sh n.names))).toList:=by rw[C6,t1,Q3];show _++List.filterMap (Cz (CV zs) near) [_]=_;congr 1
   refine⟨_,rfl,l1,rfl,⟨_,AL.of (s4 _ _ e7)⟩,fun D hD=>F5 (K:=[]) (xs:=h8.map V.ref) (fun j H5=>CI H4 D ((D6 (ws.take j)).map Dt.str) H5) (CI.start hD) (fun j H5 _ c=>AL.of (c.same _ _ (s4 _ _ e7))) (fun j y H5 ey c=>?_) fun H5 c=>?_⟩
   ·rw[Az] at ey
    cases ea:h8[j]?with
    |none=>rw[ea] at ey;cases ey
    |some aw=>
    rw[ea] at ey;obtain rfl:V.ref aw=y:=Ag ey;have hj:j<ws.length:=by rw[<-EV];exact(BY.mp ea).1
    have s0:ws[j]? =some ws[j]:=Ap hj;generalize ws[j]=wd at s0;have r3:H5 aw=some (.lst wd.vq):=c.same _ _ (s4 _ _ (r8 j aw wd ea s0));have ef:D6 (ws.take (j+1))=D6 (ws.take j)++(([wd].filter fun w=> !w.to).map (·.nm)):=by unfold D6;rw[C6,s0,MO,BF];rfl
    refine⟨FH,_,rfl,aw,_,_,_,rfl,rfl,AL.of r3,Bh (j:=0) rfl,rfl,_,rfl,?_⟩
    cases tw:wd.to with
    |true=>
     have s7:D6 (ws.take (j+1))=D6 (ws.take j):=by rw[ef,FV (by rw[tw];decide)];exact Cp _
     rw[s7];exact B1 (by rw[AG rfl];exact HI (by left)) c
    |false=>
     have s7:D6 (ws.take (j+1))=D6 (ws.take j)++[wd.nm]:=by rw[ef,Et (by rw[tw];rfl)];rfl
     rw[s7,BF];refine Bp (by rw[AF (by decide)]) ⟨_,rfl,aw,_,_,.str wd.nm,rfl,rfl,AL.of r3,Bh (j:=1) rfl,c.push (d:=.str wd.nm) (.str _) ?_⟩;unfold D6;rw[AJ,AJ];have f1:=EY (fun w:Wd=> !w.to) (ws.take j);have f2:=FY j ws
     lia
   rw[AJ,EV,CT] at c;obtain⟨yp,r0,r9⟩:=c.lst;obtain rfl:=LP r9;have s5:=s4.trans c.same;have t4:(D6 ws).length<=100000:=by
    unfold D6;rw[AJ];have f1:=EY (fun w:Wd=> !w.to) ws
    lia
   refine⟨_,rfl,D,rfl,⟨_,AL.of r0⟩,fun D2 q9=>F5 (K:=[]) (xs:=(D6 ws).map V.str) (fun j H6=>CI H5 D2 ((((D6 ws).take j).filter fun x=>decide (x∈zs)).map Dt.str) H6) (CI.start q9) (fun j H6 _ c=>AL.of (c.same _ _ r0)) (fun j y H6 ey c=>?_) fun H6 c=>?_⟩
   ·rw[Az] at ey
    cases ez:(D6 ws)[j]?with
    |none=>rw[ez] at ey;cases ey
    |some z=>
    rw[ez] at ey;obtain rfl:V.str z=y:=Ag ey;have fl:(zs.map V.str).all Im=true:=by rw[List.all_map];exact Ma.mpr fun _ _=>rfl
    have t3:En (.str z) (zs.map V.str)=decide (z∈zs):=by
     unfold En;rw[Oz];by_cases h:z∈zs
     ·rw[Bb h];exact IT.mpr ⟨z,h,HV z⟩
     ·rw[BN h];exact List.any_eq_false.mpr fun x hx q=>h ((show x=z from Fd.mp q)▸hx)
    rw[take_succ_filter ez];refine⟨FH,_,rfl,_,rfl,t,_,rfl,.inr (AS.of (c.same _ _ (s5 _ _ (sm _ _ ht)))),rfl,fl,_,rfl,?_⟩;show if En (.str z) (zs.map V.str)=true then _ else _;rw[t3];by_cases h:z∈zs
    ·rw[AG (Bb h),AG (Bb h),BF];refine⟨_,rfl,c.push (d:=.str z) (.str _) ?_⟩;rw[AJ];have f1:=EY (fun x:Str=>decide (x∈zs)) ((D6 ws).take j);have f2:=FY j (D6 ws)
     lia
    ·rw[AF (by simpa using h),AF (by simpa using h),Cp];exact c
   rw[AJ,CT] at c;obtain⟨ym,q5,q0⟩:=c.lst;have t0:ym.length=many ws zs:=by have:=q0.1;rw[AJ] at this;exact this.symm
   refine⟨D2,ym,rfl,.inl (AL.of q5),?_⟩;rw[t0];have s6:=s5.trans c.same;have h9:=sm.trans s6;have e8:=s6 _ _ r4;have h3:=s6 _ _ e5;have h7:∀q∈l,H6 q.1=some (.tup (q.2.map kV))/\∃m c z,q.2=[.inl m,.inl c,.inr z]:=fun q hq=>⟨s6 _ _ (hl q hq).1,(hl q hq).2⟩;refine⟨_,rfl,_,_,rfl,rfl,_,rfl,?_⟩;by_cases hb:0<b
   ·refine Bp hb ⟨_,rfl,_,rfl,_,_,rfl,rfl,_,rfl,?_⟩;by_cases hn:b<=near
    ·rw[AG ⟨hb,hn⟩] at e1;refine Bp hn ⟨_,rfl,.inl ⟨rfl,_,AL.of h3⟩,_,rfl,_,rfl,_,_,rfl,rfl,_,rfl,by exact z_0,fun tp h6=>?_⟩;have st:=Af (o:=.tup [.int b,.int (0-(many ws zs:Nat)),.str nm]) h6;have q1:tp≠rq:=(A7 h3 h6).symm;refine⟨rq,_,_,rfl,rfl,st _ _ h3,by rw[AJ,A8];lia,_,_,_,_,_,l++[(tp,[.inl b,.inl (0-(many ws zs:Nat)),.inr nm])],rfl,(h9.trans st).upd r1,by rw[AN q2];exact st _ _ e8,?_,fun q hq=>?_,?_⟩
     ·rw[AM,BF];rfl
     ·rcases BS.mp hq with e|e
      ·refine⟨?_,(h7 q e).2⟩;have h1:=st _ _ (h7 q e).1;rw[AN (CH h1 (st _ _ h3) (by intro z;cases z))];exact h1
      ·rw[BR.mp e];refine⟨?_,_,_,_,rfl⟩;rw[AN q1,AM];rfl
     ·rw[BF,el,s3,e1];rfl
    ·rw[AF fun q=>hn q.2] at e1;exact B1 hn ⟨_,_,_,_,_,l,rfl,h9,e8,h3,h7,by rw[s3,e1,el];simp⟩
   ·rw[AF fun q=>hb q.1] at e1;exact B1 hb (BK ⟨_,_,_,_,_,l,rfl,h9,e8,h3,h7,by rw[s3,e1,el];simp⟩)
  ·rintro σ H' ⟨v4,v5,v6,v7,v8,l,rfl,sm,r4,e5,hl,el⟩;have e4:(vw n).length=n.names.length:=by unfold vw;rw[AJ]
   rw[AJ,<-e4,CT] at el;have ll:l.length<=1000:=by
    have e1:=BD List.length el;have e2:=OR (Cz (CV zs) near) (vw n);rw[AJ] at e1
    lia
   refine⟨_,rfl,rq,l,[kd (.inl 0),kd (.inl 0),kd (.inr "")],rfl,AL.of e5,(by intro z;cases z),fun q hq=>⟨(hl q hq).1,?_⟩,by lia,fun DS qs q8 e6 q7=>?_⟩
   ·obtain⟨m,c,z,e⟩:=(hl q hq).2;rw[e];rfl
   have sS:=Af (o:=.lst (qs.map fun p=>V.ref p.1)) q8;have h0:(upd H' DS (.lst (qs.map fun p=>V.ref p.1))) DS=some (.lst (qs.map fun p=>V.ref p.1)):=AM;generalize upd H' DS (.lst (qs.map fun p=>V.ref p.1))=H3 at sS h0;have t2:qs.map (·.2)=HG lexOrd (N6 (vw n) zs near):=Pp lexOrd ((e6.map _).trans (.of_eq el)) (MU.mpr q7);refine⟨DS,rfl,⟨_,AL.of h0⟩,fun D hD=>F5 (K:=[]) (xs:=qs.map fun p=>V.ref p.1) (fun j H4=>CI H3 D (((qs.take j).map (·.2)).map Hs) H4) (CI.start hD) (fun j H4 _ c=>AL.of (c.same _ _ h0)) (fun j y H4 ey c=>?_) fun H4 c=>?_⟩
   ·rw[Az] at ey
    cases ez:qs[j]?with
    |none=>rw[ez] at ey;cases ey
    |some z=>
    rw[ez] at ey;obtain rfl:V.ref z.1=y:=Ag ey;obtain⟨h1,m,cc,nm,e⟩:=hl z (e6.mem_iff.mp (CA ez));have hz:=c.same _ _ (sS _ _ h1);rw[e] at hz;rw[J7 ez,BF];refine⟨FH,_,rfl,z.1,_,2,.str nm,rfl,rfl,AS.of hz,rfl,_,rfl,z.1,_,0,.int m,rfl,rfl,AS.of hz,rfl,by exact zv,fun tp h6=>?_⟩;obtain⟨z5,q4,_⟩:=c.lst;have nt:tp≠D:=(A7 q4 h6).symm;refine(c.ext (Af h6)).push (d:=Hs z.2) ?_ ?_
    ·rw[e];exact Rep.FT (Ex.at AM nt) (Ab.snoc (Ab.snoc Ab.nil (.str _)) (.int _))
    ·rw[AJ,AJ];have f1:=FY j qs;have f2:=e6.length_eq
     lia
   ·rw[AJ,CT,t2] at c;exact q _ _ (sm.trans (sS.trans c.same)) c.done
inductive Fy:Dt->Prop
 |int {i:Int}:Fy (.int i)
 |str {x:Str}:Fy (.str x)
 |tup {ds:List Dt}:(∀d∈ds,Fy d)->Fy (.tup ds)
def Rq{zs:List V}(hD:H D=some (.lst zs)){d:Dt}(r:Rep H d v)(n:Fy d):Rep (Ex H D) d v:=by
 induction r with
 |bl b=>exact .bl b
 |int i=>exact .int i
 |str x=>exact .str x
 |lst h hl _ ih=>cases n
 |tup h hl _ ih=>
  cases n with
  |tup n=>exact .tup (Ex.at h (CH h hD (by intro z;cases z))) hl fun i d x h1 h2=>ih i d x h1 h2 (n d (CA h1))
def jh(ws:List Str):∀d∈ws.map Dt.str,Fy d:=fun d hd=>by obtain⟨z,_,rfl⟩:=BA.mp hd;exact .str
def QZ{a b:Dt}(h1:Fy a)(h2:Fy b):Fy (.tup [a,b]):=.tup fun d hd=>by
 rcases BI.mp hd with e|e
 ·rw[e];exact h1
 ·rw[BR.mp e];exact h2
def PM{a:Dt}{l:List Dt}(h1:Fy a)(h2:Fy (.tup l)):Fy (.tup (a::l)):=.tup fun d hd=>by
 rcases BI.mp hd with e|e
 ·rw[e];exact h1
 ·cases h2 with
  |tup h=>exact h d e
def Aw.Ul(d:Aw):Fy d.dt:=by cases d<;>first|exact QZ .str .str|exact PM .str (QZ .str .str)|exact PM .str (QZ (.tup (jh _)) .int)|exact PM .str (PM .str (QZ .int .str))
def iQ{zs:List V}(hD:H D=some (.lst zs)){ds:List Aw}(r:Ab H (ds.map Aw.dt) xs):Ab (Ex H D) (ds.map Aw.dt) xs:=⟨r.1,fun i d x h1 h2=>by have:=CA h1;obtain⟨e,_,rfl⟩:=BA.mp this;exact Rq hD (r.2 i _ x h1 h2) e.Ul⟩
structure ED(G H:Hp)(L M:OK)(ds ms:List Aw)(xs ys:List V):Prop where
 same:AO G H
 fl:G L=none
 fm:G M=none
 ne:L≠M
 hl:H L=some (.lst xs)
 hm:H M=some (.lst ys)
 rl:Ab H (ds.map Aw.dt) xs
 rm:Ab H (ms.map Aw.dt) ys
section
variable{G:Hp}{M:OK}{ds ms:List Aw}{d:Aw}{x:V}
def ED.ext(t:ED G H L M ds ms xs ys)(s:AO H H'):ED G H' L M ds ms xs ys:=⟨t.same.trans s,t.fl,t.fm,t.ne,s _ _ t.hl,s _ _ t.hm,t.rl.same s,t.rm.same s⟩
def O8{zs:List V}{o:HO}(hD:H D=some (.lst zs))(r:Ab H (ds.map Aw.dt) xs):Ab (upd H D o) (ds.map Aw.dt) xs:=(iQ hD r).same Ic
def ED.Lq(t:ED G H L M ds ms xs ys)(r:Rep H d.dt x):ED G (upd H M (.lst (ys++[x]))) L M ds (ms++[d]) xs (ys++[x]):=
 ⟨t.same.upd t.fm,t.fl,t.fm,t.ne,by rw[AN t.ne];exact t.hl,AM,O8 t.hm t.rl,by rw[BF];exact(O8 t.hm t.rm).snoc ((Rq t.hm r d.Ul).same Ic)⟩
def ED.putL(t:ED G H L M ds ms xs ys)(r:Rep H d.dt x):ED G (upd H L (.lst (xs++[x]))) L M (ds++[d]) ms (xs++[x]) ys:=
 ⟨t.same.upd t.fl,t.fl,t.fm,t.ne,AM,by rw[AN t.ne.symm];exact t.hm,by rw[BF];exact(O8 t.hl t.rl).snoc ((Rq t.hl r d.Ul).same Ic),O8 t.hl t.rm⟩
def ED.N8(t:ED G H L M ds ms xs ys):xs.length=ds.length/\ys.length=ms.length:=by have h1:=t.rl.1;have h2:=t.rm.1;rw[AJ] at h1 h2;exact⟨h1.symm,h2.symm⟩
def FD(d:Aw):Prop:=d.Good/\∃ws h0,d=.find ws h0/\ws≠[]
noncomputable def K5(AE:List Pg):Aw->Dt
 |.find ws far=>IG AE ws far
 |_=>.lst []
def ZP(h:FD d):E8 AE d=.ok (K5 AE d) AE:=by obtain⟨_,ws,h1,rfl,h0⟩:=h;exact AF h0
def Yr:∀{ms:List Aw}{AE:List Pg},(∀d∈ms,FD d)->DA AE ms=AE
 |[],_,_=>rfl
 |d::ms,AE,h=>by show DA ((E8 AE d).next AE) ms=AE;rw[ZP (h d Co)];exact Yr fun e he=>h e (Cn _ he)
def Xl:∀(xs ys:List Aw)(AE:List Pg),DA AE (xs++ys)=DA (DA AE xs) ys
 |[],_,_=>rfl
 |_::xs,ys,_=>Xl xs ys _
def jK{zs:List V}(t:Told [] (ds++ms) H zs)(hz:zs.length=(ds++ms).length)(hm:∀d∈ms,FD d):Ab H (ms.map (K5 (DA [] ds))) (zs.drop ds.length):=by
 rw[An] at hz;refine⟨by rw[AJ,Dr];lia,fun i d x h1 h2=>?_⟩;rw[Az] at h1
 cases e:ms[i]?with
 |none=>rw[e] at h1;cases h1
 |some m=>rw[e] at h1;cases Ag h1;rw[Jx] at h2;refine t (ds.length+i) m x _ (by rw[Cj (Nat.le_add_right _ _),Nat.add_sub_cancel_left];exact e) h2 ?_;rw[List.take_length_add_append,Xl,Yr fun e he=>hm e (FX he),ZP (hm m (CA e))];rfl
def Xa:∀l:List (List Key),Dt.CW (l.map Hs)<=3*l.length
 |[]=>Ae _
 |k::l=>by
  have:=Xa l;rw[Au,CG];show(Hs k).sz+Dt.CW (l.map Hs)<=_;have:(Hs k).sz<=3:=by
   unfold Hs;split
   ·exact Ae _
   ·show 1+0<=3;decide
  lia
def kF(AE:List Pg)(ws:List Str)(far:Int):(IG AE ws far).sz<=1+3*AE.length:=by
 unfold IG;show 1+Dt.CW _<=_;have h1:=Xa (HG lexOrd (N6 AE ws far));rw[(LO lexOrd _).length_eq] at h1;have h2:(N6 AE ws far).length<=AE.length:=OR _ _
 lia
def Yq(AE:List Pg):∀ms:List Aw,Dt.CW (ms.map (K5 AE))<=ms.length*(1+3*AE.length)
 |[]=>CC _
 |d::ms=>by
  have ih:=Yq AE ms;have h:(K5 AE d).sz<=1+3*AE.length:=by
   cases d with
   |find ws h0=>exact kF AE ws h0
   |_=>exact Nat.le_add_right 1 _
  rw[Au,CG,Nat.succ_mul];show(K5 AE d).sz+Dt.CW (ms.map (K5 AE))<=_
  lia
end
def Te(K:tW):Sp:=fun vs H Q _=>∃(a:OK)(ns:List Int),vs=[.ref a]/\AL K H a (ns.map V.int)/\ns.length<=63/\∀H',Q (.bl true) H'
def aA(K:tW):Sp:=fun vs H Q _=>∃(a:OK)(ns:List Int)(m b:Int),vs=[.ref a,.int m,.int b]/\AL K H a (ns.map V.int)/\ns.length<=63/\Q (.int m) H
def jw(ns:List Int)(b:Nat):∃ms:List Int,CP (ns.map V.int) (some 2) (some (2+(b:Int)))=ms.map V.int/\ms.length<=b:=by
 unfold CP;refine⟨(ns.drop (Ax (ns.map V.int).length 0 (some 2))).take (Ax (ns.map V.int).length (ns.map V.int).length (some (2+(b:Int)))-Ax (ns.map V.int).length 0 (some 2)),by rw[LD,Mm],?_⟩;have e1:=JM (ns.map V.int).length 0 2;have e2:=JM (ns.map V.int).length (ns.map V.int).length (2+b);rw[show(some (((2+b:Nat)):Int))=some (2+(b:Int)) by rw[Int.natCast_add];rfl] at e2;rw[Be,Dr,e2,show(some (2:Int))=some ((2:Nat):Int) from rfl,e1]
 lia
def aC(K:tW):Sp:=fun vs H Q _=>∃(a:OK)(ns:List Int)(k:Nat),vs=[.ref a,.int k]/\AL K H a (ns.map V.int)/\Q (.int (ns.getD k 0)) H
def gy(zs:List V)(k:Nat)(h:k<=zs.length):CP zs (some (k:Int)) none=zs.drop k:=by unfold CP;rw[JM,XG,HY h];exact Eu (by rw[Dr];lia)
def qB:A9 ["_law_script","_law_most","_law_bound"] ["_law_script","_law_most","_law_bound"] (Aq P1):=by left
def nv(F:Ak K "_law_room" "_law_room" P1 f fd)(O:Own mg):AY P w K mg base Aj 1 f fd ["_law_script","_law_most","_law_bound"] (aA K):=by
 refine F.ok qB ?_ ?_
 ·rintro _ _ _ _ ⟨_,_,_,_,rfl,_⟩;rfl
 ·rintro _ A _ s H _ Q E hr ⟨a,ns,m,b,rfl,hS,hl,q⟩;refine⟨_,AR (A0 (Ar QE (BZ IW rfl O.len Cu (AB (pv 0) AI)) AV (Am _)) (AU (As (pv 2))) BE) (AU (As (pv 1))),?_⟩;refine⟨_,rfl,a,_,rfl,.inl hS,_,_,rfl,rfl,_,rfl,B1 (by rw[AJ];lia) ⟨_,rfl,q⟩⟩
def pQ:A9 ["_law_script","_law_k"] ["_law_script","_law_k"] (Aq Qc):=by left
def oG(F:Ak K "_law_at" "_law_at" Qc f fd)(O:Own mg):AY P w K mg base Aj 1 f fd ["_law_script","_law_k"] (aC K):=by
 refine F.ok pQ ?_ ?_
 ·rintro _ _ _ _ ⟨_,_,_,rfl,_⟩;rfl
 ·rintro _ A _ s H _ Q E hr ⟨a,ns,k,rfl,hS,q⟩;refine⟨_,AR (A0 (Ar Hn (pv 1) (BZ IW rfl O.len Cu (AB (pv 0) AI)) (Am _)) (AU (As (Bz Xi (pv 0) (pv 1) (fun _ _=>rfl)))) BE) (AU (As AV)),?_⟩;refine⟨_,rfl,_,rfl,a,_,rfl,.inl hS,_,_,rfl,rfl,_,rfl,?_⟩;by_cases h:(k:Int)<((ns.map V.int).length:Nat)
  ·refine Bp h ?_;rw[AJ] at h;have hk:k<ns.length:=by lia
   refine⟨_,rfl,_,rfl,a,_,_,.int (ns.getD k 0),rfl,rfl,hS,Bh ?_,q⟩;rw[Az,Ap hk,Ck,Ap hk];rfl
  ·refine B1 h ?_;rw[AJ] at h;have hk:ns.length<=k:=by lia
   rw[Ck,F1 hk] at q;exact q
def UW:List hX:=match(E3 Km).getD 2 (.Pass ⟨0,0,0,0⟩) with|.For _ _ b _ _=>(match b.getD 1 (.Pass ⟨0,0,0,0⟩) with|.Assign _ (.Tuple v _ _) _=>v|_=>[])|_=>[]
noncomputable def Ft:List Str:=["oak","elm","oaks","Oak","[a]","oak","oa","a[b]","elmelmelm"]
def kM:Je UW=some Ft:=by left
def fz:∀z∈Ft,z.length<=9:=by left
def fe(ws:List Str)(lo hi:Nat)(h1:lo<hi)(h2:hi<=ws.length):∃vs:List Str,CP (ws.map V.str) (some (lo:Int)) (some (hi:Int))=vs.map V.str/\vs.length=hi-lo/\∀z∈vs,z∈ws:=by unfold CP;refine⟨(ws.drop lo).take (hi-lo),?_,by rw[Be,Dr];lia,fun z hz=>Jv (FX hz)⟩;rw[AJ,JM,JM,HY (show lo<=ws.length by lia),HY h2,LD,Mm]
def G9:A9 ["_law_script","_law_asked","_law_more","_law_k","_law_seed","_law_words","_law_wanted","_law_found","_law_nook","_law_due"] ["_law_script"] (Aq Km):=by left
def ko{fRo fAt:OK}{fdRo fdAt:qk}(F:Ak K "law" "law" Km f fd)(O:Own mg)
 (HDe:Hv P w K mg base "_law_deeds" 3 ["_law_cells"] YB)
 (FRo:Ak K "_law_room" "_law_room" P1 fRo fdRo)(bRo:Binds K fdRo ["_law_script","_law_most","_law_bound"] [])(mRo:mg "_law_room" =some (.ref fRo))
 (FAt:Ak K "_law_at" "_law_at" Qc fAt fdAt)(bAt:Binds K fdAt ["_law_script","_law_k"] [])(mAt:mg "_law_at" =some (.ref fAt))
 (HAn:Hv P w K mg base "answers" 9 ["deeds"] V5)
 (HPy:Hv P w K mg base "_law_played" 4 ["_law_asked"] Wm)
 (HAl:Hv P w K mg base "_law_alike" 2 ["_law_found","_law_due"] aD)
 (HHi:Hv P w K mg base "_law_hits" 2 ["_law_nook","_law_wanted","_law_near"] Yh):
 AY P w K mg base Aj 11 f fd ["_law_script"] (Te K):=by
 have b3:AY P w K mg base Aj 1 fRo fdRo ["_law_script","_law_most","_law_bound"] (aA K):=nv FRo O;have r5:AY P w K mg base Aj 1 fAt fdAt ["_law_script","_law_k"] (aC K):=oG FAt O;refine F.ok G9 ?_ ?_
 ·rintro _ _ _ _ ⟨_,_,rfl,_⟩;rfl
 ·rintro _ A _ s H _ Q E hr ⟨a,ns,rfl,hS,s4,k⟩;refine⟨_,(AR (Av (i:=1) G9.nd rfl (Aa rfl) (DL HDe hr.mn rfl BH (AB (Ed PV (pv 0) (DF AV) (DF (Ah Cb AV (Ca b3 hr.mn rfl mRo FRo.kp bRo .nil BH (AB (pv 0) (AB AV (AB AV AI))))))) AI))) (AR (Av (i:=2) G9.nd rfl (Aa rfl) (CO AI)) (AR (DZ DX rfl (M5 rfl O.IK (AB AV AI)) (Bg (i:=3) G9.nd rfl (Aa rfl))
   (AR (Av (i:=4) G9.nd rfl (Aa rfl) (Ah Hg (Ah Cb (Ca r5 hr.mn rfl mAt FAt.kp bAt .nil BH (AB (pv 0) (AB AV AI))) (Ca r5 hr.mn rfl mAt FAt.kp bAt .nil BH (AB (pv 0) (AB AV AI)))) (Ah Cb (pv 3) AV))) (AR (Av (i:=5) G9.nd rfl (Aa rfl) (@Bs _ UW _ _ _ (@PY _ UW Ft kM))) (AR (Av (i:=6) G9.nd rfl (Aa rfl) (Ed Tz (pv 5) (DF (Ah Bm (pv 4) AV)) (DF (Ah Cb (Ah Cb (Ah Bm (pv 4) AV) AV) (Ah Bm (Ah Cb (Ah Hg (pv 4) AV) (pv 3)) AV))))) (AR (A0 (Ar Ba (Ah Bm (pv 4) AV) AV (Am _))
   (AU (Av (i:=6) G9.nd rfl (Aa rfl) (Ah nV (pv 6) (Ed qa (pv 6) JS (DF AV)))))
   BE) (AR (Bf (Dh DE Dq Dm DN (pv 2) (AB (Bs (AB AZ (AB (pv 6) (AB (Ah Nh AV AV) AI)))) AI))) (AU (Bf (Dh DE Dq Dm DN (pv 2) (AB (Bs (AB AZ (AB (pv 6) (AB (Ah Bm (Ah Hg (pv 4) AV) AV) AI)))) AI)))))))))) (AR (Bf (Dh DE Dq Dm DN (pv 2) (AB (Bs (AB AZ (AB (Bs (AB AZ AI)) (AB (Ah Nh AV AV) AI)))) AI))) (AR (A0 (Ar Ba (Ah Bm (Ca r5 hr.mn rfl mAt FAt.kp bAt .nil BH (AB (pv 0) (AB AV AI))) AV) AV (Am _))
   (AR (Bf (Dh DE Dq Dm DN (pv 1) (AB (Bs (AB AZ (AB AZ (AB AZ AI)))) AI))) (AR (Bf (Dh DE Dq Dm DN (pv 1) (AB (Bs (AB AZ (AB AZ (AB AZ AI)))) AI))) (AR (Bf (Dh DE Dq Dm DN (pv 1) (AB (Bs (AB AZ (AB AZ (AB AZ AI)))) AI))) (AU (Bf (Dh DE Dq Dm DN (pv 2) (AB (Bs (AB AZ (AB (Bs (AB AZ (AB AZ (AB AZ AI)))) (AB AV AI)))) AI)))))))
   BE) (AR (Av (i:=7) G9.nd rfl (Aa rfl) (DL HAn hr.mn rfl BH (AB (Ah KW (pv 1) (pv 2)) AI))) (AR (Av (i:=8) G9.nd rfl (Cc rfl) (DL HPy hr.mn rfl BH (AB (pv 1) AI))) (AR (A0 (PW.pt (Ie (JV (Eg (BZ HH rfl O.GX GG (AB (pv 7) (AB (Fg (v:=.ty "list") rfl O.lst IY rfl) AI))))) (Ib (Ar GH (BZ EM rfl O.len Cu (AB (pv 7) AI)) (Ah Cb (BZ EM rfl O.len Cu (AB (pv 1) AI)) (BZ EM rfl O.len Cu (AB (pv 2) AI))) (Am _)))))
   (AU (As Ih))
   BE) (AR (Su (i:=9) (ts:=["_law_deed"]) (cap:=["_law_nook"]) (ix:=[8]) (JK rfl rfl (by left) (by left) rfl rfl rfl rfl rfl) G9.nd rfl rfl (Fn (pv 2)) (fun _ _ _ _ _=>Bg (i:=0) (IB (by left)) rfl (Aa rfl) (Cc rfl)) (fun _ _ _ _ _=>Gs) (fun _ _ _ _ _=>SJ (DL HHi hr.mn rfl BH (AB (pv 1) (AB (A3 (pv 0)) (AB (A3 (pv 0)) AI)))))) (AU (As (DL HAl hr.mn rfl BH (AB (Ed T3 (pv 7) (DF (BZ EM rfl O.len Cu (AB (pv 1) AI))) JS) (AB (pv 9) AI)))))))))))))),?_⟩;obtain⟨a0,em,a5⟩:=jw ns 28;refine⟨_,rfl,_,rfl,_,rfl,a,ns,28,100,rfl,hS,s4,_,_,rfl,rfl,_,rfl,a,_,rfl,hS,fun p hp=>?_⟩;refine⟨p,a0,rfl,AL.of (by rw[AM];exact BD (fun z=>some (HO.lst z)) em),by lia,fun L e7 e5 H1 s1 q7 r0 r8 b7 h7=>?_⟩;have s6:AL K (upd H p (.lst (CP (ns.map V.int) (some 2) (some (2+28))))) a (ns.map V.int):=(Af hp).seq hS;generalize upd H p (.lst (CP (ns.map V.int) (some 2) (some (2+28))))=e4 at s1 q7 s6;have a7:e7.length<=28:=by lia
  refine⟨by exact zy,fun M hM=>?_⟩;have t0:ED e4 (upd H1 M (.lst [])) L M e7 [] e5 []:=⟨s1.upd (s1.free hM),q7,s1.free hM,A7 r0 hM,(Af hM) _ _ r0,AM,(r8.same Ex.sub).same (Af hM),Ab.nil⟩;generalize upd H1 M (.lst [])=H2 at t0;clear r0 r8 s1 hM a5 em;refine⟨3,rfl,by decide,by decide,KD (lo:=0) (n:=(3:Int).toNat) (fun i σ H'=>∃(v3 v4 v5 v6:Option V)(ms:List Aw)(ys:List V),σ=[some (.ref a),some (.ref L),some (.ref M),v3,v4,v5,v6,none,none,none]/\ED e4 H' L M e7 ms e5 ys/\(∀d∈ms,FD d)/\ms.length=2*i) ⟨_,_,_,_,[],[],rfl,t0,fun d hd=>(by cases hd),rfl⟩ ?_ ?_⟩
  ·rintro i σ H' hi ⟨v3,v4,v5,v6,ms,ys,rfl,tw,h9,e8⟩;have Ep:i<3:=hi;have q6:=tw.same.seq s6;refine⟨_,rfl,a,ns,0,rfl,q6,_,rfl,a,ns,1,rfl,q6,_,_,rfl,rfl,_,rfl,_,_,rfl,rfl,_,_,rfl,rfl,⟨by lia,by lia⟩,?_⟩;dsimp only[DT];generalize(ns.getD 0 0+ns.getD 1 0)/(0+(i:Int)+1)=sd;refine⟨by show 9<=sizeLine;decide,fun W0 a9=>?_⟩;have hW:(upd H' W0 (.tup (Ft.map V.str))) W0=some (.tup (Ft.map V.str)):=AM;have tw:=tw.ext (Af (o:=.tup (Ft.map V.str)) a9);generalize upd H' W0 (.tup (Ft.map V.str))=H3 at tw hW;have b5:0<=sd%7/\sd%7<7:=⟨Mc _ (by decide),MP _ (by decide)⟩;have b6:0<=(sd/7+(0+(i:Int)))%3/\(sd/7+(0+(i:Int)))%3<3:=⟨Mc _ (by decide),MP _ (by decide)⟩;obtain⟨lo,q9⟩:∃lo:Nat,sd%7=(lo:Int):=⟨(sd%7).toNat,by lia⟩;obtain⟨hh,t4⟩:∃hh:Nat,sd%7+1+(sd/7+(0+(i:Int)))%3=(hh:Int):=⟨(sd%7+1+(sd/7+(0+(i:Int)))%3).toNat,by lia⟩;obtain⟨vs,b2,r9,t9⟩:=fe Ft lo hh (by lia) (by show hh<=9;lia);refine⟨_,rfl,_,rfl,_,_,rfl,rfl,(by show(0:Int)<7;decide),_,rfl,_,rfl,_,_,rfl,rfl,(by show(0:Int)<7;decide),_,_,rfl,rfl,_,rfl,_,_,rfl,rfl,⟨by decide,by decide⟩,_,rfl,_,_,rfl,rfl,_,_,rfl,rfl,(by show(0:Int)<3;decide),_,_,rfl,rfl,_,rfl,W0,_,rfl,AS.of hW,?_,fun W1 a8=>?_⟩
   ·rintro⟨h1,h2⟩;rw[q9,JM] at h1;rw[t4,JM] at h2;have:(Ft.map V.str).length=9:=rfl;rw[this] at h1 h2
    lia
   have r4:CP (Ft.map V.str) (some (sd%7)) (some (sd%7+1+(sd/7+(0+(i:Int)))%3))=vs.map V.str:=by rw[t4,q9];exact b2
   have h4:(upd H3 W1 (.tup (CP (Ft.map V.str) (some (sd%7)) (some (sd%7+1+(sd/7+(0+(i:Int)))%3))))) W1=some (.tup (vs.map V.str)):=by rw[AM,r4]
   have tw:=tw.ext (Af (o:=.tup (CP (Ft.map V.str) (some (sd%7)) (some (sd%7+1+(sd/7+(0+(i:Int)))%3)))) a8);generalize upd H3 W1 (.tup (CP (Ft.map V.str) (some (sd%7)) (some (sd%7+1+(sd/7+(0+(i:Int)))%3))))=H4 at tw h4;have HI:vs≠[]:=fun z=>by rw[z] at r9;have:(0:Nat)=hh-lo:=r9;lia
   have b4:vs.length<=3:=by lia
   have e0:∀z∈vs,z.length<=9:=fun z hz=>fz z (t9 z hz);dsimp only[DT];refine JH (fun σ H5=>∃(W:OK)(vs:List Str),σ=[some (.ref a),some (.ref L),some (.ref M),some (.int (0+(i:Int))),some (.int sd),some (.ref W0),some (.ref W),none,none,none]/\ED e4 H5 L M e7 ms e5 ys/\H5 W=some (.tup (vs.map V.str))/\vs≠[]/\vs.length<=9/\∀z∈vs,z.length<=9) ?_ ?_
   ·rintro σ H5 ⟨W,vs,rfl,tw,hW,HI,v9,e0⟩;have b1:∀e6,FD (.find vs e6):=fun e6=>⟨⟨v9,e0⟩,vs,e6,rfl,HI⟩;have ly:=tw.N8;refine⟨_,rfl,.inl ⟨rfl,_,AL.of tw.hm⟩,_,rfl,_,_,rfl,rfl,⟨by decide,by decide,by left⟩,by exact z_0,fun tp e3=>?_⟩;have sp:=Af (o:=.tup [.str "find",.ref W,.int (10^Int.toNat 9)]) e3;have e1:=tw.ext sp;refine⟨M,ys,_,rfl,rfl,e1.hm,by rw[A8];lia,?_⟩;have h3:=e1.Lq (d:=.find vs (10^Int.toNat 9)) (x:=.ref tp) (Rep.FT AM (Ab.snoc (Ab.snoc (Ab.snoc Ab.nil (.str _)) (Rep.FT (sp _ _ hW) (LU vs))) (.int _)));have q5:(upd (upd H5 tp (.tup [.str "find",.ref W,.int (10^Int.toNat 9)])) M (.lst (ys++[.ref tp]))) W=some (.tup (vs.map V.str)):=by rw[AN (CH (sp _ _ hW) e1.hm (by intro z;cases z))];exact sp _ _ hW
    generalize upd (upd H5 tp (.tup [.str "find",.ref W,.int (10^Int.toNat 9)])) M (.lst (ys++[.ref tp]))=H6 at h3 q5;have a1:=h3.N8;refine⟨_,rfl,.inl ⟨rfl,_,AL.of h3.hm⟩,_,rfl,_,rfl,_,_,rfl,rfl,⟨by decide,by decide⟩,_,_,rfl,rfl,(by show(0:Int)<7;decide),by exact z_0,fun tq a3=>?_⟩;have sq:=Af (o:=.tup [.str "find",.ref W,.int (sd/3%7)]) a3;have r6:=h3.ext sq;refine⟨M,_,_,rfl,rfl,r6.hm,by rw[A8,a1.2,An,Cm];lia,?_⟩;refine⟨_,_,_,_,_,_,rfl,r6.Lq (d:=.find vs (sd/3%7)) (x:=.ref tq) (Rep.FT AM (Ab.snoc (Ab.snoc (Ab.snoc Ab.nil (.str _)) (Rep.FT (sq _ _ q5) (LU vs))) (.int _))),fun d hd=>?_,by rw[An,An,Cm,Cm];lia⟩;simp only[BS,BR] at hd;rcases hd with(e|rfl)|rfl
    ·exact h9 d e
    all_goals exact b1 _
   ·intro hG;refine⟨_,rfl,_,_,rfl,rfl,(by show(0:Int)<4;decide),rfl,_,rfl,El (fun _=>?_) (fun _=>hG _ _ ⟨W1,vs,rfl,tw,h4,HI,by lia,e0⟩)⟩;have vm:vs.map V.str≠[]:=fun z=>HI (List.map_eq_nil_iff.mp z);have eu:CP (vs.map V.str) none (some 1)=(vs.take 1).map V.str:=by
     unfold CP;rw[show(some (1:Int))=some ((1:Nat):Int) from rfl,JM,XG,Md,Nat.sub_zero,LD]
     cases vs with
     |nil=>exact absurd rfl HI
     |cons z vs=>rw[AJ,CG,HY (by lia)]
    refine⟨_,rfl,_,rfl,_,rfl,W1,_,rfl,AS.of h4,fun _=>⟨W1,W1,_,_,rfl,rfl,AS.of h4,AS.of h4,vm,by rw[AJ,A8];lia,fun z=>absurd z vm,fun _ p hp=>?_⟩,fun _ w2 a2=>?_⟩
    ·refine hG _ _ ⟨p,vs++vs,rfl,tw.ext (Af hp),by rw[AM,BF],fun z=>HI (List.append_eq_nil_iff.mp z).1,by rw[An];lia,fun z hz=>?_⟩;rcases BS.mp hz with e|e
     ·exact e0 z e
     ·exact e0 z e
    ·rw[eu] at⊢;have um:(vs.take 1).map V.str≠[]:=fun z=>by
      cases vs with
      |nil=>exact HI rfl
      |cons _ _=>cases z
     have s2:=Af (o:=.tup ((vs.take 1).map V.str)) a2;refine⟨W1,w2,_,_,rfl,rfl,AS.of (s2 _ _ h4),AS.of AM,vm,by rw[AJ,AJ,Be,A8];lia,fun z=>absurd z um,fun _ p hp=>?_⟩;refine hG _ _ ⟨p,vs++vs.take 1,rfl,(tw.ext s2).ext (Af hp),by rw[AM,BF],fun z=>HI (List.append_eq_nil_iff.mp z).1,by rw[An,Be];lia,fun z hz=>?_⟩;rcases BS.mp hz with e|e
     ·exact e0 z e
     ·exact e0 z (FX e)
  ·rintro σ H' ⟨v3,v4,v5,v6,ms,ys,rfl,tw,h9,e8⟩;have ly:=tw.N8;have e8:ms.length=6:=e8;refine⟨_,rfl,.inl ⟨rfl,_,AL.of tw.hm⟩,by exact zw,fun tz e9=>⟨_,_,rfl,rfl,⟨by decide,by decide,by left⟩,by exact z_0,fun tp e3=>?_⟩⟩;have sz:=Af (o:=.tup [V.str "zed"]) e9;have sp:=Af (o:=.tup [.str "find",.ref tz,.int (10^Int.toNat 9)]) e3;have e1:=(tw.ext sz).ext sp;refine⟨M,ys,_,rfl,rfl,e1.hm,by rw[A8];lia,?_⟩;have h3:=e1.Lq (d:=.find ["zed"] (10^Int.toNat 9)) (x:=.ref tp) (Rep.FT AM (Ab.snoc (Ab.snoc (Ab.snoc Ab.nil (.str _)) (Rep.FT (sp _ _ AM) (LU ["zed"]))) (.int _)));have e2:∀d∈ms++[Aw.find ["zed"] (10^Int.toNat 9)],FD d:=fun d hd=>by
    rcases BS.mp hd with e|e
    ·exact h9 d e
    ·rw[BR.mp e];exact⟨⟨by decide,by left⟩,_,_,rfl,RP _ _⟩
   have l7:(ms++[Aw.find ["zed"] (10^Int.toNat 9)]).length=7:=by rw[An,Cm];lia
   generalize upd (upd (upd H' tz (.tup [V.str "zed"])) tp (.tup [.str "find",.ref tz,.int (10^Int.toNat 9)])) M (.lst (ys++[.ref tp]))=H3 at h3;generalize ms++[Aw.find ["zed"] (10^Int.toNat 9)]=ms at h3 e2 l7;generalize ys++[V.ref tp]=ys at h3;clear tw e1 sz sp h9 ly e8 e9 e3;dsimp only[DT];refine JH (fun σ H5=>∃(ds ms:List Aw)(xs ys:List V),σ=[some (.ref a),some (.ref L),some (.ref M),v3,v4,v5,v6,none,none,none]/\ED e4 H5 L M ds ms xs ys/\(∀d∈ds,d.Good)/\(∀d∈ms,FD d)/\ds.length<=31/\ms.length<=8) ?_ ?_
   ·rintro σ H5 ⟨ds,ms,xs,ys,rfl,tw,h5,h9,b8,m8⟩;have ln:=tw.N8;refine⟨_,rfl,_,rfl,L,M,xs,ys,rfl,rfl,tw.hl,tw.hm,by rw[A8];lia,fun c hc=>?_⟩;have sc:=Af (o:=.lst (xs++ys)) hc;have h6:∀d∈ds++ms,d.Good:=fun d hd=>by
     rcases BS.mp hd with e|e
     ·exact h5 d e
     ·exact(h9 d e).1
    have lA:(ds++ms).length<=39:=by rw[An];lia
    have rc:Rep (upd H5 c (.lst (xs++ys))) (.lst ((ds++ms).map Aw.dt)) (.ref c):=Rep.IE AM (by rw[BF];exact gV (tw.rl.same sc) (tw.rm.same sc));generalize upd H5 c (.lst (xs++ys))=H6 at sc rc;refine⟨_,_,rfl,rc,h6,by lia,iC h6 (by lia),fun HA lf zs sA a6 zl s3=>?_⟩;have tA:=tw.ext (sc.trans sA);clear tw sc rc sA hc;refine⟨_,rfl,_,ds,rfl,Rep.IE tA.hl tA.rl,h5,by lia,fun an H7 nk=>?_⟩;obtain⟨bd,ev⟩:=SQ ds GU bM h5;have q8:vw (FA GU ds)=DA [] ds:=ev;have sz:=P0 ds 0 [] TM h5;have r7:=sz;rw[<-q8] at r7;obtain⟨b0,nl,tl⟩:=fits_of bd r7 (by lia);have s7:AO HA H7:=let⟨_,_,_,nk⟩:=nk;nk.same;have t7:=tA.ext s7;have s5:=s7 _ _ a6;have pl:=sz.len;refine⟨_,rfl,.ref lf,"list",.type "list",true,rfl,(fun _=>Bl.lst s5),(fun _=>Hf _),_,rfl,BK ?_⟩;refine⟨_,rfl,lf,_,rfl,.inl (AL.of s5),_,rfl,L,_,rfl,.inl (AL.of t7.hl),_,rfl,M,_,rfl,.inl (AL.of t7.hm),_,_,rfl,rfl,rfl,_,rfl,?_⟩;have en:((zs.length:Nat):Int)=(xs.length:Nat)+(ys.length:Nat):=by rw[zl,An];lia
    rw[Bb (BD V.int en)];refine BK ?_;refine⟨_,rfl,M,rfl,⟨_,AL.of t7.hm⟩,fun D hD=>F5 (K:=[]) (xs:=ys) (fun i H'=>∃H0 us,H'=upd H0 D (.lst us)/\H0 D=none/\AO H7 H0/\Ab H0 ((ms.take i).map (K5 (DA [] ds))) us) ⟨H7,[],rfl,hD,AO.refl _,Ab.nil⟩ (fun i H' _ c=>?_) (fun i y H' ey c=>?_) fun H' c=>?_⟩
    ·obtain⟨H0,us,rfl,h0,s0,_⟩:=c;have e:=s0 _ _ t7.hm;exact AL.of (by rw[AN (A7 e h0)];exact e)
    ·obtain⟨H0,us,rfl,h0,s0,rz⟩:=c;obtain⟨md,em,t8⟩:=IZ (t7.rm.same s0) ey;obtain⟨g,ws,e6,rfl,t5⟩:=h9 md (CA em);obtain⟨ad,as,rfl,q4,rr⟩:=By t8;obtain⟨u1,u2,u3,rfl,r1,r2,r3⟩:=EO rr;cases r1;cases r3;obtain⟨wt,ts,rfl,q0,t6⟩:=By r2;rw[LP t6] at q0;have eE:Ex (upd H0 D (.lst us)) D=H0:=by
      rw[Ex.upd];funext b;by_cases c:b=D
      ·rw[c,Ex.self,h0]
      ·rw[Ex.ne c]
     refine⟨FH,D,us,AM,?_⟩;rw[eE];refine⟨_,rfl,_,rfl,ad,_,_,_,rfl,rfl,AS.of q4,Bh (j:=1) rfl,_,rfl,ad,_,_,_,rfl,rfl,AS.of q4,Bh (j:=2) rfl,an,wt,e6,ws,HA,FA GU ds,rfl,nk.ext s0,b0,bd,by lia,q0,t5,g.1,fun u H8 s8 ru h8=>?_⟩;rw[q8] at ru;refine⟨us,AM,?_,H8,us++[u],by rw[JT],h8,s0.trans s8,?_⟩
     ·have h1:=rz.1;rw[AJ] at h1;have h2:=FY i ms;rw[A8]
      lia
     ·rw[J7 em];exact(rz.same s8).snoc ru
    ·obtain⟨H0,us,rfl,h0,s0,rz⟩:=c;rw[ln.2,CT] at rz;have s9:=Af (o:=.lst us) h0;refine⟨_,rfl,_,rfl,L,_,rfl,.inl (AL.of (s9 _ _ (s0 _ _ t7.hl))),_,rfl,lf,_,rfl,AL.of (s9 _ _ (s0 _ _ s5)),fun sl a4=>?_⟩;have sS:=Af (o:=.lst (CP zs (some (xs.length:Int)) none)) a4;have rt:=(jK s3 zl h9).same (s7.trans (s0.trans (s9.trans sS)));have zx:xs.length<=zs.length:=by rw[zl,An];lia
     refine⟨_,rfl,_,_,_,rfl,Rep.IE (by rw[AM,gy _ _ zx,ln.1]) rt,Rep.IE (sS _ _ AM) (rz.same (s9.trans sS)),?_,fun HJ sJ=>k HJ⟩;show 1+Dt.CW _<=_;have h1:=Yq (DA [] ds) ms;have h2:ms.length*(1+3*(DA [] ds).length)<=8*(1+3*31):=Nat.mul_le_mul m8 (by lia)
     lia
   ·intro hG;refine⟨_,rfl,a,ns,0,rfl,h3.same.seq s6,_,_,rfl,rfl,(by show(0:Int)<3;decide),rfl,_,rfl,El (fun _=>?_) (fun _=>hG _ _ ⟨e7,ms,e5,ys,rfl,h3,h7,e2,by lia,by lia⟩)⟩;have app:∀(n t:Str)(ds:List Aw)(xs:List V)(H6:Hp)(tp:OK),ED e4 H6 L M ds ms xs ys->H6 tp=none->ED e4 (upd (upd H6 tp (.tup [.str "write",.str n,.str t])) L (.lst (xs++[.ref tp]))) L M (ds++[.write n t]) ms (xs++[.ref tp]) ys:=fun n t ds xs H6 tp tw h=>(tw.ext (Af h)).putL (d:=.write n t) (Rep.FT AM (Ab.snoc (Ab.snoc (Ab.snoc Ab.nil (.str _)) (.str _)) (.str _)));have ll:=h3.N8;refine⟨_,rfl,.inl ⟨rfl,_,AL.of h3.hl⟩,by exact z_0,fun t1 q3=>⟨L,e5,_,rfl,rfl,(Af q3) _ _ h3.hl,by rw[A8];lia,?_⟩⟩;have w1:=app "catalogue" "elm oak oak oak [zed]" _ _ _ _ h3 q3;refine⟨_,rfl,.inl ⟨rfl,_,AL.of w1.hl⟩,by exact z_0,fun t2 q2=>⟨L,_,_,rfl,rfl,(Af q2) _ _ w1.hl,by rw[A8,An,Cm];lia,?_⟩⟩;have w2:=app "cat" "oak elm elm elm" _ _ _ _ w1 q2;refine⟨_,rfl,.inl ⟨rfl,_,AL.of w2.hl⟩,by exact z_0,fun t3 q1=>⟨L,_,_,rfl,rfl,(Af q1) _ _ w2.hl,by rw[A8,An,An,Cm,Cm];lia,?_⟩⟩;have w3:=app "b" "[cat] oak elm" _ _ _ _ w2 q1;refine⟨_,rfl,.inl ⟨rfl,_,AL.of w3.hm⟩,by exact z_0,fun tz e9=>⟨by exact z_0,fun tp e3=>?_⟩⟩;have sz:=Af (o:=.tup [V.str "oak",V.str "elm",V.str "oak"]) e9;have sp:=Af (o:=.tup [.str "find",.ref tz,.int 2]) e3;have w4:=(w3.ext sz).ext sp;refine⟨M,ys,_,rfl,rfl,w4.hm,by rw[A8];lia,?_⟩;refine hG _ _ ⟨_,_,_,_,rfl,w4.Lq (d:=.find ["oak","elm","oak"] 2) (x:=.ref tp) (Rep.FT AM (Ab.snoc (Ab.snoc (Ab.snoc Ab.nil (.str _)) (Rep.FT (sp _ _ AM) (LU ["oak","elm","oak"]))) (.int _))),fun d hd=>?_,fun d hd=>?_,by rw[An,An,An,Cm,Cm,Cm];lia,by rw[An,Cm];lia⟩
    ·simp only[BS,BR] at hd;rcases hd with((e|rfl)|rfl)|rfl
     ·exact h7 d e
     all_goals exact⟨by left,by left⟩
    ·rcases BS.mp hd with e|e
     ·exact e2 d e
     ·rw[BR.mp e];exact⟨⟨by decide,by left⟩,_,_,rfl,RP _ _⟩
section
variable{N R:OK}{q:Str}{bs:List AD}{hd ab:Bool}{sn:List Str}{sub:List AD}{col:Option Bool}{k0 k1 k2 k3 k5:Option AD}
def Nq:Ii [.type "Exception",.type "BaseException",.type "object"]:=⟨by left,by left,by left,by left⟩
def nA:Ii [.ref R,.type "Exception",.type "BaseException",.type "object"]:=⟨Ht Nq.exc rfl,Ht Nq.base rfl,Ht Nq.Jn rfl,Ht Nq.aX rfl⟩
def kr(x:K.lookup R=some (rW nm q R N bs bm hd sn sub ab col dd k0 k1 k2 k3 k5 "Exception.__new__"))(y:bm=[.type "Exception",.type "BaseException",.type "object"]):Tv K R:=
 ⟨bm,N,fun _ X=>⟨_,_,_,_,_,_,_,_,_,_,_,_,_,_,X _ _ x⟩,by rw[y];exact Nq⟩
def YC(x:K.lookup C=some (rW nm q C N bs bm hd sn sub ab col dd k0 k1 k2 k3 k5 "Exception.__new__"))(y:bm=[.ref R,.type "Exception",.type "BaseException",.type "object"])
 (e1:rR K C=true)(e2:ql K (.ref C) "answer" =some none)(e3:ql K (.ref C) "__setattr__" =some (some (.builtin "object.__setattr__")))(e4:ql K (.ref C) "__getattribute__" =some (some (.builtin "BaseException.__getattribute__")))(e5:ql K (.ref C) "__getattr__" =some none):Dc K C "answer" :=by
 refine⟨e1,e2,e3,e4,e5,?_⟩;unfold clsIn;rw[x];subst y;refine⟨_,[.ref C,.ref R],rfl,rfl,fun c hc=>?_⟩;rcases BI.mp hc with e|e
 ·exact⟨_,e⟩
 ·exact⟨_,BR.mp e⟩
def nP(m:mg x=some (.ref C))(xl:K.lookup C=some (rW nm q C N bs bm hd sn sub ab col dd k0 k1 k2 k3 k5 "Exception.__new__"))(y:bm=[.ref R,.type "Exception",.type "BaseException",.type "object"])
 (ei:ql K (.ref C) "__init__" =some (some (.ref f)))(en:isFn K (.ref f)=true)(ek:rC K (.ref C)=true)(xa:Dc K C "answer")
 (F:AY P w K mg base Aj 2 f fd ["self"] (Fj C "answer" msg))(b:Binds K fd ["self"] []):Rz P w K mg base R x msg:=by
 subst y;exact⟨C,f,fd,_,m,⟨⟨N,fun _ X=>⟨_,_,_,_,_,_,_,_,_,_,_,_,_,_,X _ _ xl⟩⟩,ei,nA,en,ek⟩,F,b,⟨_,N,fun _ X=>⟨_,_,_,_,_,_,_,_,_,_,_,_,_,_,X _ _ xl⟩,by rw[RB,RB,HV,Bool.true_or,Bool.or_true]⟩,xa⟩
end
def N3(K:tW):List (Str×g0)->Prop
 |[]=>True
 |(x,st)::r=>(∃f fd,tX K dy x=some (some (.ref f))/\Ak K x x st f fd)/\N3 K r
def Zv(K:tW)(mg:Str->Option AD):List (Str×g0)->Prop
 |[]=>True
 |(x,st)::r=>(∃f fd,mg x=some (.ref f)/\Ak K x x st f fd)/\Zv K mg r
def UC(K:tW)(C:OK):List (Str×Str×g0)->Prop
 |[]=>True
 |(x,q,st)::r=>(∃f fd,Meth K C x f/\Ak K x q st f fd)/\UC K C r
def UB(K:tW)(R:OK):List (Str×Str×g0)->Prop
 |[]=>True
 |(x,q,st)::r=>(∃C f fd,tX K dy x=some (some (.ref C))/\Dc K C "answer" /\Ak K "__init__" q st f fd/\
  ∀(P:qf)(w:qj)(mg:Str->Option AD)(h0:qi)(h1:Str),mg x=some (.ref C)->AY P w K mg h0 Aj 2 f fd ["self"] (Fj C "answer" h1)->Binds K fd ["self"] []->Rz P w K mg h0 R x h1)/\UB K R r
def QX(K:tW):List Str->Prop
 |[]=>True
 |x::r=>tX K dy x=some none/\QX K r
section
variable{st:g0}{R N:OK}{oc kV doc pm cdv ct:AD}{an:Option OK}
def S4(X:K.In h)(G:h.Ns dy mg):∀{L:List (Str×g0)},N3 K L->Zv K mg L
 |[],_=>Cv
 |_::_,⟨⟨f,fd,a,F⟩,t⟩=>⟨⟨f,fd,JE X G a,F⟩,S4 X G t⟩
def YI(X:K.In h)(G:h.Ns dy mg):∀{L:List Str},QX K L->∀x∈L,mg x=none
 |_::_,⟨a,_⟩,_,.head _=>mg_none_of X G a
 |_::_,⟨_,t⟩,_,.tail _ e=>YI X G t _ e
local macro_rules| `(tactic|trivial)=> `(tactic|(
 intro _ _ _ _ _ _;first
  |exact all1 (fun _=>rfl)
  |exact all2 (fun _ _=>rfl)
  |exact qC (fun _ _ _=>rfl)
  |exact pZ rfl
  |exact pT (fun _ _ _ _=>rfl)))
def hv{st:g0}(F:Ak K x x st f fd)(G:AY P w K mg base Aj k f fd ps sp)(m:mg x=some (.ref f))
 (h:∀(kV doc pm:AD)(an:Option OK)(cdv ct:AD)(us:List AD),us.length=ps.length->bindArgs (fnOf x x (JP st) (E3 st) (Aq st) .none kV doc pm an cdv ct) ⟨us,[]⟩=pure (ps.zip us):=by trivial):Hv P w K mg base x k ps sp:=⟨⟨_,_,G,F.binds h,m,F.kp⟩⟩
set_option maxRecDepth 10000 in
def all_mk{l:PySem.W.OpenLaw}{fa fRi NR:OK}{qq:Str}{bs sub:List AD}{hd ab:Bool}{sn:List Str}{col:Option Bool}{k0 k1 k2 k3 k5:Option AD}(X:K.In h)(G:h.Ns dy mg)(hfa:mg "law" =some (.ref fa))
 (aR:tX K dy "Refusal" =some (some (.ref cR)))(xR:K.lookup cR=some (rW nm qq cR NR bs bm hd sn sub ab col dd k0 k1 k2 k3 k5 "Exception.__new__"))(yR:bm=[.type "Exception",.type "BaseException",.type "object"])
 (rdR:readsIn K cR (.type "type")=true)(fiR:findCls K (.ref cR) (.type "type") "__init__" =some (.val (.ref fRi)))(spR:sY K (.ref cR) "__getattribute__" =some (some (.builtin "type.__getattribute__")))
 (lRi:K.lookup fRi=some ⟨oc,od,.func (fnOf "__init__" "Refusal.__init__" (JP J1) (E3 J1) (Aq J1) .none kV doc pm an cdv ct),osl⟩)(cRi:codeIn K cdv "Refusal.__init__" =true)(kRi:rC K (.ref fRi)=true)
 (E:UB K cR (UU.map fun z=>(z.1,z.2.1,z.2.2.1)))
 (aN:tX K dy "Nook" =some (some (.ref cN)))(pgN:sT K cN Str.empty=true)(hdN:rR K cN=true)(poN:plainOver K cN=true)(saN:ql K (.ref cN) "__setattr__" =some (some (.builtin "object.__setattr__")))(mkN:makesIn K cN=true)(kcN:rC K (.ref cN)=true)(npN:ql K (.ref cN) "pages" =some none)
 (M:UC K cN Uc)
 (T:N3 K Ub)(T2:N3 K T9)
 (Z:QX K ["isinstance","list","tuple","str","int","bool","len","range","sum","sorted","set","enumerate","all","min"]):
 ∃fd:qk,(∀(s:Ya)(v:AD),tG s fd ⟨[v],[]⟩ [("_law_script",v)])/\∀base:qi,K.In base->base.Ns dy mg->AY l.prog w K mg base Aj 11 fa fd ["_law_script"] (Te K):=by
 have q1:=lG (st:=J1) lRi cRi kRi;obtain⟨⟨_,_,mL,FL⟩,⟨_,_,l8,b3⟩,⟨_,_,l2,t8⟩,⟨_,_,m0,t3⟩,⟨_,_,l5,b0⟩,⟨_,_,l6,b1⟩,⟨_,_,l7,b2⟩,⟨_,_,t1,q2⟩,⟨_,_,l3,t9⟩,⟨_,_,l1,t7⟩,⟨_,_,k9,t5⟩,⟨_,_,l0,t6⟩,⟨_,_,l4,a0⟩,⟨_,_,l9,t2⟩,⟨_,_,m2,d0⟩,⟨_,_,m3,d1⟩,⟨_,_,m1,c9⟩,⟨_,_,r8,s8⟩,-⟩:=S4 X G T;obtain⟨⟨_,_,q0,r0⟩,⟨_,_,r1,e6⟩,⟨_,_,t0,q5⟩,⟨_,_,q3,r6⟩,⟨_,_,s5,e1⟩,⟨_,_,s3,h9⟩,⟨_,_,r2,e8⟩,⟨_,_,h8,h1⟩,⟨_,_,r3,e9⟩,⟨_,_,e5,h2⟩,⟨_,_,r4,s0⟩,⟨_,_,r5,e7⟩,⟨_,_,h7,h0⟩,⟨_,_,e4,h3⟩,⟨_,_,s7,e3⟩,⟨_,_,s6,e2⟩,⟨_,_,s2,h5⟩,⟨_,_,s4,e0⟩,⟨_,_,q9,q4⟩,⟨_,_,s1,h4⟩,⟨_,_,r9,s9⟩,-⟩:=S4 X G T2;obtain⟨⟨_,_,a1,c2⟩,⟨_,_,a2,c1⟩,⟨_,_,a3,c0⟩,⟨_,_,a4,b9⟩,⟨_,_,a5,b8⟩,⟨_,_,a6,b7⟩,⟨_,_,a7,b6⟩,⟨_,_,a8,b5⟩,⟨_,_,a9,b4⟩,⟨_,_,n2,q8⟩,⟨_,_,n1,q7⟩,⟨_,_,n0,q6⟩,-⟩:=M;obtain⟨⟨_,_,_,m9,d7,c8,k8⟩,⟨_,_,_,m8,d6,c7,k7⟩,⟨_,_,_,m7,d5,c6,k6⟩,⟨_,_,_,m6,d4,c5,k4⟩,⟨_,_,_,m5,d3,c4,d9⟩,⟨_,_,_,m4,d2,c3,d8⟩,-⟩:=E;cases hfa.symm.trans mL;have n:=YI X G Z;have r7:=n "len" (by simp);have h6:=n "sorted" (by simp);obtain⟨oc,od,kV,doc,pm,an,cdv,ct,osl,rfl,lk,p6⟩:=FL.ex;refine⟨fnOf "law" "law" (JP Km) (E3 Km) (Aq Km) .none kV doc pm an cdv ct,fun s v=>.of_eq rfl,fun base _ _=>?_⟩;have O:Own mg:=⟨(n "isinstance" (by simp)),(n "list" (by simp)),(n "tuple" (by simp)),(n "str" (by simp)),(n "int" (by simp)),(n "bool" (by simp)),r7,(n "range" (by simp))⟩;have OP:Hx mg:=⟨(n "sum" (by simp)),h6,(n "set" (by simp)),r7,(n "enumerate" (by simp)),(n "list" (by simp)),(n "all" (by simp)),(n "min" (by simp))⟩;have U:Io K mg cR fRi:=⟨JE X G aR,rdR,fiR,spR,kRi,kr xR yR⟩;have GR:AY l.prog w K mg base Aj 1 fRi _ ["self","answer"] (Il K):=mG q1;have R1:=k8 l.prog w mg base "no page" (JE X G m9) (eY c8 U GR (q1.binds (by trivial)) d7) (c8.binds (by trivial));have R2:=k7 l.prog w mg base "no name" (JE X G m8) (eB c7 U GR (q1.binds (by trivial)) d6) (c7.binds (by trivial));have R3:=k6 l.prog w mg base "same page" (JE X G m7) (cL c6 U GR (q1.binds (by trivial)) d5) (c6.binds (by trivial));have R4:=k4 l.prog w mg base "taken" (JE X G m6) (gP c5 U GR (q1.binds (by trivial)) d4) (c5.binds (by trivial));have R5:=d9 l.prog w mg base "no place" (JE X G m5) (cw c4 U GR (q1.binds (by trivial)) d3) (c4.binds (by trivial));have R6:=d8 l.prog w mg base "no words" (JE X G m4) (cu c3 U GR (q1.binds (by trivial)) d2) (c3.binds (by trivial));have C:FJ K cN:=⟨⟨pgN,hdN,poN,saN⟩,npN⟩;have M:L5 l.prog w K mg base cN cR:=⟨⟨_,_,a2,jL c1 C R1,(c1.binds (by trivial))⟩,⟨_,_,a3,jc c0 C R2 R4 q2 (q2.binds (by trivial)) t1 OP,(c0.binds (by trivial))⟩,⟨_,_,a4,gc b9 C OP a0 (a0.binds (by trivial)) l4,(b9.binds (by trivial))⟩,⟨_,_,m0,t3.kp,lE t3 OP,(t3.binds (by trivial))⟩⟩;have t4:=nq t8 (hv b3 (nF (P:=l.prog) (w:=w) (base:=base) b3 (n "enumerate" (by simp)) h6) l8) r7 (n "min" (by simp));have n3:AY _ _ _ _ _ _ _ _ _ _ Tu:=⟨fun _ _ _ _ q=>t4.len _ _ _ _ (YS q),fun _ _ _ _ _ _ _ _ _ a b c d q=>t4.run _ _ _ _ _ _ _ _ _ a b c d (YS q)⟩;have n6:=ie b2 OP (hv b1 (lr b1 OP) l6) (hv t8 n3 l2);have MD:bC l.prog w K mg base cN cR:=⟨⟨_,_,a5,gC b8 C OP R2 q2 (q2.binds (by trivial)) t1 (hv t7 (mY t7 (hv t9 (mv t9 q2 (q2.binds (by trivial)) t1 (n "all" (by simp))) l3)) l1),(b8.binds (by trivial))⟩,⟨_,_,a6,dh b7 C M,(b7.binds (by trivial))⟩,⟨_,_,a7,jv b6 C M R3,(b6.binds (by trivial))⟩,⟨_,_,a8,kY b5 C M R5 OP,(b5.binds (by trivial))⟩,⟨_,_,a9,i3 b4 C M,(b4.binds (by trivial))⟩,⟨_,_,n2,i8 q8 C M (hv t6 (nr t6 t5 (t5.binds (by trivial)) k9) l0),(q8.binds (by trivial))⟩,⟨_,_,n1,jA q7 C (hv b0 (kT b0 OP) l5),(q7.binds (by trivial))⟩,⟨_,_,n0,(j8 q6 C R6 OP (hv b2 n6 l7)).mono (by decide),(q6.binds (by trivial))⟩⟩;have p5:=lS d1 (hv d0 (kR d0 U (mj t2 C MD) (t2.binds (by trivial)) l9 t2.kp) m2);have p4:=dJ c9 ⟨mkN,a1.at_,a1.fn,kcN⟩ (gJ c2 C) (c2.binds (by trivial)) (JE X G aN) (hv d1 p5 m3);have n9:=iS (P:=l.prog) (w:=w) (base:=base) e8 O (hv e1 (eN e1 O r0 (r0.binds (by trivial)) q0 r6 (r6.binds (by trivial)) q3) s5) h9 (h9.binds (by trivial)) s3;have p2:=my (P:=l.prog) (w:=w) (base:=base) q5 O e6 (e6.binds (by trivial)) r1;have p3:=gL (P:=l.prog) (w:=w) (base:=base) s0 O h2 (h2.binds (by trivial)) e5;have n5:=cH (P:=l.prog) (w:=w) (base:=base) h3 h1 (h1.binds (by trivial)) h8;have n7:=fh (P:=l.prog) (w:=w) (base:=base) e2 O h0 (h0.binds (by trivial)) h7 e7 (e7.binds (by trivial)) r5;have p1:=eK (P:=l.prog) (w:=w) (base:=base) e3 O h1 (h1.binds (by trivial)) h8;have p0:=cY h5 O (hv s0 p3 r4) (hv h3 n5 e4) h2 (h2.binds (by trivial)) e5 e7 (e7.binds (by trivial)) r5 (hv e2 n7 s6) h0 (h0.binds (by trivial)) h7;have n4:=fM e0 e9 (e9.binds (by trivial)) r3 (hv e3 p1 s7) (hv h5 p0 s2);have n8:=i9 (P:=l.prog) (w:=w) (base:=base) s9 O h6 (hv h4 (lV h4 O) s1);exact ko FL O (hv e8 n9 r2) s8 (s8.binds (by trivial)) r8 q4 (q4.binds (by trivial)) q9 (hv c9 p4 m1) (hv e0 n4 s4) (hv q5 p2 t0) (hv s9 n8 r9)
end
def Tp{v:Option (Option AD)}(h:OL v=true):v=some (some (.ref (hRf v))):=by
 unfold OL at h;split at h
 ·rfl
 ·cases h
section
variable{q:Str}{st:g0}
def QG(e:L7 K f q=L3 x q st):(∃fd,Ak K x q st f fd)/\isFn K (.ref f)=true:=by
 unfold L7 at e;split at e
 ·rename_i oc od d osl h;obtain⟨a1,a2,a3,a4,a5,a6,a7,a8,a9,a10,a11,a12,a13,a14,a15⟩:=d;simp only[L3,Option.some.injEq,LC,FZ] at e;obtain⟨rfl,rfl,rfl,rfl,rfl,rfl,rfl,rfl,rfl,⟨c,k⟩,i⟩:=e;exact⟨⟨_,⟨_,_,_,_,_,_,_,_,_,rfl,h,c⟩,k⟩,i⟩
 ·cases e
def aE(e:Qk K C=Qg C bm):∃(nm qq:Str)(N:OK)(bs:List AD)(hd:Bool)(sn:List Str)(sub:List AD)(ab:Bool)(col:Option Bool)(dd:Option OK)(k0 k1 k2 k3 k5:Option AD),
 K.lookup C=some (rW nm qq C N bs bm hd sn sub ab col dd k0 k1 k2 k3 k5 "Exception.__new__"):=by
 unfold Qk at e;split at e
 ·rename_i c od d sl h;obtain⟨a1,a2,a3,a4,a5,a6,a7,a8,a9,a10,a11⟩:=d;obtain⟨sl⟩:=sl;simp only[Qg,Option.some.injEq,LC] at e;obtain⟨rfl,rfl,rfl,e⟩:=e;split at e
  ·cases Ag e;exact⟨_,_,_,_,_,_,_,_,_,_,_,_,_,_,_,h⟩
  ·cases e
 ·cases e
end
section
variable{R:OK}
def aU:∀{L:List (Str×Str×g0×OK)},ak K L=bN R L->UB K R (L.map fun z=>(z.1,z.2.1,z.2.2.1))
 |[],_=>Cv
 |(x,q,st,C)::L,e=>by obtain⟨e,r⟩:=IU e;simp only[ao,aV,LC] at e;obtain⟨a,z,e1,e2,e3,e4,e5,e6,i,g⟩:=e;obtain⟨_,_,_,_,_,_,_,_,_,_,_,_,_,_,_,z⟩:=aE z;obtain⟨⟨fd,F⟩,i'⟩:=QG g;exact⟨⟨C,_,fd,a,YC z rfl e1 e2 e3 e4 e5,F,fun _ _ _ _ _ m G B=>nP m z rfl (Tp i) i' e6 (YC z rfl e1 e2 e3 e4 e5) G B⟩,aU r⟩
def aK:∀{L:List (Str×Str×g0)},ag K C L=af L->UC K C L
 |[],_=>Cv
 |(x,q,st)::L,e=>by obtain⟨e,r⟩:=IU e;obtain⟨i,g⟩:=LL e;obtain⟨⟨fd,F⟩,i'⟩:=QG g;exact⟨⟨_,fd,⟨Tp i,i',F.kp⟩,F⟩,aK r⟩
def UD:∀{L:List (Str×g0)},UZ K L=UX L->N3 K L
 |[],_=>Cv
 |(x,st)::L,e=>by obtain⟨e,r⟩:=IU e;obtain⟨i,g⟩:=LL e;obtain⟨⟨fd,F⟩,i'⟩:=QG g;exact⟨⟨_,fd,Tp i,F⟩,UD r⟩
def aL:∀{L:List Str},L.map (tX K dy)=L.map (fun _=>some none)->QX K L
 |[],_=>Cv
 |_::_,e=>⟨(IU e).1,aL (IU e).2⟩
end
section
open PySem.W
def qc{l:OpenLaw}{q:qf}{loose:List Str}{d:DefRec}{sp:Frag->Sp}
 (hn:l.most=some n)(hn2:n<=sizeLine)(hdf:d.params.defaults=[])(hr:Bn k sU)
 (F:∀(w:qj)(mg:Str->Option AD)(fa:OK)(h:qi)(K:Frag),Kp K=Kn->K.In h->h.Ns dy mg->mg d.name=some (.ref fa)->
  ∃fd:qk,(∀(s:Ya)(u:AD),tG s fd ⟨[u],[]⟩ [(x,u)])/\∀base:qi,K.In base->base.Ns dy mg->AY l.prog w K mg base CX k fa fd [x] (sp K))
 (hsp:∀(K:Frag)(H:Hp)(a:OK)(ns:List Int),ns.length<=n->UK H->AL K H a (ns.map V.int)->sp K [.ref a] H (fun v _=>v=.bl true) fun _ _ _=>False)
 (hCX:∀(H:Hp)(s:Ya)(e:AD)(s':Ya),CX [] H s (fun _ _ _=>False) e s'->False):
 WalkO q loose XP Ud l.row.toRowW d [] (fun f vs=>PySem.call f vs):=by
 refine cK hn hdf fun w s₀ s₁ mg mb fa o pm cd doc a vs ns G Y ho hd hcd hmg hobj hints hlen hg=>?_;obtain⟨K,KX,g⟩:=Y;obtain⟨fd,hb,hF⟩:=F w mg fa _ K g KX G.T.g hmg;exact iJ KX G.T.g G.T.b G.T.builtins G.T.nolimit hg hobj hints (BJ hlen hn2) hr hF hb (fun H hO hS=>hsp K H a ns hlen hO hS) fun H e s'=>hCX H s₁ e s'
def qe{K:Frag}{l:OpenLaw}{fa:OK}(g:Kp K=Kn)(X:K.In h)(G:h.Ns dy mg)(hfa:mg "law" =some (.ref fa)):
 ∃fd:qk,(∀(s:Ya)(v:AD),tG s fd ⟨[v],[]⟩ [("_law_script",v)])/\∀base:qi,K.In base->base.Ns dy mg->AY l.prog w K mg base Aj 11 fa fd ["_law_script"] (Te K):=by
 simp only[Kp,Kn,LC] at g;obtain⟨r,e,n,m,t,t2,z⟩:=g;simp only[aq,bJ,LC] at r;obtain⟨aR,xR,rd,sp,fi⟩:=r;obtain⟨_,_,_,_,_,_,_,_,_,_,_,_,_,_,_,xR⟩:=aE xR;split at fi;case h_2=>cases fi
 rename_i f hfi;obtain⟨⟨_,⟨oc,od,kV,doc,pm,an,cdv,ct,osl,rfl,l,c⟩,k⟩,_⟩:=QG fi;simp only[bK,aY,LC,FZ] at n;obtain⟨aN,⟨⟨⟨⟨n1,n2⟩,n3⟩,n4⟩,n5⟩,sa,np⟩:=n;exact all_mk X G hfa aR xR rfl rd hfi sp l c k (aU e) aN n1 n2 n3 sa n4 n5 np (aK m) (UD t) (UD t2) (aL z)
end
end L2
end
open PySem PySem.W PyProof.Rows
theorem PySem.Challenge.cw_pagenook_k07_whole_found_holds : PySem.Challenge.rw_pagenook_k07_whole_found.Holds := by
 exact L2.qd fun d hn hd=>L2.qc (l:=PySem.Challenge.rw_pagenook_k07_whole_found) (n:=63) (k:=11) (x:="_law_script") (CX:=L2.Aj) (sp:=L2.Te) rfl (by decide) hd ⟨rfl,by decide,by decide⟩ (fun _ _ _ _ _ g X G m=>L2.qe g X G (hn▸m)) (fun _ _ a ns hl _ hS=>⟨a,ns,rfl,hS,hl,fun _=>rfl⟩) fun _ _ _ _ z=>z
