import PyProof.Rows.All
import Wide.All
import OpenK.AllK
import Wide.FinOn
import Lean
import PyProof.EqAt
import PyProof.EqKinds
import PyProof.TupleCall
import PyProof.ExcAttrAll.Exception
import PyProof.InstStoreFacts
import PyProof.Rows.SetFrom
import PyProof.SetKind
import KE.KSetInts
import KE.KSortTup
import KE.KDictList
import PySem.Challenge.RW_pagenook_k10_whole_dropped_and_written_a
set_option Elab.async false
set_option linter.all false
set_option maxRecDepth 100000
set_option maxHeartbeats 0
open Array renaming length_toList→E7,getElem?_toList→GY,toList_append→GZ,getD_eq_getD_getElem?→HW,toList_inj→J7,perm_iff_toList_perm→MM,toList_push→Ma,toList_reverse→VS,toList_extract→VT
open Bool renaming false_eq_true→CQ,false_ne_true→Cd,and_eq_true→F2,not_true→JM,and_false→LK,true_eq_false→MX,false_and→Ml,eq_iff_iff→Oc,false_or→Rb
open Int renaming toNat_natCast→IC,emod_lt_of_pos→Q4,emod_nonneg→RQ
open List renaming length_map→AL,getElem?_eq_getElem→Ar,length_append→Au,map_cons→Av,getElem?_map→Az,map_append→BG,getElem?_eq_some_iff→BX,mem_map→BZ,map_map→Ba,mem_singleton→Bk,append_assoc→Bl,length_take→Bm,mem_cons→Bn,mem_append→Bp,mem_of_getElem?→Br,length_cons→CD,append_nil→CF,take_length→CL,sum_cons→CM,length_singleton→Cf,size_toArray→Cg,getElem?_append_right→Cn,getD_eq_getElem?_getD→Cu,getElem?_append_left→C3,find?_cons→C9,mem_cons_of_mem→DG,take_add_one→Di,length_filter_le→EA,mem_cons_self→EB,take_append_drop→ET,mem_append_right→EU,length_take_le'→EV,length_drop→EX,filter_cons_of_pos→Ej,map_congr_left→Ek,getElem?_eq_none→E6,filter_cons_of_neg→Fb,take_of_length_le→F0,getElem_mem→F1,mem_filter→F3,flatMap_cons→Ga,lookup_cons→HY,length_nil→HZ,mem_of_mem_take→Ic,mem_iff_getElem→Ie,mem_append_left→Ig,nodup_cons→Ik,any_cons→Im,perm_append_comm→JE,not_mem_nil→JJ,ext_getElem?→J2,take_zero→J9,drop_eq_getElem_cons→K6,drop_eq_nil_of_le→K8,mem_of_mem_drop→K9,getElem?_drop→LB,isEmpty_nil→LC,any_eq_true→LD,mem_range→LJ,all_cons→LN,map_nil→LR,find?_cons_of_pos→MP,find?_cons_of_neg→MQ,filter_append→MW,nodup_nil→Mf,pairwise_iff_getElem→OF,getElem?_eq_none_iff→OG,getElem?_set_self→OI,getElem?_set_ne→OM,flatMap_append→OO,pairwise_cons→OR,nodup_append→OV,countP_cons→OX,cons_append→OY,all_eq_true→OZ,drop_zero→Oe,map_take→Oi,map_drop→Oj,map_id→Ov,drop_append_of_le_length→Ql,length_eq_zero_iff→Qn,getElem?_of_mem→Qr,filterMap_cons→Qw,mem_filterMap→Q1,getElem?_take→Q2,contains_cons→Q3,pairwise_map→RB,length_range→RC,find?_append→RD,nil_append→RO,filter_map→RP,take_take→RV,mem_of_find?_eq_some→VC,extract_eq_drop_take→VD,pairwise_singleton→VH,head_eq_of_cons_eq→VI,length_pos_of_mem→VL,getElem?_toArray→VP,getElem?_range→VX,set_cons_succ→Va,find?_eq_none→Vb
open List.Perm renaming refl→Of,append_left→Qq,append_right→VM
open List.cons renaming inj→IF
open Nat renaming le_refl→Ad,le_trans→BJ,ne_of_lt→BN,zero_le→CN,lt_of_lt_of_le→C8,sub_self→El,ne_of_gt→E8,le_succ→E9,le_of_lt→F5,min_eq_left→LH,lt_succ_self→Mc,lt_irrefl→Mn,lt_succ_of_lt→OU,le_of_not_lt→OW,not_lt→Ox,mul_le_mul_left→Qv
open Ne renaming symm→DK
open Option renaming bind_some→Mb,map_eq_some_iff→OH,map_some→Ob
open Option.some renaming inj→Af
open Or renaming inl→Aa,inr→CP
open Prod.mk renaming inj→JO,injEq→LM
open PyProof.Rows renaming wpS_bind→Ak,wpS_pure→As,wpS_forRange→Fe,wpS_get→IL,boot_sorted→JN,wpS_modify→KG,wpS_lift→Lb,split_weight→Mo,slot_tuple_getitem→VA,callWith_type1→VB
open PyProof.Rows.F renaming plain_set_update_loop→VJ
open PySem renaming wpAny_bind→AJ,wpAny_pure→Ae,sizeLine_eq→A9,wpAny_mono→DA,boot_len→DH,strLen_append→Fc,wpAny_holding→Gb,wpAny_rule→IH,wpAny_newObj_type→Ih,wpAny_call_entry→Ii,codeAny_builtin→Ij,mem_of_lookup→JG,wpAny_loadPart_at→JH,wpAny_attempt→KA,wpAny_field→KC,call_meets→KH,wpAny_callSpecial?_slot→K7,wpAny_setEntries_of→LA,wpAny_passesOwn→LF,codeAny_mono→LQ,typeIs_str→LU,wpAny_isSubtype_exc→MS,wpAny_setField_rec→MU,wpAny_Call_Name_kw→MV,wpAny_truthy_bool→MY,wpAny_setState_of→MZ,wpAny_fieldsOf→Md,wpAny_call→Mr,tupleKind_room_in1→OQ,wpAny_execs_nil→Oa,wpAny_setField→Od,wpAny_standAt→Og,plainId_quiet→Oh,call_meetsIn→Ol,wpAny_getItem_str_slice→Qm,post_val_or_str→RN,wpAny_newList→Ra,codeAny_call_builtin→VQ
open PySem.Around renaming under_plainId→MR
open PySem.Calls renaming callWith_builtin→Qo,spliced_cons→Q5,evalArgs_plain→VR,Constant_str→Vd
open PySem.Code renaming quiet_builtin→OS
open PySem.F renaming plainAttrs_list→Dh,type_list_append→Eh,slot_list_append→Ei,excBase_Exception→JD,called_set→J1,plainAttrs_dict→MN,plainAttrs_str→MO,plain_extend_loop→OE,slot_dict_values→VE,slot_dict_items→VG,slot_dict_get→VO,args_str_split_2→Vc,slot_dict_itemiterator_iter→cM
open PySem.Heap renaming lt_size→A7,get?_push_of_some→BB,get?_push_size→CC,get?_update_other→ES,size_push→Ha,get?_update_self→JF,get?_update_ne→MT,size_after_update→OJ,size_update→RK
open PySem.Heap.SameBut renaming update→VY
open PySem.Paired renaming length→JL
open PySem.PassesOwn renaming never→DR
open PySem.Txt renaming slice_le→Om
open PySem.W renaming kia_tup→ID,kia_one→IE,mg_of→Il,looks_findIn→OL,callWith_K0→Qu,kitx_list→Q9,kitx_dict→RA,methodCall_KW→VN,plainGet_of→VU,looks_clsIn→VW,callWith_K→VZ
open True renaming intro→Cy
open PyProof.Rows renaming Keyed→dA,pendingOf→dq,arrOf→dy,SortSt→qw,failedOf→rM,seqObj→rP,elem'→rY,setPending→sN,envOfC→sX,AllBare→sf,reverseSlice'→sg,wpS_mono→tP,mirror→tj,get?_update_seq→uB,size_push'→uH,mergeAt'→uI,subscriptTail→uQ,listUpdate_at→uR,Constant_none→uS
open PySem renaming Value→AA,Addr→Ya,Shared→Yf,model→ax,wpAny→cm,starEach→hX,mainGlobals→hY,Stmt→qu,Expr→qv,Program→qy,compareOp→qz,FuncData→rA,eval→rC,Heap→rE,World→rH,attributeBase→rK,bootBuiltins→rL,backTo→rN,cLine→rR,pyNext→rS,importedModules→rT,sysModules→rV,keywordEach→rW,unsupported→rg,treeTable→rh,scanBound→rj,rawInt→rm,codeAny→rq,Around→sJ,sliceBounds→sP,binaryOp→sR,letOwnedTupleGo→sU,relabel→sV,backToKw→sY,excClassObj→sZ,Keyword→sd,GenState→sj,holding→sk,assignEach→sq,slotArgs→sr,valueAt→tE,tupleKind→tJ,swapsWith→tK,getMethod→tM,getItem→tN,PlainAttrs→tO,wpAny_typeOf→tR,callerA→tU,Scope→tV,plainObj_wpAny_Assign_Attribute→tW,wpAny_askSetting→tX,setFlight→tZ,IsPart→tm,subscripted→tu,wpAny_updateSeq→tw,wpAny_ite_split→uA,codeAny_of_tree→uC,standAt→uD,getAttr→uE,collect→uF,BindsTo→uG,isSubtype_type→uJ,isInstance→uK,builtinsNs→uL,atKey→uN,assign→uO,NameKind→uP
open PySem.W renaming findIn→rJ,boot_heap→rX,keepIn→rZ,emptyDict→sO,hasDictIn→sW,behindTheImports→si,kitOne→tD,instObj→tL,plainGet→tS,specialIn→tY,boot_drawn→uM
open PyProof.Rows renaming boot_sum→uq
open PySem renaming Within→uW,wpAt_of_wpAny→uf
open PySem.F renaming slot_dict_pop→uX,entry_dict_get→uY,args_dict_get_3→uZ,slot_str_split→uc,type_str_split→ud,plain_set_new→uh,slot_set_iter→um,entry_extend_loop→uo,type_dict_values→ur,type_dict_items→uu,slot_str_join→uv,type_str_join→uw,slot_list_extend→ux,type_list_extend→uy
open PySem.W renaming Frag→uT,nsIn→uU,Looks→uV
noncomputable section
namespace L2
open PySem PySem.Spec PyProof.Rows
open PySem.W (InitBack InstAt any_some bind_fn cellsFrom_some check_slot clsIn cls_value codeIn codeRec_of emptyDict eq_bytes findCls findIn findObj findObj_own fnOf get_value handedIn handedOut_of hasDictIn hideAll hideAll_get hideAll_none hideAll_size holds_open instObj isFn keepIn ki_setAt ki_setBack kitAny kitOne kitx_bool kitx_float kitx_int kitx_none kitx_own kitx_str kitx_tuple lookIn looks_find looks_mroIn make_core makesIn makes_of methodObj method_cls method_fn mg_none_of mroIn ne_bytes of_hideAll osa_eq osa_open plainGet plainOver readsIn set_plain specialIn takerIn takesIn typeIn)
abbrev AG:=@if_neg
abbrev AH:=@if_pos
abbrev BK:=@decide_eq_false
abbrev BL:=@congrArg
abbrev BW:=@decide_eq_true
abbrev Bs:=@if_false
abbrev CO:=@if_true
abbrev DU:=@ite_congr
abbrev EW:=@bne_self_eq_false
abbrev Gd:=@getElem?_pos
abbrev Gg:=@beq_iff_eq
abbrev HX:=@of_decide_eq_true
abbrev JI:=@beq_self_eq_true
abbrev KP:=@or_false
abbrev LG:=@beq_false_of_ne
abbrev LP:=@decide_false
abbrev LS:=@decide_true
abbrev ON:=@beq_eq_false_iff_ne
abbrev OT:=@decide_eq_true_eq
abbrev Qz:=@of_decide_eq_false
abbrev VF:=@decide_eq_false_iff_not
local macro_rules|`(tactic|left)=>`(tactic|first|decide+kernel|exact⟨rfl,rfl,rfl,by left,rfl,by left,by left⟩)
noncomputable def inClass(s:qu)(j:Nat):qu:=match s with
 |.ClassDef _ _ _ body _ _ _ _ _ _ _=>body.getD j (.Pass ⟨0,0,0,0⟩)
 |_=>.Pass ⟨0,0,0,0⟩
noncomputable def JU(s:qu):Arguments:=match s with
 |.FunctionDef _ a _ _ _ _ _ _ _ _=>a
 |_=>{posonlyargs:=[],args:=[],vararg:=none,kwonlyargs:=[],kw_defaults:=[],kwarg:=none,defaults:=[]}
noncomputable def F6(s:qu):List qu:=match s with
 |.FunctionDef _ _ b _ _ _ _ _ _ _=>b
 |_=>[]
noncomputable def Ao(s:qu):tV:=match s with
 |.FunctionDef _ _ _ _ _ _ sc _ _ _=>sc
 |_=>{kind:=.function,names:=[],isGenerator:=false,isCoroutine:=false}
noncomputable def top(i:Nat):qu:=PySem.Challenge.pw_pagenook_k10_whole_dropped_and_written_a.main.body.getD i (.Pass ⟨0,0,0,0⟩)
abbrev J8:qu:=inClass (top 1) 0
abbrev RY:qu:=inClass (top 2) 0
abbrev RZ:qu:=inClass (top 3) 0
abbrev RL:qu:=inClass (top 4) 0
abbrev Rg:qu:=inClass (top 5) 0
abbrev RR:qu:=inClass (top 6) 0
abbrev RT:qu:=inClass (top 7) 0
abbrev Ve:qu:=top 9
abbrev Vs:qu:=top 10
abbrev Qy:qu:=top 12
abbrev RE:qu:=top 13
abbrev RH:qu:=top 14
abbrev Ou:qu:=top 15
abbrev Rf:qu:=top 16
abbrev WM:qu:=top 18
abbrev Vm:qu:=top 19
abbrev Vz:qu:=top 20
abbrev Oq:qu:=top 21
abbrev Rk:qu:=top 22
abbrev Mq:qu:=top 24
abbrev Rm:qu:=inClass (top 25) 0
abbrev RF:qu:=inClass (top 25) 1
abbrev Qp:qu:=inClass (top 25) 2
abbrev Qs:qu:=inClass (top 25) 3
abbrev Q8:qu:=inClass (top 25) 4
abbrev Qx:qu:=inClass (top 25) 5
abbrev Q7:qu:=inClass (top 25) 6
abbrev RM:qu:=inClass (top 25) 7
abbrev RJ:qu:=inClass (top 25) 8
abbrev RU:qu:=inClass (top 25) 9
abbrev RI:qu:=inClass (top 25) 10
abbrev Q6:qu:=inClass (top 25) 11
abbrev RG:qu:=inClass (top 25) 12
abbrev Qt:qu:=inClass (top 25) 13
abbrev R7:qu:=top 27
abbrev RW:qu:=top 28
abbrev Rh:qu:=top 29
abbrev RX:qu:=top 30
abbrev SA:qu:=top 31
abbrev S2:qu:=top 32
abbrev Rq:qu:=top 33
abbrev Pw:qu:=top 35
abbrev P7:qu:=top 36
abbrev Y6:qu:=top 37
abbrev Qc:qu:=top 38
abbrev bG:qu:=top 39
abbrev QJ:qu:=top 40
abbrev PZ:qu:=top 41
abbrev NJ:qu:=top 42
abbrev TN:qu:=top 43
abbrev NH:qu:=top 44
abbrev Pu:qu:=top 45
abbrev NQ:qu:=top 46
abbrev Tq:qu:=top 47
abbrev Ny:qu:=top 48
abbrev NN:qu:=top 49
abbrev Rw:qu:=top 50
abbrev Pc:qu:=top 51
abbrev Ts:qu:=top 52
abbrev S1:qu:=top 53
abbrev TH:qu:=top 54
abbrev Sy:qu:=top 55
abbrev SW:qu:=top 56
abbrev R0:qu:=top 57
abbrev Sd:qu:=top 58
abbrev Th:qu:=top 59
abbrev L3:qu:=top 60
section
open PySem.W
noncomputable def hRf:Option (Option AA)->Ya
 |some (some (.ref a))=>a
 |_=>0
noncomputable def N8:Option (Option AA)->Bool
 |some (some (.ref _))=>true
 |_=>false
abbrev cL:=Option (Str×Str×Arguments×FuncBody×tV×Ya×List (Str×Ya)×AA×Ya×Bool)
noncomputable def L6(K:uT)(f:Ya)(q:Str):cL:=match K.lookup f with
 |some ⟨_,_,.func d,_⟩=>some (d.name,d.qualname,d.params,d.body,d.scope,d.globals,d.closure,d.defaults,d.builtins,codeIn K d.code q&&rZ K (.ref f)&&isFn K (.ref f))
 |_=>none
def MH(x q:Str)(st:qu):cL:=some (x,q,JU st,.stmts (F6 st),Ao st,hY,[],.none,uL,true)
noncomputable def Qd(K:uT)(C:Ya):Option (AA×List AA×Bool×Option (Option AA)):=match K.lookup C with
 |some ⟨c,_,.cls d,sl⟩=>some (c,d.mro,d.hasDel,match sl.toList with|[_,_,_,_,k,_]=>some k|_=>none)
 |_=>none
noncomputable def Qh(C:Ya)(bm:List AA):Option (AA×List AA×Bool×Option (Option AA)):=some (.type "type",.ref C::bm,false,some (some (.builtin "Exception.__new__")))
abbrev bY:List AA:=[.type "Exception",.type "BaseException",.type "object"]
def cH(K:uT)(x q:Str)(C:Ya):=(uU K hY x,Qd K C,sW K C,rJ K (.ref C) "answer",rJ K (.ref C) "__setattr__",rJ K (.ref C) "__getattribute__",
 rJ K (.ref C) "__getattr__",rZ K (.ref C),N8 (rJ K (.ref C) "__init__"),L6 K (hRf (rJ K (.ref C) "__init__")) q)
def cG(q:Str)(st:qu)(R C:Ya):=(some (some (Value.ref C)),Qh C (.ref R::bY),true,(some none:Option (Option AA)),some (some (Value.builtin "object.__setattr__")),some (some (Value.builtin "BaseException.__getattribute__")),
 (some none:Option (Option AA)),true,true,MH "__init__" q st)
def bq(K:uT)(L:List (Str×Str×qu×Ya)):=L.map fun z=>cH K z.1 z.2.1 z.2.2.2
def bb(R:Ya)(L:List (Str×Str×qu×Ya)):=L.map fun z=>cG z.2.1 z.2.2.1 R z.2.2.2
def bZ(K:uT)(C:Ya)(L:List (Str×Str×qu)):=L.map fun z=>(N8 (rJ K (.ref C) z.1),L6 K (hRf (rJ K (.ref C) z.1)) z.2.1)
def cF(L:List (Str×Str×qu)):=L.map fun z=>(true,MH z.1 z.2.1 z.2.2)
def U7(K:uT)(L:List (Str×qu)):=L.map fun z=>(N8 (uU K hY z.1),L6 K (hRf (uU K hY z.1)) z.1)
def U6(L:List (Str×qu)):=L.map fun z=>(true,MH z.1 z.1 z.2)
def cK(K:uT)(R:Ya):=(uU K hY "Refusal",Qd K R,readsIn K R (.type "type"),tY K (.ref R) "__getattribute__",
 (match findCls K (.ref R) (.type "type") "__init__" with|some (.val (.ref f))=>L6 K f "Refusal.__init__" |_=>none))
def bo(st:qu)(R:Ya):=(some (some (Value.ref R)),Qh R bY,true,some (some (Value.builtin "type.__getattribute__")),MH "__init__" "Refusal.__init__" st)
noncomputable def bj(K:uT)(C:Ya):=(uU K hY "Nook",tS K C Str.empty&&sW K C&&plainOver K C&&makesIn K C&&rZ K (.ref C),rJ K (.ref C) "__setattr__",rJ K (.ref C) "pages")
noncomputable def bX(C:Ya):=(some (some (Value.ref C)),true,some (some (Value.builtin "object.__setattr__")),(some none:Option (Option AA)))
noncomputable def P6(h:rE):uT:=(List.range h.objs.size).filterMap fun a=>(h.get? a).map fun o=>(a,o)
def U9:List (Str×Str×qu×Ya):=[("NoPage","NoPage.__init__",RY,51),("NoName","NoName.__init__",RZ,70),("SamePage","SamePage.__init__",RL,89),("Taken","Taken.__init__",Rg,108),("NoPlace","NoPlace.__init__",RR,127),("NoWords","NoWords.__init__",RT,146)]
def Uk:List (Str×Str×qu):=[("__init__","Nook.__init__",Rm),("need_page","Nook.need_page",RF),("need_free_name","Nook.need_free_name",Qp),("point_all_on","Nook.point_all_on",Qs),("write_page","Nook.write_page",Q8),("rename_page","Nook.rename_page",Qx),("join_pages","Nook.join_pages",Q7),("cut_page","Nook.cut_page",RM),("drop_page","Nook.drop_page",RJ),("text_of","Nook.text_of",RU),("back_from","Nook.back_from",RI),("find_pages","Nook.find_pages",Q6),("all_pointers","Nook.all_pointers",Qt),("all_texts","Nook.all_texts",RG)]
def U4:List (Str×qu):=[("law",L3),("places_in_order",Ve),("shortest",Vs),("names_pointed_to",Qy),("count_pointers",RE),("pages_pointing",RH),("places_of",Ou),("pages_near",Rf),("is_name",WM),("read_word",Vm),("split_up",Vz),("tell_word",Oq),("tell_text",Rk),("point_on",Mq),("do_deed",R7),("answer_deed",RW),("answer_all",Rh),("nook_behind",RX),("answers",SA),("texts",S2),("pointers",Rq),("_law_room",Pw)]
def UQ:List (Str×qu):=[("_law_draw",P7),("_law_whole",Y6),("_law_alike",bG),("_law_odd_word",QJ),("_law_penned",PZ),("_law_sought",NJ),("_law_deeds",TN),("_law_is_name",NH),("_law_begun",Pu),("_law_named",NQ),("_law_added",Tq),("_law_led",Ny),("_law_turned",NN),("_law_penned_in",Rw),("_law_name_of",Pc),("_law_shown",Ts),("_law_barred",TH),("_law_joined",Sy),("_law_changed",SW),("_law_pointers",R0),("_law_played",Sd),("_law_at",Qc),("_law_text_of",S1),("_law_texts",Th)]
noncomputable def bJ:List Str:=["isinstance","list","tuple","str","int","bool","len","range","sum","sorted","set","enumerate","all","min"]
def Kp(K:Frag):=(cK K 31,bq K U9,bj K 323,bZ K 323 Uk,U7 K U4,U7 K UQ,bJ.map (nsIn K hY))
def Kt:=(bo J8 31,bb 31 U9,bX 323,cF Uk,U6 U4,U6 UQ,bJ.map fun _=>(some none:Option (Option AA)))
def Uw(_:rH)(h:rE):Prop:=∃K:Frag,K.In h/\Kp K=Kt
abbrev DE:qy:=PySem.Challenge.pw_pagenook_k10_whole_dropped_and_written_a
noncomputable def GU:qy:=view DE ((List.range 61).filter fun i=> !([0,8,11,17,23,26,34]:List Nat).contains i)
noncomputable def hZ:Pos:=⟨0,0,0,0⟩
noncomputable def Lx:Env:={scope:=DE.main.scope,locals:=mainNs,globals:=mainNs,cells:=[],code:=.ref 13,frame:=some 14}
def hC:Code:=.body (si DE) Lx
noncomputable def hO(cls:AA)(d:Data)(sl:Array (Option AA)):Obj:={cls:=cls,data:=d,slots:=sl}
noncomputable def nX(P:Params):BT:=
 let n (o:Obj):=BT.node o .nil .nil
 .node (boot_o_0 P) (.node (boot_o_1 P) (.node (boot_o_3 P) (n (boot_o_7 P)) (n (hO (.type "tuple") (.seq #[] 0) #[]))) (.node (boot_o_5 P) (n (boot_o_9 P))
  (n (hO (.type "code") (.fields #[.str "<module>" 182,.str "<module>" 183,.str "/claim/cut.py" 184,.int 1 0,.int 0 0,.int 0 0,.int 0 0,.int 0 0,.ref 11,.bool false,.int 181 0,.ref 12,.none,.none,.none,.none,.int 185 0,.int 1 0,.str "/claim/cut.py" 186]) #[]))))
  (.node (boot_o_2 P) (.node (boot_o_4 P) (n (boot_o_8 P)) (n (hO .none (.fields #[]) #[]))) (.node (boot_o_6 P) (n (boot_o_10 P)) (n (hO (.type "frame") .plain #[some (.ref 13),some (.ref 3),some (.ref 3),none,some (.str "__main__" 164),none,some (.ref 0)]))))
noncomputable def hS(w:rH)(os:OsState):SharedT:=⟨nX w.params,15,(rX w.params).life,#[],uM,187,os⟩
noncomputable def I9(w:rH)(os:OsState):Option (Flow×SharedT×Code×Pos):=Fast.tw10110043849684766642 Fast.tw14364793385576792824 DE w 11 (some (.ref 6)) 1 3757 (hS w os) (piecesOf (si DE) Lx hC hZ [topFrame hZ])
def oR(w:rH):(fun os=>(I9 w os).map fun z=>(z.1,z.2.2.1,staticsOk (rT DE.main.body) (rX w.params) z.2.1.abs.heap&&namesBound DE z.2.1.abs.heap&&gensDone z.2.1.abs&&laidKept (rX w.params) z.2.1.abs.heap))=fun _=>some (Flow.next,hC,true):=by kernel_rfl
def oC(w:rH):(fun os=>(I9 w os).map fun z=>Fast.tw4187177175401517315 GU [] (rT DE.main.body) (fun s=>xlAt GU [] s&&recOk [] s) true z.2.1.abs)=fun _=>some (openGood GU []):=by kernel_rfl
def oj(w:rH):(fun os=>(I9 w os).map fun z=>Kp (P6 z.2.1.abs.heap))=fun _=>some Kt:=by kernel_rfl
def pF(w:rH):(fun os=>topGo rh DE w 11 (some (.ref 6)) 12 ⟨rX w.params,#[],uM,boot_toks,os⟩ (topStub DE))=fun os=>some ((hS w os).abs,⟨denote rh hC,hC,hZ,[topFrame hZ]⟩):=by kernel_rfl
def oA(w:rH):((rX w.params).isNs hY&&(#[]:Array sj).size==0,(rX w.params).objs.size,(rX w.params).nsMap hY "__annotations__")=(true,11,some (.ref 6)):=by kernel_rfl
def oZ:PySem.Challenge.rw_pagenook_k10_whole_dropped_and_written_a.wellSaid=true:=by left
def pI(w:rH)(os:OsState):segRunT rh DE w 11 (some (.ref 6)) 1 3757 (hS w os) (piecesOf (si DE) Lx hC hZ [topFrame hZ])=I9 w os:=by unfold I9;rw[<-Fast.te10110043849684766642,<-Fast.te14364793385576792824]
end
variable{w:rH}{os:OsState}
section
open PySem.W
def j9{s:SharedT}{q:Pos}(h:I9 w os=some (.next,s,hC,q)):
 topRun rh DE w 11 (some (.ref 6)) (12+(1+(3757+2))) ⟨rX w.params,#[],uM,boot_toks,os⟩ (topStub DE)=some s.abs:=by
 refine go_top (congrFun (pF w) os) (piece_block (s':=(hS w os).abs) (p':=hZ) (env:=Lx) (b:=si DE) rfl ?_);have k:=piece_app (env:=Lx) (rest:=[]) (segRun_of ((pI w os).trans h)) (piece_nil (env:=Lx) (N:=2) (r:=s.abs) rfl);rw[CF] at k;exact k
def qk:opening DE=plainProg DE.main.scope.names:=by kernel_rfl
def qR(s:Yf):fenceModules? DE s=some s:=by kernel_rfl
def qX(w:rH):∃os,fencedOpening rh DE w 7638=some ⟨rX w.params,#[],uM,boot_toks,os⟩:=by obtain⟨⟨h,gs,d,k,os⟩,e,e'⟩:=OH.mp (boot_open qk (N:=7638) (by decide) qR w);cases e';exact⟨os,e⟩
end
variable{ann:Option AA}{s:Yf}
section
open PySem.W
def qV{p:qy}{n₀ n N:Nat}{r:Yf}{t:Thread}(h:topRun rh p w n₀ ann n s t=some r)(k:n+(N-n)=N):topRun rh p w n₀ ann N s t=some r:=
 k▸topRun_mono (N-n) n s t r h
end
variable{α β:Type}
section
open PySem.W
def bx{o:Option α}{f:α->β}{z:α}{y:β}(e:o=some z)(r:o.map f=some y):f z=y:=by subst e;exact Af r
def pk{p q:qy}{N n₀:Nat}{X:Yf->Bool}{Y:Yf->α}{y:α}{s₀ s₁:Yf}(e:fencedOpening rh p w N=some s₀)
 (z:(s₀.heap.isNs hY&&s₀.gens.size==0,s₀.heap.objs.size,s₀.heap.nsMap hY "__annotations__")=(true,n₀,ann))(t:topRun rh p w n₀ ann N s₀ (topStub p)=some s₁)
 (g:(staticsOk (rT p.main.body) s₀.heap s₁.heap&&namesBound p s₁.heap&&gensDone s₁&&laidKept s₀.heap s₁.heap)=true)(r1:openSeen q [] (rT p.main.body) X true s₁=openGood q [])(r2:Y s₁=y):
 (openEnds rh p w N).map (fun s=>(openSeen q [] (rT p.main.body) X true s,Y s))=some (openGood q [],y):=by
 obtain⟨z1,z2,z3⟩:_/\_/\_:=by simpa only[LM] using z
 subst z2 z3;unfold openEnds;rw[e,Mb];unfold topFrom;rw[z1];dsimp only;rw[t,Mb,g];dsimp only;rw[Ob,r1,r2]
def qS{s:SharedT}{q:Pos}(h:I9 w os=some (.next,s,hC,q)):openSeen GU [] (rT DE.main.body) (fun s=>xlAt GU [] s&&recOk [] s) true s.abs=openGood GU []:=by rw[Fast.te4187177175401517315];have k:=bx h (congrFun (oC w) os);exact k
def qe{s:SharedT}{q:Pos}(h:I9 w os=some (.next,s,hC,q)):Kp (P6 s.abs.heap)=Kt:=
 have k:=bx h (congrFun (oj w) os)
 k
def qj(w:rH)(os:OsState):∃s q,I9 w os=some (.next,s,hC,q)/\(staticsOk (rT DE.main.body) (rX w.params) s.abs.heap&&namesBound DE s.abs.heap&&gensDone s.abs&&laidKept (rX w.params) s.abs.heap)=true:=by obtain⟨⟨f,s,c,q⟩,er,r0⟩:=OH.mp (congrFun (oR w) os);obtain⟨e1,e2⟩:=JO r0;obtain⟨e3,e4⟩:=JO e2;dsimp only at e1 e3;subst e1 e3;exact⟨s,q,er,e4⟩
def nF:LeftO DE GU [] (fun s=>xlAt GU [] s&&recOk [] s) (fun s=>Kp (P6 s.heap)) (fun _=>Kt) 7638:=fun w=>
 have⟨os,e⟩:=qX w;have⟨_,_,er,g⟩:=qj w os
 pk e (oA w) (qV (j9 er) (by decide)) g (qS er) (qe er)
def jL(h:rE):(P6 h).In h:=by
 intro a o e;have m:∀{l:List (Ya×Obj)},l.lookup a=some o->(a,o)∈l:=by
  intro l
  induction l with
  |nil=>intro z;cases z
  |cons p l ih=>
   intro z;obtain⟨b,u⟩:=p;rw[HY] at z
   cases hb:a==b with
   |true=>rw[hb] at z;cases z;rw[Gg.mp hb];exact EB
   |false=>rw[hb] at z;exact DG _ (ih z)
 obtain⟨b,_,q⟩:=Q1.mp (m e);obtain⟨u,hu,q⟩:=OH.mp q;cases q;exact hu
def qt(hc:∀d:DefRec,d.name="law" ->d.params.defaults=[]->WalkO GU [] (XL GU []) Uw PySem.Challenge.rw_pagenook_k10_whole_dropped_and_written_a.row.toRowW d [] (fun f vs=>PySem.call f vs)):PySem.Challenge.rw_pagenook_k10_whole_dropped_and_written_a.Holds:=by
 refine holds_law oZ fun said=>?_;refine holds_open (q:=GU) (loose:=[]) (Xt:=fun s=>xlAt GU [] s&&recOk [] s) (XP:=XL GU []) (YP:=Uw) (N:=7638) nF (fun _ s e=>⟨_,jL s.heap,e⟩) (fun _ _ _ ⟨K,k,e⟩ q=>⟨K,fun a o z=>q a o (k a o z),e⟩)
  (fun s e=>xl_of s (Bool.and_eq_true_iff.mp e).1) XL.keeps (by rfl) (by rfl) (by rfl) (fun s e=>recFacts_of (Bool.and_eq_true_iff.mp e).2) (by rfl) said (by left) ⟨rfl,rfl,rfl,rfl,rfl,by left⟩ ?hw ?hc;case hw=>w_witness2
 case hc=>exact hc _ rfl rfl
end
abbrev Key:=Sum Int Str
noncomputable def Jf:Key->AA->Bool
 |.inl k,v=>Value.isInt k v
 |.inr x,v=>Value.isStrOf x v
noncomputable def pP(w:rH):Key->Int
 |.inl k=>hashInt k
 |.inr x=>hashStr w x
def Ge:∀{k:Key}{v:AA},Jf k v=true->(∃i t,k=Sum.inl i/\v=Value.int i t)\/(∃x t,k=Sum.inr x/\v=Value.str x t)
 |.inl i,v,h=>by obtain⟨t,e⟩:=Value.isInt_shape (k:=i) (v:=v) h;exact .inl ⟨i,t,rfl,e⟩
 |.inr x,v,h=>by obtain⟨t,e⟩:=Value.isStrOf_shape (x:=x) (v:=v) h;exact .inr ⟨x,t,rfl,e⟩
def gF(i:Int)(t:Tok):Jf (.inl i) (.int i t)=true:=by simp[Jf,Value.isInt]
def eL(x:Str)(t:Tok):Jf (.inr x) (.str x t)=true:=by simp[Jf,Value.isStrOf]
def Yx(a b:Int):decide ((Sum.inl a:Key)=Sum.inl b)=(a==b):=by
 by_cases e:a=b
 ·subst e;simp
 ·have h:¬(Sum.inl a:Key)=Sum.inl b:=fun q=>e (Sum.inl.inj q);rw[BK h];exact(ON.mpr e).symm
def ZL(a b:Str):decide ((Sum.inr a:Key)=Sum.inr b)=decide (a=b):=by
 by_cases e:a=b
 ·subst e;simp
 ·have h:¬(Sum.inr a:Key)=Sum.inr b:=fun q=>e (Sum.inr.inj q);rw[BK h,BK e]
def lK(a:Int)(b:Str):decide ((Sum.inl a:Key)=Sum.inr b)=false:=BK (fun q=>nomatch q)
def kW(a:Str)(b:Int):decide ((Sum.inr a:Key)=Sum.inl b)=false:=BK (fun q=>nomatch q)
def Ci(prog:qy)(w:rH):PySem.KeyKind prog w Key where
 is:=Jf
 hash:=pP w
 inj:=fun v a b ha hb=>by
  rcases Ge ha with⟨i,t,rfl,rfl⟩|⟨x,t,rfl,rfl⟩
  ·rcases Ge hb with⟨j,u,rfl,e⟩|⟨y,u,rfl,e⟩
   ·injection e with e1 _;rw[e1]
   ·exact nomatch e
  ·rcases Ge hb with⟨j,u,rfl,e⟩|⟨y,u,rfl,e⟩
   ·exact nomatch e
   ·injection e with e1 _;rw[e1]
 byValue:=fun k v h=>by rcases Ge h with⟨i,t,rfl,rfl⟩|⟨x,t,rfl,rfl⟩<;>rfl
 pyHash:=fun hv h=>by
  rcases Ge hv with⟨i,t,rfl,rfl⟩|⟨x,t,rfl,rfl⟩
  ·exact wpAny_pyHash_int h
  ·exact wpAny_pyHash_str h
 eqBool:=fun hu hv h=>by
  rcases Ge hu with⟨i,t,rfl,rfl⟩|⟨x,t,rfl,rfl⟩
  ·rcases Ge hv with⟨j,u,rfl,rfl⟩|⟨y,u,rfl,rfl⟩
   ·rw[Yx] at h;exact wpAny_eqBool_int h
   ·rw[lK] at h;exact SeqAt.EqAt.int_str i t y u _ _ _ _ h
  ·rcases Ge hv with⟨j,u,rfl,rfl⟩|⟨y,u,rfl,rfl⟩
   ·rw[kW] at h;exact SeqAt.EqAt.str_int x t j u _ _ _ _ h
   ·rw[ZL] at h;exact wpAny_eqBool_str h
 «strs»:=fun k x t v h=>by
  rcases Ge h with⟨i,u,rfl,e⟩|⟨y,u,rfl,e⟩
  ·exact nomatch e
  ·injection e with e1 _;subst e1;cases v<;>rfl
def dC(prog:qy)(w:rH)(i:Int)(t:Tok):(Ci prog w).is (.inl i) (.int i t)=true:=gF i t
def cv(prog:qy)(w:rH)(x:Str)(t:Tok):(Ci prog w).is (.inr x) (.str x t)=true:=eL x t
inductive V where
 |BA|bl (b:Bool)|int (i:Int)|str (x:Str)|GV (b:Array UInt8)|JC (b:UInt64)|ref (a:Ya)|ty (n:String)
 deriving DecidableEq
def RelV:V->AA->Prop
 |.BA,u=>u=Value.none
 |.bl b,u=>u=Value.bool b
 |.int i,u=>∃t,u=Value.int i t
 |.str x,u=>∃t,u=Value.str x t
 |.GV b,u=>∃t,u=Value.bytes b t
 |.JC b,u=>∃t,u=Value.float b t
 |.ref a,u=>u=Value.ref a
 |.ty n,u=>u=Value.type n
abbrev Vals:List V->List AA->Prop:=Paired RelV
def Vals.length{xs:List V}{us:List AA}(r:Vals xs us):xs.length=us.length:=JL r
def Vals.get:∀{xs:List V}{us:List AA}{i:Nat}{x:V},Vals xs us->xs[i]? =some x->∃u,us[i]? =some u/\RelV x u
 |_,_,_,_,.nil,e=>by simp at e
 |_,_,0,_,.cons r _,e=>by simp at e;subst e;exact⟨_,rfl,r⟩
 |_,_,i+1,x,.cons _ t,e=>by obtain⟨u,h1,h2⟩:=Vals.get (i:=i) (x:=x) t (by simpa using e);exact⟨u,by simpa using h1,h2⟩
def Vals.set{x:V}{u:AA}(r:RelV x u):∀{xs:List V}{us:List AA}(i:Nat),Vals xs us->Vals (xs.set i x) (us.set i u)
 |_,_,_,.nil=>.nil
 |_,_,0,.cons _ t=>.cons r t
 |_,_,i+1,.cons q t=>.cons q (Vals.set r i t)
def Vals.append:∀{xs ys:List V}{us ws:List AA},Vals xs us->Vals ys ws->Vals (xs++ys) (us++ws)
 |_,_,_,_,.nil,s=>s
 |_,_,_,_,.cons r t,s=>.cons r (Vals.append t s)
def Vals.take:∀{xs:List V}{us:List AA}(n:Nat),Vals xs us->Vals (xs.take n) (us.take n)
 |_,_,0,_=>.nil
 |_,_,_+1,.nil=>.nil
 |_,_,n+1,.cons r t=>.cons r (Vals.take n t)
def Vals.drop:∀{xs:List V}{us:List AA}(n:Nat),Vals xs us->Vals (xs.drop n) (us.drop n)
 |_,_,0,r=>r
 |_,_,_+1,.nil=>.nil
 |_,_,n+1,.cons _ t=>Vals.drop n t
def Du:Option V->Option AA->Prop
 |some v,some u=>RelV v u
 |none,none=>True
 |_,_=>False
def KV{κ:Type}:List (κ×V)->List (κ×AA)->Prop:=Paired fun(p:κ×V)(q:κ×AA)=>p.1=q.1/\RelV p.2 q.2
noncomputable def kV:Key->V
 |.inl i=>.int i
 |.inr x=>.str x
inductive HO where
 |lst (xs:List V)
 |tup (xs:List V)
 |dK (AD:List (Key×V))|dT (AD:List (List Key×V))
 |set (S:Int->Bool) (n:Nat)
 |ins (C dx:Ya) (fs:List (Str×V))
 |own (x:Ya)
 |xd (fs:List (Str×V))
 |met (f x:Ya)
 |Jp (lo hi:Int)
 |BR (o:Obj) (u:HO)
 |Js (ps:Array AA)
 |ext (φ:rE->Prop)
abbrev Hp:=Ya->Option HO
noncomputable def upd(H:Hp)(a:Ya)(o:HO):Hp:=fun b=>if b=a then some o else H b
variable{H:Hp}{a:Ya}
def AM{o:HO}:upd H a o a=some o:=by unfold upd;rw[AH rfl]
variable{b:Ya}
def AQ{o:HO}(h:b≠a):upd H a o b=H b:=by unfold upd;rw[AG h]
def KY{o u:HO}:upd (upd H a o) a u=upd H a u:=by funext b;unfold upd;split<;>rfl
def Ca{o u:HO}(h:H a=some o)(h':H b=some u)(d:o≠u):a≠b:=by intro e;subst e;rw[h] at h';exact d (Af h')
def A2{o:HO}(h:H a=some o)(h':H b=none):a≠b:=by intro e;subst e;rw[h] at h';cases h'
section
variable(P:qy)(w:rH)
def BP(H:Hp)(h:rE)(a:Ya):HO->Prop
 |.lst xs=>xs.length<=sizeLine/\∃(AX:List AA)(n:Nat),Vals xs AX/\h.get? a=some {cls:=.type "list",data:=.seq AX.toArray n}
 |.tup xs=>xs.length<=sizeLine/\∃AX:List AA,Vals xs AX/\IsTup h a AX.toArray
 |.dK AD=>AD.length<=sizeLine/\(a==rV)=false/\∃vs,KV AD vs/\h.DictOf (Ci P w) a vs
 |.dT AD=>AD.length<=sizeLine/\(a==rV)=false/\∃xs:List (List Key×Ya×AA),
  Paired (fun(p:List Key×V)(q:List Key×Ya×AA)=>p.1=q.1/\H q.2.1=some (.tup (p.1.map kV))/\RelV p.2 q.2.2) AD xs/\
  ∃o es ep,h.get? a=some o/\o.ExactDict/\o.data=.dict es ep/\es.toList=xs.map (entryOfKey (tJ (Ci P w)))/\(xs.map (·.1)).Nodup
 |.set S n=>h.SetOf (intKind P w) a S n
 |.ins C dx fs=>H dx=some (.own a)/\fs.length<=1000/\dx≠a/\h.get? a=some (tL C dx)/\
  ∃mA,h.Ns1 dx mA/\(∀f,Du (fs.lookup f) (mA f))/\uW mA (fs.map (·.1))
 |.own _=>∃o,h.get? a=some o
 |.xd fs=>∃mA,h.Ns1 a mA/\∀f,Du (fs.lookup f) (mA f)
 |.Jp lo hi=>∃t u v,h.get? a=some {cls:=.type "range",data:=.fields #[.int lo t,.int hi u,.int 1 v]}
 |.BR o u=>h.get? a=some o/\BP H h a u
 |.Js ps=>h.get? a=some {cls:=.none,data:=.fields ps}
 |.met f x=>h.get? a=some (methodObj (.ref f) (.ref x))
 |.ext φ=>φ h/\(∃o,h.get? a=some o)/\∀h1 h2:rE,φ h1->(∀o,h1.get? a=some o->h2.get? a=some o)->φ h2
def By(H:Hp)(h:rE):Prop:=∀a o,H a=some o->BP P w H h a o
end
variable{P:qy}{h:rE}
section
variable{o:HO}
def BP.lt(x:BP P w H h a o):a<h.objs.size:=by
 cases o with
 |lst xs=>obtain⟨_,_,_,_,e⟩:=x;exact A7 e
 |tup xs=>obtain⟨_,_,_,p⟩:=x;exact p.lt
 |dK AD=>obtain⟨_,_,_,_,o,_,_,e,_⟩:=x;exact A7 e
 |dT AD=>obtain⟨_,_,_,_,o,_,_,e,_⟩:=x;exact A7 e
 |set S n=>obtain⟨o,_,_,_,e,_⟩:=x;exact A7 e
 |ins C dx fs=>obtain⟨_,_,_,e,_⟩:=x;exact A7 e
 |own y=>obtain⟨_,e⟩:=x;exact A7 e
 |xd fs=>obtain⟨_,⟨_,_,_,e,_⟩,_⟩:=x;exact A7 e
 |Jp lo hi=>obtain⟨_,_,_,e⟩:=x;exact A7 e
 |BR ob u=>obtain⟨e,_⟩:=x;exact A7 e
 |Js ps=>exact A7 (show h.get? a=some _ from x)
 |met f y=>exact A7 (show h.get? a=some _ from x)
 |ext φ=>obtain⟨_,⟨_,e⟩,_⟩:=x;exact A7 e
def Paired.Ua{α β:Type}{F G:α->β->Prop}:∀{l₁:List α}{l₂:List β},Paired F l₁ l₂->(∀a b,F a b->G a b)->Paired G l₁ l₂
 |_,_,.nil,_=>.nil
 |_,_,.cons r t,f=>.cons (f _ _ r) (Paired.Ua t f)
end
variable{H':Hp}{h':rE}
section
variable{o:HO}
def BP.Eu(x:BP P w H h a o)(k:∀b u,(b=a\/H b=some (.own a))->h.get? b=some u->h'.get? b=some u)
 (ho:∀b,H b=some (.own a)->H' b=some (.own a))(ht:∀b xs,H b=some (.tup xs)->H' b=some (.tup xs)):BP P w H' h' a o:=by
 induction o with
 |lst xs=>obtain⟨z,AX,n,r,e⟩:=x;exact⟨z,AX,n,r,k _ _ (.inl rfl) e⟩
 |tup xs=>obtain⟨z,AX,r,ob,e,c⟩:=x;exact⟨z,AX,r,ob,k _ _ (.inl rfl) e,c⟩
 |dK AD=>obtain⟨z,y,vs,r,ob,es,ep,e,c⟩:=x;exact⟨z,y,vs,r,ob,es,ep,k _ _ (.inl rfl) e,c⟩
 |dT AD=>obtain⟨z,y,xs,r,ob,es,ep,e,c⟩:=x;exact⟨z,y,xs,Paired.Ua r fun p q z=>⟨z.1,ht _ _ z.2.1,z.2.2⟩,ob,es,ep,k _ _ (.inl rfl) e,c⟩
 |set S n=>obtain⟨ob,es,ep,t,e,c⟩:=x;exact⟨ob,es,ep,t,k _ _ (.inl rfl) e,c⟩
 |ins C dx fs=>obtain⟨d,z,ne,e,mA,⟨od,es,ep,e2,c⟩,r⟩:=x;exact⟨ho _ d,z,ne,k _ _ (.inl rfl) e,mA,⟨od,es,ep,k _ _ (.inr d) e2,c⟩,r⟩
 |own y=>obtain⟨ob,e⟩:=x;exact⟨ob,k _ _ (.inl rfl) e⟩
 |xd fs=>obtain⟨mA,⟨od,es,ep,e,c⟩,r⟩:=x;exact⟨mA,⟨od,es,ep,k _ _ (.inl rfl) e,c⟩,r⟩
 |Jp lo hi=>obtain⟨t,u,v,e⟩:=x;exact⟨t,u,v,k _ _ (.inl rfl) e⟩
 |BR ob u ih=>obtain⟨e,q⟩:=x;exact⟨k _ _ (.inl rfl) e,ih q⟩
 |Js ps=>have e:h.get? a=some {cls:=.none,data:=.fields ps}:=x;show h'.get? a=some {cls:=.none,data:=.fields ps};exact k a _ (.inl rfl) e
 |met f y=>have e:h.get? a=some (methodObj (.ref f) (.ref y)):=x;show h'.get? a=some (methodObj (.ref f) (.ref y));exact k a _ (.inl rfl) e
 |ext φ=>obtain⟨p,⟨o,e⟩,st⟩:=x;exact⟨st _ _ p fun o q=>k _ _ (.inl rfl) q,⟨o,k _ _ (.inl rfl) e⟩,st⟩
def By.lt(x:By P w H h)(e:H a=some o):a<h.objs.size:=(x a o e).lt
def By.fresh(x:By P w H h)(e:h.objs.size<=a):H a=none:=by
 cases q:H a with
 |none=>rfl
 |some u=>exact absurd (C8 (x.lt q) e) (Mn _)
def By.kept(x:By P w H h)(k:∀b u,h.get? b=some u->h'.get? b=some u):By P w H h':=fun a o e=>(x a o e).Eu (fun b u _ q=>k b u q) (fun _ q=>q) fun _ _ q=>q
def By.laid(x:By P w H h)(k:∀b u,h.get? b=some u->h'.get? b=some u)(hp:h.objs.size<=a)(new:BP P w (upd H a o) h' a o):By P w (upd H a o) h':=fun b u e=>by
 have hn:=x.fresh hp;by_cases hb:b=a
 ·subst hb;rw[AM] at e;cases e;exact new
 ·rw[AQ hb] at e;exact(x b u e).Eu (fun c v _ q=>k c v q) (fun c q=>by rw[AQ (A2 q hn)];exact q) fun c xs q=>by rw[AQ (A2 q hn)];exact q
end
def Rd(H:Hp)(a:Ya)(u:HO):Prop:=H a=some u\/∃o,H a=some (.BR o u)
def Rd.ok{u:HO}(r:Rd H a u)(x:By P w H h):BP P w H h a u:=by
 rcases r with r|⟨o,r⟩
 ·exact x a u r
 ·obtain⟨_,q⟩:=x a _ r;exact q
def OC:Option HO->Prop
 |some (.lst _)=>True
 |some (.dK _)=>True
 |some (.dT _)=>True
 |some (.set _ _)=>True
 |some (.ins _ _ _)=>True
 |some (.ext _)=>True
 |_=>False
section
variable{x e:Ya}{o':HO}
def By.write(ok:By P w H h)(mu:OC (H x))(he:e=x\/H e=some (.own x))(k:∀b u,b≠e->h.get? b=some u->h'.get? b=some u)(heo:∃u,h'.get? e=some u)
 (new:BP P w (upd H x o') h' x o'):By P w (upd H x o') h':=fun b u q=>by
 have nown:∀c y,H c=some (.own y)->c≠x:=fun c y r z=>by subst z;rw[r] at mu;exact mu
 have ntup:∀c xs,H c=some (.tup xs)->c≠x:=fun c xs r z=>by subst z;rw[r] at mu;exact mu
 by_cases hb:b=x
 ·subst hb;rw[AM] at q;cases q;exact new
 ·rw[AQ hb] at q;by_cases hbe:b=e
  ·have q':H b=some (.own x):=by
    rcases he with z|z
    ·exact absurd (hbe.trans z) hb
    ·rw[hbe];exact z
   rw[q] at q';cases q';obtain⟨v,hv⟩:=heo;exact⟨v,by rw[hbe];exact hv⟩
  ·refine(ok b u q).Eu (fun c v hc r=>k c v ?_ r) (fun c r=>by rw[AQ (nown c b r)];exact r) fun c xs r=>by rw[AQ (ntup c xs r)];exact r
   rcases hc with rfl|hc
   ·exact hbe
   ·rintro rfl;rcases he with z|z
    ·exact nown c b hc z
    ·rw[hc] at z;cases z;exact hb rfl
end
structure Un(fs ex:List Ya)(H H':Hp)(h h':rE):Prop where
 keep:∀b o,h.get? b=some o->H b=none->b∉fs->b∉ex->h'.get? b=some o
 slot:∀b o,h.get? b=some o->H b=none->b∈fs->b∉ex->∃sl,h'.get? b=some {o with slots:=sl}
 free:∀b o,h.get? b=some o->H b=none->b∉ex->H' b=none
 there:∀b o,h.get? b=some o->b∉ex->∃o',h'.get? b=some o'
 FQ:∀b xs,H b=some (.tup xs)->H' b=some (.tup xs)
 Ee:∀b o u,H b=some (.BR o u)->H' b=some (.BR o u)
 FN:∀b ps,H b=some (.Js ps)->∃more,H' b=some (.Js (ps++more))
variable{H1:Hp}
section
variable{fs fs' ex ex':List Ya}{h1 h2:rE}{x e:Ya}{o:HO}
def Un.any(u:Un fs ex H H1 h h1){ob:Obj}(q:h.get? b=some ob)(n:H b=none)(hx:b∉ex):∃sl,h1.get? b=some {ob with slots:=sl}:=by
 by_cases hb:b∈fs
 ·exact u.slot b ob q n hb hx
 ·exact⟨ob.slots,u.keep b ob q n hb hx⟩
def Un.kept(k:∀b u,h.get? b=some u->h'.get? b=some u):Un fs ex H H h h':=
 ⟨fun b ob q _ _ _=>k b ob q,fun b ob q _ _ _=>⟨ob.slots,k b ob q⟩,fun _ _ _ n _=>n,fun b ob q _=>⟨ob,k b ob q⟩,fun _ _ q=>q,fun _ _ _ q=>q,fun _ ps q=>⟨#[],by rw[q];simp⟩⟩
def Un.refl:Un fs ex H H h h:=Un.kept fun _ _ q=>q
def Un.laid(k:∀b u,h.get? b=some u->h'.get? b=some u)(hp:h.objs.size<=a)(hn:H a=none):Un fs ex H (upd H a o) h h' where
 keep:=fun b u q _ _ _=>k b u q
 slot:=fun b u q _ _ _=>⟨u.slots,k b u q⟩
 free:=fun b u q n _=>by rw[AQ (BN (C8 (A7 q) hp))];exact n
 there:=fun b u q _=>⟨u,k b u q⟩
 FQ:=fun b xs q=>by rw[AQ (A2 q hn)];exact q
 Ee:=fun b u xs q=>by rw[AQ (A2 q hn)];exact q
 FN:=fun b ps q=>⟨#[],by rw[AQ (A2 q hn),q];simp⟩
def Un.write(mu:OC (H x))(he:e=x\/H e=some (.own x))(k:∀b u,b≠e->h.get? b=some u->h'.get? b=some u)(heo:∃u,h'.get? e=some u):Un fs ex H (upd H x o) h h':=by
 have hx:∀b,H b=none->b≠x:=fun b n z=>by subst z;rw[n] at mu;exact mu
 have hb:∀b,H b=none->b≠e:=fun b n z=>by
  subst z;rcases he with r|r
  ·exact hx b n r
  ·rw[n] at r;cases r
 have hm:∀b u,H b=some u->¬OC (some u)->b≠x:=fun b u q nm z=>by subst z;rw[q] at mu;exact nm mu
 refine⟨fun b u q n _ _=>k b u (hb b n) q,fun b u q n _ _=>⟨u.slots,k b u (hb b n) q⟩,fun b u q n _=>by rw[AQ (hx b n)];exact n,fun b u q _=>?_,
  fun b xs q=>by rw[AQ (hm b _ q fun z=>z)];exact q,fun b u xs q=>by rw[AQ (hm b _ q fun z=>z)];exact q,fun b ps q=>⟨#[],by rw[AQ (hm b _ q fun z=>z),q];simp⟩⟩;by_cases hbe:b=e
 ·subst hbe;exact heo
 ·exact⟨u,k b u hbe q⟩
end
noncomputable def Qk(h:rE)(H:Hp):List Ya:=(List.range h.objs.size).filter fun a=>(H a).isSome
def JA(h:rE)(H:Hp):rE:=hideAll h (Qk h H)
def gP(h:rE)(H:Hp):(JA h H).objs.size=h.objs.size:=hideAll_size _ _
variable{o:Obj}
def i8(e:h.get? b=some o)(n:H b=none):(JA h H).get? b=some o:=
 hideAll_get _ e fun hm=>by have q:(H b).isSome=true:=(F3.mp hm).2;rw[n] at q;simp at q
def kR(e:(JA h H).get? b=some o):h.get? b=some o/\H b=none:=by
 have e':h.get? b=some o:=of_hideAll (Qk h H) e;refine⟨e',?_⟩
 cases q:H b with
 |none=>rfl
 |some x=>have hm:b∈Qk h H:=F3.mpr ⟨LJ.mpr (A7 e'),by simp[q]⟩;have z:(JA h H).get? b=none:=hideAll_none (Qk h H) hm;rw[z] at e;cases e
structure Mod(K:uT)(mg:Str->Option AA)(base:rE):Prop where
 OD:K.In base
 glob:base.Ns hY mg
 blt:∃mb,base.Ns uL mb/\∀x:Str,x≠ "__name__" ->mb x=rL x
 nolimit:base.NoLimit
structure Cx where
 prog:qy
 w:rH
 K:uT
 mg:Str->Option AA
 base:rE
 A:sJ
 N:List Str
 s₀:Yf
 H₀:Hp
 env:Env
 outer:List Env
 stack:List Env
 ex:List Ya
 fn:Str->Bool
 calm:Bool
 pn:List (Ya×Obj)
 xe:AA->Yf->Prop
noncomputable def Ct(l:List Env):List Ya:=l.filterMap (·.frame)
abbrev Cx.fs(X:Cx):List Ya:=Ct X.outer
def QS(sc:tV)(x:Str):Prop:=sc.names.lookup x=some .local\/sc.names.lookup x=some .cell\/sc.names.lookup x=some .free
def Loc(sc:tV)(x:Str):Prop:=sc.names.lookup x=some .local\/sc.names.lookup x=some .cell
def Look(env:Env)(h:rE)(m:Str->Option AA)(x:Str)(u:AA):Prop:=
 (env.kindOf x=some .local/\m x=some u)\/((env.kindOf x=some .cell\/env.kindOf x=some .free)/\∃c,env.cells.lookup x=some c/\h.IsCell c (some u))
structure Cx.Ok(X:Cx):Prop where
 mod:Mod X.K X.mg X.base
 kind:X.env.scope.kind=.function
 glob:X.env.globals=hY
 blt:X.env.builtins=uL
 above:X.s₀.heap.objs.size<=X.env.locals
 inj:∀x y c,X.env.cells.lookup x=some c->X.env.cells.lookup y=some c->x=y
 has:∀x,(X.env.kindOf x=some .cell\/X.env.kindOf x=some .free)->∃c,X.env.cells.lookup x=some c
 K0:∀x c,X.fn x=true->X.env.cells.lookup x=some c->X.s₀.heap.objs.size<=c
 hd:X.calm=true->X.A.handled=none
 frames:X.A.frames=some X.stack
 L5:X.stack=X.outer\/(X.stack=X.env::X.outer/\X.env.frame=some X.env.locals)
 Qj:∀b∈X.ex,b≠X.env.locals/\∀x c,X.env.cells.lookup x=some c->c≠b
 bs:∀b o,X.base.get? b=some o->X.s₀.heap.get? b=some o/\X.H₀ b=none
 HU:X.base.objs.size<=X.s₀.heap.objs.size
 Kw:∀b o,X.base.get? b=some o->b∉X.ex
 Ky:∀b∈X.ex,b∉X.fs
 FK:X.s₀.heap.FunFrames X.base X.outer
 IX:∀b∈X.fs,X.H₀ b=none
structure Inv(X:Cx)(pins:List (Ya×Obj))(σ:List (Option V))(H:Hp)(s:Yf):Prop where
 ok:X.Ok
 os:s.os=X.s₀.os
 bare:sf s.gens
 base:Un X.fs X.ex X.H₀ H X.s₀.heap s.heap
 loc:∃m,s.heap.Ns X.env.locals m/\∀(i:Nat)(x:Str)(v:V),X.N[i]? =some x->σ[i]? =some (some v)->QS X.env.scope x->∃u,RelV v u/\Look X.env s.heap m x u
 cell:∀x c,X.env.cells.lookup x=some c->∃v,s.heap.IsCell c v
 free:H X.env.locals=none
 DP:∀x c,X.env.cells.lookup x=some c->H c=none
 pin:∀p∈X.pn++pins,s.heap.get? p.1=some p.2/\H p.1=none/\p.1≠X.env.locals/\p.1∉X.fs/\∀v,p.2.data≠.cell v
 hok:By X.prog X.w H s.heap
 len:σ.length=X.N.length
variable{X:Cx}
section
variable{σ:List (Option V)}
def Cx.Ok.qF(ok:X.Ok)(e:X.base.get? b=some o):b∉X.fs:=fun hb=>by have:=(ok.FK.mem hb).1;rw[e] at this;cases this
end
variable{pins:List (Ya×Obj)}
section
variable{σ:List (Option V)}
def Inv.bs(I:Inv X pins σ H s):∀b o,X.base.get? b=some o->s.heap.get? b=some o/\H b=none:=fun b o e=>⟨I.base.keep b o (I.ok.bs b o e).1 (I.ok.bs b o e).2 (I.ok.qF e) (I.ok.Kw b o e),I.base.free b o (I.ok.bs b o e).1 (I.ok.bs b o e).2 (I.ok.Kw b o e)⟩
def Inv.bk(I:Inv X pins σ H s):∀b o,X.base.get? b=some o->s.heap.get? b=some o:=fun b o e=>(I.bs b o e).1
def Inv.mod(I:Inv X pins σ H s):Mod X.K X.mg X.base:=I.ok.mod
def Inv.BS(I:Inv X pins σ H s):X.K.In s.heap:=I.ok.mod.OD.keeps I.bk
def Inv.fr(I:Inv X pins σ H s):∃m,Fr X.base X.env.locals s.heap m:=
 let⟨m,hn,_⟩:=I.loc
 ⟨m,hn,I.bk,BJ I.ok.HU I.ok.above⟩
def Inv.lt(I:Inv X pins σ H s):X.env.locals<s.heap.objs.size:=let⟨_,hn,_⟩:=I.loc;hn.lt
def Inv.sz(I:Inv X pins σ H s):X.s₀.heap.objs.size<=s.heap.objs.size:=BJ I.ok.above (F5 I.lt)
def Inv.pZ(I:Inv X pins σ H s)(h:s.heap.objs.size<=a):a∉X.fs:=fun hb=>by obtain⟨_,o,ho,_⟩:=I.ok.FK.mem hb;exact absurd (C8 (A7 ho) (BJ I.sz h)) (Mn _)
def Inv.Jv(I:Inv X pins σ H s):∀x c,X.env.cells.lookup x=some c->c≠X.env.locals:=fun x c e z=>by obtain⟨v,o,ho,hd⟩:=I.cell x c e;obtain⟨m,⟨o',es,ep,ho',hd',_⟩,_⟩:=I.loc;rw[z,ho'] at ho;cases ho;rw[hd'] at hd;cases hd
def Inv.FK(I:Inv X pins σ H s):s.heap.FunFrames X.base X.outer:=by
 have all:∀(l:List Env),(∀b∈Ct l,b∈X.fs)->X.s₀.heap.FunFrames X.base l->s.heap.FunFrames X.base l:=by
  intro l
  induction l with
  |nil=>intro _ _;trivial
  |cons env r ih=>intro hs hl;obtain⟨hk,⟨L,o,hf,hn,ho,hd⟩,hr⟩:=hl;have hL:L∈X.fs:=hs L (by unfold Ct;rw[Qw,hf];exact EB);obtain⟨sl,e⟩:=I.base.slot L o ho (I.ok.IX L hL) hL fun z=>I.ok.Ky L z hL;exact⟨hk,⟨L,_,hf,hn,e,hd⟩,ih (fun b hb=>hs b (by unfold Ct;rw[Qw,hf];exact DG _ hb)) hr⟩
 exact all X.outer (fun _ hb=>hb) I.ok.FK
def Inv.stack(I:Inv X pins σ H s):s.heap.FunFrames X.base X.stack:=by
 rcases I.ok.L5 with e|⟨e,hf⟩
 ·rw[e];exact I.FK
 ·rw[e];obtain⟨m,hn,_⟩:=I.loc;refine .cons (by rw[I.ok.kind];decide) hf hn ?_ I.FK;exact Heap.get?_none_of_le (BJ I.ok.HU I.ok.above)
def Inv.NX(I:Inv X pins σ H s):∀b∈Ct X.stack,b∈X.env.locals::X.fs:=fun b hb=>by
 rcases I.ok.L5 with e|⟨e,hf⟩
 ·rw[e] at hb;exact DG _ hb
 ·rw[e] at hb;unfold Ct at hb;rw[Qw,hf] at hb;exact hb
def Inv.PU(I:Inv X pins σ H s):∀b∈Ct X.stack,H b=none:=fun b hb=>by
 rcases Bn.mp (I.NX b hb) with e|hb
 ·rw[e];exact I.free
 ·obtain⟨_,o,ho,_⟩:=I.ok.FK.mem hb;exact I.base.free b o ho (I.ok.IX b hb) fun z=>I.ok.Ky b z hb
end
variable{g':Array sj}{t':Nat}{ch:List Ya}
section
variable{σ:List (Option V)}
def Inv.step{d':Drawn}(I:Inv X pins σ H s)
 (hch:∀b∈ch,(b∈X.ex\/X.s₀.heap.objs.size<=b)/\b≠X.env.locals/\(∀x c,X.env.cells.lookup x=some c->c≠b)/\∀p∈X.pn++pins,p.1≠b)
 (keep:∀b o,b≠X.env.locals->b∉X.fs->b∉ch->s.heap.get? b=some o->H b=none->h'.get? b=some o)
 (slot:∀b o,b≠X.env.locals->b∈X.fs->b∉ch->s.heap.get? b=some o->H b=none->∃sl,h'.get? b=some {o with slots:=sl})(free:∀b o,b∉ch->s.heap.get? b=some o->H b=none->H' b=none)
 (there:∀b o,b∉ch->s.heap.get? b=some o->∃o',h'.get? b=some o')
 (FQ:∀b xs,H b=some (.tup xs)->H' b=some (.tup xs))(Ee:∀b o u,H b=some (.BR o u)->H' b=some (.BR o u))(FN:∀b ps,H b=some (.Js ps)->∃more,H' b=some (.Js (ps++more)))
 (ns:∀m,s.heap.Ns X.env.locals m->h'.Ns X.env.locals m)(hok:By X.prog X.w H' h')(hg:sf g'):
 Inv X pins σ H' {s with heap:=h',gens:=g',drawn:=d',toks:=t'}:=by
 have neL:∀b o,X.s₀.heap.get? b=some o->b≠X.env.locals:=fun b o e=>BN (C8 (A7 e) I.ok.above);have neC:∀b o,X.s₀.heap.get? b=some o->b∉X.ex->b∉ch:=fun b o e hx hb=>by
  rcases(hch b hb).1 with z|z
  ·exact hx z
  ·exact absurd (C8 (A7 e) z) (Mn _)
 have cellK:∀x c,X.env.cells.lookup x=some c->∀v,s.heap.IsCell c v->h'.IsCell c v:=fun x c e v ⟨o,ho,hd⟩=>by
  have nch:c∉ch:=fun z=>(hch c z).2.2.1 x c e rfl;by_cases hc:c∈X.fs
  ·obtain⟨sl,q⟩:=slot c o (I.Jv x c e) hc nch ho (I.DP x c e);exact⟨_,q,hd⟩
  ·exact⟨o,keep c o (I.Jv x c e) hc nch ho (I.DP x c e),hd⟩
 refine⟨I.ok,I.os,hg,⟨fun b o e n hb hx=>?_,fun b o e n hb hx=>?_,fun b o e n hx=>?_,fun b o e hx=>?_,fun b xs e=>FQ b xs (I.base.FQ b xs e),fun b o xs e=>Ee b o xs (I.base.Ee b o xs e),fun b ps e=>?_⟩,?_,fun x c e=>?_,?_,fun x c e=>?_,fun p hp=>?_,hok,I.len⟩
 ·exact keep b o (neL b o e) hb (neC b o e hx) (I.base.keep b o e n hb hx) (I.base.free b o e n hx)
 ·obtain⟨sl,e1⟩:=I.base.slot b o e n hb hx;obtain⟨sl',e2⟩:=slot b _ (neL b o e) hb (neC b o e hx) e1 (I.base.free b o e n hx);exact⟨sl',e2⟩
 ·obtain⟨o',e1⟩:=I.base.there b o e hx;exact free b o' (neC b o e hx) e1 (I.base.free b o e n hx)
 ·obtain⟨o',e1⟩:=I.base.there b o e hx;exact there b o' (neC b o e hx) e1
 ·obtain⟨m1,e1⟩:=I.base.FN b ps e;obtain⟨m2,e2⟩:=FN b _ e1;exact⟨m1++m2,by rw[e2,Array.append_assoc]⟩
 ·obtain⟨m,hn,hl⟩:=I.loc;refine⟨m,ns m hn,fun i x v e1 e2 e3=>?_⟩;obtain⟨u,r,l⟩:=hl i x v e1 e2 e3;refine⟨u,r,?_⟩;rcases l with l|⟨k,c,e,z⟩
  ·exact .inl l
  ·exact .inr ⟨k,c,e,cellK x c e _ z⟩
 ·obtain⟨v,z⟩:=I.cell x c e;exact⟨v,cellK x c e v z⟩
 ·obtain⟨m,⟨o,_,_,ho,_⟩,_⟩:=I.loc;exact free _ o (fun z=>(hch _ z).2.1 rfl) ho I.free
 ·obtain⟨v,o,ho,hd⟩:=I.cell x c e;exact free c o (fun z=>(hch c z).2.2.1 x c e rfl) ho (I.DP x c e)
 ·obtain⟨e,n,ne,nf,d⟩:=I.pin p hp;have nch:p.1∉ch:=fun z=>(hch p.1 z).2.2.2 p hp rfl;exact⟨keep p.1 p.2 ne nf nch e n,free p.1 p.2 nch e n,ne,nf,d⟩
def Inv.un(I:Inv X pins σ H s)(u:Un X.fs [] H H' s.heap h')(hok:By X.prog X.w H' h'):Inv X pins σ H' {s with heap:=h',toks:=t'}:=by
 obtain⟨m,⟨o,es,ep,ho,r⟩,_⟩:=id I.loc;obtain⟨sl,hL⟩:=u.any ho I.free (by simp);exact I.step (g':=s.gens) (d':=s.drawn) (ch:=[]) (fun _ z=>nomatch z) (fun b o _ hb _ e n=>u.keep b o e n hb (by simp)) (fun b o _ hb _ e n=>u.slot b o e n hb (by simp)) (fun b o _ e n=>u.free b o e n (by simp)) (fun b o _ e=>u.there b o e (by simp)) u.FQ u.Ee u.FN (fun m' hm=>by obtain⟨o',es',ep',ho',r'⟩:=hm;rw[ho] at ho';cases ho';exact⟨_,es',ep',hL,r'⟩) hok I.bare
def Inv.call{d':Drawn}(I:Inv X pins σ H s)(u:Un (Ct X.stack) ch H H' s.heap h')(hok:By X.prog X.w H' h')(hg:sf g')
 (hch:∀b∈ch,(b∈X.ex\/X.s₀.heap.objs.size<=b)/\b≠X.env.locals/\(∀x c,X.env.cells.lookup x=some c->c≠b)/\∀p∈X.pn++pins,p.1≠b):
 Inv X pins σ H' {s with heap:=h',gens:=g',drawn:=d',toks:=t'}:=by
 obtain⟨m,⟨o,es,ep,ho,r⟩,_⟩:=id I.loc;obtain⟨sl,hL⟩:=u.any ho I.free fun z=>(hch _ z).2.1 rfl;exact I.step (ch:=ch) hch (fun b o hL hb hc e n=>u.keep b o e n (fun z=>(Bn.mp (I.NX b z)).elim hL hb) hc) (fun b o _ _ hc e n=>u.any e n hc) (fun b o hc e n=>u.free b o e n hc) (fun b o hc e=>u.there b o e hc) u.FQ u.Ee u.FN (fun m' hm=>by obtain⟨o',es',ep',ho',r'⟩:=hm;rw[ho] at ho';cases ho';exact⟨_,es',ep',hL,r'⟩) hok hg
def Inv.turned{it:Ya}(I:Inv X pins σ H s)(k:∀b o,b≠it->s.heap.get? b=some o->h'.get? b=some o)(hn:H it=none)(hL:it≠X.env.locals)
 (h1:it∈X.ex\/X.s₀.heap.objs.size<=it)(h2:∀x c,X.env.cells.lookup x=some c->c≠it)(h3:∀p∈X.pn++pins,p.1≠it):Inv X pins σ H {s with heap:=h',toks:=t'}:=by
 have nit:∀b u,H b=some u->b≠it:=fun b u e z=>by rw[z,hn] at e;cases e
 refine I.step (g':=s.gens) (d':=s.drawn) (ch:=[it]) (fun b hb=>?_) (fun b o _ _ hc e _=>k b o (fun z=>hc (by simp[z])) e) (fun b o _ _ hc e _=>⟨o.slots,k b o (fun z=>hc (by simp[z])) e⟩) (fun _ _ _ _ n=>n)
  (fun b o hc e=>⟨o,k b o (fun z=>hc (by simp[z])) e⟩) (fun _ _ e=>e) (fun _ _ _ e=>e) (fun b ps e=>⟨#[],by rw[e];simp⟩) (fun m hm=>?_) (fun b u e=>?_) I.bare
 ·have e:b=it:=by simpa using hb
  subst e;exact⟨h1,hL,h2,h3⟩
 ·obtain⟨o,es,ep,ho,r⟩:=hm;exact⟨o,es,ep,k _ o (DK hL) ho,r⟩
 ·refine(I.hok b u e).Eu (fun c v hc q=>k c v ?_ q) (fun _ q=>q) fun _ _ q=>q;rcases hc with z|z
  ·rw[z];exact nit b u e
  ·exact nit c _ z
def Inv.tok(I:Inv X pins σ H s)(t:Nat):Inv X pins σ H {s with toks:=t}:=I.un (h':=s.heap) (t':=t) Un.refl I.hok
def Inv.kept{t':Nat}(I:Inv X pins σ H s)(k:∀b u,s.heap.get? b=some u->h'.get? b=some u):Inv X pins σ H {s with heap:=h',toks:=t'}:=I.un (Un.kept k) (I.hok.kept k)
def Inv.laid{a:Ya}{o:HO}{t':Nat}(I:Inv X pins σ H s)(k:∀b u,s.heap.get? b=some u->h'.get? b=some u)(hp:s.heap.objs.size<=a)(new:BP X.prog X.w (upd H a o) h' a o):
 Inv X pins σ (upd H a o) {s with heap:=h',toks:=t'}:=I.un (Un.laid k hp (I.hok.fresh hp)) (I.hok.laid k hp new)
def Inv.write{x e:Ya}{o:HO}{t':Nat}(I:Inv X pins σ H s)(mu:OC (H x))(he:e=x\/H e=some (.own x))(k:∀b u,b≠e->s.heap.get? b=some u->h'.get? b=some u)(heo:∃u,h'.get? e=some u)
 (new:BP X.prog X.w (upd H x o) h' x o):Inv X pins σ (upd H x o) {s with heap:=h',toks:=t'}:=I.un (Un.write mu he k heo) (I.hok.write mu he k heo new)
def Inv.weak{σ':List (Option V)}(I:Inv X pins σ H s)(hl:σ'.length=σ.length)(w:∀(i:Nat) v,σ'[i]? =some (some v)->σ[i]? =some (some v)):Inv X pins σ' H s:=
 ⟨I.ok,I.os,I.bare,I.base,let⟨m,hn,hl'⟩:=I.loc;⟨m,hn,fun i x v e1 e2 e3=>hl' i x v e1 (w i v e2) e3⟩,I.cell,I.free,I.DP,I.pin,I.hok,hl.trans I.len⟩
def Inv.YL{pins':List (Ya×Obj)}(I:Inv X pins σ H s)(h:∀p∈pins',s.heap.get? p.1=some p.2/\H p.1=none/\p.1≠X.env.locals/\p.1∉X.fs/\∀v,p.2.data≠.cell v):Inv X pins' σ H s:=
 ⟨I.ok,I.os,I.bare,I.base,I.loc,I.cell,I.free,I.DP,fun p hp=>(Bp.mp hp).elim (fun z=>I.pin p (Ig _ z)) (h p),I.hok,I.len⟩
end
variable{N:List Str}{i j:Nat}{x:Str}
section
variable{σ:List (Option V)}
def W7(hN:N.Nodup)(a:N[i]? =some x)(b:N[j]? =some x):i=j:=by obtain⟨h1,e1⟩:=BX.mp a;obtain⟨h2,e2⟩:=BX.mp b;exact(List.getElem_inj hN).mp (e1.trans e2.symm)
end
variable{M:Model}{A:sJ}{E:AA->Yf->Prop}{v:V}{u:AA}
section
variable{σ:List (Option V)}
def Wm{Q:Unit->Yf->Prop}(I:Inv X pins σ H s)(hN:X.N.Nodup)(hi:X.N[i]? =some x)(hx:Loc X.env.scope x)(r:RelV v u)
 (h:∀s',Inv X pins (σ.set i (some v)) H s'->(∃a,Heap.SameBut a s.heap s'.heap/\(a=X.env.locals\/X.env.cells.lookup x=some a))->Q () s')(hf:X.fn x=true\/X.env.scope.names.lookup x=some .local):cm M A (storeName X.env x u) Q E s:=by
 obtain⟨m,hn,hl⟩:=id I.loc;have hcls:(X.env.scope.kind==.class||(X.env.scope.kind==.module&&X.env.locals !=X.env.globals))=false:=by rw[I.ok.kind];rfl
 have hiσ:i<σ.length:=by rw[I.len];exact(BX.mp hi).1
 have Jv:=I.Jv;have tracked:∀{a:Ya}{h':rE},(∃o,s.heap.get? a=some o/\H a=none)->Heap.SameBut a s.heap h'->By X.prog X.w H h':=fun{a h'} ha hs b ob e=>by
  obtain⟨_,_,hfree⟩:=ha;refine(I.hok b ob e).Eu (fun c w' hc q=>(hs.2 c ?_).trans q) (fun _ q=>q) fun _ _ q=>q;rintro rfl;rcases hc with rfl|hc
  ·rw[hfree] at e;cases e
  ·rw[hfree] at hc;cases hc
 rcases hx with hk|hk
 ·refine wpAny_storeName_local hk hn (fun h' hn' hs=>?_) hcls;obtain⟨oL,_,_,hoL,_⟩:=id hn;refine h _ ⟨I.ok,I.os,I.bare,⟨fun b o e n hb hx=>?_,fun b o e n hb hx=>?_,I.base.free,fun b o e hx=>?_,I.base.FQ,I.base.Ee,I.base.FN⟩,⟨_,hn',fun j y v' e1 e2 e3=>?_⟩,fun y c e=>?_,I.free,I.DP,fun p hp=>?_,tracked ⟨oL,hoL,I.free⟩ hs,by simpa using I.len⟩ ⟨_,hs,.inl rfl⟩
  ·exact(hs.2 b (BN (C8 (A7 e) I.ok.above))).trans (I.base.keep b o e n hb hx)
  ·obtain⟨sl,e1⟩:=I.base.slot b o e n hb hx;exact⟨sl,(hs.2 b (BN (C8 (A7 e) I.ok.above))).trans e1⟩
  ·obtain⟨o',e1⟩:=I.base.there b o e hx;exact⟨o',(hs.2 b (BN (C8 (A7 e) I.ok.above))).trans e1⟩
  ·by_cases hj:j=i
   ·subst hj;rw[hi] at e1;cases e1;rw[OI hiσ] at e2;cases e2;exact⟨u,r,.inl ⟨hk,by simp⟩⟩
   ·rw[OM (DK hj)] at e2;obtain⟨u',r',q⟩:=hl j y v' e1 e2 e3;refine⟨u',r',?_⟩;rcases q with⟨k,e⟩|⟨k,c,e,z⟩
    ·refine .inl ⟨k,?_⟩;have:y≠x:=fun e=>hj (W7 hN e1 (e▸hi));simp[this,e]
    ·exact .inr ⟨k,c,e,z.sameBut hs (Jv y c e)⟩
  ·obtain⟨w',z⟩:=I.cell y c e;exact⟨w',z.sameBut hs (Jv y c e)⟩
  ·obtain⟨e,n,ne,nf,d⟩:=I.pin p hp;exact⟨(hs.2 p.1 ne).trans e,n,ne,nf,d⟩
 ·have hfn:X.fn x=true:=by
   rcases hf with z|z
   ·exact z
   ·rw[z] at hk;cases hk
  obtain⟨c,hc⟩:=I.ok.has x (.inl hk);obtain⟨w',z⟩:=I.cell x c hc;refine wpAny_storeName_cell I.ok.kind hk hc z (fun h' hc' hs=>?_);obtain⟨oc,hoc,hocd⟩:=id z;refine h {s with heap:=h'} ⟨I.ok,I.os,I.bare,⟨fun b o e n hb hx=>?_,fun b o e n hb hx=>?_,I.base.free,fun b o e hx=>?_,I.base.FQ,I.base.Ee,I.base.FN⟩,⟨m,hn.sameBut hs (DK (Jv x c hc)),fun j y v' e1 e2 e3=>?_⟩,fun y c' e=>?_,I.free,I.DP,fun p hp=>?_,tracked ⟨oc,hoc,I.DP x c hc⟩ hs,by simpa using I.len⟩ ⟨c,hs,.inr hc⟩
  ·exact(hs.2 b (BN (C8 (A7 e) (I.ok.K0 x c hfn hc)))).trans (I.base.keep b o e n hb hx)
  ·obtain⟨sl,e1⟩:=I.base.slot b o e n hb hx;exact⟨sl,(hs.2 b (BN (C8 (A7 e) (I.ok.K0 x c hfn hc)))).trans e1⟩
  ·obtain⟨o',e1⟩:=I.base.there b o e hx;exact⟨o',(hs.2 b (BN (C8 (A7 e) (I.ok.K0 x c hfn hc)))).trans e1⟩
  ·by_cases hj:j=i
   ·subst hj;rw[hi] at e1;cases e1;rw[OI hiσ] at e2;cases e2;exact⟨u,r,.inr ⟨.inl hk,c,hc,hc'⟩⟩
   ·rw[OM (DK hj)] at e2;obtain⟨u',r',q⟩:=hl j y v' e1 e2 e3;refine⟨u',r',?_⟩;rcases q with q|⟨k,c',e,z'⟩
    ·exact .inl q
    ·refine .inr ⟨k,c',e,z'.sameBut hs ?_⟩;rintro rfl;exact hj (W7 hN e1 (I.ok.inj _ _ _ e hc▸hi))
  ·by_cases hcc:c'=c
   ·subst hcc;exact⟨_,hc'⟩
   ·obtain⟨w2,z2⟩:=I.cell y c' e;exact⟨w2,z2.sameBut hs hcc⟩
  ·obtain⟨e,n,ne,nf,d⟩:=I.pin p hp;refine⟨(hs.2 p.1 ?_).trans e,n,ne,nf,d⟩;intro q;rw[q,hoc] at e;have q':oc=p.2:=Af e;exact d w' (by rw[<-q'];exact hocd)
def SE{Q:Unit->Yf->Prop}(I:Inv X pins σ H s)(hN:X.N.Nodup)(hi:X.N[i]? =some x)(hx:Loc X.env.scope x)(r:RelV v u)
 (h:∀s',Inv X pins (σ.set i (some v)) H s'->Q () s')(hf:X.fn x=true\/X.env.scope.names.lookup x=some .local):cm M A (storeName X.env x u) Q E s:=
 Wm I hN hi hx r (fun s' I' _=>h s' I') hf
def Inv.P1{s':Yf}(I:Inv X pins σ H s)(ho:s'.os=s.os)(u:Un (Ct X.stack) ch H H' s.heap s'.heap)(hok:By X.prog X.w H' s'.heap)(hg:sf s'.gens)
 (hch:∀b∈ch,(b∈X.ex\/X.s₀.heap.objs.size<=b)/\b≠X.env.locals/\(∀x c,X.env.cells.lookup x=some c->c≠b)/\∀p∈X.pn++pins,p.1≠b):Inv X pins σ H' s':=by
 obtain⟨h',g',d',t',o'⟩:=s';have e:o'=s.os:=ho;subst e;exact I.call (g':=g') (t':=t') (d':=d') u hok hg hch
end
abbrev XK:=AA->Option Ya->Hp->Prop
abbrev St:=List (Option V)
abbrev VK:=V->Hp->Prop
abbrev TE:=St->Hp->VK->Prop
abbrev TT:=St->Hp->(Bool->Hp->Prop)->Prop
abbrev TA:=St->Hp->(List V->Hp->Prop)->Prop
structure Ends where
 nx:St->Hp->Prop
 rt:VK
 bk:St->Hp->Prop:=fun _ _=>False
 ct:St->Hp->Prop:=fun _ _=>False
abbrev TS:=Ends->St->Hp->Prop
def EP(X:Cx)(pins:List (Ya×Obj))(σ:St)(Q:VK)(u:AA)(s':Yf):Prop:=∃v H',Inv X pins σ H' s'/\RelV v u/\Q v H'
def TP(X:Cx)(pins:List (Ya×Obj))(σ:St)(Q:Bool->Hp->Prop)(b:Bool)(s':Yf):Prop:=∃H',Inv X pins σ H' s'/\Q b H'
def AP(X:Cx)(pins:List (Ya×Obj))(σ:St)(Q:List V->Hp->Prop)(us:List AA)(s':Yf):Prop:=∃vs H',Inv X pins σ H' s'/\Vals vs us/\Q vs H'
def SP(X:Cx)(pins:List (Ya×Obj))(D:Ends)(f:Flow)(s':Yf):Prop:=
 match f with
 |.next=>∃σ' H',Inv X pins σ' H' s'/\D.nx σ' H'
 |.brk=>∃σ' H',Inv X pins σ' H' s'/\D.bk σ' H'
 |.cont=>∃σ' H',Inv X pins σ' H' s'/\D.ct σ' H'
 |.ret u=>∃v σ' H',Inv X pins σ' H' s'/\RelV v u/\D.rt v H'
def PE(X:Cx)(e:qv)(t:TE):Prop:=
 ∀(pins:List (Ya×Obj))(s:Yf)(σ:St)(H:Hp)(Q:VK),Inv X pins σ H s->t σ H Q->cm (ax X.prog X.w) X.A (rC e X.env) (EP X pins σ Q) X.xe s
def PT(X:Cx)(e:qv)(t:TT):Prop:=
 ∀(pins:List (Ya×Obj))(s:Yf)(σ:St)(H:Hp)(Q:Bool->Hp->Prop),Inv X pins σ H s->t σ H Q->cm (ax X.prog X.w) X.A (isTrue e X.env (rC e X.env)) (TP X pins σ Q) X.xe s
def PW(X:Cx)(e:qv)(t:TT):Prop:=
 ∀(whole:Sem AA)(pins:List (Ya×Obj))(s:Yf)(σ:St)(H:Hp)(Q:Bool->Hp->Prop),Inv X pins σ H s->t σ H Q->cm (ax X.prog X.w) X.A (isTrue e X.env whole) (TP X pins σ Q) X.xe s
variable{e:qv}
def PW.pt{t:TT}(h:PW X e t):PT X e t:=h _
def PA(X:Cx)(es:List qv)(t:TA):Prop:=
 ∀(pos:Pos)(pins:List (Ya×Obj))(s:Yf)(σ:St)(H:Hp)(Q:List V->Hp->Prop),Inv X pins σ H s->t σ H Q->cm (ax X.prog X.w) X.A (spliced (rN pos (hX es X.env))) (AP X pins σ Q) X.xe s
def PS(X:Cx)(st:qu)(t:TS):Prop:=
 ∀(pins:List (Ya×Obj))(s:Yf)(σ:St)(H:Hp)(D:Ends),Inv X pins σ H s->t D σ H->cm (ax X.prog X.w) X.A (exec st X.env) (SP X pins D) X.xe s
def E3(X:Cx)(st:List qu)(t:TS):Prop:=
 ∀(pins:List (Ya×Obj))(s:Yf)(σ:St)(H:Hp)(D:Ends),Inv X pins σ H s->t D σ H->cm (ax X.prog X.w) X.A (execs st X.env) (SP X pins D) X.xe s
def Ah{t:Sem α}{Q Q':α->Yf->Prop}(h:cm M A t Q E s)(hQ:∀a s,Q a s->Q' a s):cm M A t Q' E s:=DA h hQ fun _ _ x=>x
section
variable{a b:qv}{tb:TE}{tA tB':TT}{rest:List qv}
def Ew(i:Nat):TE:=fun σ H Q=>∃v,σ[i]? =some (some v)/\Q v H
def tC(v:V):TE:=fun _ H Q=>Q v H
end
variable{pos:Pos}
section
variable{a b:qv}{tb:TE}{tA tB':TT}{rest:List qv}
def Y5(hN:X.N[i]? =some x)(hv:QS X.env.scope x)(hd:(x==("__debug__" :Str))=false:=by decide)(hcd:(x==("__classdict__" :Str))=false:=by decide):PE X (.Name x pos) (Ew i):=by
 intro pins s σ H Q I h;obtain⟨v,e,h⟩:=h;obtain⟨m,hn,hl⟩:=I.loc;obtain⟨u,r,l⟩:=hl i x v hN e hv;have fin:EP X pins σ Q u s:=⟨v,H,I,r,h⟩;rcases l with⟨hk,hm⟩|⟨hk,c,hc,hcell⟩
 ·exact wpAny_Name (wpAny_loadName_local I.ok.kind hk hn hm fin) hd
 ·rcases hk with hk|hk
  ·exact wpAny_Name (wpAny_loadName_cell I.ok.kind hk hc hcell fin) hd
  ·exact wpAny_Name (wpAny_loadName_free I.ok.kind hk hc hcell fin hcd) hd
def Ac{X:Cx}{i j pos}:PE X (.Constant (.int i) j pos) (tC (.int i)):=fun _ _ _ H _ I h=>wpAny_Constant_int ⟨.int i,H,I.tok _,⟨_,rfl⟩,h⟩
def GH{b j pos}:PE X (.Constant (.bool b) j pos) (tC (.bl b)):=fun _ _ _ H _ I h=>Constant_bool ⟨.bl b,H,I,rfl,h⟩
def mB{j pos}:PE X (.Constant .none j pos) (tC .BA):=fun _ _ _ H _ I h=>uS ⟨.BA,H,I,rfl,h⟩
def AZ{X:Cx}{x j pos}:PE X (.Constant (.str x) j pos) (tC (.str x)):=fun _ _ _ H _ I h=>Vd ⟨.str x,H,I.tok _,⟨_,rfl⟩,h⟩
def Gl(X:Cx)(x:Str):Prop:=X.env.kindOf x=some .globalImplicit
end
variable{σ:St}{Q:AA->Yf->Prop}
section
variable{a b:qv}{tb:TE}{tA tB':TT}{rest:List qv}
def Lf(I:Inv X pins σ H s)(hg:Gl X x)(hm:X.mg x=some u)(h:Q u s)
 (hd:(x==("__debug__" :Str))=false:=by decide):cm (ax X.prog X.w) X.A (rC (.Name x pos) X.env) Q E s:=
 Calls.Name_function_global I.ok.kind hg (Calls.loadGlobal_global (by rw[I.ok.glob];exact I.mod.glob.keeps I.bk) hm h) hd
def NU(I:Inv X pins σ H s)(hg:Gl X x)(hm:X.mg x=none)(hv:rL x=some u)(h:Q u s)
 (hn:x≠ "__name__" :=by decide)(hd:(x==("__debug__" :Str))=false:=by decide):cm (ax X.prog X.w) X.A (rC (.Name x pos) X.env) Q E s:=by
 obtain⟨mb,h1,h2⟩:=I.mod.blt;exact Calls.Name_function_global I.ok.kind hg (Calls.loadGlobal_builtin (by rw[I.ok.glob];exact I.mod.glob.keeps I.bk) hm (by rw[I.ok.blt];exact h1.keeps I.bk) ((h2 x hn).trans hv) h) hd
def F8(hg:Gl X x)(hm:X.mg x=none)(hv:rL x=some u)(r:RelV v u)(hn:x≠ "__name__" :=by decide)(hd:(x==("__debug__" :Str))=false:=by decide):PE X (.Name x pos) (tC v):=
 fun _ _ _ H _ I h=>NU I hg hm hv ⟨v,H,I,r,h⟩ hn hd
def PC(X:Cx)(op:CmpOp)(a b:qv)(t:TE):Prop:=
 ∀(pins:List (Ya×Obj))(s:Yf)(σ:St)(H:Hp)(Q:VK),Inv X pins σ H s->t σ H Q->
  cm (ax X.prog X.w) X.A (rC a X.env) (fun v s₁=>cm (ax X.prog X.w) X.A (rC b X.env) (fun u s₂=>cm (ax X.prog X.w) X.A (qz op v u) (EP X pins σ Q) X.xe s₂) X.xe s₁) X.xe s
end
variable{op:CmpOp}
section
variable{a b:qv}{tb:TE}{tA tB':TT}{rest:List qv}
def Xg(b:qv)(h:op≠.In)(h2:op≠.NotIn):behindInMarks op b=false:=by
 have e1:(op==CmpOp.In)=false:=by cases op<;>first|rfl|exact absurd rfl h
 have e2:(op==CmpOp.NotIn)=false:=by cases op<;>first|rfl|exact absurd rfl h2
 cases b<;>simp[behindInMarks,e1,e2]
end
variable{ta:TE}
section
variable{a b:qv}{tb:TE}{tA tB':TT}{rest:List qv}
def pG(ta:TE):TE:=fun σ H Q=>ta σ H fun x H1=>Q (.bl (decide (x=.BA))) H1
def nu(ta:TE):TE:=fun σ H Q=>ta σ H fun x H1=>Q (.bl (!decide (x=.BA))) H1
def RelV.Xo{x:V}{v:AA}(r:RelV x v):(v==Value.none)=decide (x=.BA):=by
 cases x with
 |BA=>cases r;rfl
 |bl _=>cases r;rfl
 |int _=>obtain⟨t,rfl⟩:=r;rfl
 |str _=>obtain⟨t,rfl⟩:=r;rfl
 |GV _=>obtain⟨t,rfl⟩:=r;rfl
 |JC _=>obtain⟨t,rfl⟩:=r;rfl
 |ref _=>cases r;rfl
 |ty _=>cases r;rfl
def mC{j pos'}(ha:PE X a ta):PC X .Is a (.Constant .none j pos') (pG ta):=by intro pins s σ H Q I h;refine Ah (ha pins s σ H _ I h) fun v s1 ⟨x,H1,I1,r1,q1⟩=>?_;exact uS (is_none_gen ⟨.bl _,H1,I1,by rw[r1.Xo];rfl,q1⟩)
def kE{j pos'}(ha:PE X a ta):PC X .IsNot a (.Constant .none j pos') (nu ta):=by intro pins s σ H Q I h;refine Ah (ha pins s σ H _ I h) fun v s1 ⟨x,H1,I1,r1,q1⟩=>?_;exact uS (isnot_none_gen ⟨.bl _,H1,I1,by rw[r1.Xo];rfl,q1⟩)
def tB(t:TE):TT:=fun σ H Q=>t σ H fun x H1=>∃c,x=.bl c/\Q c H1
def mK{t:TE}(h:PC X op a b t)(h1:behindInMarks op b=false:=by rfl):PE X (.Compare a [op] [b] pos) t:=fun pins s σ H Q I hw=>wpAny_Compare1 (h pins s σ H Q I hw) h1
def JZ{t:TE}(h:PC X op a b t)(h1:behindInMarks op b=false:=by rfl):PT X (.Compare a [op] [b] pos) (tB t):=by intro pins s σ H Q I hw;refine wpAny_isTrue_Compare1 (Ah (h pins s σ H _ I hw) fun v s1 h1=>Ah h1 fun u s2 h2=>Ah h2 fun c s3 ⟨x,H1,I1,r1,q1⟩=>?_) h1;obtain⟨d,rfl,q⟩:=q1;cases r1;exact MY ⟨H1,I1,q⟩
def D5{t:TE}(h:PE X e t)(he:∀whole,isTrue e X.env whole=(do let v<-whole;uD e.pos;sk [v] (truthy v)):=by intro _;rfl):PT X e (tB t):=by intro pins s σ H Q I hw;refine isTrue_plain (Ah (h pins s σ H _ I hw) fun v s1 ⟨x,H1,I1,r1,q1⟩=>?_) (he _);obtain⟨d,rfl,q⟩:=q1;cases r1;exact MY ⟨H1,I1,q⟩
def UZ(t u:TT):TT:=fun σ H Q=>t σ H fun c H1=>if c=true then u σ H1 Q else Q false H1
def qW(t u:TT):TT:=fun σ H Q=>t σ H fun c H1=>if c=true then Q true H1 else u σ H1 Q
def pj(t:TT):TT:=fun σ H Q=>t σ H fun c H1=>Q (!c) H1
def Gm(ha:PT X a tA):PW X (.BoolOp .And [a] pos) tA:=by
 intro wh pins s σ H Q I h;refine isTrue_and (Ah (ha pins s σ H Q I h) fun c s1 e=>?_)
 cases c with
 |true=>exact isTrue_and_nil e
 |false=>exact e
def JW(ha:PT X a tA):PW X (.BoolOp .Or [a] pos) tA:=by
 intro wh pins s σ H Q I h;refine isTrue_or (Ah (ha pins s σ H Q I h) fun c s1 e=>?_)
 cases c with
 |false=>exact isTrue_or_nil e
 |true=>exact e
def FH(ha:PT X a tA)(hb:PW X (.BoolOp .And (b::rest) pos) tB'):PW X (.BoolOp .And (a::b::rest) pos) (UZ tA tB'):=by
 intro wh pins s σ H Q I h;refine isTrue_and (Ah (ha pins s σ H _ I h) fun c s1 ⟨H1,I1,q1⟩=>?_)
 cases c with
 |true=>exact hb wh pins s1 σ H1 Q I1 q1
 |false=>exact⟨H1,I1,q1⟩
def Jh(ha:PT X a tA)(hb:PW X (.BoolOp .Or (b::rest) pos) tB'):PW X (.BoolOp .Or (a::b::rest) pos) (qW tA tB'):=by
 intro wh pins s σ H Q I h;refine isTrue_or (Ah (ha pins s σ H _ I h) fun c s1 ⟨H1,I1,q1⟩=>?_)
 cases c with
 |true=>exact⟨H1,I1,q1⟩
 |false=>exact hb wh pins s1 σ H1 Q I1 q1
def Gq(ha:PT X a tA):PT X (.UnaryOp .Not a pos) (pj tA):=by intro pins s σ H Q I h;exact isTrue_not (ha pins s σ H (fun c H1=>Q (!c) H1) I h)
def oJ(ta tb:TE):TE:=fun σ H Q=>ta σ H fun x H1=>∃c,x=.bl c/\if c=true then tb σ H1 Q else Q (.bl false) H1
def nM(ta:TE):TE:=fun σ H Q=>ta σ H fun x H1=>∃c,x=.bl c/\Q (.bl (!c)) H1
def Pk{op}{t:TE}(h:PE X a t):PE X (.BoolOp op [a] pos) t:=fun pins s σ H Q I hw=>BoolOp_one (h pins s σ H Q I hw)
def Pr(ha:PE X a ta)(hb:PE X (.BoolOp .And (b::rest) pos) tb):PE X (.BoolOp .And (a::b::rest) pos) (oJ ta tb):=by
 intro pins s σ H Q I h;refine BoolOp_and (Ah (ha pins s σ H _ I h) fun v s1 ⟨x,H1,I1,r1,q1⟩=>?_);obtain⟨c,rfl,q1⟩:=q1;cases r1;refine MY ?_
 cases c with
 |true=>exact hb pins s1 σ H1 Q I1 q1
 |false=>exact⟨.bl false,H1,I1,rfl,q1⟩
def km(ha:PE X a ta):PE X (.UnaryOp .Not a pos) (nM ta):=by intro pins s σ H Q I h;refine UnaryOp_ (Ah (ha pins s σ H _ I h) fun v s1 ⟨x,H1,I1,r1,q1⟩=>?_);obtain⟨c,rfl,q1⟩:=q1;cases r1;exact not_of (MY ⟨.bl (!c),H1,I1,rfl,q1⟩)
def qc(t:TT)(ta tb:TE):TE:=fun σ H Q=>t σ H fun c H1=>if c=true then ta σ H1 Q else tb σ H1 Q
end
variable{c:qv}
section
variable{a b:qv}{tb:TE}{tA tB':TT}{rest:List qv}
def hU(hc:PT X c tA)(ha:PE X a ta)(hb:PE X b tb):PE X (.IfExp c a b pos) (qc tA ta tb):=by
 intro pins s σ H Q I h;refine wpAny_IfExp (Ah (hc pins s σ H _ I h) fun d s1 ⟨H1,I1,q1⟩=>?_)
 cases d with
 |true=>exact ha pins s1 σ H1 Q I1 q1
 |false=>exact hb pins s1 σ H1 Q I1 q1
end
def AK(K:uT)(H:Hp)(a:Ya)(xs:List V):Prop:=
 Rd H a (.lst xs)\/
  ∃(o:Obj)(AX:Array AA)(n:Nat),K.lookup a=some o/\o.cls=.type "list" /\o.dict=none/\o.data=.seq AX n/\AX.size<=sizeLine/\Vals xs AX.toList
def AU(K:uT)(H:Hp)(a:Ya)(xs:List V):Prop:=
 Rd H a (.tup xs)\/
  ∃(o:Obj)(AX:Array AA)(n:Nat),K.lookup a=some o/\o.cls=.type "tuple" /\o.data=.seq AX n/\AX.size<=sizeLine/\Vals xs AX.toList
noncomputable def pU:AA->Option V
 |.none=>some .BA
 |.bool b=>some (.bl b)
 |.int i _=>some (.int i)
 |.str x _=>some (.str x)
 |.bytes b _=>some (.GV b)
 |.float b _=>some (.JC b)
 |.ref a=>some (.ref a)
 |.type n=>some (.ty n)
 |_=>none
def RelV.abs{x:V}(r:RelV x u):pU u=some x:=by
 cases x with
 |BA=>cases r;rfl
 |bl _=>cases r;rfl
 |int _=>obtain⟨t,rfl⟩:=r;rfl
 |str _=>obtain⟨t,rfl⟩:=r;rfl
 |GV _=>obtain⟨t,rfl⟩:=r;rfl
 |JC _=>obtain⟨t,rfl⟩:=r;rfl
 |ref _=>cases r;rfl
 |ty _=>cases r;rfl
def RelV.inj{x y:V}{u:AA}(r:RelV x u)(q:RelV y u):x=y:=Af (r.abs.symm.trans q.abs)
def Vals.inj:∀{xs ys:List V}{us:List AA},Vals xs us->Vals ys us->xs=ys
 |_,_,_,.nil,.nil=>rfl
 |_,_,_,.cons r t,.cons r' t'=>by rw[r.inj r',Vals.inj t t']
variable{K:uT}
section
variable{xs:List V}
def AK.of(h:H a=some (.lst xs)):AK K H a xs:=.inl (.inl h)
def AU.of(h:H a=some (.tup xs)):AU K H a xs:=.inl (.inl h)
def Inv.list(I:Inv X pins σ H s)(h:AK X.K H a xs):∃AX:List AA,Vals xs AX/\PlainL s.heap a AX.toArray/\xs.length<=sizeLine:=by
 rcases h with h|⟨o,AX,n,hk,hc,hd,hs,hz,r⟩
 ·obtain⟨z,AX,n,r,e⟩:=h.ok I.hok;exact⟨AX,r,⟨_,n,e,rfl,rfl,rfl⟩,z⟩
 ·refine⟨AX.toList,r,⟨o,n,I.BS a o hk,hc,hd,by simpa using hs⟩,?_⟩;have e:=r.length;simp only[E7] at e
  lia
def Inv.tuple(I:Inv X pins σ H s)(h:AU X.K H a xs):∃AX:List AA,Vals xs AX/\IsTup s.heap a AX.toArray/\xs.length<=sizeLine:=by
 rcases h with h|⟨o,AX,n,hk,hc,hs,hz,r⟩
 ·obtain⟨z,AX,r,p⟩:=h.ok I.hok;exact⟨AX,r,p,z⟩
 ·refine⟨AX.toList,r,⟨o,I.BS a o hk,hc,n,by simpa using hs⟩,?_⟩;have e:=r.length;simp only[E7] at e
  lia
end
variable{ys:List V}
section
variable{xs:List V}
def Inv.Wx(I:Inv X pins σ H s)(h:AK X.K H a xs)(h':AK X.K H a ys):xs=ys:=by
 obtain⟨AX,r,⟨o,n,e,_,_,d⟩,_⟩:=I.list h;obtain⟨its',r',⟨o',n',e',_,_,d'⟩,_⟩:=I.list h';rw[e] at e';cases e';rw[d] at d';injection d' with d1 _;have:AX=its':=by simpa using BL Array.toList d1
 subst this;exact r.inj r'
end
abbrev Cx.IT(X:Cx)(E:AA->Yf->Prop):Cx:={X with xe:=E}
abbrev Cx.Qf(X:Cx):Cx:=X.IT fun _ _=>False
def Cx.Ok.IT(ok:X.Ok)(E:AA->Yf->Prop):(X.IT E).Ok:=
 ⟨ok.mod,ok.kind,ok.glob,ok.blt,ok.above,ok.inj,ok.has,ok.K0,ok.hd,ok.frames,ok.L5,ok.Qj,ok.bs,ok.HU,ok.Kw,ok.Ky,ok.FK,ok.IX⟩
def Cx.Ok.JY(ok:(X.IT E).Ok):X.Ok:=
 ⟨ok.mod,ok.kind,ok.glob,ok.blt,ok.above,ok.inj,ok.has,ok.K0,ok.hd,ok.frames,ok.L5,ok.Qj,ok.bs,ok.HU,ok.Kw,ok.Ky,ok.FK,ok.IX⟩
def Inv.IT(I:Inv X pins σ H s)(E:AA->Yf->Prop):Inv (X.IT E) pins σ H s:=⟨I.ok.IT E,I.os,I.bare,I.base,I.loc,I.cell,I.free,I.DP,I.pin,I.hok,I.len⟩
def Inv.JY(I:Inv (X.IT E) pins σ H s):Inv X pins σ H s:=⟨I.ok.JY,I.os,I.bare,I.base,I.loc,I.cell,I.free,I.DP,I.pin,I.hok,I.len⟩
def SP.JY{D:Ends}{f:Flow}{s':Yf}(h:SP (X.IT E) pins D f s'):SP X pins D f s':=by
 cases f with
 |next=>obtain⟨σ',H',I,q⟩:=h;exact⟨σ',H',I.JY,q⟩
 |brk=>obtain⟨σ',H',I,q⟩:=h;exact⟨σ',H',I.JY,q⟩
 |cont=>obtain⟨σ',H',I,q⟩:=h;exact⟨σ',H',I.JY,q⟩
 |ret u=>obtain⟨v,σ',H',I,r,q⟩:=h;exact⟨v,σ',H',I.JY,r,q⟩
def E3.Qf{st:List qu}{t:TS}(h:E3 X.Qf st t):E3 X st t:=fun pins s σ H D I hw=>DA (h pins s σ H D (I.IT _) hw) (fun _ _ q=>q.JY) fun _ _ z=>False.elim z
section
variable{st:qu}{rest:List qu}{t u:TS}
def Kl:TS:=fun D σ H=>D.nx σ H
def Jm(t u:TS):TS:=fun D σ H=>t {D with nx:=u D} σ H
def BD:E3 X [] Kl:=fun _ _ σ H _ I h=>Oa ⟨σ,H,I,h⟩
def AS{X:Cx}{st:qu}{rest:List qu}{t:TS}{u:TS}(h1:PS X st t)(h2:E3 X rest u):E3 X (st::rest) (Jm t u):=by
 intro pins s σ H D I h;refine wpAny_execs_cons (Ah (h1 pins s σ H {D with nx:=u D} I h) fun f s1 q=>?_)
 cases f with
 |next=>obtain⟨σ',H',I',q⟩:=q;exact h2 pins s1 σ' H' D I' q
 |ret v=>exact q
 |brk=>exact q
 |cont=>exact q
def AR{X:Cx}{st:qu}{t:TS}(h1:PS X st t):E3 X [st] t:=by
 intro pins s σ H D I h;refine wpAny_execs_cons (Ah (h1 pins s σ H D I h) fun f s1 q=>?_)
 cases f with
 |next=>exact Oa q
 |ret v=>exact q
 |brk=>exact q
 |cont=>exact q
def Inv.quiet(I:Inv X pins σ H s):interactive X.env=false:=by simp[interactive,I.ok.kind]
end
variable{te:TE}
section
variable{st:qu}{rest:List qu}{t u:TS}
def nv(te:TE):TS:=fun D σ H=>te σ H fun _ H1=>D.nx σ H1
def Bc(he:PE X e te)(hs:tK e none pos.line X.env=pure false:=by rfl):PS X (.Expr e pos) (nv te):=by intro pins s σ H D I h;exact wpAny_Expr_any (Ah (he pins s σ H _ I h) fun v s1 ⟨x,H1,I1,r1,q1⟩=>⟨σ,H1,I1,q1⟩) I.quiet hs
def aM(te:TE):TS:=fun D σ H=>te σ H D.rt
def Al{X:Cx}{e:qv}{te:TE}{pos:Pos}(he:PE X e te):PS X (.Return (some e) pos) (aM te):=by intro pins s σ H D I h;exact wpAny_Return_some (Ah (he pins s σ H _ I h) fun v s1 ⟨x,H1,I1,r1,q1⟩=>⟨x,σ,H1,I1,r1,q1⟩)
def Hu(c:TT)(t u:TS):TS:=fun D σ H=>c σ H fun b H1=>if b=true then t D σ H1 else u D σ H1
def A1{a b:List qu}{tc:TT}(hc:PT X c tc)(ha:E3 X a t)(hb:E3 X b u):PS X (.If c a b pos) (Hu tc t u):=by
 intro pins s σ H D I h;refine wpAny_If (Ah (hc pins s σ H _ I h) fun d s1 ⟨H1,I1,q1⟩=>?_)
 cases d with
 |true=>exact ha pins s1 σ H1 D I1 q1
 |false=>exact hb pins s1 σ H1 D I1 q1
end
abbrev TG:=V->St->Hp->(St->Hp->Prop)->Prop
abbrev K5:=List V->St->Hp->(St->Hp->Prop)->Prop
def PG(X:Cx)(target:qv)(t:TG):Prop:=
 ∀(pins:List (Ya×Obj))(s:Yf)(σ:St)(H:Hp)(v:V)(u:AA)(Q:St->Hp->Prop),Inv X pins σ H s->RelV v u->t v σ H Q->
  cm (ax X.prog X.w) X.A (uO target X.env u) (fun _ s'=>∃σ' H',Inv X pins σ' H' s'/\Q σ' H') X.xe s
def Qg(X:Cx)(ts:List qv)(t:K5):Prop:=
 ∀(pins:List (Ya×Obj))(s:Yf)(σ:St)(H:Hp)(vs:List V)(us:List AA)(Q:St->Hp->Prop),Inv X pins σ H s->Vals vs us->t vs σ H Q->
  cm (ax X.prog X.w) X.A (assignInOrder ((sq ts X.env).map (·.2)) us) (fun _ s'=>∃σ' H',Inv X pins σ' H' s'/\Q σ' H') X.xe s
abbrev UO:=V->V->V->Hp->(Hp->Prop)->Prop
def aO(X:Cx)(t:UO):Prop:=
 ∀(pins:List (Ya×Obj))(s:Yf)(σ:St)(H:Hp)(o i v:V)(ov iv u:AA)(Q:Hp->Prop),Inv X pins σ H s->RelV o ov->RelV i iv->RelV v u->t o i v H Q->
  cm (ax X.prog X.w) X.A (setItem ov iv u) (fun _ s'=>∃H',Inv X pins σ H' s'/\Q H') X.xe s
def Ec(i:Nat):TG:=fun v σ H Q=>Q (σ.set i (some v)) H
def BY(hN:X.N.Nodup)(hi:X.N[i]? =some x)(hx:Loc X.env.scope x)(hf:X.fn x=true\/X.env.scope.names.lookup x=some .local:=by exact .inl rfl):PG X (.Name x pos) (Ec i):=by intro pins s σ H v u Q I r h;exact wpAny_assign_Name (SE I hN hi hx r (fun s' I'=>⟨_,H,I',h⟩) hf)
noncomputable def Uc:K5:=fun vs σ H Q=>vs=[]/\Q σ H
noncomputable def Lq(t:TG)(u:K5):K5:=fun vs σ H Q=>∃v r,vs=v::r/\t v σ H fun σ' H'=>u r σ' H' Q
def NK:Qg X [] Uc:=by intro pins s σ H vs us Q I r h;obtain⟨e,h⟩:=h;subst e;cases r;exact assignInOrder_nil ⟨σ,H,I,h⟩
def Hc{es:List qv}{t:TG}{u:K5}(h1:PG X e t)(h2:Qg X es u)
 (hs:(sq (e::es) X.env).map (·.2)=uO e X.env::(sq es X.env).map (·.2):=by rfl):Qg X (e::es) (Lq t u):=by
 intro pins s σ H vs us Q I r h;obtain⟨v,vr,e1,h⟩:=h;subst e1
 cases r with
 |cons r rr=>rw[hs];refine assignInOrder_cons (Ah (h1 pins s σ H _ _ _ I r h) fun _ s1 ⟨σ1,H1,I1,q1⟩=>?_);exact h2 pins s1 σ1 H1 _ _ Q I1 rr q1
def UG(K:uT)(n:Nat)(t:K5):TG:=fun v σ H Q=>∃a xs,v=.ref a/\AU K H a xs/\xs.length=n/\t xs σ H Q
variable{k:Nat}
def Na{es:List qv}{t:K5}{n:Nat}(hc:X.calm=true)(h:Qg X es t)
 (hn:(sq es X.env).length=n:=by rfl)(hst:(sq es X.env).findIdx? (·.1)=none:=by rfl):PG X (.Tuple es k pos) (UG X.K n t):=by
 intro pins s σ H v u Q I r hw;obtain⟨a,xs,e1,hq,hl,hw⟩:=hw;subst e1;cases r;obtain⟨AX,rv,ht,hz⟩:=I.tuple hq;refine assign_Tuple_tuple (I.ok.hd hc) ht (by simp[hn,<-hl,rv.length]) hst fun h' hx=>?_;have I1:Inv X pins σ H {s with heap:=h'}:=I.kept (t':=s.toks) fun b o e=>hx b o (BN (A7 e)) e;exact h pins _ σ H xs _ Q I1 (by simpa using rv) hw
def pR(to ti:TE)(t:UO):TG:=fun v σ H Q=>to σ H fun o H1=>ti σ H1 fun i H2=>t o i v H2 fun H3=>Q σ H3
def Ta{o i:qv}{to ti:TE}{t:UO}(ho:PE X o to)(hi:PE X i ti)(hs:aO X t)
 (ha:∀v,uO (.Subscript o i pos) X.env v=(do
  let ov<-sk [v] (rC o X.env);let iv<-sk [v,ov] (rC i X.env)
  uD pos
  sk [v,ov,iv] (setItem ov iv v)
  release [v,ov,iv] []):=by intro _;rfl):PG X (.Subscript o i pos) (pR to ti t):=by
 intro pins s σ H v u Q I r h;rw[ha];refine AJ (Gb (Ah (ho pins s σ H _ I h) fun ov s1 ⟨x,H1,I1,r1,q1⟩=>?_));refine AJ (Gb (Ah (hi pins s1 σ H1 _ I1 q1) fun iv s2 ⟨y,H2,I2,r2,q2⟩=>?_));refine AJ (Og (AJ (Gb (Ah (hs pins s2 σ H2 x y v ov iv u _ I2 r1 r2 r q2) fun _ s3 ⟨H3,I3,q3⟩=>?_))));exact wpAny_release ⟨σ,H3,I3,q3⟩
def QL(te:TE)(g:TG):TS:=fun D σ H=>te σ H fun x H1=>g x σ H1 D.nx
variable{tg:qv}{g:TG}
def Tb(he:PE X e te)(hg:PG X tg g)(hs:swapsWithSole [tg] e pos.line X.env=pure false:=by rfl)(hw:swappedStores [tg] e X.env=pure none:=by rfl)
 (h1:(sq [tg] X.env).map (·.2)=[uO tg X.env]:=by rfl):PS X (.Assign [tg] e pos) (QL te g):=by
 intro pins s σ H D I h;refine wpAny_Assign_stores (Ah (he pins s σ H _ I h) fun v s1 ⟨x,H1,I1,r1,q1⟩=>?_) hs hw;rw[h1];exact Ah (hg pins s1 σ H1 x v _ I1 r1 q1) fun _ s2 q=>q
def Ax{pos':Pos}(hN:X.N.Nodup)(hi:X.N[i]? =some x)(hx:Loc X.env.scope x)(he:PE X e te)(hs:tK e (some (.Name x pos')) pos.line X.env=pure false:=by rfl)(hf:X.fn x=true\/X.env.scope.names.lookup x=some .local:=by exact .inl rfl):
 PS X (.Assign [.Name x pos'] e pos) (QL te (Ec i)):=by
 intro pins s σ H D I h;refine wpAny_Assign_Name (Ah (he pins s σ H _ I h) fun v s1 ⟨y,H1,I1,r1,q1⟩=>?_) hs;exact SE I1 hN hi hx r1 (fun s2 I2=>⟨_,H1,I2,q1⟩) hf
def ki(c:TT)(tb:TS):TS:=fun D σ H=>∃W:Nat->St->Hp->Prop,(∃m,W m σ H)/\∀m σ H,W m σ H->
 c σ H fun b H1=>if b=true then∃N:St->Hp->Prop,(∀σ' H',N σ' H'->∃m',m'<m/\W m' σ' H')/\tb {D with nx:=N,ct:=N,bk:=D.nx} σ H1 else D.nx σ H1
variable{body:List qu}{tb:TS}
def i9{tc:TT}(hp:PassesOwn (ax X.prog X.w) X.A X.env X.xe)(hc:PT X c tc)(hb:E3 X body tb):PS X (.While c body [] pos) (ki tc tb):=by
 intro pins s σ H D I h;obtain⟨W,⟨m0,w0⟩,turn⟩:=h;refine wpAny_While (codeAny_whileLoop (fun n s'=>∃σ' H',Inv X pins σ' H' s'/\W n σ' H') ?_ m0 ⟨σ,H,I,w0⟩);rintro n s1 ⟨σ1,H1,I1,w1⟩;refine LF hp (Ah (hc pins s1 σ1 H1 _ I1 (turn n σ1 H1 w1)) fun b s2 ⟨H2,I2,q2⟩=>?_)
 cases b with
 |true=>
  obtain⟨N,hN,q2⟩:=q2;rw[AH rfl];refine LF hp (Ah (hb pins s2 σ1 H2 _ I2 q2) fun f s3 q3=>?_)
  cases f with
  |next=>obtain⟨σ3,H3,I3,n3⟩:=q3;obtain⟨m',hm,w3⟩:=hN σ3 H3 n3;exact⟨m',hm,σ3,H3,I3,w3⟩
  |cont=>obtain⟨σ3,H3,I3,n3⟩:=q3;obtain⟨m',hm,w3⟩:=hN σ3 H3 n3;exact⟨m',hm,σ3,H3,I3,w3⟩
  |brk=>exact q3
  |ret v=>exact q3
 |false=>rw[AG Cd];exact Oa ⟨σ1,H2,I2,q2⟩
structure It where
 go:Nat->Hp->Prop
 Ju:Nat->Hp->V->Hp->Prop
 stop:Nat->Hp->Prop
def GL(X:Cx)(pins:List (Ya×Obj))(H:Hp)(b:Ya):Prop:=
 H b=none/\b≠X.env.locals/\b∉X.fs/\(b∈X.ex\/X.s₀.heap.objs.size<=b)/\(∀x c,X.env.cells.lookup x=some c->c≠b)/\∀p∈X.pn++pins,p.1≠b
def Inv.Ko(I:Inv X pins σ H s)(hb:s.heap.objs.size<=b)(hn:H' b=none):GL X pins H' b:=by
 refine⟨hn,E8 (C8 I.lt hb),I.pZ hb,.inr (BJ I.sz hb),fun x c e z=>?_,fun p hp z=>?_⟩
 ·obtain⟨v,q⟩:=I.cell x c e;exact absurd (C8 q.lt (by rw[z];exact hb)) (Mn _)
 ·exact absurd (C8 (A7 (I.pin p hp).1) (by rw[z];exact hb)) (Mn _)
structure Turn(P:qy)(w:rH)(K:uT)(tg:qv)(J:It)(fp:List Ya)(it:Ya)(tn:Nat->rE->Prop):Prop where
 mem:it∈fp
 obj:∀i h,tn i h->∀b∈fp,∃o,h.get? b=some o/\∀v,o.data≠.cell v
 keep:∀i h h',tn i h->(∀b∈fp,∀o,h.get? b=some o->h'.get? b=some o)->tn i h'
 item:∀(X:Cx),X.prog=P->X.w=w->X.K=K->X.calm=true->∀(i:Nat)(pins:List (Ya×Obj))(s:Yf)(σ:St)(H:Hp)(E:AA->Yf->Prop),Inv X pins σ H s->(∀b∈fp,GL X pins H b)->tn i s.heap->J.go i H->
  cm (ax P w) X.A (rS (.ref it)) (fun r s1=>∃u,r=some u/\
   cm (ax P w) X.A (sU tg (.ref it) u) (fun _ s2=>∃x H',Inv X pins σ H' s2/\RelV x u/\J.Ju i H x H'/\tn (i+1) s2.heap/\∀b∈fp,H' b=none) E s1) E s
 done:∀(X:Cx),X.prog=P->X.w=w->X.K=K->X.calm=true->∀(i:Nat)(pins:List (Ya×Obj))(s:Yf)(σ:St)(H:Hp)(E:AA->Yf->Prop),Inv X pins σ H s->(∀b∈fp,GL X pins H b)->tn i s.heap->J.stop i H->
  cm (ax P w) X.A (rS (.ref it)) (fun r s1=>r=none/\Inv X pins σ H s1) E s
 self:∀(A:sJ)(i:Nat)(s:Yf)(Q:AA->Yf->Prop)(E:AA->Yf->Prop),tn i s.heap->Q (.ref it) s->cm (ax P w) A (pyIter (.ref it)) Q E s
abbrev TI:=St->Hp->(It->Hp->Prop)->Prop
def cJ(X:Cx)(pins:List (Ya×Obj))(σ:St)(tg:qv)(R:It->Hp->Prop)(itv:AA)(s2:Yf):Prop:=
 ∃(it:Ya)(fp:List Ya)(tn:Nat->rE->Prop)(J:It)(H':Hp),itv=.ref it/\Inv X pins σ H' s2/\Turn X.prog X.w X.K tg J fp it tn/\tn 0 s2.heap/\(∀b∈fp,GL X pins H' b)/\R J H'
def PI(X:Cx)(tg iter:qv)(wi:TI):Prop:=
 ∀(pins:List (Ya×Obj))(s:Yf)(σ:St)(H:Hp)(R:It->Hp->Prop),Inv X pins σ H s->wi σ H R->
  cm (ax X.prog X.w) X.A (rC iter X.env) (fun v s1=>cm (ax X.prog X.w) X.A (pyIter v) (cJ X pins σ tg R) X.xe s1) X.xe s
variable{vs:Array AA}
def P0{it:Ya}{n:String}{Q:Unit->Yf->Prop}(ho:s.heap.get? it=some o)(hc:o.cls=.type n)(hd:o.data=.fields vs)
 (hn:["enumerate","zip","dict_itemiterator","dict_reverseitemiterator","odict_iterator","itertools.zip_longest","itertools.pairwise"].contains n=false)(hQ:Q () s):cm M A (sU tg (.ref it) u) Q E s:=by
 unfold sU;cases tg<;>first
  |exact Ae hQ
  |(cases u<;>first
   |exact Ae hQ
   |(refine AJ (wpAny_load ho ?_)
     rw[hc,hd];show cm M A (if(["enumerate","zip","dict_itemiterator","dict_reverseitemiterator","odict_iterator","itertools.zip_longest","itertools.pairwise"].contains n&&vs[0]? ==some (rm _))=true then _ else _) Q E s;rw[AG (by intro h;rw[hn,Ml] at h;cases h)];exact Ae hQ))
def Hx(K:uT)(a:Ya):It:=
 ⟨fun i H=>∃xs x,AK K H a xs/\xs[i]? =some x,fun i H x H'=>H'=H/\∀xs,AK K H a xs->xs[i]? =some x,fun i H=>∃xs,AK K H a xs/\xs.length<=i⟩
def L4(lo:Int)(n:Nat):It:=⟨fun i _=>i<n,fun i H x H'=>H'=H/\x=.int (lo+i),fun i _=>n<=i⟩
def eR(a it:Ya):Turn P w K tg (Hx K a) [it] it (fun i h=>h.IsListIter it a i) where
 mem:=by simp
 obj:=fun i h st b hb=>by
  have e:b=it:=by simpa using hb
  subst e;obtain⟨o,e,c,d⟩:=st;exact⟨o,e,fun v z=>by rw[d] at z;cases z⟩
 keep:=fun i h h' st k=>st.at fun o e=>k it (by simp) o e
 item:=by intro X hP hw hK hc i pins s σ H E I hf st hg;subst hP hw hK;obtain⟨xs,x,hq,hx⟩:=hg;obtain⟨AX,rv,p,hz⟩:=I.list hq;obtain⟨u,hu,ru⟩:=rv.get hx;obtain⟨f0,f1,f2,f3,f4,f5⟩:=hf it (by simp);refine wpAny_pyNext_list_item st p.isList (x:=u) (by simpa using hu) fun h' st' sb=>?_;have I1:Inv X pins σ H {s with heap:=h'}:=I.turned (t':=s.toks) (fun b o hb e=>(sb.2 b hb).trans e) f0 f1 f3 f4 f5;obtain⟨o,e,c,d⟩:=id st';exact⟨u,rfl,P0 (s:={s with heap:=h'}) e c d (by decide) ⟨x,H,I1,ru,⟨rfl,fun ys hy=>by rw[I.Wx hy hq];exact hx⟩,st',fun b hb=>(hf b hb).1⟩⟩
 done:=by intro X hP hw hK hc i pins s σ H E I hf st hg;subst hP hw hK;obtain⟨xs,hq,hx⟩:=hg;obtain⟨AX,rv,p,hz⟩:=I.list hq;obtain⟨f0,f1,f2,f3,f4,f5⟩:=hf it (by simp);have hl:=rv.length;exact wpAny_pyNext_list_end (I.ok.hd hc) st p.isList (by simp;lia) fun h' eb=>⟨rfl,I.turned (t':=s.toks) (fun b o hb e=>eb b o hb e) f0 f1 f3 f4 f5⟩
 self:=fun _ _ _ _ _ st h=>wpAny_pyIter_listiter st h
def dc(it:Ya)(lo:Int)(n:Nat):Turn P w K tg (L4 lo n) [it] it (fun i h=>IsRangeIter h it (lo+(i:Nat)*1) ((n:Int)-(i:Nat)) 1) where
 mem:=by simp
 obj:=fun i h st b hb=>by
  have e:b=it:=by simpa using hb
  subst e;exact⟨_,st,fun v z=>by have z':Data.fields _=Data.cell v:=z;cases z'⟩
 keep:=fun i h h' st k=>k it (by simp) _ st
 item:=by intro X hP hw hK hc i pins s σ H E I hf st hg;subst hP hw hK;obtain⟨f0,f1,f2,f3,f4,f5⟩:=hf it (by simp);have W:=Walks.range (prog:=X.prog) (w:=X.w) (I.ok.hd hc) it lo 1 n;refine W.item i s _ _ hg st fun v h' tk hv st' kk=>?_;obtain⟨t,rfl⟩:=hv;have I1:Inv X pins σ H {s with heap:=h',toks:=tk}:=I.turned (fun b o hb e=>kk b o (by simpa using hb) e) f0 f1 f3 f4 f5;refine⟨_,rfl,P0 (s:={s with heap:=h',toks:=tk}) (n:="range_iterator") st' rfl rfl (by decide) ⟨.int (lo+i),H,I1,⟨t,?_⟩,⟨rfl,rfl⟩,st',fun b hb=>(hf b hb).1⟩⟩;rw[Int.mul_one]
 done:=by intro X hP hw hK hc i pins s σ H E I hf st hg;subst hP hw hK;obtain⟨f0,f1,f2,f3,f4,f5⟩:=hf it (by simp);exact wpAny_pyNext_range_end (I.ok.hd hc) st (by have:n<=i:=hg;lia) fun h' eb=>⟨rfl,I.turned (t':=s.toks) (fun b o hb e=>eb b o hb e) f0 f1 f3 f4 f5⟩
 self:=fun _ _ _ _ _ st h=>wpAny_pyIter_rangeiter st h
def Ki(K:uT)(tl:TE):TI:=fun σ H R=>tl σ H fun x H1=>∃a,x=.ref a/\(∃xs,AK K H1 a xs)/\R (Hx K a) H1
def FF{l:qv}{tl:TE}(hl:PE X l tl):PI X tg l (Ki X.K tl):=by
 intro pins s σ H R I h;refine Ah (hl pins s σ H _ I h) fun v s1 ⟨x,H1,I1,r1,q1⟩=>?_;obtain⟨a,e,⟨xs,hq⟩,q⟩:=q1;subst e;cases r1;obtain⟨AX,rv,p,hz⟩:=I1.list hq;refine wpAny_pyIter_list p.isList ?_;refine⟨s1.heap.objs.size,[s1.heap.objs.size],_,_,H1,rfl,I1.kept (t':=s1.toks) fun b o e=>BB _ e,eR a _,⟨_,CC _ rfl,rfl,rfl⟩,fun b hb=>?_,q⟩;have e:b=s1.heap.objs.size:=by simpa using hb
 subst e;exact I1.Ko (Ad _) (I1.hok.fresh (Ad _))
def jC{R:It->Hp->Prop}{lo hi:Int}{t u v:Tok}{tk:Nat}(I:Inv X pins σ H s)(h1: -(2^62)<=lo)(h2:lo<2^62)(h3: -(2^62)<=hi)(h4:hi<2^62)
 (q:R (L4 lo (hi-lo).toNat) H):cm (ax X.prog X.w) X.A (pyIter (.ref s.heap.objs.size)) (cJ X pins σ tg R) E {s with heap:=s.heap.push {cls:=.type "range",data:=.fields #[.int lo t,.int hi u,.int 1 v]},toks:=tk}:=by
 refine wpAny_pyIter_range (IsRange.new ..) (small_one h1 h2 h3 h4) ?_;have I1:Inv X pins σ H {s with heap:=s.heap.push {cls:=.type "range",data:=.fields #[.int lo t,.int hi u,.int 1 v]},toks:=tk}:=I.kept fun b o e=>BB _ e;refine⟨(s.heap.push {cls:=.type "range",data:=.fields #[.int lo t,.int hi u,.int 1 v]}).objs.size,[(s.heap.push {cls:=.type "range",data:=.fields #[.int lo t,.int hi u,.int 1 v]}).objs.size],_,_,H,rfl,
  I1.kept (t':=tk) fun b o e=>BB _ e,dc _ lo (hi-lo).toNat,?_,fun b hb=>?_,q⟩
 ·have e1:lo+((0:Nat):Int)*1=lo:=by simp
  have e2:(((hi-lo).toNat:Nat):Int)-((0:Nat):Int)=Builtin.Range.rangeSize lo hi 1:=by rw[rangeSize_one];split<;>lia
  show IsRangeIter _ _ (lo+((0:Nat):Int)*1) ((((hi-lo).toNat:Nat):Int)-((0:Nat):Int)) 1;rw[e1,e2];exact CC _ rfl
 ·have e:b=(s.heap.push {cls:=.type "range",data:=.fields #[.int lo t,.int hi u,.int 1 v]}).objs.size:=by simpa using hb
  subst e;exact I1.Ko (Ad _) (I1.hok.fresh (Ad _))
def o8(ta:TA):TI:=fun σ H R=>ta σ H fun vs H1=>∃j:Int,vs=[.int j]/\ -(2^62)<=j/\j<2^62/\R (L4 0 j.toNat) H1
variable{p:Pos}
def O2{a:qv}{ta:TA}(hg:Gl X "range")(hm:X.mg "range" =none)(ha:PA X [a] ta)(hs:hX [a] X.env=[(false,rC a X.env)]:=by rfl):PI X tg (.Call (.Name "range" p) [a] [] pos) (o8 ta):=by
 intro pins s σ H R I h;refine Call_ (NU I hg hm boot_range (VB (Ah (ha pos pins s σ H _ I h) fun us s1 ⟨vs,H1,I1,r1,q1⟩=>?_) hs rfl));obtain⟨j,e,q1,q2,q⟩:=q1;subst e
 cases r1 with
 |cons r rr=>cases rr;obtain⟨t,rfl⟩:=r;exact call_range_1 (jC I1 (by lia) (by lia) q1 q2 (by simpa using q))
def Np(wi:TI)(g:TG)(tb:TS):TS:=fun D σ H=>wi σ H fun J H1=>∃W:Nat->Nat->St->Hp->Prop,(∃m,W 0 m σ H1)/\∀i m σ H,W i m σ H->
 (J.stop i H/\D.nx σ H)\/(J.go i H/\∃N:St->Hp->Prop,(∀σ' H',N σ' H'->∃m',m'<m/\W (i+1) m' σ' H')/\∀x H',J.Ju i H x H'->g x σ H' fun σ2 H2=>tb {D with nx:=N,ct:=N,bk:=D.nx} σ2 H2)
noncomputable def NW(fp:List Ya)(h:rE):List (Ya×Obj):=fp.filterMap fun b=>(h.get? b).map fun o=>(b,o)
variable{fp:List Ya}
def Ow(hb:b∈fp)(e:h.get? b=some o):(b,o)∈NW fp h:=Q1.mpr ⟨b,hb,by rw[e];rfl⟩
def fe{p:Ya×Obj}(hp:p∈NW fp h):p.1∈fp/\h.get? p.1=some p.2:=by
 obtain⟨b,hb,e⟩:=Q1.mp hp
 cases q:h.get? b with
 |none=>rw[q] at e;cases e
 |some o=>rw[q] at e;have e':(b,o)=p:=Af e;subst e';exact⟨hb,q⟩
def Inv.pinned(I:Inv X pins σ H s)(hf:∀b∈fp,GL X pins H b)(ho:∀b∈fp,∃o,s.heap.get? b=some o/\∀v,o.data≠.cell v):Inv X (pins++NW fp s.heap) σ H s:=
 I.YL fun p hp=>(Bp.mp hp).elim (fun z=>I.pin p (EU _ z)) fun z=>by obtain⟨hb,e⟩:=fe z;obtain⟨f0,f1,f2,_⟩:=hf p.1 hb;obtain⟨o,e',d⟩:=ho p.1 hb;rw[e] at e';cases e';exact⟨e,f0,f1,f2,d⟩
def Inv.PF{pl:List (Ya×Obj)}(I:Inv X (pins++pl) σ H s):Inv X pins σ H s:=I.YL fun p hp=>I.pin p (EU _ (Ig _ hp))
def DW{iter:qv}{wi:TI}(hp:PassesOwn (ax X.prog X.w) X.A X.env X.xe)(hc:X.calm=true)(hi:PI X tg iter wi)(hg:PG X tg g)(hb:E3 X body tb)
 (hs:∀x,foldedSetIterable iter X.env x=pure x:=by intro _;rfl):PS X (.For tg iter body [] pos) (Np wi g tb):=by
 intro pins s σ H D I h;refine wpAny_For (Ah (hi pins s σ H _ I h) fun v s1 h1=>Ah h1 fun itv s2 h2=>?_) hs;obtain⟨it,fp,tn,J,H2,e,I2,T,st2,f2,W,⟨m0,w0⟩,turn⟩:=h2;subst e;have stat:∀{H':Hp},(∀b∈fp,H' b=none)->∀b∈fp,GL X pins H' b:=fun hn b hb=>⟨hn b hb,(f2 b hb).2⟩;refine codeAny_forLoop_any (fun n s'=>∃i σ' H',Inv X pins σ' H' s'/\tn i s'.heap/\(∀b∈fp,H' b=none)/\W i n σ' H') ?_ m0 ⟨0,σ,H2,I2,st2,fun b hb=>(f2 b hb).1,w0⟩;rintro n s3 ⟨i,σ3,H3,I3,st3,fr3,w3⟩;rcases turn i n σ3 H3 w3 with⟨stop,qn⟩|⟨go,N,hN,step⟩
 ·refine LF hp (Ah (T.done X rfl rfl rfl hc i pins s3 σ3 H3 X.xe I3 (stat fr3) st3 stop) fun r s4 ⟨hr,I4⟩=>?_);subst hr;exact Oa ⟨σ3,H3,I4,qn⟩
 ·refine LF hp (Ah (T.item X rfl rfl rfl hc i pins s3 σ3 H3 X.xe I3 (stat fr3) st3 go) fun r s4 ⟨u,hr,h4⟩=>?_);subst hr;refine LF hp (Ah h4 fun _ s5 ⟨x,H5,I5,r5,y5,st5,fr5⟩=>?_);have I5':=I5.pinned (stat fr5) (T.obj _ _ st5);refine LF hp (Ah (hg _ s5 σ3 H5 x u _ I5' r5 (step x H5 y5)) fun _ s6 ⟨σ6,H6,I6,q6⟩=>?_);refine LF hp (Ah (hb _ s6 σ6 H6 _ I6 q6) fun f s7 q7=>?_);have again:∀{σ7:St}{H7:Hp},Inv X (pins++NW fp s5.heap) σ7 H7 s7->N σ7 H7->∃m,m<n/\∃i σ' H',Inv X pins σ' H' s7/\tn i s7.heap/\(∀b∈fp,H' b=none)/\W i m σ' H':=fun{σ7 H7} I7 n7=>by obtain⟨m',hm,w7⟩:=hN σ7 H7 n7;refine⟨m',hm,i+1,σ7,H7,I7.PF,T.keep _ _ _ st5 fun b hb o e=>(I7.pin (b,o) (EU _ (EU _ (Ow hb e)))).1,fun b hb=>?_,w7⟩;obtain⟨o,e,d⟩:=T.obj _ _ st5 b hb;exact(I7.pin (b,o) (EU _ (EU _ (Ow hb e)))).2.1
  cases f with
  |next=>obtain⟨σ7,H7,I7,n7⟩:=q7;exact again I7 n7
  |cont=>obtain⟨σ7,H7,I7,n7⟩:=q7;exact again I7 n7
  |brk=>obtain⟨σ7,H7,I7,q7⟩:=q7;exact⟨σ7,H7,I7.PF,q7⟩
  |ret v=>obtain⟨x7,σ7,H7,I7,r7,q7⟩:=q7;exact⟨x7,σ7,H7,I7.PF,r7,q7⟩
def He{xs:List V}{D:Ends}(Pv:Nat->St->Hp->Prop)(h0:Pv 0 σ H)(hl:∀i σ H,i<=xs.length->Pv i σ H->AK K H a xs)
 (hs:∀i x σ H,xs[i]? =some x->Pv i σ H->g x σ H fun σ2 H2=>tb {D with nx:=Pv (i+1),ct:=Pv (i+1),bk:=D.nx} σ2 H2)(hd:∀σ H,Pv xs.length σ H->D.nx σ H):
 ∃W:Nat->Nat->St->Hp->Prop,(∃m,W 0 m σ H)/\∀i m σ H,W i m σ H->
  ((Hx K a).stop i H/\D.nx σ H)\/((Hx K a).go i H/\∃N:St->Hp->Prop,(∀σ' H',N σ' H'->∃m',m'<m/\W (i+1) m' σ' H')/\∀x H',(Hx K a).Ju i H x H'->g x σ H' fun σ2 H2=>tb {D with nx:=N,ct:=N,bk:=D.nx} σ2 H2):=by
 refine⟨fun i m σ H=>m=xs.length-i/\i<=xs.length/\Pv i σ H,⟨xs.length,by simp,CN _,h0⟩,?_⟩;rintro i m σ H ⟨rfl,hi,p⟩;have q:=hl i σ H hi p;by_cases hlt:i<xs.length
 ·refine .inr ⟨⟨xs,xs[i],q,by simp[hlt]⟩,Pv (i+1),fun σ' H' p'=>⟨xs.length-(i+1),by lia,rfl,hlt,p'⟩,fun x H' y=>?_⟩;obtain⟨e,y⟩:=y;subst e;exact hs i x σ _ (y xs q) p
 ·have e:i=xs.length:=by lia
  subst e;exact .inl ⟨⟨xs,q,Ad _⟩,hd σ H p⟩
def Mz{lo:Int}{n:Nat}{D:Ends}(Pv:Nat->St->Hp->Prop)(h0:Pv 0 σ H)
 (hs:∀i σ H,i<n->Pv i σ H->g (.int (lo+i)) σ H fun σ2 H2=>tb {D with nx:=Pv (i+1),ct:=Pv (i+1),bk:=D.nx} σ2 H2)(hd:∀σ H,Pv n σ H->D.nx σ H):
 ∃W:Nat->Nat->St->Hp->Prop,(∃m,W 0 m σ H)/\∀i m σ H,W i m σ H->
  ((L4 lo n).stop i H/\D.nx σ H)\/((L4 lo n).go i H/\∃N:St->Hp->Prop,(∀σ' H',N σ' H'->∃m',m'<m/\W (i+1) m' σ' H')/\∀x H',(L4 lo n).Ju i H x H'->g x σ H' fun σ2 H2=>tb {D with nx:=N,ct:=N,bk:=D.nx} σ2 H2):=by
 refine⟨fun i m σ H=>m=n-i/\i<=n/\Pv i σ H,⟨n,by simp,CN _,h0⟩,?_⟩;rintro i m σ H ⟨rfl,hi,p⟩;by_cases hlt:i<n
 ·refine .inr ⟨hlt,Pv (i+1),fun σ' H' p'=>⟨n-(i+1),by lia,rfl,hlt,p'⟩,fun x H' y=>?_⟩;obtain⟨e,y⟩:=y;subst e y;exact hs i σ _ hlt p
 ·have e:i=n:=by lia
  subst e;exact .inl ⟨Ad _,hd σ H p⟩
abbrev R2:=V->V->Hp->VK->Prop
def Bx(X:Cx)(f:AA->AA->Sem AA)(r:R2):Prop:=
 ∀(pins:List (Ya×Obj))(s:Yf)(σ:St)(H:Hp)(x y:V)(v u:AA)(Q:VK),Inv X pins σ H s->RelV x v->RelV y u->r x y H Q->
  cm (ax X.prog X.w) X.A (f v u) (EP X pins σ Q) X.xe s
def Us(X:Cx)(f:AA->Sem AA)(r:V->Hp->VK->Prop):Prop:=
 ∀(pins:List (Ya×Obj))(s:Yf)(σ:St)(H:Hp)(x:V)(v:AA)(Q:VK),Inv X pins σ H s->RelV x v->r x H Q->
  cm (ax X.prog X.w) X.A (f v) (EP X pins σ Q) X.xe s
def DO(X:Cx)(f:AA)(r:List V->Hp->VK->Prop):Prop:=
 ∀(pins:List (Ya×Obj))(s:Yf)(σ:St)(H:Hp)(xs:List V)(us:List AA)(Q:VK),Inv X pins σ H s->Vals xs us->r xs H Q->
  cm (ax X.prog X.w) X.A (call f us) (EP X pins σ Q) X.xe s
def Fw(r:R2)(ta tb:TE):TE:=fun σ H Q=>ta σ H fun x H1=>tb σ H1 fun y H2=>r x y H2 Q
def qY(r:V->Hp->VK->Prop)(ta:TE):TE:=fun σ H Q=>ta σ H fun x H1=>r x H1 Q
def rI(C:Int->Int->Prop)(g:Int->Int->V):R2:=fun x y H Q=>∃i j,x=.int i/\y=.int j/\C i j/\Q (g i j) H
def K3(g:Int->Int->V):R2:=fun x y H Q=>∃i j,x=.int i/\y=.int j/\Q (g i j) H
def rU(g:Int->V):V->Hp->VK->Prop:=fun x H Q=>∃i,x=.int i/\Q (g i) H
section
variable{a b:qv}{tb tc:TE}
def UP(ha:PE X a ta)(hb:PE X b tb){R:V->V->Hp->Prop}(I:Inv X pins σ H s)
 (h:ta σ H fun x H1=>tb σ H1 fun y H2=>R x y H2){f:AA->AA->Sem AA}
 (hf:∀v u s2 x y H2,Inv X pins σ H2 s2->RelV x v->RelV y u->R x y H2->cm (ax X.prog X.w) X.A (f v u) Q X.xe s2):
 cm (ax X.prog X.w) X.A (rC a X.env) (fun v s₁=>cm (ax X.prog X.w) X.A (rC b X.env) (fun u s₂=>cm (ax X.prog X.w) X.A (f v u) Q X.xe s₂) X.xe s₁) X.xe s:=by
 refine Ah (ha pins s σ H _ I h) fun v s1 ⟨x,H1,I1,r1,q1⟩=>?_;refine Ah (hb pins s1 σ H1 _ I1 q1) fun u s2 ⟨y,H2,I2,r2,q2⟩=>?_;exact hf v u s2 x y H2 I2 r1 r2 q2
def An{op:Operator}{r:R2}(ho:Bx X (sR op) r)(ha:PE X a ta)(hb:PE X b tb):PE X (.BinOp a op b pos) (Fw r ta tb):=by intro pins s σ H Q I h;exact wpAny_BinOp (UP ha hb I h fun v u s2 x y H2 I2 rx ry q=>ho pins s2 σ H2 x y v u Q I2 rx ry q)
def EI{op:UnaryOp}{r:V->Hp->VK->Prop}(ho:Us X (unaryOp op) r)(ha:PE X a ta):PE X (.UnaryOp op a pos) (qY r ta):=by intro pins s σ H Q I h;exact UnaryOp_ (Ah (ha pins s σ H _ I h) fun v s1 ⟨x,H1,I1,r1,q1⟩=>ho pins s1 σ H1 x v Q I1 r1 q1)
def QU{f:AA->AA->Sem AA}{C:Int->Int->Prop}{g:Int->Int->Int}
 (rule:∀(i j:Int)(t u:Tok)(s:Yf)(Q:AA->Yf->Prop)(E:AA->Yf->Prop),C i j->Q (.int (g i j) s.toks) {s with toks:=s.toks+1}->cm (ax X.prog X.w) X.A (f (.int i t) (.int j u)) Q E s):
 Bx X f (rI C fun i j=>.int (g i j)):=by
 intro pins s σ H x y v u Q I rx ry h;obtain⟨i,j,rfl,rfl,hc,q⟩:=h;obtain⟨t,rfl⟩:=rx;obtain⟨t',rfl⟩:=ry;exact rule i j t t' s _ _ hc ⟨.int (g i j),H,I.tok _,⟨_,rfl⟩,q⟩
def aU{f:AA->AA->Sem AA}{g:Int->Int->Int}
 (rule:∀(i j:Int)(t u:Tok)(s:Yf)(Q:AA->Yf->Prop)(E:AA->Yf->Prop),Q (.int (g i j) s.toks) {s with toks:=s.toks+1}->cm (ax X.prog X.w) X.A (f (.int i t) (.int j u)) Q E s):
 Bx X f (K3 fun i j=>.int (g i j)):=by
 intro pins s σ H x y v u Q I rx ry h;obtain⟨i,j,rfl,rfl,q⟩:=h;obtain⟨t,rfl⟩:=rx;obtain⟨t',rfl⟩:=ry;exact rule i j t t' s _ _ ⟨.int (g i j),H,I.tok _,⟨_,rfl⟩,q⟩
def UX{f:AA->AA->Sem AA}{g:Int->Int->Bool}
 (rule:∀(i j:Int)(t u:Tok)(s:Yf)(Q:AA->Yf->Prop)(E:AA->Yf->Prop),Q (.bool (g i j)) s->cm (ax X.prog X.w) X.A (f (.int i t) (.int j u)) Q E s):
 Bx X f (K3 fun i j=>.bl (g i j)):=by
 intro pins s σ H x y v u Q I rx ry h;obtain⟨i,j,rfl,rfl,q⟩:=h;obtain⟨t,rfl⟩:=rx;obtain⟨t',rfl⟩:=ry;exact rule i j t t' s _ _ ⟨.bl (g i j),H,I,rfl,q⟩
def pQ(i j:Int):Prop:=0<j/\j<1073741824
def pe(i j:Int):Prop:=0<=j/\j<=1000000/\i.natAbs<2^64
def UH(i j:Int):Prop:=(-(2^64)<i/\i<2^64)\/(-(2^64)<j/\j<2^64)
def UH.ok{i j:Int}(h:UH i j):IntMulOk i j:=by
 rcases h with⟨h1,h2⟩|⟨h1,h2⟩
 ·exact .of_left (intBits_le_64 h1 h2)
 ·exact .of_right (intBits_le_64 h1 h2)
def Dk:Bx X (sR .Add) (K3 fun i j=>.int (i+j)):=aU fun _ _ _ _ _ _ _ q=>add_int q
def Tp:Bx X (sR .Sub) (K3 fun i j=>.int (i-j)):=aU fun _ _ _ _ _ _ _ q=>sub_int q
def Po:Bx X (sR .Mult) (rI UH fun i j=>.int (i*j)):=QU fun _ _ _ _ _ _ _ hc q=>mul_int q hc.ok
def KW:Bx X (sR .FloorDiv) (rI pQ fun i j=>.int (i/j)):=QU fun i j _ _ _ _ _ hc q=>by have h1:(0:Int)<j:=hc.1;have h2:j<1073741824:=hc.2;exact floordiv_int (by lia) (by rw[Int.fdiv_eq_ediv_of_nonneg i (by lia)];exact q) (.inl (PyProof.noPylong_small (by lia)))
def CG:Bx X (sR .Mod) (rI (fun _ j=>0<j) fun i j=>.int (i%j)):=QU fun i j _ _ _ _ _ hc q=>by have h1:(0:Int)<j:=hc;exact mod_int' (by lia) (by rw[Int.fmod_eq_emod_of_nonneg i (by lia)];exact q)
def TV:Bx X (sR .Pow) (rI pe fun i j=>.int (i^j.toNat)):=QU fun _ _ _ _ _ _ _ hc q=>pow_int_small hc.1 hc.2.1 hc.2.2 q
def qi{f:AA->Sem AA}{g:Int->Int}
 (rule:∀(i:Int)(t:Tok)(s:Yf)(Q:AA->Yf->Prop)(E:AA->Yf->Prop),Q (.int (g i) s.toks) {s with toks:=s.toks+1}->cm (ax X.prog X.w) X.A (f (.int i t)) Q E s):
 Us X f (rU fun i=>.int (g i)):=by
 intro pins s σ H x v Q I rx h;obtain⟨i,rfl,q⟩:=h;obtain⟨t,rfl⟩:=rx;exact rule i t s _ _ ⟨.int (g i),H,I.tok _,⟨_,rfl⟩,q⟩
def EH:Us X (unaryOp .USub) (rU fun i=>.int (-i)):=qi fun _ _ _ _ _ q=>neg_int q
end
noncomputable def ay:V->V->Bool
 |.BA,.BA=>true|.BA,.int _=>true|.int _,.BA=>true|.BA,.bl _=>true|.bl _,.BA=>true|.BA,.str _=>true|.str _,.BA=>true
 |.int _,.int _=>true|.bl _,.bl _=>true|.str _,.str _=>true|.GV _,.GV _=>true
 |.int _,.str _=>true|.str _,.int _=>true|.bl _,.str _=>true|.str _,.bl _=>true
 |_,_=>false
def ME:R2:=fun x y H Q=>ay x y=true/\Q (.bl (decide (x=y))) H
def bM:R2:=fun x y H Q=>ay x y=true/\Q (.bl (!decide (x=y))) H
def YI{i j:Int}:decide (V.int i=V.int j)=(i==j):=by rw[Oc];simp
def ZA{i j:Bool}:decide (V.bl i=V.bl j)=(i==j):=by rw[Oc];simp
def YK{i j:Str}:decide (V.str i=V.str j)=(i==j):=by rw[Oc];simp
def YX{i j:Array UInt8}:decide (V.GV i=V.GV j)=(i.toList==j.toList):=by rw[Oc];cases i;cases j;simp
section
variable{a b:qv}{tb tc:TE}
def CH{Q:VK}{k k':Bool}(I:Inv X pins σ H s)(q:Q (.bl k) H)(e:k=k'):EP X pins σ Q (.bool k') s:=by subst e;exact⟨.bl k,H,I,rfl,q⟩
def BQ:Bx X (qz .Eq) ME:=by
 intro pins s σ H x y v u Q I rx ry h;obtain⟨hs,q⟩:=h
 cases x with
 |BA=>
  cases rx
  cases y with
  |BA=>cases ry;exact PySem.EqNone.eq_none_none (CH I q (by simp))
  |bl j=>cases ry;exact PySem.EqNone.eq_none_bool (CH I q (by simp))
  |int j=>obtain⟨t',rfl⟩:=ry;exact PySem.EqNone.eq_none_int (CH I q (by simp))
  |str j=>obtain⟨t',rfl⟩:=ry;exact PySem.EqNone.eq_none_str (CH I q (by simp))
  |_=>exact absurd (show false=true from hs) Cd
 |bl i=>
  cases rx
  cases y with
  |BA=>cases ry;exact PySem.EqNone.eq_bool_none (CH I q (by simp))
  |bl j=>cases ry;exact eq_bool (CH I q ZA)
  |str j=>obtain⟨t',rfl⟩:=ry;exact PySem.EqMixed.eq_bool_str (CH I q (by simp))
  |_=>exact absurd (show false=true from hs) Cd
 |int i=>
  obtain⟨t,rfl⟩:=rx
  cases y with
  |BA=>cases ry;exact PySem.EqNone.eq_int_none (CH I q (by simp))
  |int j=>obtain⟨t',rfl⟩:=ry;exact eq_int (CH I q YI)
  |str j=>obtain⟨t',rfl⟩:=ry;exact PySem.EqMixed.eq_int_str (CH I q (by simp))
  |_=>exact absurd (show false=true from hs) Cd
 |str i=>
  obtain⟨t,rfl⟩:=rx
  cases y with
  |BA=>cases ry;exact PySem.EqNone.eq_str_none (CH I q (by simp))
  |bl j=>cases ry;exact PySem.EqMixed.eq_str_bool (CH I q (by simp))
  |int j=>obtain⟨t',rfl⟩:=ry;exact PySem.EqMixed.eq_str_int (CH I q (by simp))
  |str j=>obtain⟨t',rfl⟩:=ry;exact eq_str (CH I q YK)
  |_=>exact absurd (show false=true from hs) Cd
 |GV i=>
  obtain⟨t,rfl⟩:=rx
  cases y with
  |GV j=>obtain⟨t',rfl⟩:=ry;exact eq_bytes (CH I q YX)
  |_=>exact absurd (show false=true from hs) Cd
 |_=>cases y<;>exact absurd (show false=true from hs) Cd
def Er:Bx X (qz .NotEq) bM:=by
 intro pins s σ H x y v u Q I rx ry h;obtain⟨hs,q⟩:=h
 cases x with
 |BA=>
  cases rx
  cases y with
  |BA=>cases ry;exact PySem.EqNone.ne_none_none (CH I q (by simp))
  |bl j=>cases ry;exact PySem.EqNone.ne_none_bool (CH I q (by simp))
  |int j=>obtain⟨t',rfl⟩:=ry;exact PySem.EqNone.ne_none_int (CH I q (by simp))
  |str j=>obtain⟨t',rfl⟩:=ry;exact PySem.EqNone.ne_none_str (CH I q (by simp))
  |_=>exact absurd (show false=true from hs) Cd
 |bl i=>
  cases rx
  cases y with
  |BA=>cases ry;exact PySem.EqNone.ne_bool_none (CH I q (by simp))
  |bl j=>cases ry;exact ne_bool (CH I q (BL not ZA))
  |str j=>obtain⟨t',rfl⟩:=ry;exact PySem.EqMixed.ne_bool_str (CH I q (by simp))
  |_=>exact absurd (show false=true from hs) Cd
 |int i=>
  obtain⟨t,rfl⟩:=rx
  cases y with
  |BA=>cases ry;exact PySem.EqNone.ne_int_none (CH I q (by simp))
  |int j=>obtain⟨t',rfl⟩:=ry;exact ne_int (CH I q (BL not YI))
  |str j=>obtain⟨t',rfl⟩:=ry;exact PySem.EqMixed.ne_int_str (CH I q (by simp))
  |_=>exact absurd (show false=true from hs) Cd
 |str i=>
  obtain⟨t,rfl⟩:=rx
  cases y with
  |BA=>cases ry;exact PySem.EqNone.ne_str_none (CH I q (by simp))
  |bl j=>cases ry;exact PySem.EqMixed.ne_str_bool (CH I q (by simp))
  |int j=>obtain⟨t',rfl⟩:=ry;exact PySem.EqMixed.ne_str_int (CH I q (by simp))
  |str j=>obtain⟨t',rfl⟩:=ry;exact ne_str (CH I q (BL not YK))
  |_=>exact absurd (show false=true from hs) Cd
 |GV i=>
  obtain⟨t,rfl⟩:=rx
  cases y with
  |GV j=>obtain⟨t',rfl⟩:=ry;exact ne_bytes (CH I q (BL not YX))
  |_=>exact absurd (show false=true from hs) Cd
 |_=>cases y<;>exact absurd (show false=true from hs) Cd
def Jb:Bx X (qz .Lt) (K3 fun i j=>.bl (decide (i<j))):=UX fun _ _ _ _ _ _ _ q=>lt_int q
def nS:Bx X (qz .LtE) (K3 fun i j=>.bl (decide (i<=j))):=UX fun _ _ _ _ _ _ _ q=>le_int q
def T5:Bx X (qz .Gt) (K3 fun i j=>.bl (decide (j<i))):=UX fun _ _ _ _ _ _ _ q=>gt_int q
def eQ:Bx X (qz .Lt) (fun x y H Q=>∃i j,x=.str i/\y=.str j/\Q (.bl (decide (i.cps.toList<j.cps.toList))) H):=by intro pins s σ H x y v u Q I rx ry h;obtain⟨i,j,rfl,rfl,q⟩:=h;obtain⟨t,rfl⟩:=rx;obtain⟨t',rfl⟩:=ry;exact lt_str (CH I q rfl)
def Ap(b:qv)(h:op≠.In:=by decide)(h2:op≠.NotIn:=by decide):behindInMarks op b=false:=by
 have e1:(op==CmpOp.In)=false:=by cases op<;>first|rfl|exact absurd rfl h
 have e2:(op==CmpOp.NotIn)=false:=by cases op<;>first|rfl|exact absurd rfl h2
 cases b<;>simp[behindInMarks,e1,e2]
def Hj{r:R2}(ho:Bx X (qz op) r)(ha:PE X a ta)(hb:PE X b tb)(hm:behindInMarks op b=false):PE X (.Compare a [op] [b] pos) (Fw r ta tb):=by intro pins s σ H Q I h;exact wpAny_Compare1 (UP ha hb I h fun v u s2 x y H2 I2 rx ry q=>ho pins s2 σ H2 x y v u Q I2 rx ry q) hm
def Ke(t:TE):TT:=fun σ H Q=>t σ H fun x H'=>∃k,x=.bl k/\Q k H'
def Aw{r:R2}(ho:Bx X (qz op) r)(ha:PE X a ta)(hb:PE X b tb)(hm:behindInMarks op b=false):PT X (.Compare a [op] [b] pos) (Ke (Fw r ta tb)):=by
 intro pins s σ H Q I h;refine wpAny_isTrue_Compare1 (Ah (ha pins s σ H _ I h) fun v s1 ⟨x,H1,I1,r1,q1⟩=>Ah (hb pins s1 σ H1 _ I1 q1) fun u s2 ⟨y,H2,I2,r2,q2⟩=>Ah (ho pins s2 σ H2 x y v u _ I2 r1 r2 q2) fun c s3 ⟨z,H3,I3,r3,k,e,q3⟩=>?_) hm;subst e;cases r3;exact MY ⟨H3,I3,q3⟩
def mv(r r':R2)(ta tb tc:TE):TE:=fun σ H Q=>ta σ H fun x H1=>tb σ H1 fun y H2=>r x y H2 fun z H3=>∃k,z=.bl k/\
 (if k=true then tc σ H3 fun w' H4=>r' y w' H4 Q else Q (.bl false) H3)
def iM{op':CmpOp}{r r':R2}(ho:Bx X (qz op) r)(ho':Bx X (qz op') r')(ha:PE X a ta)(hb:PE X b tb)(hc:PE X c tc)
 (hm:lastMarks [op,op'] [b,c]=false):PE X (.Compare a [op,op'] [b,c] pos) (mv r r' ta tb tc):=by
 intro pins s σ H Q I h;refine Compare_chain (Ah (ha pins s σ H _ I h) fun v s1 ⟨x,H1,I1,r1,q1⟩=>chain_link (Ah (hb pins s1 σ H1 _ I1 q1) fun u s2 ⟨y,H2,I2,r2,q2⟩=>Ah (ho pins s2 σ H2 x y v u _ I2 r1 r2 q2) fun d s3 ⟨z,H3,I3,r3,k,e,q3⟩=>?_)) hm;subst e;cases r3;refine MY ?_
 cases k with
 |false=>exact ite_ff ⟨.bl false,H3,I3,rfl,q3⟩
 |true=>exact ite_tt (chain_last (Ah (hc pins s3 σ H3 _ I3 q3) fun w' s4 ⟨z',H4,I4,r4,q4⟩=>ho' pins s4 σ H4 y z' u w' Q I4 r2 r4 q4))
def NZ:(sizeLine:Nat)<2^63:=by rw[A9];decide
def IG:Bx X (sR .Add) (fun x y H Q=>∃i j,x=.str i/\y=.str j/\i.length+j.length<=sizeLine/\Q (.str (i++j)) H):=by intro pins s σ H x y v u Q I rx ry h;obtain⟨i,j,rfl,rfl,hz,q⟩:=h;obtain⟨t,rfl⟩:=rx;obtain⟨t',rfl⟩:=ry;exact add_str (fun t' tk=>⟨.str (i++j),H,I.tok _,⟨_,rfl⟩,q⟩) hz
end
variable{us:List AA}
section
variable{a b:qv}{tb tc:TE}
def vals1{x:V}(r:Vals [x] us):∃u,us=[u]/\RelV x u:=by
 cases r with
 |cons r1 r2=>cases r2;exact⟨_,rfl,r1⟩
end
variable{y:V}
section
variable{a b:qv}{tb tc:TE}
def vals2{x:V}(r:Vals [x,y] us):∃u w',us=[u,w']/\RelV x u/\RelV y w':=by
 cases r with
 |cons r1 r2=>
  cases r2 with
  |cons r3 r4=>cases r4;exact⟨_,_,rfl,r1,r3⟩
def My:DO X (.type "int") (fun xs H Q=>(∃i,xs=[.int i]/\Q (.int i) H)\/∃k,xs=[.bl k]/\Q (.int (if k then 1 else 0)) H):=by
 intro pins s σ H xs us Q I r h;rcases h with⟨i,rfl,q⟩|⟨k,rfl,q⟩
 ·obtain⟨u,rfl,t,rfl⟩:=vals1 r;exact call_int_int ⟨.int i,H,I,⟨_,rfl⟩,q⟩
 ·obtain⟨u,rfl,r1⟩:=vals1 r;cases r1;exact call_int_bool ⟨.int (if k then 1 else 0),H,I.tok _,⟨_,rfl⟩,q⟩
end
structure Kq(h:rE)(x dx C:Ya)(mA:Str->Option AA):Prop where
 obj:h.get? x=some (tL C dx)
 ns:h.Ns1 dx mA
 ne:dx≠x
variable{dx:Ya}{mA:Str->Option AA}
def WR(n:h.Ns1 dx mA):∃od,h.get? dx=some od/\∀name,lookIn name od=some (mA name):=by
 obtain⟨o,es,ep,ho,hd,hk,_,hm⟩:=n;refine⟨o,ho,fun name=>?_⟩;have e:=hm name;unfold nsFind findBy at e;rw[<-Array.find?_toList] at e;unfold lookIn;rw[hd];dsimp only;split
 ·rename_i y q;rw[q] at e;exact BL some e
 ·rename_i q;rw[q] at e;have a:es.toList.any (·.refKey)=false:=by rw[List.any_eq_false];intro y hy;obtain⟨z,t,hkey⟩:=hk y (Array.mem_toList_iff.mp hy);simp[DictEntry.refKey,hkey]
  have a':¬es.toList.any (·.refKey)=true:=by rw[a];exact Cd
  rw[AG a'];exact BL some e
variable{C:Ya}
def Kq.look{x:Ya}(I:Kq h x dx C mA):∃od,InstAt h x (tL C dx) C (some od)/\∀name,lookIn name od=some (mA name):=
 let⟨od,ho,hl⟩:=WR I.ns
 ⟨od,⟨I.obj,rfl,rfl,ho⟩,hl⟩
variable{prog:qy}{name:Str}
section
variable{x:Ya}{v:AA}
def get_map{expr:Bool}(X:K.In s.heap)(I:Kq s.heap x dx C mA)(hg:tS K C name=true)(hh:sW K C=true)
 (ha:rJ K (.ref C) name=some none)(hv:mA name=some v)(hv':handedIn v=true)(h:Q v {s with toks:=s.toks+1}):
 cm (ax prog w) A (uE (.ref x) name expr) Q E s:=by
 obtain⟨od,J,hl⟩:=I.look;exact get_value X J (VU hg).1 (findObj_own hh ha rfl (by rw[hl,hv])) hv' h
end
variable{pl:Sem Bool}{f:Ya}
section
variable{x:Ya}{v:AA}
def iq{Q:AA×List AA->Yf->Prop}(X:K.In s.heap)(I:Kq s.heap x dx C mA)(hg:tS K C name=true)
 (hf:rJ K (.ref C) name=some (some (.ref f)))(ht:isFn K (.ref f)=true)(hv:mA name=none)(h:Q (.ref f,[.ref x]) s):
 cm (ax prog w) A (tM (.ref x) name pl) Q E s:=by
 obtain⟨od,J,hl⟩:=I.look;exact method_fn X J (VU hg).1 (VU hg).2 hf (Gg.mp ht) (by show(lookIn name od).map (·.isSome)=some false;rw[hl,hv];rfl) h
def jJ{ns:List Str}{Q:Unit->Yf->Prop}(X:K.In s.heap)(I:Kq s.heap x dx C mA)
 (hs:rJ K (.ref C) "__setattr__" =some (some (.builtin "object.__setattr__")))(hp:plainOver K C=true)(ht:takerIn K C name=some none)(hh:sW K C=true)
 (hw:uW mA ns)(hsz:ns.length<=sizeLine)
 (h:∀h',Kq h' x dx C (fun y=>if y=name then some v else mA y)->Heap.SameBut dx s.heap h'->Q () {s with heap:=h',toks:=s.toks+2}):
 cm (ax prog w) A (setAttr (.ref x) name v) Q E s:=by
 obtain⟨od,J,hl⟩:=I.look;refine set_plain X J hs (osa_open (s:={s with toks:=s.toks+1}) (r:=none) X J hp ht fun b=>?_);obtain⟨cd,hc,hd'⟩:=any_some hh;have hx:s.heap.get? x=some ⟨.ref C,some dx,.plain,#[]⟩:=I.obj;refine AJ (Ae (AJ (AJ (wpAny_loadPart hx (AJ (PySem.W.Looks.here (s:={s with toks:=s.toks+1}) (VW X hc) ?_))))));rw[hd'];refine Ae (a:=some dx) (AJ (Ae (AJ ?_)));refine wpAny_nsSet1 (s:={s with toks:=s.toks+1}) I.ns fun h' hn2 hs2=>?_;obtain⟨oD,esD,epD,hoD,hdD,hcD⟩:=hn2.count (PySem.Within.cons name v hw);refine AJ (wpAny_lookBehind hoD (by rw[hdD];exact pastItsLine_dict (BJ hcD (by rw[CD];lia))) ?_);exact Ae (h _ ⟨(hs2.2 _ (DK I.ne)).trans I.obj,hn2,I.ne⟩ hs2)
end
variable{R:Result->Yf->Prop}{kw:List (Str×AA)}
section
variable{x:Ya}{v:AA}
def iT{vs:List AA}(X:K.In s.heap)(hm:makesIn K C=true)
 (hi:rJ K (.ref C) "__init__" =some (some (.ref f)))(hf:typeIn K (.ref f)=some (.type "function"))
 (h:rq (ax prog w) (A.under (.builtin "type.__call__" ⟨.ref C::vs,kw⟩)) (.call (.ref f) ⟨.ref (s.heap.objs.size+1)::vs,kw⟩) (InitBack (s.heap.objs.size+1) R)
  {s with heap:=(s.heap.push sO).push (tL C s.heap.objs.size)}):
 rq (ax prog w) A (.call (.ref C) ⟨vs,kw⟩) R s:=by
 obtain⟨hh,g,d,t,os⟩:=s;exact make_core (makes_of X hm) (OL X hi) (fun self=>bind_fn X self hf) (.inl rfl) h
end
noncomputable def Ey(f:Str)(v:V):List (Str×V)->List (Str×V)
 |[]=>[(f,v)]
 |(g,x)::r=>if g=f then(g,v)::r else(g,x)::Ey f v r
def Vq(f g:Str)(v:V):∀fs:List (Str×V),(Ey f v fs).lookup g=if g=f then some v else fs.lookup g
 |[]=>by
  show List.lookup g [(f,v)]=_;by_cases h:g=f
  ·have hb:(g==f)=true:=Gg.mpr h;simp only[List.lookup,hb,AH h]
  ·have hb:(g==f)=false:=ON.mpr h;simp only[List.lookup,hb,AG h]
 |(k,x)::r=>by
  have ih:=Vq f g v r;rw[show Ey f v ((k,x)::r)=(if k=f then(k,v)::r else(k,x)::Ey f v r) from rfl];by_cases hk:k=f
  ·rw[AH hk];by_cases h:g=k
   ·have hb:(g==k)=true:=Gg.mpr h;simp only[List.lookup,hb,AH (h.trans hk)]
   ·have hb:(g==k)=false:=ON.mpr h;simp only[List.lookup,hb,AG (fun e:g=f=>h (e.trans hk.symm))]
  ·rw[AG hk];by_cases h:g=k
   ·have hb:(g==k)=true:=Gg.mpr h;simp only[List.lookup,hb,AG (fun e:g=f=>hk (h.symm.trans e))]
   ·have hb:(g==k)=false:=ON.mpr h;simp only[List.lookup,hb];exact ih
def Rv(f:Str)(v:V):∀fs:List (Str×V),f∈(Ey f v fs).map (·.1)/\∀g,g∈fs.map (·.1)->g∈(Ey f v fs).map (·.1)
 |[]=>⟨by simp[Ey],fun g h=>by simp at h⟩
 |(k,x)::r=>by
  obtain⟨i1,i2⟩:=Rv f v r;rw[show Ey f v ((k,x)::r)=(if k=f then(k,v)::r else(k,x)::Ey f v r) from rfl];by_cases hk:k=f
  ·rw[AH hk];subst hk;exact⟨by simp,fun g h=>by simpa using h⟩
  ·rw[AG hk];refine⟨?_,fun g h=>?_⟩
   ·rw[Av];exact DG _ i1
   ·rw[Av] at h⊢;rcases Bn.mp h with e|e
    ·exact Bn.mpr (.inl e)
    ·exact DG _ (i2 g e)
def Vp(f:Str)(v:V):∀fs:List (Str×V),(Ey f v fs).length<=fs.length+1
 |[]=>by simp[Ey]
 |(k,x)::r=>by
  have ih:=Vp f v r;rw[show Ey f v ((k,x)::r)=(if k=f then(k,v)::r else(k,x)::Ey f v r) from rfl];by_cases hk:k=f
  ·rw[AH hk,CD,CD];lia
  ·rw[AG hk,CD,CD];lia
def Du.some_of{o:Option AA}(r:Du (some v) o):∃u,o=some u/\RelV v u:=by
 cases o with
 |none=>exact(show False from r).elim
 |some u=>exact⟨u,rfl,r⟩
def Du.none_of{o:Option AA}(r:Du none o):o=none:=by
 cases o with
 |none=>rfl
 |some u=>exact(show False from r).elim
def WQ(r:RelV v u):handedIn u=true:=by
 cases v with
 |BA=>cases(show u=Value.none from r);rfl
 |bl b=>cases(show u=Value.bool b from r);rfl
 |int i=>obtain⟨t,e⟩:=(show∃t,u=Value.int i t from r);cases e;rfl
 |str x=>obtain⟨t,e⟩:=(show∃t,u=Value.str x t from r);cases e;rfl
 |GV b=>obtain⟨t,e⟩:=(show∃t,u=Value.bytes b t from r);cases e;rfl
 |JC b=>obtain⟨t,e⟩:=(show∃t,u=Value.float b t from r);cases e;rfl
 |ref a=>cases(show u=Value.ref a from r);rfl
 |ty n=>cases(show u=Value.type n from r);rfl
section
variable{fs fs':List (Str×V)}
def NB(hok:By P w H h)(e:H a=some (.ins C dx fs)):∃mA,Kq h a dx C mA/\(∀f,Du (fs.lookup f) (mA f))/\uW mA (fs.map (·.1))/\fs.length<=1000/\H dx=some (.own a):=by obtain⟨d,z,ne,ob,mA,n,r,q⟩:=(show BP P w H h a (.ins C dx fs) from hok a _ e);exact⟨mA,⟨ob,n,ne⟩,r,q,z,d⟩
end
structure Hy(K:uT)(C:Ya):Prop where
 pg:tS K C Str.empty=true
 hd:sW K C=true
 po:plainOver K C=true
 sa:rJ K (.ref C) "__setattr__" =some (some (.builtin "object.__setattr__"))
def Hy.get(c:Hy K C)(f:Str):tS K C f=true:=c.pg
def Ka(K:uT)(C:Ya)(f:Str):Prop:=rJ K (.ref C) f=some none
def Ka.oH{f:Str}(n:Ka K C f):takerIn K C f=some none:=by unfold takerIn;rw[show rJ K (.ref C) f=some none from n];rfl
structure Meth(K:uT)(C:Ya)(m:Str)(f:Ya):Prop where
 at_:rJ K (.ref C) m=some (some (.ref f))
 fn:isFn K (.ref f)=true
 kp:rZ K (.ref f)=true
section
variable{fs:List (Str×V)}{f:Str}
def dG{b:Bool}(I:Inv X pins σ H s)(e:H a=some (.ins C dx fs))(c:Hy X.K C)(n:Ka X.K C f)(l:fs.lookup f=some v)
 (h:∀u s',Inv X pins σ H s'->RelV v u->Q u s'):cm (ax X.prog X.w) A (uE (.ref a) f b) Q E s:=by
 obtain⟨mA,O,r,_,_,_⟩:=NB I.hok e;obtain⟨u,hu,ru⟩:=Du.some_of (v:=v) (o:=mA f) (by rw[<-l];exact r f);exact get_map I.BS O (c.get f) c.hd n hu (WQ ru) (h u _ (I.tok _) ru)
def V0{m:Str}{g:Ya}{Q:AA×List AA->Yf->Prop}(I:Inv X pins σ H s)(e:H a=some (.ins C dx fs))(c:Hy X.K C)(k:Meth X.K C m g)(l:fs.lookup m=none)
 (h:Q (.ref g,[.ref a]) s):cm (ax X.prog X.w) A (tM (.ref a) m pl) Q E s:=by
 obtain⟨mA,O,r,_,_,_⟩:=NB I.hok e;have hn:mA m=none:=Du.none_of (by rw[<-l];exact r m);exact iq I.BS O (c.get m) k.at_ k.fn hn h
def dE{Q:Unit->Yf->Prop}(I:Inv X pins σ H s)(e:H a=some (.ins C dx fs))(c:Hy X.K C)(n:Ka X.K C f)(hl:fs.length<1000)(ry:RelV y u)
 (h:∀s',Inv X pins σ (upd H a (.ins C dx (Ey f y fs))) s'->Q () s'):cm (ax X.prog X.w) A (setAttr (.ref a) f u) Q E s:=by
 obtain⟨mA,O,r,wi,_,ho⟩:=NB I.hok e;have hz:(fs.map (·.1)).length<=sizeLine:=by rw[AL,A9];lia
 refine jJ I.BS O c.sa c.po n.oH c.hd wi hz fun h' O' sb=>h _ ?_;have hd:∃o,h'.get? dx=some o:=let⟨o,_,_,e',_⟩:=O'.ns;⟨o,e'⟩;refine I.write (x:=a) (e:=dx) (by rw[e];exact Cy) (.inr ho) (fun b q hb z=>(sb.2 b hb).trans z) hd ?_;refine⟨by rw[AQ O.ne];exact ho,?_,O.ne,O'.obj,_,O'.ns,fun g=>?_,fun g hg=>?_⟩
 ·have:=Vp f y fs;lia
 ·show Du ((Ey f y fs).lookup g) (if g=f then some u else mA g);rw[Vq];by_cases q:g=f
  ·rw[AH q,AH q];exact ry
  ·rw[AG q,AG q];exact r g
 ·by_cases q:g=f
  ·rw[q];exact(Rv f y fs).1
  ·refine(Rv f y fs).2 g (wi g fun z=>hg ?_);show(if g=f then some u else mA g)=none;rw[AG q];exact z
def Inv.made(I:Inv X pins σ H s):Inv X pins σ (upd (upd H s.heap.objs.size (.own (s.heap.objs.size+1))) (s.heap.objs.size+1) (.ins C s.heap.objs.size []))
 {s with heap:=(s.heap.push sO).push (tL C s.heap.objs.size)}:=by
 have e1:(s.heap.push sO).get? s.heap.objs.size=some sO:=CC s.heap rfl;have e2:((s.heap.push sO).push (tL C s.heap.objs.size)).get? (s.heap.objs.size+1)=some (tL C s.heap.objs.size):=by
  have:=CC (s.heap.push sO) (o:=tL C s.heap.objs.size) rfl
  rwa [Ha] at this
 have e3:(s.heap.push sO).Ns s.heap.objs.size (fun _=>none):=⟨sO,#[],_,e1,rfl,(fun e he=>absurd he (by simp)),fun _=>rfl⟩;have I1:=I.laid (a:=s.heap.objs.size) (o:=.own (s.heap.objs.size+1)) (h':=s.heap.push sO) (t':=s.toks) (fun b u q=>BB _ q) (Ad _) ⟨_,e1⟩;refine I1.laid (a:=s.heap.objs.size+1) (o:=.ins C s.heap.objs.size []) (t':=s.toks) (fun b u q=>BB _ q) (Nat.le_of_eq (Ha _ _)) ?_;have ne:s.heap.objs.size≠s.heap.objs.size+1:=BN (Mc _);refine⟨by rw[AQ ne,AM],CN _,ne,e2,fun _=>none,(Heap.Ns1.of_empty e3).at fun o q=>BB _ q,fun _=>Cy,fun y hy=>absurd rfl hy⟩
end
variable{env:Env}
section
variable{fs:List (Str×V)}{f:Str}
def YT{f:Str}(hb:rK e f env (rC e env)=rC e env)
 (h:cm (ax prog w) A (rC e env) (fun o s₁=>cm (ax prog w) A (uE o f true) Q E s₁) E s):cm (ax prog w) A (rC (.Attribute e f pos) env) Q E s:=
 Attribute_any_ h (by rw[arm_eval_Attribute,hb])
end
def bB(K:uT)(ta:TE)(f:Str):TE:=fun σ H Q=>ta σ H fun x H1=>∃a C dx fs v,x=.ref a/\H1 a=some (.ins C dx fs)/\Hy K C/\Ka K C f/\fs.lookup f=some v/\Q v H1
def px(K:uT)(ta tv:TE)(f:Str):TS:=fun D σ H=>tv σ H fun y H1=>ta σ H1 fun x H2=>∃a C dx fs,x=.ref a/\H2 a=some (.ins C dx fs)/\Hy K C/\Ka K C f/\fs.length<1000/\
 D.nx σ (upd H2 a (.ins C dx (Ey f y fs)))
section
variable{o value:qv}{f:Str}{pos':Pos}{tv:TE}
def Cq(he:PE X e ta)(hb:rK e f X.env (rC e X.env)=rC e X.env):PE X (.Attribute e f pos) (bB X.K ta f):=by intro pins s σ H Q I h;refine YT hb (Ah (he pins s σ H _ I h) fun u s1 ⟨x,H1,I1,rx,a,C,dx,fs,v,ex,ea,c,n,l,q⟩=>?_);subst ex;obtain rfl:u=Value.ref a:=rx;exact dG I1 ea c n l fun u' s2 I2 ru=>⟨v,H1,I2,ru,q⟩
def kX(ha:PE X o ta)(hv:PE X value tv)(hs:tK value (some (.Attribute o f pos')) pos.line X.env=pure false):PS X (.Assign [.Attribute o f pos'] value pos) (px X.K ta tv f):=by intro pins s σ H D I h;refine tW (Ah (hv pins s σ H _ I h) fun u s1 ⟨y,H1,I1,ry,q⟩=>Ah (ha pins s1 σ H1 _ I1 q) fun ov s2 ⟨x,H2,I2,rx,a,C,dx,fs,ex,ea,c,n,l,q2⟩=>?_) hs;subst ex;obtain rfl:ov=Value.ref a:=rx;exact dE I2 ea c n l ry fun s3 I3=>⟨σ,_,I3,q2⟩
end
section
variable{c:AA}{b:Bool}
inductive Bh(K:uT)(H:Hp):V->AA->Prop where
 |BA:Bh K H .BA (.type "NoneType")
 |bl (x:Bool):Bh K H (.bl x) (.type "bool")
 |int (i:Int):Bh K H (.int i) (.type "int")
 |str (x:Str):Bh K H (.str x) (.type "str")
 |JC (x:UInt64):Bh K H (.JC x) (.type "float")
 |lst {a:Ya} {xs:List V} (e:H a=some (.lst xs)):Bh K H (.ref a) (.type "list")
 |BR {a:Ya} {o:Obj} {xs:List V} (e:H a=some (.BR o (.lst xs))):Bh K H (.ref a) (.type "list")
 |tup {a:Ya} {xs:List V} (e:H a=some (.tup xs)):Bh K H (.ref a) (.type "tuple")
 |dK {a:Ya} {AD:List (Key×V)} (e:H a=some (.dK AD)):Bh K H (.ref a) (.type "dict")
 |dT {a:Ya} {AD:List (List Key×V)} (e:H a=some (.dT AD)):Bh K H (.ref a) (.type "dict")
 |ins {a C dx:Ya} {fs:List (Str×V)} (e:H a=some (.ins C dx fs)) (cl:Hy K C) (ha:rJ K (.ref C) "__class__" =some (some (.builtin "object.__class__")))
  (hn:tY K (.builtin "object.__class__") "__get__" =some (some (.builtin "getset_descriptor.__get__"))) (htk:takesIn K (.builtin "object.__class__")=some true)
  (hm:mroIn K C (.type "object")=some true):Bh K H (.ref a) (.ref C)
def gB{x:V}{t:AA}(I:Inv X pins σ H s)(rx:RelV x u)(ty:Bh X.K H x t)(e:tD X.K t c=some b)(h:∀tk,Q (.bool b) {s with toks:=tk}):
 cm (ax X.prog X.w) A (call (.builtin "isinstance") [u,c]) Q E s:=by
 cases ty with
 |BA=>cases(show u=Value.none from rx);exact IE kitx_none I.BS Cy e (fun z=>nomatch z) h
 |bl y=>cases(show u=Value.bool y from rx);exact IE kitx_bool I.BS Cy e (fun z=>nomatch z) h
 |int i=>obtain⟨t,q⟩:=(show∃t,u=Value.int i t from rx);cases q;exact IE kitx_int I.BS Cy e (fun z=>nomatch z) h
 |str y=>obtain⟨t,q⟩:=(show∃t,u=Value.str y t from rx);cases q;exact IE kitx_str I.BS Cy e (fun z=>nomatch z) h
 |JC y=>obtain⟨t,q⟩:=(show∃t,u=Value.float y t from rx);cases q;exact IE kitx_float I.BS Cy e (fun z=>nomatch z) h
 |@lst a xs ea=>cases(show u=Value.ref a from rx);obtain⟨_,_,n,_,h1⟩:=(show BP X.prog X.w H s.heap a (.lst xs) from I.hok a _ ea);exact IE Q9 I.BS ⟨_,h1,rfl⟩ e (fun z=>nomatch z) h
 |@BR a ob xs ea=>cases(show u=Value.ref a from rx);obtain⟨_,_,_,n,_,h1⟩:=(show BP X.prog X.w H s.heap a (.BR ob (.lst xs)) from I.hok a _ ea);exact IE Q9 I.BS ⟨_,h1,rfl⟩ e (fun z=>nomatch z) h
 |@tup a xs ea=>cases(show u=Value.ref a from rx);obtain⟨_,_,_,p⟩:=(show BP X.prog X.w H s.heap a (.tup xs) from I.hok a _ ea);obtain⟨o,h1,h2,_⟩:=p;exact IE kitx_tuple I.BS ⟨o,h1,h2⟩ e (fun z=>nomatch z) h
 |@dK a AD ea=>cases(show u=Value.ref a from rx);obtain⟨_,_,vs,_,p⟩:=(show BP X.prog X.w H s.heap a (.dK AD) from I.hok a _ ea);obtain⟨o,es,ep,h1,h2,_⟩:=p;exact IE RA I.BS ⟨o,h1,h2.1⟩ e (fun z=>nomatch z) h
 |@dT a AD ea=>cases(show u=Value.ref a from rx);obtain⟨_,_,xs,_,o,es,ep,h1,h2,_⟩:=(show BP X.prog X.w H s.heap a (.dT AD) from I.hok a _ ea);exact IE RA I.BS ⟨o,h1,h2.1⟩ e (fun z=>nomatch z) h
 |@ins a C dx fs ea cl ha hn htk hm=>cases(show u=Value.ref a from rx);obtain⟨mA,O,_⟩:=NB I.hok ea;obtain⟨od,J,_⟩:=O.look;exact IE (kitx_own (cl.get _) cl.hd ha hn htk hm) I.BS J e (fun z=>nomatch z) h
end
structure Bj(k:Nat)(A:sJ):Prop where
 hd:A.handled=none
 dp:A.depth+3*k+5<recursionLimit
 un:A.units+16*k+200<rR
def Bj.mono(r:Bj k A)(h:j<=k):Bj j A:=⟨r.hd,by have:=r.dp;lia,by have:=r.un;lia⟩
def Bj.deeper(r:Bj (k+1) A)(env:Env):Bj k (A.deeper env):=
 ⟨r.hd,by have:=r.dp;show A.depth+1+3*k+5<_;lia,by have:=r.un;show A.units+3+16*k+200<_;lia⟩
def dj:(A.under (.builtin "type.__call__" ⟨.ref C::us,kw⟩)).depth=A.depth+1:=by first|rfl|simp[Around.under,Code.weight,Code.isCreation,Code.isGuard,Code.isCaller,Code.frames,Code.isFrame,guardIds]
def dO:(A.under (.builtin "type.__call__" ⟨.ref C::us,kw⟩)).units=A.units+1:=by first|rfl|simp[Around.under,Code.cUnits,Code.frames,Code.isFrame]
def Bj.make(r:Bj (k+1) A)(C:Ya)(us:List AA)(kw:List (Str×AA)):Bj k (A.under (.builtin "type.__call__" ⟨.ref C::us,kw⟩)):=
 ⟨r.hd,by have:=r.dp;rw[dj];lia,by have:=r.un;rw[dO];lia⟩
def Bj.depth(r:Bj k A):A.depth<recursionLimit:=by have:=r.dp;lia
def Bj.units(r:Bj k A):A.units+64<rR:=by have:=r.un;lia
def Bj.TQ(r:Bj k A):A.units<rR:=by have:=r.un;lia
def Ks:TA:=fun _ H Q=>Q [] H
def Nf(ta:TE)(tr:TA):TA:=fun σ H Q=>ta σ H fun x H1=>tr σ H1 fun xs H2=>Q (x::xs) H2
section
variable{es:List qv}{t:TA}
def AI:PA X [] Ks:=fun _ _ _ _ H Q I h=>Calls.spliced_nil ⟨[],H,I,.nil,h⟩
def AE(ha:PE X e te)(hr:PA X es t)(hs:hX (e::es) X.env=(false,rC e X.env)::hX es X.env:=by rfl):PA X (e::es) (Nf te t):=by intro pos pins s σ H Q I h;rw[hs];show cm _ _ (spliced ((false,rC e X.env)::rN pos (hX es X.env))) _ _ s;refine Q5 (Ah (ha pins s σ H _ I h) fun u s1 ⟨x,H1,I1,r1,q1⟩=>?_);exact Ah (hr pos pins s1 σ H1 _ I1 q1) fun us s2 ⟨xs,H2,I2,r2,q2⟩=>⟨x::xs,H2,I2,.cons r1 r2,q2⟩
def qI(t:TA):TE:=fun σ H Q=>t σ H fun xs H1=>xs.length<=sizeLine/\∀p,H1 p=none->Q (.ref p) (upd H1 p (.tup xs))
def af(t:TA):TE:=fun σ H Q=>t σ H fun xs H1=>xs.length<=sizeLine/\∀p,H1 p=none->Q (.ref p) (upd H1 p (.lst xs))
def CA{X:Cx}{es:List qv}{t:TA}{pos:Pos}{x1}(h:PA X es t):PE X (.Tuple es x1 pos) (qI t):=by intro pins s σ H Q I hq;refine wpAny_Tuple_spliced (Ah (h pos pins s σ H _ I hq) fun us s1 ⟨xs,H1,I1,r,z,q⟩=>⟨by rw[<-r.length];exact z,?_⟩);have hf:H1 s1.heap.objs.size=none:=I1.hok.fresh (Ad _);refine⟨.ref s1.heap.objs.size,upd H1 s1.heap.objs.size (.tup xs),I1.laid (t':=s1.toks) (fun b u e=>BB _ e) (Ad _) ?_,rfl,q _ hf⟩;exact⟨z,us,r,⟨_,CC _ rfl,rfl,_,rfl⟩⟩
def Bt(h:PA X es t):PE X (.List es pos) (af t):=by intro pins s σ H Q I hq;refine wpAny_List_spliced (Ah (h pos pins s σ H _ I hq) fun us s1 ⟨xs,H1,I1,r,z,q⟩=>⟨by rw[<-r.length];exact z,?_⟩);have hf:H1 s1.heap.objs.size=none:=I1.hok.fresh (Ad _);refine⟨.ref s1.heap.objs.size,upd H1 s1.heap.objs.size (.lst xs),I1.laid (t':=s1.toks) (fun b u e=>BB _ e) (Ad _) ?_,rfl,q _ hf⟩;exact⟨z,us,0,r,CC _ rfl⟩
end
abbrev Sp:=List V->Hp->VK->XK->Prop
abbrev Jw:=List Env->Hp->Yf->XK->AA->Yf->Prop
structure Kx(P:qy)(w:rH)(K:uT)(mg:Str->Option AA)(base:rE)(A:sJ)(outer:List Env)(s:Yf)(H:Hp):Prop where
 frames:A.frames=some outer
 mod:Mod K mg base
 bs:∀b o,base.get? b=some o->s.heap.get? b=some o/\H b=none
 HU:base.objs.size<=s.heap.objs.size
 FK:s.heap.FunFrames base outer
 IX:∀b∈Ct outer,H b=none
 hok:By P w H s.heap
 bare:sf s.gens
def CE(outer:List Env)(P:qy)(w:rH)(H:Hp)(s:Yf)(Q:VK)(u:AA)(s':Yf):Prop:=
 ∃v H',s'.os=s.os/\sf s'.gens/\Un (Ct outer) [] H H' s.heap s'.heap/\By P w H' s'.heap/\RelV v u/\Q v H'
def CR(CX:Jw)(outer:List Env)(P:qy)(w:rH)(H:Hp)(s:Yf)(Q:VK)(E:XK)(r:Result)(s':Yf):Prop:=
 match r with
 |.ok (.ret u)=>CE outer P w H s Q u s'
 |.ok _=>False
 |.error e=>CX outer H s E e s'
structure AW(P:qy)(w:rH)(K:uT)(mg:Str->Option AA)(base:rE)(CX:Jw)(k:Nat)(f:Ya)(fd:rA)(ps:List Str)(sp:Sp):Prop where
 len:∀vs H Q E,sp vs H Q E->vs.length=ps.length
 run:∀(A:sJ)(outer:List Env)(s:Yf)(H:Hp)(args:Args)(us:List AA)(vs:List V)(Q:VK)(E:XK),Bj k A->Kx P w K mg base A outer s H->uG s fd args (ps.zip us)->Vals vs us->sp vs H Q E->
  rq (ax P w) A (.call (.ref f) args) (CR CX outer P w H s Q E) s
def AW.mono{P:qy}{w:rH}{K:uT}{mg:Str->Option AA}{base:rE}{CX:Jw}{j k:Nat}{f:Ya}{fd:rA}{ps:List Str}{sp:Sp}(F:AW P w K mg base CX j f fd ps sp)(h:j<=k):
 AW P w K mg base CX k f fd ps sp:=⟨F.len,fun A outer s H args us vs Q E hr=>F.run A outer s H args us vs Q E (hr.mono h)⟩
variable{mg:Str->Option AA}{base:rE}{outer:List Env}
def Kx.make(e:Kx P w K mg base A outer s H)(C:Ya)(us:List AA)(kw:List (Str×AA)):
 Kx P w K mg base (A.under (.builtin "type.__call__" ⟨.ref C::us,kw⟩)) outer s H:=⟨by first|exact e.frames|(simpa[Around.under,Code.envs,Code.isFrame,pushEnvs] using e.frames),e.mod,e.bs,e.HU,e.FK,e.IX,e.hok,e.bare⟩
section
variable{s':Yf}
def Inv.UL(I:Inv X pins σ H s):Kx X.prog X.w X.K X.mg X.base X.A X.stack s H:=
 ⟨I.ok.frames,I.ok.mod,I.bs,BJ I.ok.HU I.sz,I.stack,I.PU,I.hok,I.bare⟩
def Inv.after{Q:VK}(I:Inv X pins σ H s)(h:CE X.stack X.prog X.w H s Q u s'):EP X pins σ Q u s':=by obtain⟨v,H',os,bare,un,hok,r,q⟩:=h;obtain⟨hh,g,d,t,os'⟩:=s';obtain rfl:os'=s.os:=os;exact⟨v,H',I.call (h':=hh) (g':=g) (d':=d) (t':=t) (ch:=[]) un hok bare (fun b z=>absurd z (by simp)),r,q⟩
end
def Ng(sp:Sp)(dvs:List V)(E:XK)(t:TA):TE:=fun σ H Q=>t σ H fun vs H1=>sp (vs++dvs) H1 Q E
def Z7(C:Ya)(m:Str)(sp:Sp)(dvs:List V)(E:XK)(ta:TE)(t:TA):TE:=fun σ H Q=>ta σ H fun x H1=>∃a dx fs,x=.ref a/\H1 a=some (.ins C dx fs)/\fs.lookup m=none/\
 t σ H1 fun vs H2=>sp (x::(vs++dvs)) H2 Q E
def nJ(C:Ya)(sp:Sp)(dvs:List V)(E:XK)(t:TA):TE:=fun σ H Q=>t σ H fun vs H1=>∀x dx,H1 x=none->H1 dx=none->dx≠x->
 sp (.ref x::(vs++dvs)) (upd (upd H1 dx (.own x)) x (.ins C dx [])) (fun v H2=>v=.BA/\Q (.ref x) H2) E
def Binds(K:uT)(fd:rA)(ps:List Str)(ds:List AA):Prop:=
 ∀(s:Yf)(us:List AA),K.In s.heap->(us++ds).length=ps.length->uG s fd ⟨us,[]⟩ (ps.zip (us++ds))
variable{fd:rA}{ps:List Str}
def Binds.all(h:∀us:List AA,us.length=ps.length->bindArgs fd ⟨us,[]⟩=pure (ps.zip us)):Binds K fd ps []:=fun s us _ hl=>by rw[CF] at hl⊢;exact .of_eq (h us hl)
def Passes(CX:Jw)(X:Cx)(E:XK):Prop:=∀(pins:List (Ya×Obj))(σ:St)(H:Hp)(s:Yf)(e:AA)(s':Yf),Inv X pins σ H s->CX X.stack H s E e s'->X.xe e s'
variable{CX:Jw}{sp:Sp}
section
variable{dvs:List V}{ds:List AA}{E:XK}{m:Str}{o:qv}{es:List qv}{t:TA}
def NT{Q:VK}{vs:List V}(F:AW X.prog X.w X.K X.mg X.base CX k f fd ps sp)(hr:Bj k X.A)(hb:Binds X.K fd ps ds)(hd:Vals dvs ds)(hx:Passes CX X E)
 (I:Inv X pins σ H s)(r:Vals vs us)(h:sp (vs++dvs) H Q E):cm (ax X.prog X.w) X.A (call (.ref f) us) (EP X pins σ Q) X.xe s:=by
 have r2:Vals (vs++dvs) (us++ds):=r.append hd;have hl:(us++ds).length=ps.length:=by rw[<-r2.length];exact F.len _ _ _ _ h
 refine Mr (LQ (F.run X.A X.stack s H ⟨us,[]⟩ (us++ds) (vs++dvs) Q E hr I.UL (hb s us I.BS hl) r2 h) fun r s' hq=>?_)
 cases r with
 |error e=>exact hx pins σ H s e s' I hq
 |ok fl=>
  cases fl with
  |ret u=>exact I.after hq
  |next=>exact False.elim hq
  |brk=>exact False.elim hq
  |cont=>exact False.elim hq
def Cp(F:AW X.prog X.w X.K X.mg X.base CX k f fd ps sp)(hr:Bj k X.A)(hg:Gl X x)(hm:X.mg x=some (.ref f))(hk:rZ X.K (.ref f)=true)(hb:Binds X.K fd ps ds)(hd:Vals dvs ds)(hx:Passes CX X E)
 (ha:PA X (e::es) t)(hdb:(x==("__debug__" :Str))=false:=by decide)(he:hX (e::es) X.env=(false,rC e X.env)::hX es X.env:=by rfl)(hpl:(rN pos (hX es X.env)).any (·.1)=false:=by rfl):
 PE X (.Call (.Name x p) (e::es) [] pos) (Ng sp dvs E t):=by
 intro pins s σ H Q I h;refine MV (Lf I hg hm ?_ hdb);refine VZ (h₀:=X.base) I.ok.mod.OD hk (Ah (ha pos pins s σ H _ I h) fun us s1 ⟨vs,H1,I1,r,q⟩=>⟨I1.BS,?_⟩) he hpl;exact NT F hr hb hd hx I1 r q
def Xk(F:AW X.prog X.w X.K X.mg X.base CX k f fd ps sp)(hr:Bj k X.A)(hg:Gl X x)(hm:X.mg x=some (.ref f))(hk:rZ X.K (.ref f)=true)(hb:Binds X.K fd ps ds)(hd:Vals dvs ds)(hx:Passes CX X E)
 (hdb:(x==("__debug__" :Str))=false:=by decide):PE X (.Call (.Name x p) [] [] pos) (Ng sp dvs E Ks):=by
 intro pins s σ H Q I h;refine MV (Lf I hg hm ?_ hdb);exact Qu I.BS hk (NT (us:=[]) F hr hb hd hx I .nil h)
end
variable{apos:Pos}
section
variable{dvs:List V}{ds:List AA}{E:XK}{m:Str}{o:qv}{es:List qv}{t:TA}
def Dy(he:PE X o ta)(c:Hy X.K C)(hm:Meth X.K C m f)(F:AW X.prog X.w X.K X.mg X.base CX k f fd ps sp)(hr:Bj k X.A)(hb:Binds X.K fd ps ds)(hd:Vals dvs ds)(hx:Passes CX X E)(ha:PA X (e::es) t)
 (hst:hX (e::es) X.env=(false,rC e X.env)::hX es X.env:=by rfl)(hpl:(rN pos (hX es X.env)).any (·.1)=false:=by rfl)
 (ht:rC (.Call (.Attribute o m apos) (e::es) [] pos) X.env=(do
  let ov<-rC o X.env
  uD apos.atName
  let(f,first)<-sk [ov] (tM ov m pl)
  callWith pos f first (rN pos (hX (e::es) X.env)) (sY pos (rW [] X.env))):=by rfl):
 PE X (.Call (.Attribute o m apos) (e::es) [] pos) (Z7 C m sp dvs E ta t):=by
 intro pins s σ H Q I h;refine VN (pl:=pl) (Ah (he pins s σ H _ I h) fun u s1 ⟨x,H1,I1,rx,a,dx,fs,ex,ea,l,q⟩=>?_) ht;subst ex;obtain rfl:u=Value.ref a:=rx;refine V0 I1 ea c hm l ?_;refine VZ (first:=[.ref a]) (h₀:=X.base) I.ok.mod.OD hm.kp (Ah (ha pos pins s1 σ H1 _ I1 q) fun us s2 ⟨vs,H2,I2,r,q2⟩=>⟨I2.BS,?_⟩) hst hpl;exact NT (us:=.ref a::us) (vs:=.ref a::vs) F hr hb hd hx I2 (.cons rfl r) q2
def Wy(he:PE X o ta)(c:Hy X.K C)(hm:Meth X.K C m f)(F:AW X.prog X.w X.K X.mg X.base CX k f fd ps sp)(hr:Bj k X.A)(hb:Binds X.K fd ps ds)(hd:Vals dvs ds)(hx:Passes CX X E)
 (ht:rC (.Call (.Attribute o m apos) [] [] pos) X.env=(do
  let ov<-rC o X.env
  uD apos.atName
  let(f,first)<-sk [ov] (tM ov m pl)
  callWith pos f first (rN pos (hX [] X.env)) (sY pos (rW [] X.env))):=by rfl):
 PE X (.Call (.Attribute o m apos) [] [] pos) (Z7 C m sp dvs E ta Ks):=by
 intro pins s σ H Q I h;refine VN (pl:=pl) (Ah (he pins s σ H _ I h) fun u s1 ⟨x,H1,I1,rx,a,dx,fs,ex,ea,l,q⟩=>?_) ht;subst ex;obtain rfl:u=Value.ref a:=rx;refine V0 I1 ea c hm l ?_;exact Qu (first:=[.ref a]) I1.BS hm.kp (NT (us:=[.ref a]) (vs:=[.ref a]) F hr hb hd hx I1 (.cons rfl .nil) q)
structure Mk(K:uT)(C f:Ya):Prop where
 makes:makesIn K C=true
 init:rJ K (.ref C) "__init__" =some (some (.ref f))
 fn:isFn K (.ref f)=true
 kp:rZ K (.ref C)=true
def iw{Q:VK}{vs:List V}(M:Mk X.K C f)(F:AW X.prog X.w X.K X.mg X.base CX k f fd ps sp)(hr:Bj (k+1) X.A)(hb:Binds X.K fd ps ds)(hd:Vals dvs ds)
 (hx:Passes CX X E)(I:Inv X pins σ H s)(r:Vals vs us)
 (h:∀x dx,H x=none->H dx=none->dx≠x->sp (.ref x::(vs++dvs)) (upd (upd H dx (.own x)) x (.ins C dx [])) (fun v H2=>v=.BA/\Q (.ref x) H2) E):
 cm (ax X.prog X.w) X.A (call (.ref C) us) (EP X pins σ Q) X.xe s:=by
 have hq:=h (s.heap.objs.size+1) s.heap.objs.size (I.hok.fresh (E9 _)) (I.hok.fresh (Ad _)) (BN (Mc _));have I2:=Inv.made (C:=C) I;have r2:Vals (V.ref (s.heap.objs.size+1)::(vs++dvs)) (Value.ref (s.heap.objs.size+1)::(us++ds)):=.cons rfl (r.append hd);have hl:(Value.ref (s.heap.objs.size+1)::us++ds).length=ps.length:=by have e:=r2.length;rw[F.len _ _ _ _ hq] at e;exact e.symm
 refine Mr (iT (f:=f) I.BS M.makes M.init (Gg.mp M.fn) (LQ (F.run _ X.stack _ _ ⟨Value.ref (s.heap.objs.size+1)::us,[]⟩ (Value.ref (s.heap.objs.size+1)::(us++ds)) _ _ E (hr.make C us [])
  (I2.UL.make C us []) (hb _ (Value.ref (s.heap.objs.size+1)::us) I2.BS hl) r2 hq) fun r s' hq'=>?_))
 cases r with
 |error e=>exact hx pins σ _ _ e s' I2 hq'
 |ok fl=>
  cases fl with
  |ret u=>obtain⟨v,H',I3,rv,ev,q3⟩:=I2.after hq';subst ev;exact⟨rv,⟨V.ref (s.heap.objs.size+1),H',I3,rfl,q3⟩⟩
  |next=>exact False.elim hq'
  |brk=>exact False.elim hq'
  |cont=>exact False.elim hq'
def W3(M:Mk X.K C f)(F:AW X.prog X.w X.K X.mg X.base CX k f fd ps sp)(hr:Bj (k+1) X.A)(hg:Gl X x)(hm:X.mg x=some (.ref C))(hb:Binds X.K fd ps ds)(hd:Vals dvs ds)(hx:Passes CX X E)
 (hdb:(x==("__debug__" :Str))=false:=by decide):PE X (.Call (.Name x p) [] [] pos) (nJ C sp dvs E Ks):=by
 intro pins s σ H Q I h;refine MV (Lf I hg hm ?_ hdb);exact Qu I.BS M.kp (iw (us:=[]) M F hr hb hd hx I .nil h)
end
structure A0(N P:List Str)(sc:tV):Prop where
 kind:sc.kind=.function
 co:sc.isCoroutine=false
 gen:sc.isGenerator=false
 nd:N.Nodup
 pre:N.take P.length=P
 par:∀x∈P,sc.names.lookup x=some .local\/sc.names.lookup x=some .cell
 mF:∀y∈sc.names,y.2≠.free
def WD{kindOf:Str->Option uP}{x:Str}:∀{binds:List (Str×AA)}{m:Str->Option AA},(∀v,(x,v)∉binds)->bindL kindOf binds m x=m x
 |[],_,_=>rfl
 |(n,v)::r,m,h=>by
  unfold bindL;rw[WD fun w hw=>h w (DG _ hw)];split
  ·have:x≠n:=by rintro rfl;exact h v EB
   simp[this]
  ·rfl
def Wa{kindOf:Str->Option uP}{x:Str}:∀{binds:List (Str×AA)}{m:Str->Option AA},(∀v,(x,v)∉binds)->bindC kindOf binds m x=m x
 |[],_,_=>rfl
 |(n,v)::r,m,h=>by
  unfold bindC;rw[Wa fun w hw=>h w (DG _ hw)];split
  ·rfl
  ·have:x≠n:=by rintro rfl;exact h v EB
   simp[this]
theorem V7{kindOf:Str->Option uP}{x:Str}{v:AA}:∀{P:List Str}{vs:List AA}{i:Nat}{m:Str->Option AA},P.Nodup->P[i]? =some x->vs[i]? =some v->kindOf x=some .local->
 bindL kindOf (P.zip vs) m x=some v
 |[],_,_,_,_,h,_,_=>by simp at h
 |_::_,[],_,_,_,_,h,_=>by simp at h
 |p::P,w::vs,0,m,nd,h1,h2,hk=>by simp at h1 h2;subst h1;subst h2;show bindL kindOf ((p,w)::P.zip vs) m p=_;unfold bindL;rw[WD fun v hv=>(Ik.mp nd).1 (List.of_mem_zip hv).1,AH hk];simp
 |p::P,w::vs,i+1,m,nd,h1,h2,hk=>by show bindL kindOf ((p,w)::P.zip vs) m x=_;unfold bindL;exact V7 (i:=i) (Ik.mp nd).2 (by simpa using h1) (by simpa using h2) hk
theorem Wl{kindOf:Str->Option uP}{x:Str}{v:AA}:∀{P:List Str}{vs:List AA}{i:Nat}{m:Str->Option AA},P.Nodup->P[i]? =some x->vs[i]? =some v->kindOf x≠some .local->
 bindC kindOf (P.zip vs) m x=some v
 |[],_,_,_,_,h,_,_=>by simp at h
 |_::_,[],_,_,_,_,h,_=>by simp at h
 |p::P,w::vs,0,m,nd,h1,h2,hk=>by simp at h1 h2;subst h1;subst h2;show bindC kindOf ((p,w)::P.zip vs) m p=_;unfold bindC;rw[Wa fun v hv=>(Ik.mp nd).1 (List.of_mem_zip hv).1,AG hk];simp
 |p::P,w::vs,i+1,m,nd,h1,h2,hk=>by show bindC kindOf ((p,w)::P.zip vs) m x=_;unfold bindC;exact Wl (i:=i) (Ik.mp nd).2 (by simpa using h1) (by simpa using h2) hk
noncomputable def start(N:List Str)(vs:List V):St:=vs.map some++List.replicate (N.length-vs.length) none
noncomputable def Jl(CX:Jw)(P:qy)(w:rH)(K:uT)(mg:Str->Option AA)(base:rE)(N:List Str)(qual:Str)(scope:tV)(f:Ya)(cd:AA)(A:sJ)(outer:List Env)(s:Yf)(H:Hp)(E:XK):Cx where
 prog:=P
 w:=w
 K:=K
 mg:=mg
 base:=base
 A:=A.deeper (sX qual scope s.heap.objs.size f cd)
 N:=N
 s₀:=s
 H₀:=H
 env:=sX qual scope s.heap.objs.size f cd
 outer:=outer
 stack:=sX qual scope s.heap.objs.size f cd::outer
 ex:=[]
 calm:=true
 fn:=fun _=>true
 pn:=[]
 xe:=fun e s'=>cm (ax P w) (A.deeper (sX qual scope s.heap.objs.size f cd)) (leaving (sX qual scope s.heap.objs.size f cd) e) (fun _ s''=>CX outer H s E e s'') (fun e' s''=>CX outer H s E e' s'') s'
def XG{sc:tV}{n:Nat}(h:sc.names.lookup x=some .cell):∃c,(cellsFrom n sc.names []).lookup x=some c:=by have q:=cellsFrom_some sc.names n [] (.inl h);exact Option.isSome_iff_exists.mp q
variable{qual:Str}{scope:tV}{cd:AA}
def fk{s1:Yf}{E:XK}{vs:List V}
 (S:A0 N ps scope)(hd:A.handled=none)(e0:Kx P w K mg base A outer s H)(hl:vs.length=ps.length)(r:Vals vs us)
 (x:InCallC s s.heap.objs.size (bindL (sX qual scope s.heap.objs.size f cd).kindOf (ps.zip us) fun _=>none) (cellsFrom (s.heap.objs.size+1) scope.names []) (bindC (sX qual scope s.heap.objs.size f cd).kindOf (ps.zip us) fun _=>none) s1):
 Inv (Jl CX P w K mg base N qual scope f cd A outer s H E) [] (start N vs) H s1:=by
 have hpl:ps.length<=N.length:=by have:=BL List.length S.pre;rw[Bm] at this;lia
 obtain⟨h1,tk,rfl,hk⟩:=x.done;have Jq:∀b:Ya,b∉(Jl CX P w K mg base N qual scope f cd A outer s H E).ex:=fun b z=>absurd (show b∈([]:List Ya) from z) (by simp);refine⟨⟨e0.mod,S.kind,rfl,rfl,Ad _,fun y z c h1 h2=>?_,fun y hy=>?_,fun y c _ h=>?_,fun _=>hd,Around.frames_deeper e0.frames,.inr ⟨rfl,rfl⟩,fun b z=>absurd z (Jq b),e0.bs,e0.HU,fun b _ _=>Jq b,fun b z=>absurd z (Jq b),e0.FK,e0.IX⟩,
  rfl,e0.bare,Un.kept hk,⟨_,x.toInCall.ns,fun i y v h1 h2 h3=>?_⟩,fun y c h=>⟨_,x.cell y c h⟩,e0.hok.fresh (Ad _),fun y c h=>?_,fun p hp=>absurd (show p∈([]:List (Ya×Obj)) from hp) (by simp),e0.hok.kept hk,?_⟩
 ·exact name_of_addr x.apart (JG h1) (JG h2)
 ·have hy:scope.names.lookup y=some .cell\/scope.names.lookup y=some .free:=hy;rcases hy with hy|hy
  ·exact XG hy
  ·exact absurd rfl (S.mF _ (JG hy))
 ·exact F5 (x.above y c (JG h))
 ·have hi:i<vs.length:=by
   unfold start at h2;by_cases hi:i<vs.length
   ·exact hi
   ·rw[Cn (by simpa using hi)] at h2;rw[List.getElem?_replicate] at h2;split at h2<;>cases h2
  have ha:vs[i]? =some v:=by
   unfold start at h2;rw[C3 (by simpa using hi),Az] at h2
   cases e:vs[i]?with
   |none=>rw[e] at h2;cases h2
   |some a=>rw[e] at h2;cases h2;rfl
  obtain⟨u,hu,rv⟩:=r.get ha;have hp:ps[i]? =some y:=by rw[<-S.pre,List.getElem?_take_of_lt (by lia)];exact h1
  have ndP:ps.Nodup:=by rw[<-S.pre];exact S.nd.sublist (List.take_sublist _ _)
  refine⟨u,rv,?_⟩;rcases S.par y (Br hp) with k|k
  ·exact .inl ⟨k,V7 ndP hp hu k⟩
  ·obtain⟨c,e⟩:=XG (n:=s.heap.objs.size+1) k;refine .inr ⟨.inl k,c,e,?_⟩;have q:=x.cell y c e;rw[Wl ndP hp hu (by show scope.names.lookup y≠_;rw[k];decide)] at q;exact q
 ·exact e0.hok.fresh (F5 (x.above y c (JG h)))
 ·unfold start;show _=N.length;rw[Au,AL,List.length_replicate]
  lia
variable{od:Option Ya}{osl:Array (Option AA)}
def Z5{params:Arguments}{dV kV doc pm cdv ct oc:AA}{an:Option Ya}
 (lk:K.lookup f=some ⟨oc,od,.func (fnOf name qual params body scope dV kV doc pm an cdv ct),osl⟩)(hcd:codeIn K cdv qual=true)(S:A0 N ps scope)
 (len:∀vs H Q E,sp vs H Q E->vs.length=ps.length)
 (hbody:∀(A:sJ)(outer:List Env)(s:Yf)(H:Hp)(vs:List V)(Q:VK)(E:XK),Bj k (A.deeper (sX qual scope s.heap.objs.size f cdv))->sp vs H Q E->
  ∃t,E3 (Jl CX P w K mg base N qual scope f cdv A outer s H E) body t/\t {nx:=fun _ H'=>Q .BA H',rt:=Q} (start N vs) H):
 AW P w K mg base CX (k+1) f (fnOf name qual params body scope dV kV doc pm an cdv ct) ps sp:=by
 refine⟨len,fun A outer s H args us vs Q E hr e0 hb r hsp=>?_⟩;have hl:=len _ _ _ _ hsp;have KX:K.In s.heap:=e0.mod.OD.keeps fun b o e=>(e0.bs b o e).1;have lim:s.heap.NoLimit:=e0.mod.nolimit.keeps fun b o e=>(e0.bs b o e).1;have hkind:∀y∈ps.zip us,scope.names.lookup y.1=some .local\/(scope.names.lookup y.1=some .cell/\((cellsFrom (s.heap.objs.size+1) scope.names []).lookup y.1).isSome=true):=fun⟨n,v⟩ hy=>by
  rcases S.par n (List.of_mem_zip hy).1 with q|q
  ·exact .inl q
  ·exact .inr ⟨q,cellsFrom_some _ _ _ (.inl q)⟩
 refine codeAny_call_function hr.depth (KX _ _ lk) rfl S.co S.gen rfl (codeRec_of KX hcd) (hb _ _ _ _ ?_);refine wpAny_newFunctionEnv_cells S.kind hkind fun env he s1 x=>?_;subst he;refine⟨lim.keeps x.toInCall.keep,codeAny_func ?_⟩;obtain⟨t,ht,hq⟩:=hbody A outer s H vs Q E (hr.deeper _) hsp;have I:Inv (Jl CX P w K mg base N qual scope f cdv A outer s H E) [] (start N vs) H s1:=fk S hr.hd e0 hl r x;refine DA (ht [] s1 (start N vs) H _ I hq) (fun fl s' hs=>?_) fun e s' hs=>hs;have fin:∀{σ':St}{H':Hp}{v:V}{u:AA},Inv (Jl CX P w K mg base N qual scope f cdv A outer s H E) [] σ' H' s'->RelV v u->Q v H'->CE outer P w H s Q u s':=
  fun{σ' H' v u} J rv q=>⟨v,H',J.os,J.bare,J.base,J.hok,rv,q⟩
 cases fl with
 |ret u=>obtain⟨v,σ',H',J,rv,q⟩:=hs;exact fin J rv q
 |next=>obtain⟨σ',H',J,q⟩:=hs;exact fin (v:=V.BA) (u:=Value.none) J rfl q
 |brk=>obtain⟨_,_,_,q⟩:=hs;exact False.elim q
 |cont=>obtain⟨_,_,_,q⟩:=hs;exact False.elim q
section
variable{es:List qv}{t:TA}{id:String}{r:List V->Hp->VK->Prop}
def QR(r:List V->Hp->VK->Prop)(t:TA):TE:=fun σ H Q=>t σ H fun vs H1=>r vs H1 Q
def BV(hc:DO X (.builtin id) r)(hg:Gl X x)(hm:X.mg x=none)(hv:rL x=some (.builtin id))(ha:PA X (e::es) t)(hn:x≠ "__name__" :=by decide)(hdb:(x==("__debug__" :Str))=false:=by decide)
 (he:hX (e::es) X.env=(false,rC e X.env)::hX es X.env:=by rfl)(hpl:(rN pos (hX es X.env)).any (·.1)=false:=by rfl):PE X (.Call (.Name x p) (e::es) [] pos) (QR r t):=by
 intro pins s σ H Q I h;refine MV (NU I hg hm hv ?_ hn hdb);exact PyProof.Rows.callWith_builtin1 (Ah (ha pos pins s σ H _ I h) fun us s1 ⟨vs,H1,I1,r1,q1⟩=>hc pins s1 σ H1 vs us Q I1 r1 q1) he hpl
end
variable{T:String}
section
variable{es:List qv}{t:TA}{id:String}{r:List V->Hp->VK->Prop}
def ED(hc:DO X (.type T) r)(hg:Gl X x)(hm:X.mg x=none)(hv:rL x=some (.type T))(ha:PA X (e::es) t)(hn:x≠ "__name__" :=by decide)(hdb:(x==("__debug__" :Str))=false:=by decide)
 (he:hX (e::es) X.env=(false,rC e X.env)::hX es X.env:=by rfl)(hpl:(rN pos (hX es X.env)).any (·.1)=false:=by rfl):PE X (.Call (.Name x p) (e::es) [] pos) (QR r t):=by
 intro pins s σ H Q I h;refine MV (NU I hg hm hv ?_ hn hdb);exact VB (Ah (ha pos pins s σ H _ I h) fun us s1 ⟨vs,H1,I1,r1,q1⟩=>hc pins s1 σ H1 vs us Q I1 r1 q1) he hpl
end
noncomputable def BC(n d:Nat):Option Int->Nat
 |none=>d
 |some v=>if v<0 then(v+(n:Int)).toNat else min v.toNat n
def jF(n d:Nat):BC n d none=d:=rfl
def So(n d k:Nat):BC n d (some (k:Int))=min k n:=by show(if(k:Int)<0 then((k:Int)+(n:Int)).toNat else min (k:Int).toNat n)=min k n;rw[AG (by lia),IC]
def kl(n d:Nat)(hd:d<=n)(o:Option Int):BC n d o<=n:=by
 cases o with
 |none=>exact hd
 |some v=>
  show(if v<0 then(v+(n:Int)).toNat else min v.toNat n)<=n;by_cases hv:v<0
  ·rw[AH hv];lia
  ·rw[AG hv];exact Nat.min_le_right _ _
def YG(v:Int)(n d:Nat):(if v<0 then max (v+(n:Int)) 0 else min v (n:Int))=((BC n d (some v):Nat):Int):=by
 show(if v<0 then max (v+(n:Int)) 0 else min v (n:Int))=(((if v<0 then(v+(n:Int)).toNat else min v.toNat n):Nat):Int);by_cases hv:v<0
 ·simp only[AH hv];lia
 ·simp only[AG hv];lia
def dJ(lo hi:Option Int)(n:Nat):Builtin.Slice.sliceAdjust lo hi 1 (n:Int)=(((BC n 0 lo:Nat):Int),((BC n n hi:Nat):Int)):=by
 have h1:¬((1:Int)<0):=by lia
 unfold Builtin.Slice.sliceAdjust;simp only[h1,Bs];refine Prod.ext ?_ ?_
 ·cases lo with
  |none=>rfl
  |some v=>exact YG v n 0
 ·cases hi with
  |none=>rfl
  |some v=>exact YG v n n
def dD(i j:Nat):Builtin.Slice.slicePlaces (i:Int) (j:Int) 1=j-i:=by
 unfold Builtin.Slice.slicePlaces;have h1:(1:Int)>0:=by lia
 simp only[h1,CO,Int.ediv_one];split<;>lia
def Vx{v:AA}{o:Option Int}{Q:Option Int->Yf->Prop}(p:tm v o)(h:Q o s):cm (ax prog w) A (Builtin.Slice.slicePartIndex v) Q E s:=by
 cases p with
 |none=>exact slicePart_none h
 |int i t=>exact slicePart_int h
def cP{sl:Ya}{vl vu:AA}{lo hi:Option Int}{n:Nat}{Q:Int×Int×Nat->Yf->Prop}(hs:s.heap.IsSliceOf sl vl vu .none)(pl:tm vl lo)(pu:tm vu hi)
 (h:Q (((BC n 0 lo:Nat):Int),1,BC n n hi-BC n 0 lo) s):cm (ax prog w) A (Builtin.Slice.sliceApplied (.ref sl) (pure (n:Int))) Q E s:=by
 obtain⟨os,hos,hcs,hds⟩:=id hs;unfold Builtin.Slice.sliceApplied Builtin.Slice.sliceFields;refine AJ (AJ (KC hos hds (x:=vl) rfl (AJ (KC hos hds (x:=vu) rfl (AJ (KC hos hds (x:=.none) rfl (Ae ?_)))))));refine AJ (slicePart_none ?_);show cm _ _ (if((1:Int)==0)=true then _ else _) _ _ s;rw[AG (by decide)];refine AJ (Vx pl (AJ (Vx pu (AJ (Ae ?_)))));show cm _ _ (match Builtin.Slice.sliceAdjust lo hi 1 (n:Int) with|(lo,hi)=>pure (lo,(1:Int),Builtin.Slice.slicePlaces lo hi 1)) _ _ s;rw[dJ lo hi n];show cm _ _ (pure (((BC n 0 lo:Nat):Int),(1:Int),Builtin.Slice.slicePlaces ((BC n 0 lo:Nat):Int) ((BC n n hi:Nat):Int) 1)) _ _ s;rw[dD];exact Ae h
def iJ(xs:Array AA)(i k:Nat):((List.range k).filterMap fun(m:Nat)=>xs[((i:Int)+(m:Int)*1).toNat]?).toArray=((xs.toList.drop i).take k).toArray:=by
 have e:(fun(m:Nat)=>xs[((i:Int)+(m:Int)*1).toNat]?)=fun m=>xs[i+m]? :=by
  funext m;have:((i:Int)+(m:Int)*1).toNat=i+m:=by lia
  rw[this]
 rw[e];have:=pick_run xs i k;rw[List.filterMap_map] at this;have e2:((fun x=>xs[x]?)∘fun x=>i+x)=fun m=>xs[i+m]? :=rfl;rw[e2] at this;rw[this]
def cO{t sl:Ya}{items:Array AA}{vl vu:AA}{lo hi:Option Int}(ht:IsTup s.heap t items)(hs:s.heap.IsSliceOf sl vl vu .none)(pl:tm vl lo)(pu:tm vu hi)
 (hw:¬(BC items.size 0 lo=0/\BC items.size items.size hi=items.size))
 (h:Q (.ref s.heap.objs.size) {s with heap:=s.heap.push {cls:=.type "tuple",data:=.seq ((items.toList.drop (BC items.size 0 lo)).take (BC items.size items.size hi-BC items.size 0 lo)).toArray}})
 (hsz:items.size<=sizeLine):cm (ax prog w) A (tN (.ref t) (.ref sl)) Q E s:=by
 have htake:sizeOk (.seq ((items.toList.drop (BC items.size 0 lo)).take (BC items.size items.size hi-BC items.size 0 lo)).toArray):=by
  show((items.toList.drop (BC items.size 0 lo)).take (BC items.size items.size hi-BC items.size 0 lo)).toArray.size<=sizeLine;rw[Cg,Bm,EX,E7]
  lia
 have hj:BC items.size items.size hi<=items.size:=kl _ _ (Ad _) hi;obtain⟨os,hos,hcs,hds⟩:=id hs;have hTs:s.TypeIs (.ref sl) "slice" :=⟨os,hos,hcs⟩;unfold tN;try with_reducible refine Gb ?_
 first|refine AJ (Ae ?_)|skip
 refine AJ (wpAny_sequenceKey ht.typeIs (by decide) ?_);refine AJ (K7 (name:=Str.ofString "__getitem__") ht.typeIs VA
  (Ii VA ht.typeIs entry_tuple_getitem ?_ (args_tuple_getitem _ _)));show cm _ _ (Builtin.Tuple.tupleItemsOf (.ref t)>>=_) _ _ s;refine AJ (tupleItemsOf_ ht ?_);refine AJ (tR hTs ?_);rw[AH (by decide)];refine AJ (cP hs pl pu ?_);have hno:¬((((BC items.size 0 lo:Nat):Int)==0&&(1:Int)==1&&(BC items.size items.size hi-BC items.size 0 lo)==items.size)=true):=by
  intro q;rw[F2,F2] at q;have q1:((BC items.size 0 lo:Nat):Int)=0:=eq_of_beq q.1.1;have q2:BC items.size items.size hi-BC items.size 0 lo=items.size:=eq_of_beq q.2;exact hw ⟨by lia,by lia⟩
 show cm _ _ (if(((BC items.size 0 lo:Nat):Int)==0&&(1:Int)==1&&(BC items.size items.size hi-BC items.size 0 lo)==items.size)=true then _ else _) _ _ s;rw[AG hno,iJ];first
  |exact AJ (m:=Builtin.Tuple.tupleExact _) (Ih (Ae ⟨_,rfl,Ae h⟩) htake)
  |exact AJ (m:=Builtin.Tuple.tupleExact _) (Ih (AJ (Ae (Ae ⟨_,rfl,Ae h⟩))) htake)
  |exact AJ (AJ (m:=Builtin.Tuple.tupleExact _) (Ih (Ae (Ae ⟨_,rfl,Ae h⟩)) htake))
  |exact AJ (AJ (m:=Builtin.Tuple.tupleExact _) (Ih (Ae ⟨_,rfl,Ae h⟩) htake))
abbrev TO:=St->Hp->(Option Int->Hp->Prop)->Prop
def PO(X:Cx)(e:Option qv)(t:TO):Prop:=
 ∀(pins:List (Ya×Obj))(s:Yf)(σ:St)(H:Hp)(Q:Option Int->Hp->Prop),Inv X pins σ H s->t σ H Q->
  cm (ax X.prog X.w) X.A (evalPart e X.env) (fun u s'=>∃o H',Inv X pins σ H' s'/\tm u o/\Q o H') X.xe s
def jz:TO:=fun _ H Q=>Q none H
def oF(t:TE):TO:=fun σ H Q=>t σ H fun x H1=>∃i,x=.int i/\Q (some i) H1
section
variable{lo hi:Option qv}{tl th:TO}{p2:Pos}
def KU:PO X none jz:=by intro pins s σ H Q I h;rw[evalPart_none];exact Ae ⟨none,H,I,.none,h⟩
def DV(h:PE X e te):PO X (some e) (oF te):=by intro pins s σ H Q I hw;rw[evalPart_some];refine Ah (h pins s σ H _ I hw) fun u s1 ⟨x,H1,I1,r1,q1⟩=>?_;obtain⟨i,rfl,q⟩:=q1;obtain⟨t,rfl⟩:=r1;exact⟨some i,H1,I1,.int i t,q⟩
def MJ(X:Cx)(r:V->Option Int->Option Int->Hp->VK->Prop):Prop:=
 ∀(pins:List (Ya×Obj))(s:Yf)(σ:St)(H:Hp)(x:V)(v vl vu:AA)(lo hi:Option Int)(sl:Ya)(Q:VK),Inv X pins σ H s->RelV x v->s.heap.IsSliceOf sl vl vu .none->tm vl lo->tm vu hi->r x lo hi H Q->
  ∃T id,typeLookup (.type T) "__getitem__" =pure (some (.builtin id))/\s.TypeIs v T/\cm (ax X.prog X.w) X.A (tN v (.ref sl)) (EP X pins σ Q) X.xe s
def qm(r:V->Option Int->Option Int->Hp->VK->Prop)(te:TE)(tl th:TO):TE:=fun σ H Q=>te σ H fun x H1=>tl σ H1 fun l H2=>th σ H2 fun u H3=>r x l u H3 Q
def Ff{r:V->Option Int->Option Int->Hp->VK->Prop}(hr:MJ X r)(he:PE X e te)(hl:PO X lo tl)(hu:PO X hi th):PE X (.Subscript e (.Slice lo hi none p2) pos) (qm r te tl th):=by intro pins s σ H Q I h;refine Subscript_ (Ah (he pins s σ H _ I h) fun v s1 ⟨x,H1,I1,r1,q1⟩=>?_);refine wpAny_Slice (Ah (hl pins s1 σ H1 _ I1 q1) fun vl s2 ⟨l,H2,I2,pl,q2⟩=>Ah (hu pins s2 σ H2 _ I2 q2) fun vu s3 ⟨u,H3,I3,pu,q3⟩=>?_);rw[evalPart_none];refine Ae ?_;have I4:Inv X pins σ H3 {s3 with heap:=s3.heap.push {cls:=.type "slice",data:=.fields #[vl,vu,.none]}}:=I3.kept (t':=s3.toks) fun b ob q=>BB _ q;obtain⟨T,id,hT,ht,hg⟩:=hr pins {s3 with heap:=s3.heap.push {cls:=.type "slice",data:=.fields #[vl,vu,.none]}} σ H3 x v vl vu l u s3.heap.objs.size Q I4 r1 (Heap.IsSliceOf.new ..) pl pu q3;show cm (ax X.prog X.w) X.A (uQ e (.Slice lo hi none p2) v (.ref s3.heap.objs.size)) (EP X pins σ Q) X.xe {s3 with heap:=s3.heap.push {cls:=.type "slice",data:=.fields #[vl,vu,.none]}};exact tail_any (ops:=[.ref s3.heap.objs.size,v]) ht hT hg (by with_unfolding_all rfl)
def DY(xs:List V)(lo hi:Option Int):List V:=(xs.drop (BC xs.length 0 lo)).take (BC xs.length xs.length hi-BC xs.length 0 lo)
def Vl(xs:List V)(lo hi:Option Int):(DY xs lo hi).length<=xs.length:=by
 unfold DY;rw[Bm,EX]
 lia
def aP(K:uT):V->Option Int->Option Int->Hp->VK->Prop:=fun x lo hi H Q=>∃a xs,x=.ref a/\AU K H a xs/\
 ¬(BC xs.length 0 lo=0/\BC xs.length xs.length hi=xs.length)/\∀p,H p=none->Q (.ref p) (upd H p (.tup (DY xs lo hi)))
def mX:MJ X (aP X.K):=by
 intro pins s σ H x v vl vu lo hi sl Q I rx hs pl pu h;obtain⟨a,xs,rfl,hx,hw,q⟩:=h;cases rx;obtain⟨AX,r,ht,hz⟩:=I.tuple hx;have hlen:AX.toArray.size=xs.length:=by rw[Cg];exact r.length.symm
 refine⟨"tuple",_,VA.lookup,ht.typeIs,?_⟩;refine cO ht hs pl pu (by rw[hlen];exact hw) ?_ (by rw[hlen];exact hz);rw[hlen];refine⟨.ref s.heap.objs.size,_,I.laid (t':=s.toks) (o:=.tup (DY xs lo hi)) (fun b ob q=>BB _ q) (Ad _) ?_,rfl,q _ (I.hok.fresh (Ad _))⟩;exact⟨BJ (Vl xs lo hi) hz,_,(r.drop (BC xs.length 0 lo)).take (BC xs.length xs.length hi-BC xs.length 0 lo),IsTup.new _ _⟩
end
noncomputable def K1(n:Nat)(i:Int):Option Nat:=if 0<=i then(if i<n then some i.toNat else none) else if-(n:Int)<=i then some (i+n).toNat else none
def G9{α:Type}(xs:List α)(i:Int):Option α:=(K1 xs.length i).bind fun j=>xs[j]?
def Yh{n:Nat}{i:Int}(h:K1 n i=some j):seqIndex? i n=some j/\j<n/\ -(n:Int)<=i/\i<n:=by
 unfold K1 at h;by_cases h0:0<=i
 ·rw[AH h0] at h;by_cases h1:i<n
  ·rw[AH h1] at h;have e:i.toNat=j:=Af h;exact⟨by rw[seqIndex_of h0 h1,e],by lia,by lia,h1⟩
  ·rw[AG h1] at h;cases h
 ·rw[AG h0] at h;by_cases h1: -(n:Int)<=i
  ·rw[AH h1] at h;have e:(i+n).toNat=j:=Af h;exact⟨by rw[seqIndex_neg (by lia) h1,e],by lia,h1,by lia⟩
  ·rw[AG h1] at h;cases h
def S4{xs:List α}{i:Int}{v:α}(h:G9 xs i=some v):∃j,seqIndex? i xs.length=some j/\xs[j]? =some v/\j<xs.length/\ -(xs.length:Int)<=i/\i<xs.length:=by
 unfold G9 at h
 cases e:K1 xs.length i with
 |none=>rw[e] at h;cases h
 |some j=>rw[e] at h;obtain⟨h1,h2,h3,h4⟩:=Yh e;exact⟨j,h1,h,h2,h3,h4⟩
def B1{xs:List α}{v:α}(h:xs[j]? =some v):G9 xs (j:Int)=some v:=by
 have hj:j<xs.length:=(BX.mp h).1;have e:K1 xs.length (j:Int)=some j:=by unfold K1;rw[AH (by lia),AH (by lia)];simp
 unfold G9;rw[e];exact h
def jr(b:qv):Prop:=∀o i,tu b false o i=operate [o,i] (tN o i)
def IB(X:Cx)(r:R2):Prop:=
 ∀(value slice:qv)(pins:List (Ya×Obj))(s:Yf)(σ:St)(H:Hp)(x y:V)(v u:AA)(Q:VK),Inv X pins σ H s->RelV x v->RelV y u->r x y H Q->
  tu slice false v u=operate [v,u] (tN v u)->cm (ax X.prog X.w) X.A (uQ value slice v u) (EP X pins σ Q) X.xe s
def N5(X:Cx)(id:String)(r:V->List V->Hp->VK->Prop):Prop:=
 ∀(pins:List (Ya×Obj))(s:Yf)(σ:St)(H:Hp)(x:V)(xs:List V)(v:AA)(us:List AA)(Q:VK),Inv X pins σ H s->RelV x v->Vals xs us->r x xs H Q->
  cm (ax X.prog X.w) X.A (call (.builtin id) (v::us)) (EP X pins σ Q) X.xe s
variable{r:V->List V->Hp->VK->Prop}
section
variable{a b:qv}{tb:TE}{o:qv}{es:List qv}{to:TE}{t:TA}{id:String}
def IB.or{r r':R2}(h:IB X r)(h':IB X r'):IB X (fun x y H Q=>r x y H Q\/r' x y H Q):=by
 intro value slice pins s σ H x y v u Q I rx ry q hs;rcases q with q|q
 ·exact h value slice pins s σ H x y v u Q I rx ry q hs
 ·exact h' value slice pins s σ H x y v u Q I rx ry q hs
def Bw{r:R2}(hr:IB X r)(ha:PE X a ta)(hb:PE X b tb)(hs:jr b):PE X (.Subscript a b pos) (Fw r ta tb):=by intro pins s σ H Q I h;exact Subscript_ (UP ha hb I h fun v u s2 x y H2 I2 rx ry q=>hr a b pins s2 σ H2 x y v u Q I2 rx ry q (hs _ _))
def QD(K:uT):R2:=fun x y H Q=>∃p xs i v,x=.ref p/\y=.int i/\AK K H p xs/\G9 xs i=some v/\Q v H
def Lw(K:uT):R2:=fun x y H Q=>∃p xs i v,x=.ref p/\y=.int i/\AU K H p xs/\G9 xs i=some v/\Q v H
def aT:R2:=fun x y H Q=>∃z i c,x=.str z/\y=.int i/\z.length<=sizeLine/\G9 z.cps.toList i=some c/\Q (.str ⟨#[c]⟩) H
def YR:IB X (QD X.K):=by
 intro value slice pins s σ H x y v u Q I rx ry h hs;obtain⟨p,xs,i,z,rfl,rfl,hq,he,q⟩:=h;cases rx;obtain⟨t,rfl⟩:=ry;obtain⟨AX,r,pl,hz⟩:=I.list hq;obtain⟨j,h1,h2,h3,h4,h5⟩:=S4 he;obtain⟨w,ew,rw'⟩:=r.get h2;have hl:=r.length;have hn:=NZ;have fin:EP X pins σ Q w s:=⟨z,H,I,rw',q⟩;by_cases h0:0<=i
 ·have hj:i.toNat=j:=by rw[seqIndex_of h0 h5] at h1;exact Af h1
  exact item_listR pl.isList h0 (by lia) (by rw[hj];simpa using ew) fin hs
 ·have hj:(i+(AX.toArray.size:Int)).toNat=j:=by rw[seqIndex_neg (by lia) h4] at h1;rw[Cg,<-hl];exact Af h1
  exact subscriptTail_builtinR (x:=w) pl.isList.typeIs slot_list_getitem.lookup
   (wpAny_getItem_list_neg (Q:=fun r s'=>r=w/\EP X pins σ Q r s') pl.isList (by lia) (by rw[Cg]<;>lia) (by lia) (by rw[hj];simpa using ew) ⟨rfl,fin⟩) hs
def kY:IB X (Lw X.K):=by
 intro value slice pins s σ H x y v u Q I rx ry h hs;obtain⟨p,xs,i,z,rfl,rfl,hq,he,q⟩:=h;cases rx;obtain⟨t,rfl⟩:=ry;obtain⟨AX,r,pl,hz⟩:=I.tuple hq;obtain⟨j,h1,h2,h3,h4,h5⟩:=S4 he;obtain⟨w,ew,rw'⟩:=r.get h2;have hl:=r.length;have hn:=NZ;have fin:EP X pins σ Q w s:=⟨z,H,I,rw',q⟩;exact subscriptTail_builtinR (x:=w) pl.typeIs slot_tuple_getitem.lookup
  (getItem_tuple (j:=j) (Q:=fun r s'=>r=w/\EP X pins σ Q r s') pl (by lia) (by lia) (by rw[Cg,<-hl];exact h1) (by simpa using ew) ⟨rfl,fin⟩) hs
def Pq:IB X aT:=by
 intro value slice pins s σ H x y v u Q I rx ry h hs;obtain⟨z,i,c,rfl,rfl,hz,he,q⟩:=h;obtain⟨t,rfl⟩:=rx;obtain⟨t',rfl⟩:=ry;obtain⟨j,h1,h2,h3,h4,h5⟩:=S4 he;have hl:z.cps.toList.length=z.length:=by simp[Str.length]
 rw[hl] at h1 h4 h5;have hn:=NZ;exact tail_any (LU s z t) slot_str_getitem.lookup (getItem_str (c:=c) (by have e1:decide (i< -(2^63:Int))=false:=BK (by lia);have e2:decide (i>=2^63)=false:=BK (by lia);rw[e1,e2,Bool.or_false]) (by rw[h1];simpa using h2) ⟨.str ⟨#[c]⟩,H,I.tok _,⟨_,rfl⟩,q⟩) hs
def qZ(K:uT):R2:=fun x y H Q=>QD K x y H Q\/Lw K x y H Q\/aT x y H Q
def dh(AX:List AA)(n j:Nat)(u:AA):Obj.mapSeq (·.setIfInBounds j u) {cls:=.type "list",data:=.seq AX.toArray n}={cls:=.type "list",data:=.seq (AX.set j u).toArray n}:=by simp[Obj.mapSeq]
def Inv.lst{X:Cx}{pins:List (Ya×Obj)}{σ:St}{H:Hp}{s:Yf}{p:Ya}{xs:List V}(I:Inv X pins σ H s)(h:H p=some (.lst xs)):
 ∃(AX:List AA)(n:Nat),Vals xs AX/\s.heap.get? p=some {cls:=.type "list",data:=.seq AX.toArray n}/\xs.length<=sizeLine:=by
 obtain⟨z,AX,n,r,e⟩:=I.hok p _ h;exact⟨AX,n,r,e,z⟩
end
variable{AX:List AA}
section
variable{a b:qv}{tb:TE}{o:qv}{es:List qv}{to:TE}{t:TA}{id:String}
def Inv.mq{p:Ya}{xs:List V}{its':List AA}{n n':Nat}{f:Obj->Obj}(I:Inv X pins σ H s)(h:H p=some (.lst xs))
 (ho:s.heap.get? p=some {cls:=.type "list",data:=.seq AX.toArray n})(hf:f {cls:=.type "list",data:=.seq AX.toArray n}={cls:=.type "list",data:=.seq its'.toArray n'})(r:Vals ys its')(hz:ys.length<=sizeLine)(t:Nat):
 Inv X pins σ (upd H p (.lst ys)) {s with heap:=s.heap.update p f,toks:=t}:=by
 have e:(s.heap.update p f).get? p=some {cls:=.type "list",data:=.seq its'.toArray n'}:=by rw[JF f ho (by rw[hf]<;>rfl),hf]
 refine I.write (x:=p) (e:=p) (by rw[h];trivial) (.inl rfl) (fun b u hb q=>(ES _ _ (DK hb)).trans q) ⟨_,e⟩ ?_;exact⟨hz,its',n',r,e⟩
def pC:V->V->V->Hp->(Hp->Prop)->Prop:=fun o i v H Q=>∃p xs k j,o=.ref p/\i=.int k/\H p=some (.lst xs)/\K1 xs.length k=some j/\Q (upd H p (.lst (xs.set j v)))
def set_list:aO X pC:=by
 intro pins s σ H o i v ov iv u Q I ro ri rv h;obtain⟨p,xs,k,j,rfl,rfl,hp,hj,q⟩:=h;cases ro;obtain⟨t,rfl⟩:=ri;obtain⟨AX,n,r,ho,hz⟩:=I.lst hp;obtain⟨h1,h2,h3,h4⟩:=Yh hj;have hl:=r.length;have hn:=NZ;have I':Inv X pins σ (upd H p (.lst (xs.set j v))) {s with heap:=s.heap.update p (Obj.mapSeq (·.setIfInBounds j u))}:=
  I.mq hp ho (dh AX n j u) (r.set rv j) (by rw[List.length_set];exact hz) s.toks;by_cases h0:0<=k
 ·have hk:k.toNat=j:=by rw[seqIndex_of h0 h4] at h1;exact Af h1
  exact ki_setAt ho h0 (by lia) (by rw[Cg,<-hl];exact h4) (by rw[hk];exact⟨_,I',q⟩)
 ·have hk:(k+(AX.toArray.size:Int)).toNat=j:=by rw[seqIndex_neg (by lia) h3] at h1;rw[Cg,<-hl];exact Af h1
  exact ki_setBack ho (by lia) (by rw[Cg,<-hl];exact h3) (by lia) (by rw[hk];exact⟨_,I',q⟩)
def cb(lo hi:Option Int)(n:Nat):(sP lo hi none n).1=((BC n 0 lo:Nat):Int)/\(sP lo hi none n).2.1=((BC n n hi:Nat):Int)/\(sP lo hi none n).2.2=1:=by
 refine⟨?_,?_,rfl⟩
 ·cases lo with
  |none=>simp[sP,BC]
  |some i=>
   simp only[sP,BC,Option.getD_none,show(1:Int)>0 by decide,CO];by_cases h:i<0
   ·simp only[h,CO]<;>lia
   ·simp only[h,Bs]<;>lia
 ·cases hi with
  |none=>simp[sP,BC]
  |some i=>
   simp only[sP,BC,Option.getD_none,show(1:Int)>0 by decide,CO];by_cases h:i<0
   ·simp only[h,CO]<;>lia
   ·simp only[h,Bs]<;>lia
def cV(AX:List AA)(lo hi:Option Int):slicePick AX.toArray lo hi none=((AX.drop (BC AX.length 0 lo)).take (BC AX.length AX.length hi-BC AX.length 0 lo)).toArray:=by obtain⟨h1,h2,h3⟩:=cb lo hi AX.toArray.size;unfold slicePick;rw[h1,h2,h3];simp only[sliceRange_one,pick_run,Cg]<;>rfl
def az(K:uT):V->Option Int->Option Int->Hp->VK->Prop:=fun x lo hi H Q=>∃a xs,x=.ref a/\AK K H a xs/\∀p,H p=none->Q (.ref p) (upd H p (.lst (DY xs lo hi)))
def PY:MJ X (az X.K):=by intro pins s σ H x v vl vu lo hi sl Q I rx hs pl pu h;obtain⟨a,xs,rfl,hx,q⟩:=h;cases rx;obtain⟨AX,r,ht,hz⟩:=I.list hx;have hlen:=r.length;refine⟨"list",_,slot_list_getitem.lookup,ht.isList.typeIs,?_⟩;refine wpAny_getItem_list_slice ht.isList hs pl pu .none (by simp) ?_ (by rw[Cg]<;>lia);rw[cV,<-hlen];refine⟨.ref s.heap.objs.size,_,I.laid (t':=s.toks) (o:=.lst (DY xs lo hi)) (fun b ob q=>BB _ q) (Ad _) ?_,rfl,q _ (I.hok.fresh (Ad _))⟩;exact⟨BJ (Vl xs lo hi) hz,_,0,(r.drop (BC xs.length 0 lo)).take (BC xs.length xs.length hi-BC xs.length 0 lo),CC _ rfl⟩
noncomputable def Ji:V->Bool
 |.BA=>true
 |.bl _=>true
 |.int _=>true
 |.str _=>true
 |_=>false
noncomputable def Jt:V->V->Bool
 |.BA,.BA=>true
 |.bl a,.bl b=>a==b
 |.bl a,.int b=>(if a then 1 else 0)==b
 |.int a,.bl b=>a==(if b then 1 else 0)
 |.int a,.int b=>a==b
 |.str a,.str b=>a==b
 |_,_=>false
def mm{x:V}{v:AA}(ry:RelV y u)(rx:RelV x v)(fy:Ji y=true)(fx:Ji x=true):SeqAt.EqAt A s u v (Jt y x):=by
 cases y with
 |BA=>
  cases ry
  cases x with
  |BA=>cases rx;exact SeqAt.EqAt.same _
  |bl b=>cases rx;exact SeqAt.EqAt.none_bool b
  |int b=>obtain⟨t,rfl⟩:=rx;exact SeqAt.EqAt.none_int b t
  |str b=>obtain⟨t,rfl⟩:=rx;exact SeqAt.EqAt.none_str b t
  |_=>exact absurd (show false=true from fx) Cd
 |bl a=>
  cases ry
  cases x with
  |BA=>cases rx;exact SeqAt.EqAt.bool_none a
  |bl b=>cases rx;exact SeqAt.EqAt.bool_bool a b
  |int b=>obtain⟨t,rfl⟩:=rx;exact SeqAt.EqAt.bool_int a b t
  |str b=>obtain⟨t,rfl⟩:=rx;exact SeqAt.EqAt.bool_str a b t
  |_=>exact absurd (show false=true from fx) Cd
 |int a=>
  obtain⟨t',rfl⟩:=ry
  cases x with
  |BA=>cases rx;exact SeqAt.EqAt.int_none a t'
  |bl b=>cases rx;exact SeqAt.EqAt.int_bool a t' b
  |int b=>obtain⟨t,rfl⟩:=rx;exact SeqAt.EqAt.int_int a t' b t
  |str b=>obtain⟨t,rfl⟩:=rx;exact SeqAt.EqAt.int_str a t' b t
  |_=>exact absurd (show false=true from fx) Cd
 |str a=>
  obtain⟨t',rfl⟩:=ry
  cases x with
  |BA=>cases rx;exact SeqAt.EqAt.str_none a t'
  |bl b=>cases rx;exact SeqAt.EqAt.str_bool a t' b
  |int b=>obtain⟨t,rfl⟩:=rx;exact SeqAt.EqAt.str_int a t' b t
  |str b=>obtain⟨t,rfl⟩:=rx;exact SeqAt.EqAt.str_str a t' b t
  |_=>exact absurd (show false=true from fx) Cd
 |_=>exact absurd (show false=true from fy) Cd
def FX(x:V)(u:AA):Bool:=match u with
 |.none=>Jt .BA x
 |.bool b=>Jt (.bl b) x
 |.int i _=>Jt (.int i) x
 |.str z _=>Jt (.str z) x
 |_=>false
def Y1{x:V}(r:RelV y u)(f:Ji y=true):FX x u=Jt y x:=by
 cases y with
 |BA=>cases r;rfl
 |bl b=>cases r;rfl
 |int i=>obtain⟨t,rfl⟩:=r;rfl
 |str z=>obtain⟨t,rfl⟩:=r;rfl
 |_=>exact absurd (show false=true from f) Cd
def ND{x:V}:∀{xs:List V}{us:List AA},Vals xs us->xs.all Ji=true->us.any (FX x)=xs.any fun y=>Jt y x
 |_,_,.nil,_=>rfl
 |y::xs,u::us,.cons r t,f=>by rw[LN,F2] at f;rw[Im,Im,Y1 r f.1,ND t f.2]
def M7{A:sJ}{s:Yf}{x:V}{v:AA}(rx:RelV x v)(fx:Ji x=true):∀{xs:List V}{us:List AA},Vals xs us->xs.all Ji=true->∀u∈us,SeqAt.EqAt A s u v (FX x u)
 |_,_,.nil,_=>fun u hu=>by cases hu
 |y::xs,u::us,.cons r t,f=>fun u' hu=>by
  rw[LN,F2] at f;rcases Bn.mp hu with rfl|hu
  ·rw[Y1 r f.1];exact mm r rx f.1 fx
  ·exact M7 rx fx t f.2 u' hu
def G0(x:V)(xs:List V):Bool:=xs.any fun y=>Jt y x
def Ui(K:uT)(neg:Bool):R2:=fun x y H Q=>∃p xs,y=.ref p/\(AK K H p xs\/AU K H p xs)/\Ji x=true/\xs.all Ji=true/\Q (.bl (if neg then !G0 x xs else G0 x xs)) H
def fA:Bx X (qz .In) (Ui X.K false):=by
 intro pins s σ H x y v u Q I rx ry h;obtain⟨p,xs,rfl,hq,fx,fs,q⟩:=h;cases ry;rcases hq with hq|hq
 ·obtain⟨AX,r,pl,hz⟩:=I.list hq;refine SeqAt.in_listAt (FX x) pl.isList (fun w hw=>M7 rx fx r fs w (by simpa using hw)) ⟨.bl _,H,I,rfl,?_⟩;rw[show AX.toArray.any (FX x)=AX.any (FX x) by simp,ND r fs];exact q
 ·obtain⟨AX,r,pl,hz⟩:=I.tuple hq;refine SeqAt.in_tupleAt (FX x) pl (fun w hw=>M7 rx fx r fs w (by simpa using hw)) ⟨.bl _,H,I,rfl,?_⟩;rw[show AX.toArray.any (FX x)=AX.any (FX x) by simp,ND r fs];exact q
def cc:Bx X (qz .NotIn) (Ui X.K true):=by
 intro pins s σ H x y v u Q I rx ry h;obtain⟨p,xs,rfl,hq,fx,fs,q⟩:=h;cases ry;rcases hq with hq|hq
 ·obtain⟨AX,r,pl,hz⟩:=I.list hq;refine SeqAt.notIn_listAt (FX x) pl.isList (fun w hw=>M7 rx fx r fs w (by simpa using hw)) ⟨.bl _,H,I,rfl,?_⟩;rw[show AX.toArray.any (FX x)=AX.any (FX x) by simp,ND r fs];exact q
 ·obtain⟨AX,r,pl,hz⟩:=I.tuple hq;refine SeqAt.notIn_tupleAt (FX x) pl (fun w hw=>M7 rx fx r fs w (by simpa using hw)) ⟨.bl _,H,I,rfl,?_⟩;rw[show AX.toArray.any (FX x)=AX.any (FX x) by simp,ND r fs];exact q
def Io:DO X (.builtin "len") (fun xs H Q=>∃p ys,xs=[.ref p]/\(AK X.K H p ys\/AU X.K H p ys)/\Q (.int ys.length) H):=by
 intro pins s σ H xs us Q I r h;obtain⟨p,ys,rfl,hq,q⟩:=h;obtain⟨u,rfl,rx⟩:=vals1 r;cases rx;have hn:=NZ;rcases hq with hq|hq
 ·obtain⟨AX,r',pl,hz⟩:=I.list hq;have hlen:=r'.length;exact Calls.call_len_list pl.isList (by simp only[Cg]<;>lia) ⟨.int ys.length,H,I.tok _,⟨s.toks+1,by rw[Cg,hlen]⟩,q⟩
 ·obtain⟨AX,r',pl,hz⟩:=I.tuple hq;have hlen:=r'.length;exact len_tuple pl (by simp only[Cg]<;>lia) ⟨.int ys.length,H,I.tok _,⟨s.toks+1,by rw[Cg,hlen]⟩,q⟩
def cW:DO X (.type "list") (fun xs H Q=>∃p ys,xs=[.ref p]/\(AK X.K H p ys\/AU X.K H p ys)/\∀l,H l=none->Q (.ref l) (upd H l (.lst ys))):=by
 intro pins s σ H xs us Q I r h;obtain⟨p,ys,rfl,hq,q⟩:=h;obtain⟨u,rfl,rx⟩:=vals1 r;cases rx;have fin:∀(AX:List AA),Vals ys AX->ys.length<=sizeLine->∀(h':rE)(c':Nat),(∀b o',s.heap.get? b=some o'->h'.get? b=some o')->
  h'.get? s.heap.objs.size=some {cls:=.type "list",dict:=none,data:=.seq AX.toArray c',slots:= #[]}->EP X pins σ Q (.ref s.heap.objs.size) {s with heap:=h'}:=fun AX r' hz h' c' kp e=>
  ⟨.ref s.heap.objs.size,_,I.laid (t':=s.toks) kp (Ad _) (show BP X.prog X.w _ h' _ (.lst ys) from⟨hz,AX,c',r',e⟩),rfl,q _ (I.hok.fresh (Ad _))⟩;rcases hq with hq|hq
 ·obtain⟨AX,r',pl,hz⟩:=I.list hq;have hlen:=r'.length;obtain⟨o,ho,hc,n,hd⟩:=pl.isList;exact call_list_seq p (.inl rfl) ho hc hd (fun h' c' kp e=>fin AX r' hz h' c' kp e) (by simp only[Cg]<;>lia)
 ·obtain⟨AX,r',pl,hz⟩:=I.tuple hq;have hlen:=r'.length;obtain⟨o,ho,hc,n,hd⟩:=pl;exact call_list_seq p (.inr rfl) ho hc hd (fun h' c' kp e=>fin AX r' hz h' c' kp e) (by simp only[Cg]<;>lia)
def OA(K:uT)(T:String)(x:V)(H:Hp):Prop:=match x with
 |.str _=>T="str"
 |.int _=>T="int"
 |.ref p=>(T="list" /\∃xs,AK K H p xs)\/(T="tuple" /\∃o,K.lookup p=some o/\o.cls=.type "tuple" /\o.dict=none)\/
  (T="dict" /\((∃AD,H p=some (.dK AD))\/∃AD,H p=some (.dT AD)))\/(T="set" /\∃S n,H p=some (.set S n))
 |_=>False
def Yv{x:V}{v:AA}(I:Inv X pins σ H s)(r:RelV x v)(ty:OA X.K T x H):
 s.TypeIs v T/\∀a,v=.ref a->∃ob,s.heap.get? a=some ob/\ob.dict=none:=by
 cases x with
 |str z=>obtain⟨t,rfl⟩:=r;cases(show T="str" from ty);exact⟨LU s z t,fun _ e=>nomatch e⟩
 |int i=>obtain⟨t,rfl⟩:=r;cases(show T="int" from ty);exact⟨typeIs_int s i t,fun _ e=>nomatch e⟩
 |ref p=>
  cases r;rcases ty with⟨rfl,xs,hq⟩|⟨rfl,o,hk,hc,hd⟩|⟨rfl,hk⟩|⟨rfl,S,n,hk⟩
  ·obtain⟨AX,_,pl,_⟩:=I.list hq;refine⟨pl.isList.typeIs,fun a e=>?_⟩;cases e;obtain⟨o,n,e,c,hd,_⟩:=pl;exact⟨o,e,hd⟩
  ·refine⟨⟨o,I.BS p o hk,hc⟩,fun a e=>?_⟩;cases e;exact⟨o,I.BS _ o hk,hd⟩
  ·have z:∃o,s.heap.get? p=some o/\o.ExactDict:=by
    rcases hk with⟨AD,hk⟩|⟨AD,hk⟩
    ·obtain⟨_,_,_,_,o,_,_,e,ex,_⟩:=I.hok p _ hk;exact⟨o,e,ex⟩
    ·obtain⟨_,_,_,_,o,_,_,e,ex,_⟩:=I.hok p _ hk;exact⟨o,e,ex⟩
   obtain⟨o,e,ex⟩:=z;refine⟨⟨o,e,ex.1⟩,fun a e2=>?_⟩;cases e2;exact⟨o,e,ex.2.1⟩
  ·obtain⟨o,_,_,_,e,ex,_⟩:=I.hok p _ hk;refine⟨⟨o,e,ex.1⟩,fun a e2=>?_⟩;cases e2;exact⟨o,e,ex.2.1⟩
 |_=>exact False.elim ty
def aa(K:uT)(T:String)(r:V->List V->Hp->VK->Prop)(to:TE):TE:=fun σ H Q=>to σ H fun x H1=>OA K T x H1/\r x [] H1 Q
def Uz(K:uT)(T:String)(r:V->List V->Hp->VK->Prop)(to:TE)(t:TA):TE:=fun σ H Q=>to σ H fun x H1=>OA K T x H1/\t σ H1 fun xs H2=>r x xs H2 Q
end
variable{cpos:Pos}
section
variable{a b:qv}{tb:TE}{o:qv}{es:List qv}{to:TE}{t:TA}{id:String}
def NS(pa:tO T)(slot:Slot T name id)(hty:typeOf (.builtin id)=pure (.type "method_descriptor"))(hm:N5 X id r)(ho:PE X o to)
 (hbase:rK o name X.env (rC o X.env)=rC o X.env:=by rfl)(hline:(apos.endLine==cpos.line)=true:=by rfl):PE X (.Call (.Attribute o name apos) [] [] cpos) (aa X.K T r to):=by
 intro pins s σ H Q I h;refine wpAny_Call_method0_late hbase hline (Ah (ho pins s σ H _ I h) fun v s1 ⟨x,H1,I1,r1,ty,q1⟩=>?_);obtain⟨h1,h2⟩:=Yv I1 r1 ty;exact⟨T,id,pa,slot,hty,h1,h2,Qo rfl (PySem.evalArgs_none (hm pins s1 σ H1 x [] v [] Q I1 r1 .nil q1))⟩
def Iy(pa:tO T)(slot:Slot T name id)(hty:typeOf (.builtin id)=pure (.type "method_descriptor"))(hm:N5 X id r)(ho:PE X o to)(ha:PA X (e::es) t)
 (hbase:rK o name X.env (rC o X.env)=rC o X.env:=by rfl)
 (hfew:((rN cpos (hX (e::es) X.env)).all (fun x=> !x.1)&&(sY cpos (rW [] X.env)).all (fun x=>x.1.isSome)
  &&decide ((e::es).length+([]:List sd).length+(if([]:List sd).isEmpty then 0 else 1)<30))=true:=by rfl)
 (hline:(apos.endLine==cpos.line)=true:=by rfl)(hs:hX (e::es) X.env=(false,rC e X.env)::hX es X.env:=by rfl)(hplain:(rN cpos (hX es X.env)).any (·.1)=false:=by rfl):
 PE X (.Call (.Attribute o name apos) (e::es) [] cpos) (Uz X.K T r to t):=by
 intro pins s σ H Q I h;refine wpAny_Call_method_late hbase hfew hline rfl (Ah (ho pins s σ H _ I h) fun v s1 ⟨x,H1,I1,r1,ty,q1⟩=>?_);obtain⟨h1,h2⟩:=Yv I1 r1 ty;refine⟨T,id,pa,slot,hty,h1,h2,?_⟩;have hA:=ha cpos pins s1 σ H1 _ I1 q1;rw[hs] at hA⊢;refine Qo (by show(false||(rN cpos (hX es X.env)).any (·.1))=false;rw[hplain]<;>rfl) (VR ?_);exact Ah hA fun us s2 ⟨vs,H2,I2,r2,q2⟩=>hm pins s2 σ H2 x vs v us Q I2 r1 r2 q2
end
def Ia(X:Cx)(id:String)(r:V->List V->Hp->VK->Prop):Prop:=
 ∀(pins:List (Ya×Obj))(s:Yf)(σ:St)(H:Hp)(x:V)(xs:List V)(v:AA)(us:List AA)(Q:VK),Inv X pins σ H s->RelV x v->Vals xs us->r x xs H Q->
  cm (ax X.prog X.w) X.A (call (.builtin id) (v::us)) (EP X pins σ Q) X.xe s
def Vals.one{x:V}(h:Vals [x] us):∃u,us=[u]/\RelV x u:=by
 cases h with
 |cons r t=>cases t;exact⟨_,rfl,r⟩
def Vals.two{x:V}(h:Vals [x,y] us):∃u v,us=[u,v]/\RelV x u/\RelV y v:=by
 cases h with
 |cons r t=>obtain⟨_,rfl,q⟩:=Vals.one t;exact⟨_,_,rfl,r,q⟩
def Vals.zero:∀{us:List AA},Vals [] us->us=[]
 |_,.nil=>rfl
def Vals.dropLast{xs:List V}(h:Vals xs us):Vals xs.dropLast us.dropLast:=by
 induction h with
 |nil=>exact .nil
 |cons r t ih=>
  cases t with
  |nil=>exact .nil
  |cons q t'=>exact .cons r ih
def dN(l:List α):l.eraseIdx (l.length-1)=l.dropLast:=by
 induction l with
 |nil=>rfl
 |cons a r ih=>
  cases r with
  |nil=>rfl
  |cons b r=>
   have e:(a::b::r).length-1=((b::r).length-1)+1:=by
    have h1:(a::b::r).length=r.length+2:=rfl;have h2:(b::r).length=r.length+1:=rfl
    lia
   rw[e,List.eraseIdx_cons_succ,ih];all_goals rfl
section
variable{l:Ya}{xs zs:List V}
def Inv.UR{its':List AA}{n:Nat}{f:Array AA->Array AA}(I:Inv X pins σ H s)(hH:H l=some (.lst xs))
 (e:s.heap.get? l=some {cls:=.type "list",data:=.seq AX.toArray n})(hf:f AX.toArray=its'.toArray)(hv:Vals ys its')(hz:ys.length<=sizeLine):
 Inv X pins σ (upd H l (.lst ys)) {s with heap:=s.heap.update l (Obj.mapSeq f),toks:=t'}:=by
 have q:=PySem.IsL.update e f;rw[hf] at q;refine I.write (x:=l) (e:=l) (by rw[hH];exact trivial) (.inl rfl) (fun b' u hb hu=>(ES s.heap (Obj.mapSeq f) (DK hb)).trans hu) ⟨_,q⟩ ?_;exact⟨hz,its',_,hv,q⟩
def Inv.Ug(I:Inv X pins σ H s)(hv:Vals ys AX)(hz:ys.length<=sizeLine):
 Inv X pins σ (upd H s.heap.objs.size (.lst ys)) {s with heap:=s.heap.push {cls:=.type "list",data:=.seq AX.toArray},toks:=t'}:=
 I.laid (fun _ _ q=>BB _ q) (Ad _) ⟨hz,AX,0,hv,CC _ rfl⟩
def Inv.fresh(I:Inv X pins σ H s):H s.heap.objs.size=none:=I.hok.fresh (Ad _)
def Inv.Ku(I:Inv X pins σ H s)(hH:H l=some (.lst xs)):xs.length<=sizeLine/\∃(AX:List AA)(n:Nat),Vals xs AX/\xs.length=AX.length/\s.heap.get? l=some {cls:=.type "list",data:=.seq AX.toArray n}:=by obtain⟨z,AX,n,r,e⟩:=I.hok l _ hH;exact⟨z,AX,n,r,r.length,e⟩
def ig{n:Nat}(h:n<=sizeLine):Builtin.List.listTooLong n=false:=by unfold Builtin.List.listTooLong;exact BK (by lia)
end
def jw:V->List V->Hp->VK->Prop:=fun x vs H Q=>∃l xs y,x=.ref l/\vs=[y]/\H l=some (.lst xs)/\xs.length<sizeLine/\Q .BA (upd H l (.lst (xs++[y])))
def EE:Ia X "list.append" jw:=by
 intro pins s σ H x vs v us Q I rx rv h;obtain⟨l,xs,y,rfl,rfl,hH,hz,q⟩:=h;cases rx;obtain⟨u,rfl,ru⟩:=rv.one;obtain⟨z,AX,n,r,hl,e⟩:=I.Ku hH;refine KH F.slot_list_append ⟨_,e,rfl⟩ F.entry_list_append (F.args_list_append_2 _ _) (PySem.list_append l AX.toArray n u (by rw[Cg];lia)) ⟨e,?_⟩;refine⟨.BA,_,I.UR (its':=AX++[u]) hH e (by simp) (r.append (.cons ru .nil)) ?_,rfl,q⟩;rw[Au,Cf]
 lia
def kQ:V->List V->Hp->VK->Prop:=fun x vs H Q=>∃l b xs zs,x=.ref l/\vs=[.ref b]/\H l=some (.lst xs)/\H b=some (.lst zs)/\xs.length+zs.length<=sizeLine/\Q .BA (upd H l (.lst (xs++zs)))
def WX:Ia X "list.extend" kQ:=by
 intro pins s σ H x vs v us Q I rx rv h;obtain⟨l,b,xs,zs,rfl,rfl,hH,hB,hz,q⟩:=h;cases rx;obtain⟨u,rfl,ru⟩:=rv.one;cases ru;obtain⟨z,AX,n,r,hl,e⟩:=I.Ku hH;obtain⟨z2,its2,n2,r2,hl2,e2⟩:=I.Ku hB;have hsz:AX.toArray.size+its2.toArray.size<=sizeLine:=by rw[Cg,Cg];lia
 have hlong:¬(!AX.toArray.isEmpty&&Builtin.List.listTooLong (AX.toArray.size+its2.toArray.size))=true:=by rw[ig hsz,LK];exact Cd
 refine KH F.slot_list_extend ⟨_,e,rfl⟩ F.entry_list_extend (F.args_list_extend_2 _ _)
  (AutoSeq1.list_extend_list_list_0 l AX.toArray n b its2.toArray n2 hlong (by rw[Cg];lia) (by lia)) ⟨e,e2,?_⟩;refine⟨.BA,_,I.UR (its':=AX++its2) hH e (by simp) (r.append r2) ?_,rfl,q⟩;rw[Au]
 lia
def ph:V->List V->Hp->VK->Prop:=fun x vs H Q=>∃l xs y,x=.ref l/\vs=[]/\H l=some (.lst xs)/\xs[xs.length-1]? =some y/\Q y (upd H l (.lst xs.dropLast))
def lY:Ia X "list.pop" ph:=by
 intro pins s σ H x vs v us Q I rx rv h;obtain⟨l,xs,y,rfl,rfl,hH,hy,q⟩:=h;cases rx;have hus:=rv.zero;subst hus;obtain⟨z,AX,n,r,hl,e⟩:=I.Ku hH;obtain⟨u,hu,ru⟩:=r.get hy;have hy':AX.toArray[AX.toArray.size-1]? =some u:=by show AX.toArray[AX.length-1]? =some u;rw[<-GY,<-hl];exact hu
 refine KH F.slot_list_pop ⟨_,e,rfl⟩ F.entry_list_pop (F.args_list_pop_1 _) (MeetsSeq.list_pop_last l AX.toArray n u hy' (by rw[Cg];lia)) ⟨e,?_⟩;refine⟨y,_,I.UR (its':=AX.dropLast) hH e ?_ r.dropLast ?_,ru,q⟩
 ·show AX.toArray.eraseIdxIfInBounds (AX.toArray.size-1)=AX.dropLast.toArray;rw[Cg,List.eraseIdxIfInBounds_toArray,dN]
 ·rw[List.length_dropLast]
  lia
def pN:R2:=fun x y H Q=>∃l b xs zs,x=.ref l/\y=.ref b/\H l=some (.lst xs)/\H b=some (.lst zs)/\xs.length+zs.length<=sizeLine/\∀p,H p=none->Q (.ref p) (upd H p (.lst (xs++zs)))
theorem Ir:Bx X (sR .Add) pN:=by
 intro pins s σ H x y v u Q I rx ry h;obtain⟨l,b,xs,zs,rfl,rfl,hH,hB,hz,q⟩:=h;cases rx;cases ry;obtain⟨z,AX,n,r,hl,e⟩:=I.Ku hH;obtain⟨z2,its2,n2,r2,hl2,e2⟩:=I.Ku hB;refine PySem.P.add_list e e2 ?_ (by rw[Cg,Cg];lia);have ea:AX.toArray++its2.toArray=(AX++its2).toArray:=by simp
 rw[ea];exact⟨.ref _,_,I.Ug (t':=s.toks) (r.append r2) (by rw[Au];lia),rfl,q _ I.fresh⟩
section
open PySem.W PySem.Calls
def cQ{P:Params}:∀(ns:List Int)(vs:List AA),WellAll P h vs (ns.map WData.int)->IntsAre vs ns:=by
 intro ns
 induction ns with
 |nil=>intro vs w;rw[LR] at w;cases w;exact .nil
 |cons n ns ih=>
  intro vs w;rw[Av] at w
  cases w with
  |cons a b=>cases a;exact .cons _ _ (ih _ b)
def fu{l:OpenLaw}{n:Nat}(hn:l.most=some n){P:Params}{args:List WData}{vals:List AA}
 (hpre:l.row.toRowW.claim.pre args=true)(hwl:WellAll P h vals args):
 ∃a vs ns,vals=[Value.ref a]/\args=[WData.list (ns.map WData.int)]/\h.get? a=some {cls:=.type "list",data:=.seq vs.toArray}/\IntsAre vs ns/\ns.length<=n:=by
 have hsh:WShape.hasAll [] args [.list .int]=true:=(pre_splitW hpre).1;have hc:l.pre.holds [] {args:=args}=true:=(pre_splitW hpre).2;obtain⟨d,r,rfl,h1,h2⟩:=hasAllW_cons hsh;obtain rfl:=hasAllW_nil h2;obtain⟨xs,rfl,h3⟩:=hasW_list h1;obtain⟨ns,rfl⟩:=items_int h3;have hlen:ns.length<=n:=by
  unfold OpenLaw.pre at hc;have h4:(WTm.not (.lt (.lit (.int (n:Int))) (.len (.arg 0)))).holds [] {args:=[.list (ns.map .int)]}=true:=by have h4:=(holds_andW hc).1;rw[hn] at h4;exact h4
  have h5:=condW_of h4 (w_not (w_lt w_lit (w_len_list (w_arg rfl))));rw[AL] at h5;refine OW fun q=>?_;have q':(n:Int)<((ns.length:Nat):Int):=by lia
  first
   |(rw[BW q'] at h5;exact absurd h5 (by decide))
   |(simp at h5;lia)
 cases hwl with
 |cons w1 w2=>
  cases w2
  cases w1 with
  |list ho hall=>exact⟨_,_,ns,rfl,rfl,ho,cQ ns _ hall,hlen⟩
def eh(l:OpenLaw)(args:List WData):l.row.toRowW.claim.post args (.bool true) args=true:=
 postW_of (r:=l.row.toRowW) (X:=(true==true))
  (show WShape.has [] (.bool true) .bool=true by first|rfl|decide|simp[WShape.has,WShape.arms,WShape.armsAll])
  (show(WTm.eq .res (.lit (.bool true))).value [] {args:=args,res:=some (.bool true),after:=args}=some (.bool (true==true)) from w_eq_bool (w_res rfl) w_lit) rfl
end
variable{XP:(Str->Option AA)->rE->Prop}
section
open PySem.W PySem.Calls
def cu{l:OpenLaw}{n:Nat}{q:qy}{loose:List Str}{YP:rH->rE->Prop}{d:DefRec}
 (hn:l.most=some n)(hdf:d.params.defaults=[])
 (call:∀(w:rH)(s₀ s₁:Yf)(mg mb:Str->Option AA)(fa:Ya)(o:Obj)(pm cd doc:AA)(a:Ya)(vs:List AA)(ns:List Int),
  Ground q loose [] XP w s₀ mg mb s₁.heap->YP w s₁.heap->
  s₁.heap.get? fa=some o->o.data=.func (docDef d.name d.params d.body d.scope pm cd doc)->s₁.heap.CodeRec cd d.name->mg d.name=some (.ref fa)->
  s₁.heap.get? a=some {cls:=.type "list",data:=.seq vs.toArray}->IntsAre vs ns->ns.length<=n->s₁.gens= #[]->
  rq (ax l.prog w) tU (.call (.ref fa) ⟨[.ref a],[]⟩) (fun r s'=>r=.ok (.ret (.bool true))/\OldK s₁.heap s'.heap/\s'.os=s₁.os/\sf s'.gens) s₁):
 WalkO q loose XP YP l.row.toRowW d [] (fun f vs=>PySem.call f vs):=by
 intro w s₀ s₁ mg mb G Y fa o pm cd doc dV kV ho hd hcd hD hmg hg args vals as hpre hlay hrd hwl hlo;obtain rfl:dV=.none:=Dflts.none hD hdf;obtain rfl:kV=.none:=Dflts.noKw hD;obtain⟨a,vs,ns,rfl,rfl,hobj,hints,hlen⟩:=fu hn hpre hwl;refine enter_call (LQ (call w s₀ s₁ mg mb fa o pm cd doc a vs ns G Y ho (fd_plain hd) hcd hmg hobj hints hlen hg) fun r s' hq=>?_);obtain⟨rfl,h2,h3,h4⟩:=hq;exact⟨.inl ⟨.bool true,.bool true,[],rfl,fun _=>rfl,.bool true,eh l _,fun _=>⟨List.Pairwise.nil,fun _ hm=>(nomatch hm)⟩⟩,h2,h3,h4⟩
end
def WT:∀{vs:List AA}{ns:List Int},IntsAre vs ns->Vals (ns.map V.int) vs
 |_,_,.nil=>.nil
 |_,_,.cons n t h=>.cons ⟨t,rfl⟩ (WT h)
def UK(H:Hp):Prop:=∀b,H b=none\/∃o xs,H b=some (.BR o (.lst xs))
variable{ns:List Int}
def jG{mb:Str->Option AA}{fa:Ya}{s₁:Yf}{vs:List AA}
 (KX:K.In s₁.heap)(hns:s₁.heap.Ns hY mg)(hb:s₁.heap.Ns uL mb)(hbb:∀x:Str,x≠ "__name__" ->mb x=rL x)(hlim:s₁.heap.NoLimit)(hg:s₁.gens= #[])
 (ha:s₁.heap.get? a=some {cls:=.type "list",data:=.seq vs.toArray})(hi:IntsAre vs ns)(hl:ns.length<=sizeLine)(hr:Bj k tU)
 (F:∀base:rE,K.In base->base.Ns hY mg->AW P w K mg base CX k fa fd [x] sp)(hbind:∀(s:Yf)(u:AA),uG s fd ⟨[u],[]⟩ [(x,u)])
 (hsp:∀H:Hp,UK H->AK K H a (ns.map V.int)->sp [.ref a] H (fun v _=>v=.bl true) fun _ _ _=>False)
 (hCX:∀H e s',CX [] H s₁ (fun _ _ _=>False) e s'->False):
 rq (ax P w) tU (.call (.ref fa) ⟨[.ref a],[]⟩) (fun r s'=>r=.ok (.ret (.bool true))/\OldK s₁.heap s'.heap/\s'.os=s₁.os/\sf s'.gens) s₁:=by
 have rv:=WT hi;have lenV:=hi.length;have core:∀H:Hp,UK H->AK K H a (ns.map V.int)->By P w H s₁.heap->(∀b,H b≠none->b=a)->(H a≠none->K.lookup a=none)->
  rq (ax P w) tU (.call (.ref fa) ⟨[.ref a],[]⟩) (fun r s'=>r=.ok (.ret (.bool true))/\OldK s₁.heap s'.heap/\s'.os=s₁.os/\sf s'.gens) s₁:=by
  intro H hO hS hok hA hK;have base_of:∀{b:Ya}{o:Obj},s₁.heap.get? b=some o->H b=none->(JA s₁.heap H).get? b=some o:=fun e n=>i8 e n;have Jq:∀{b:Ya}{o:Obj}{es:Array DictEntry}{ep:Nat},s₁.heap.get? b=some o->o.data=.dict es ep->H b=none:=fun{b o es ep} e d=>by
   cases q:H b with
   |none=>rfl
   |some u=>have e':b=a:=hA b (by rw[q];simp);subst e';rw[ha] at e;cases e;have d':Data.seq vs.toArray _=Data.dict es ep:=d;cases d'
  have nsK:∀{b:Ya}{m:Str->Option AA},s₁.heap.Ns b m->(JA s₁.heap H).Ns b m:=fun{b m} ⟨o,es,ep,e,d,r⟩=>⟨o,es,ep,base_of e (Jq e d),d,r⟩;have hKb:K.In (JA s₁.heap H):=fun b o e=>base_of (KX b o e) (by
   cases q:H b with
   |none=>rfl
   |some u=>have e':b=a:=hA b (by rw[q];simp);subst e';rw[hK (by rw[q];simp)] at e;cases e);have hM:Mod K mg (JA s₁.heap H):=⟨hKb,nsK hns,⟨mb,nsK hb,hbb⟩,let⟨mc,h1,h2⟩:=hlim;⟨mc,nsK h1,h2⟩⟩;have e0:Kx P w K mg (JA s₁.heap H) tU [] s₁ H:=⟨rfl,hM,fun b o e=>kR e,Nat.le_of_eq (gP _ _),trivial,fun b hb=>absurd (show b∈([]:List Ya) from hb) (by simp),hok,.of_eq hg⟩;refine LQ ((F _ hKb (nsK hns)).run tU [] s₁ H ⟨[.ref a],[]⟩ [.ref a] [.ref a] _ _ hr e0 (hbind s₁ (.ref a)) (.cons rfl .nil) (hsp H hO hS)) fun r s' h=>?_
  cases r with
  |error e=>exact(hCX H e s' h).elim
  |ok fl=>
   cases fl with
   |next=>exact False.elim h
   |brk=>exact False.elim h
   |cont=>exact False.elim h
   |ret u=>
    obtain⟨v,H',os,bare,un,hok',r',q⟩:=h;have q':v=.bl true:=q;subst q';obtain rfl:u=Value.bool true:=r';refine⟨rfl,OldK.of_keep fun b o e=>?_,os,bare⟩
    cases q:H b with
    |none=>exact un.keep b o e q (by intro z;exact absurd (show b∈([]:List Ya) from z) (by simp)) (by simp)
    |some u=>
     rcases hO b with z|⟨ob,xs,z⟩
     ·rw[q] at z;cases z
     ·have z2:=un.Ee b ob _ z;obtain⟨e1,_⟩:=hok b _ z;obtain⟨e2,_⟩:=hok' b _ z2;rw[e] at e1;cases e1;exact e2
 cases hk:K.lookup a with
 |some o=>have e:=KX a o hk;rw[ha] at e;cases e;refine core (fun _=>none) (fun _=>.inl rfl) (.inr ⟨_,vs.toArray,_,hk,rfl,rfl,rfl,by rw[Cg,lenV];exact hl,by simpa using rv⟩) (fun b u z=>by have z':(none:Option HO)=some u:=z;cases z') (fun b z=>absurd rfl z) fun z=>absurd rfl z
 |none=>
  refine core (fun b=>if b=a then some (.BR {cls:=.type "list",data:=.seq vs.toArray} (.lst (ns.map V.int))) else none) (fun b=>?_) (.inl (.inr ⟨{cls:=.type "list",data:=.seq vs.toArray},AH rfl⟩)) (fun b u z=>?_) (fun b z=>?_) fun _=>hk
  ·by_cases hb:b=a
   ·exact .inr ⟨_,_,AH hb⟩
   ·exact .inl (AG hb)
  ·by_cases hb:b=a
   ·have z':=(AH hb).symm.trans z;cases z';subst hb;exact⟨ha,by rw[AL];exact hl,vs,_,rv,ha⟩
   ·have z':=(AG hb).symm.trans z;cases z'
  ·by_cases hb:b=a
   ·exact hb
   ·exact absurd (AG hb) z
abbrev Ag:Jw:=fun _ _ _ _ _ _=>False
abbrev E0:XK:=fun _ _ _=>False
def A3:Passes Ag X E0:=fun _ _ _ _ _ _ _ h=>h.elim
structure Ai(K:uT)(x qual:Str)(st:qu)(f:Ya)(fd:rA):Prop where
 ex:∃(oc:AA)(od:Option Ya)(kV doc pm:AA)(an:Option Ya)(cdv ct:AA)(osl:Array (Option AA)),
  fd=fnOf x qual (JU st) (F6 st) (Ao st) .none kV doc pm an cdv ct/\K.lookup f=some ⟨oc,od,.func fd,osl⟩/\codeIn K cdv qual=true
 kp:rZ K (.ref f)=true
def Ai.ok{st:qu}(F:Ai K x qual st f fd)(S:A0 N ps (Ao st))(len:∀vs H Q E,sp vs H Q E->vs.length=ps.length)
 (hbody:∀(cdv:AA)(A:sJ)(outer:List Env)(s:Yf)(H:Hp)(vs:List V)(Q:VK)(E:XK),Bj k (A.deeper (sX qual (Ao st) s.heap.objs.size f cdv))->sp vs H Q E->
  ∃t,E3 (Jl Ag P w K mg base N qual (Ao st) f cdv A outer s H E).Qf (F6 st) t/\t {nx:=fun _ H'=>Q .BA H',rt:=Q} (start N vs) H):AW P w K mg base Ag (k+1) f fd ps sp:=by
 obtain⟨oc,od,kV,doc,pm,an,cdv,ct,osl,rfl,lk,hcd⟩:=F.ex;refine Z5 lk hcd S len fun A outer s H vs Q E hr hsp=>?_;obtain⟨t,h,q⟩:=hbody cdv A outer s H vs Q E hr hsp;exact⟨t,h.Qf,q⟩
def Ai.binds{st:qu}(F:Ai K x qual st f fd)
 (h:∀(kV doc pm:AA)(an:Option Ya)(cdv ct:AA)(us:List AA),us.length=ps.length->bindArgs (fnOf x qual (JU st) (F6 st) (Ao st) .none kV doc pm an cdv ct) ⟨us,[]⟩=pure (ps.zip us)):Binds K fd ps []:=by
 obtain⟨oc,od,kV,doc,pm,an,cdv,ct,osl,rfl,lk,hcd⟩:=F.ex;exact .all (h kV doc pm an cdv ct)
def lM{st:qu}{oc:AA}{an:Option Ya}{kV doc pm cdv ct:AA}(l:K.lookup f=some ⟨oc,od,.func (fnOf x qual (JU st) (F6 st) (Ao st) .none kV doc pm an cdv ct),osl⟩)
 (c:codeIn K cdv qual=true)(k:rZ K (.ref f)=true):Ai K x qual st f (fnOf x qual (JU st) (F6 st) (Ao st) .none kV doc pm an cdv ct):=⟨⟨oc,od,kV,doc,pm,an,cdv,ct,osl,rfl,l,c⟩,k⟩
def CZ(hr:Bj k A):A.units+1<rR:=Nat.lt_of_le_of_lt (Nat.add_le_add_left (by decide:1<=64) _) hr.units
def pv(i:Nat)(hN:X.N[i]? =some x:=by rfl)(hv:QS X.env.scope x:=by first|exact Aa rfl|exact CP (Aa rfl)|exact CP (CP rfl))(hd:(x==("__debug__" :Str))=false:=by decide)
 (hcd:(x==("__classdict__" :Str))=false:=by decide):PE X (.Name x pos) (Ew i):=Y5 hN hv hd hcd
variable{B:Prop}
def BF{A:Prop}(h:B):if false=true then A else B:=by rw[AG Cd];exact h
def Bi{A:Prop}(h:A):if true=true then A else B:=by rw[AH rfl];exact h
def GK{c A:Prop}[Decidable c](h1:c->A)(h2:¬c->B):if c then A else B:=by
 by_cases h:c
 ·rw[AH h];exact h1 h
 ·rw[AG h];exact h2 h
def D7{c A:Prop}[Decidable c](hc:c)(h:B):if(!decide c)=true then A else B:=by rw[BW hc];exact BF h
def AO(H H':Hp):Prop:=∀b o,H b=some o->H' b=some o
def AO.refl(H:Hp):AO H H:=fun _ _ h=>h
variable{H2:Hp}
def AO.trans(a:AO H H1)(b:AO H1 H2):AO H H2:=fun c o h=>b c o (a c o h)
def AO.free(e:AO H H'){l:Ya}(h:H' l=Option.none):H l=Option.none:=by
 cases q:H l with
 |none=>rfl
 |some o=>rw[e l o q] at h;cases h
def AO.seq{xs:List V}(e:AO H H')(h:AK K H a xs):AK K H' a xs:=by
 rcases h with(h|⟨o,h⟩)|h
 ·exact .inl (.inl (e _ _ h))
 ·exact .inl (.inr ⟨o,e _ _ h⟩)
 ·exact .inr h
section
variable{κ:Type}[DecidableEq κ]
noncomputable def Bf(AD:List (κ×V))(k:κ):Option V:=(AD.find? fun kv=>decide (kv.1=k)).map (·.2)
noncomputable def putK(AD:List (κ×V))(k:κ)(v:V):List (κ×V):=
 if(AD.any fun kv=>decide (kv.1=k))=true then AD.map (fun kv=>if kv.1=k then(kv.1,v) else kv) else AD++[(k,v)]
noncomputable def Jd(AD:List (κ×V))(k:κ):List (κ×V):=AD.filter fun kv=>decide (kv.1≠k)
def Gj{p:κ×V}{r:List (κ×V)}{k:κ}(e:p.1=k):Bf (p::r) k=some p.2:=by simp[Bf,C9,e]
def Gi{p:κ×V}{r:List (κ×V)}{k:κ}(e:¬p.1=k):Bf (p::r) k=Bf r k:=by simp[Bf,C9,e]
def O5(k:κ):∀AD:List (κ×V),(AD.any fun kv=>decide (kv.1=k))=(Bf AD k).isSome
 |[]=>rfl
 |p::r=>by
  rw[Im];by_cases e:p.1=k
  ·simp only[Gj e,BW e,Bool.true_or,Option.isSome_some]
  ·rw[Gi e,BK e,Rb];exact O5 k r
def Ww(k j:κ)(y:V):∀AD:List (κ×V),Bf (AD.map fun kv=>if kv.1=k then(kv.1,y) else kv) j=(Bf AD j).map fun x=>if j=k then y else x
 |[]=>rfl
 |p::r=>by
  have ih:=Ww k j y r;rw[Av];by_cases h:p.1=k
  ·rw[AH h];by_cases e:p.1=j
   ·rw[Gj (p:=(p.1,y)) e,Gj e,Ob,AH (e.symm.trans h)]
   ·rw[Gi (p:=(p.1,y)) e,Gi e,ih]
  ·rw[AG h];by_cases e:p.1=j
   ·rw[Gj (p:=p) e,Gj e,Ob,AG (fun z=>h (e.trans z))]
   ·rw[Gi (p:=p) e,Gi e,ih]
def We(k j:κ)(y:V):∀AD:List (κ×V),Bf AD k=none->Bf (AD++[(k,y)]) j=if j=k then some y else Bf AD j
 |[],_=>by
  by_cases e:k=j
  ·rw[AH e.symm];exact Gj (p:=(k,y)) e
  ·rw[AG (fun z=>e z.symm)];exact Gi (p:=(k,y)) e
 |p::r,hn=>by
  rw[OY];have hk:¬p.1=k:=fun z=>by rw[Gj z] at hn;cases hn
  rw[Gi hk] at hn;have ih:=We k j y r hn;by_cases e:p.1=j
  ·rw[Gj e,Gj e,AG (fun z=>hk (e.trans z))]
  ·rw[Gi e,Gi e,ih]
def iR(AD:List (κ×V))(k j:κ)(y:V):Bf (putK AD k y) j=if j=k then some y else Bf AD j:=by
 unfold putK;by_cases a:(AD.any fun kv=>decide (kv.1=k))=true
 ·rw[AH a,Ww];rw[O5] at a;by_cases e:j=k
  ·obtain⟨x,hx⟩:=Option.isSome_iff_exists.mp a;rw[AH e,e,hx,Ob,AH rfl]
  ·rw[AG e]
   cases Bf AD j with
   |none=>rfl
   |some x=>rw[Ob,AG e]
 ·rw[AG a];refine We k j y AD ?_;rw[O5] at a
  cases q:Bf AD k with
  |none=>rfl
  |some x=>rw[q] at a;exact(a rfl).elim
def Oo(AD:List (κ×V))(k:κ)(v:V):(putK AD k v).length<=AD.length+1:=by
 unfold putK;split
 ·rw[AL];lia
 ·rw[Au,CD,HZ];lia
def Du.Mw{o:Option V}{u:Option AA}(r:Du o u):o.isSome=u.isSome:=by
 cases o with
 |none=>cases u with
  |none=>rfl
  |some _=>exact(show False from r).elim
 |some _=>cases u with
  |none=>exact(show False from r).elim
  |some _=>rfl
def Du.getD{o:Option V}{u:Option AA}{d:V}{d':AA}(r:Du o u)(rd:RelV d d'):RelV (o.getD d) (u.getD d'):=by
 cases o with
 |none=>cases u with
  |none=>exact rd
  |some _=>exact(show False from r).elim
 |some _=>cases u with
  |none=>exact(show False from r).elim
  |some _=>exact r
def KV.val{AD:List (κ×V)}{vs:List (κ×AA)}(r:KV AD vs)(k:κ):Du (Bf AD k) (tE vs k):=by
 unfold KV at r
 induction r with
 |nil=>exact Cy
 |@cons p q ps qs h t ih=>
  obtain⟨h1,h2⟩:=h;by_cases e:p.1=k
  ·have e':q.1=k:=h1.symm.trans e;have b:tE (q::qs) k=some q.2:=by simp[tE,C9,e']
   rw[Gj e,b];exact h2
  ·have e':¬q.1=k:=fun z=>e (h1.trans z);have b:tE (q::qs) k=tE qs k:=by simp[tE,C9,e']
   rw[Gi e,b];exact ih
def KV.any{AD:List (κ×V)}{vs:List (κ×AA)}(r:KV AD vs)(k:κ):(AD.any fun kv=>decide (kv.1=k))=vs.any fun kv=>decide (kv.1=k):=by
 unfold KV at r
 induction r with
 |nil=>rfl
 |cons h t ih=>rw[Im,Im,ih,h.1]
def KV.Ub{AD:List (κ×V)}{vs:List (κ×AA)}(r:KV AD vs)(k:κ)(ry:RelV y u):
 KV (AD.map fun kv=>if kv.1=k then(kv.1,y) else kv) (vs.map fun kv=>if kv.1=k then(kv.1,u) else kv):=by
 unfold KV at r⊢
 induction r with
 |nil=>exact .nil
 |@cons p q ps qs h t ih=>
  rw[Av,Av];refine .cons ?_ ih;obtain⟨h1,h2⟩:=h;by_cases e:p.1=k
  ·rw[AH e,AH (h1.symm.trans e)];exact⟨h1,ry⟩
  ·rw[AG e,AG (fun z=>e (h1.trans z))];exact⟨h1,h2⟩
def KV.put{AD:List (κ×V)}{vs:List (κ×AA)}(r:KV AD vs)(k:κ)(ry:RelV y u):KV (putK AD k y) (stored vs k u):=by
 unfold putK stored;rw[r.any k];by_cases e:(vs.any fun kv=>decide (kv.1=k))=true
 ·rw[AH e,AH e];exact r.Ub k ry
 ·rw[AG e,AG e];exact Paired.snoc r ⟨rfl,ry⟩
def KV.drop{AD:List (κ×V)}{vs:List (κ×AA)}(r:KV AD vs)(k:κ):KV (Jd AD k) (without vs k):=by
 unfold KV at r⊢;unfold Jd without
 induction r with
 |nil=>exact .nil
 |@cons p q ps qs h t ih=>
  obtain⟨h1,h2⟩:=h;rw[List.filter_cons,List.filter_cons];by_cases e:p.1=k
  ·have a:¬decide (p.1≠k)=true:=by simp[e]
   have b:¬decide (q.1≠k)=true:=by simp[h1.symm.trans e]
   rw[AG a,AG b];exact ih
  ·have e':¬q.1=k:=fun z=>e (h1.trans z);have a:decide (p.1≠k)=true:=by simp[e]
   have b:decide (q.1≠k)=true:=by simp[e']
   rw[AH a,AH b];exact .cons ⟨h1,h2⟩ ih
def KV.keys{AD:List (κ×V)}{vs:List (κ×AA)}(r:KV AD vs):AD.map (·.1)=vs.map (·.1):=by
 unfold KV at r
 induction r with
 |nil=>rfl
 |cons h t ih=>rw[Av,Av,ih,h.1]
def KV.length{AD:List (κ×V)}{vs:List (κ×AA)}(r:KV AD vs):AD.length=vs.length:=JL r
def iU(AD:List (κ×V))(k:κ):(Jd AD k).length<=AD.length:=EA _ _
end
def Jg{k:Key}(r:RelV (kV k) u):(Ci P w).is k u=true:=by
 cases k with
 |inl i=>obtain⟨t,e⟩:=(show∃t,u=Value.int i t from r);subst e;exact dC P w i t
 |inr x=>obtain⟨t,e⟩:=(show∃t,u=Value.str x t from r);subst e;exact cv P w x t
def lT{a b:Key}(e:kV a=kV b):a=b:=by
 cases a with
 |inl i=>cases b with
  |inl j=>have e':V.int i=V.int j:=e;injection e' with e';rw[e']
  |inr y=>exact nomatch (show V.int i=V.str y from e)
 |inr x=>cases b with
  |inl j=>exact nomatch (show V.str x=V.int j from e)
  |inr y=>have e':V.str x=V.str y:=e;injection e' with e';rw[e']
def X1:∀{a b:List Key},a.map kV=b.map kV->a=b
 |[],[],_=>rfl
 |[],_::_,e=>by simp at e
 |_::_,[],e=>by simp at e
 |x::xs,y::ys,e=>by rw[Av,Av] at e;injection e with e1 e2;rw[lT e1,X1 e2]
def WB{P:qy}{w:rH}:∀{ks:List Key}{us:List AA},Vals (ks.map kV) us->ItemsAre (Ci P w) ks us
 |[],_,r=>by rw[LR] at r;cases r;exact .nil
 |k::ks,_,r=>by
  rw[Av] at r
  cases r with
  |cons h t=>exact .cons (Jg h) (WB t)
abbrev KT(H:Hp):List (List Key×V)->List (List Key×Ya×AA)->Prop:=Paired fun p q=>p.1=q.1/\H q.2.1=some (.tup (p.1.map kV))/\RelV p.2 q.2.2
def KT.val{AD:List (List Key×V)}{xs:List (List Key×Ya×AA)}(r:KT H AD xs)(k:List Key):Du (Bf AD k) ((uN xs k).map (·.2)):=by
 induction r with
 |nil=>exact Cy
 |@cons p q ps qs h t ih=>
  obtain⟨h1,_,h2⟩:=h;by_cases e:p.1=k
  ·have e':q.1=k:=h1.symm.trans e;have b:uN (q::qs) k=some q.2:=by simp[uN,C9,e']
   rw[Gj e,b];exact h2
  ·have e':¬q.1=k:=fun z=>e (h1.trans z);have b:uN (q::qs) k=uN qs k:=by simp[uN,C9,e']
   rw[Gi e,b];exact ih
def KT.Ub{AD:List (List Key×V)}{xs:List (List Key×Ya×AA)}(r:KT H AD xs)(k:List Key)(ry:RelV y u):
 KT H (AD.map fun kv=>if kv.1=k then(kv.1,y) else kv) (xs.map (putAt k u)):=by
 induction r with
 |nil=>exact .nil
 |@cons p q ps qs h t ih=>
  rw[Av,Av];refine .cons ?_ ih;obtain⟨h1,h2,h3⟩:=h;unfold putAt;by_cases e:p.1=k
  ·rw[AH e,AH (h1.symm.trans e)];exact⟨h1,h2,ry⟩
  ·rw[AG e,AG (fun z=>e (h1.trans z))];exact⟨h1,h2,h3⟩
def KT.put{AD:List (List Key×V)}{xs:List (List Key×Ya×AA)}(r:KT H AD xs)(k:List Key)(hb:H b=some (.tup (k.map kV)))(ry:RelV y u):
 KT H (putK AD k y) (storedH xs k b u):=by
 have e:(AD.any fun kv=>decide (kv.1=k))=(uN xs k).isSome:=by rw[O5,(r.val k).Mw,Option.isSome_map]
 unfold putK storedH;rw[e];by_cases q:(uN xs k).isSome=true
 ·rw[AH q,AH q];exact r.Ub k ry
 ·rw[AG q,AG q];exact Paired.snoc r ⟨rfl,hb,ry⟩
def KT.keeps{AD:List (List Key×V)}{xs:List (List Key×Ya×AA)}(r:KT H AD xs)(ht:∀b ys,H b=some (.tup ys)->H' b=some (.tup ys)):KT H' AD xs:=
 Paired.Ua r fun _ _ z=>⟨z.1,ht _ _ z.2.1,z.2.2⟩
def Zg{u:HO}(ok:By P w H h)(e:Rd H a u):BP P w H h a u:=e.ok ok
variable{AD:List (Key×V)}
def Jk(ok:By P w H h)(e:Rd H a (.dK AD)):AD.length<=sizeLine/\(a==rV)=false/\∃vs,KV AD vs/\h.DictOf (Ci P w) a vs:=
 show BP P w H h a (.dK AD) from Zg ok e
def Jc(ok:By P w H h)(e:H a=some (.dK AD)):AD.length<=sizeLine/\(a==rV)=false/\∃vs,KV AD vs/\h.DictOf (Ci P w) a vs:=Jk ok (.inl e)
def Lo{ks:List Key}(ok:By P w H h)(e:H a=some (.tup (ks.map kV))):(tJ (Ci P w)).is h ks a:=by obtain⟨_,AX,r,o,h1,h2,n,h3⟩:=(show BP P w H h a (.tup (ks.map kV)) from ok a _ e);exact⟨o,AX.toArray,n,h1,h2,h3,by simpa using WB r⟩
def Kh{AD:List (List Key×V)}(ok:By P w H h)(e:Rd H a (.dT AD)):AD.length<=sizeLine/\(a==rV)=false/\
 ∃xs,KT H AD xs/\h.DictOfH (tJ (Ci P w)) a xs:=by
 obtain⟨z,y,xs,r,o,es,ep,h1,h2,h3,h4,h5⟩:=(show BP P w H h a (.dT AD) from Zg ok e);refine⟨z,y,xs,r,o,es,ep,h1,h2,h3,h4,fun x hx=>?_,h5⟩;have all:∀{l:List (List Key×V)}{m:List (List Key×Ya×AA)},KT H l m->∀x∈m,(tJ (Ci P w)).is h x.1 x.2.1:=by
  intro l m q
  induction q with
  |nil=>intro x hx;exact nomatch hx
  |@cons p q ps qs hq t ih=>
   intro x hx;rcases Bn.mp hx with e|hx
   ·subst e;exact Lo ok (by rw[<-hq.1];exact hq.2.1)
   ·exact ih x hx
 exact all r x hx
def nB{AD:List (List Key×V)}(ok:By P w H h)(e:H a=some (.dT AD)):AD.length<=sizeLine/\(a==rV)=false/\
 ∃xs,KT H AD xs/\h.DictOfH (tJ (Ci P w)) a xs:=Kh ok (.inl e)
def BI(H:Hp)(a:Ya)(y:V)(r:Option V):Prop:=
 (∃AD k,Rd H a (.dK AD)/\y=kV k/\r=Bf AD k)\/∃AD k b,Rd H a (.dT AD)/\y=.ref b/\H b=some (.tup (k.map kV))/\r=Bf AD k
def Dr(H:Hp)(a:Ya)(y v:V)(H':Hp):Prop:=
 (∃AD k,H a=some (.dK AD)/\y=kV k/\AD.length<sizeLine/\H'=upd H a (.dK (putK AD k v)))\/
 ∃AD k b,H a=some (.dT AD)/\y=.ref b/\H b=some (.tup (k.map kV))/\AD.length<sizeLine/\H'=upd H a (.dT (putK AD k v))
def BI.kq{k:Key}(e:H a=some (.dK AD)):BI H a (kV k) (Bf AD k):=.inl ⟨AD,k,.inl e,rfl,rfl⟩
def BI.tq{AD:List (List Key×V)}{k:List Key}(e:H a=some (.dT AD))(eb:H b=some (.tup (k.map kV))):BI H a (.ref b) (Bf AD k):=.inr ⟨AD,k,b,.inl e,rfl,eb,rfl⟩
def Dr.kq{k:Key}(e:H a=some (.dK AD))(hl:AD.length<sizeLine):Dr H a (kV k) v (upd H a (.dK (putK AD k v))):=.inl ⟨AD,k,e,rfl,hl,rfl⟩
def Dr.tq{AD:List (List Key×V)}{k:List Key}(e:H a=some (.dT AD))(eb:H b=some (.tup (k.map kV)))(hl:AD.length<sizeLine):
 Dr H a (.ref b) v (upd H a (.dT (putK AD k v))):=.inr ⟨AD,k,b,e,rfl,eb,hl,rfl⟩
section
variable{r:AA}{o:Option V}
def Inv.big(I:Inv X pins σ H s):rV<s.heap.objs.size:=by have h:hY<s.heap.objs.size:=(I.mod.glob.keeps I.bk).lt;exact Nat.lt_trans (by decide) h
def eK(hu:A.units+1<rR)(I:Inv X pins σ H s)(g:BI H a y (some v))(ry:RelV y u)(h:∀w' s',Inv X pins σ H s'->RelV v w'->Q w' s'):
 cm (ax X.prog X.w) A (tN (.ref a) u) Q E s:=by
 rcases g with⟨AD,k,e,ey,l⟩|⟨AD,k,b,e,ey,eb,l⟩
 ·subst ey;obtain⟨z,hd,vs,rel,dd⟩:=Jk I.hok e;obtain⟨w',hw,rw'⟩:=Du.some_of (v:=v) (o:=tE vs k) (by rw[l];exact rel.val k);exact wpAny_getItem_of (Jg ry) dd.mapOf hw (h w' _ (I.tok _) rw')
 ·subst ey;cases(show u=Value.ref b from ry);obtain⟨z,hd,xs,rel,dd⟩:=Kh I.hok e;obtain⟨w',hw,rw'⟩:=Du.some_of (v:=v) (o:=(uN xs k).map (·.2)) (by rw[l];exact rel.val k);obtain⟨p,hp,hp2⟩:=OH.mp hw;refine wpAny_getItem_heap (OQ hu) (Lo I.hok eb) dd hp ?_;rw[hp2];exact h w' _ (I.tok _) rw'
def pW(hu:A.units+1<rR)(I:Inv X pins σ H s)(g:BI H a y o)(ry:RelV y u)(h:∀s',Inv X pins σ H s'->Q (.bool o.isSome) s'):
 cm (ax X.prog X.w) A (qz .In u (.ref a)) Q E s:=by
 rcases g with⟨AD,k,e,ey,l⟩|⟨AD,k,b,e,ey,eb,l⟩
 ·subst ey;obtain⟨z,hd,vs,rel,dd⟩:=Jk I.hok e;refine wpAny_in_of (Jg ry) hd dd.mapOf ?_;rw[<-(rel.val k).Mw,<-l];exact h _ (I.tok _)
 ·subst ey;cases(show u=Value.ref b from ry);obtain⟨z,hd,xs,rel,dd⟩:=Kh I.hok e;refine wpAny_in_heap (OQ hu) (Lo I.hok eb) hd dd ?_;have q:=(rel.val k).Mw;rw[Option.isSome_map] at q;rw[<-q,<-l];exact h _ (I.tok _)
def jy(hu:A.units+1<rR)(I:Inv X pins σ H s)(g:BI H a y o)(ry:RelV y u)(h:∀s',Inv X pins σ H s'->Q (.bool (!o.isSome)) s'):
 cm (ax X.prog X.w) A (qz .NotIn u (.ref a)) Q E s:=by
 rcases g with⟨AD,k,e,ey,l⟩|⟨AD,k,b,e,ey,eb,l⟩
 ·subst ey;obtain⟨z,hd,vs,rel,dd⟩:=Jk I.hok e;refine wpAny_notIn_of (Jg ry) hd dd.mapOf ?_;rw[<-(rel.val k).Mw,<-l];exact h _ (I.tok _)
 ·subst ey;cases(show u=Value.ref b from ry);obtain⟨z,hd,xs,rel,dd⟩:=Kh I.hok e;refine wpAny_notIn_heap (OQ hu) (Lo I.hok eb) hd dd ?_;have q:=(rel.val k).Mw;rw[Option.isSome_map] at q;rw[<-q,<-l];exact h _ (I.tok _)
def PL{ob:HO}(I:Inv X pins σ H s)(mu:OC (H a))(hs:Heap.SameBut a s.heap h')(he:∃q,h'.get? a=some q)(new:BP X.prog X.w (upd H a ob) h' a ob):
 Inv X pins σ (upd H a ob) {s with heap:=h',toks:=t'}:=
 I.write (x:=a) (e:=a) mu (.inl rfl) (fun b q hb z=>(hs.2 b hb).trans z) he new
def Te{vs:List (Key×AA)}(z:AD.length<=sizeLine)(hd:(a==rV)=false)(rel:KV AD vs)(dd:h'.DictOf (Ci P w) a vs):
 BP P w H' h' a (.dK AD):=⟨z,hd,vs,rel,dd⟩
def gH{Q:Unit->Yf->Prop}(hu:A.units+1<rR)(I:Inv X pins σ H s)(g:Dr H a y v H')(ry:RelV y u)(rv:RelV v r)(h:∀s',Inv X pins σ H' s'->Q () s'):
 cm (ax X.prog X.w) A (setItem (.ref a) u r) Q E s:=by
 rcases g with⟨AD,k,e,ey,l,eH⟩|⟨AD,k,b,e,ey,eb,l,eH⟩
 ·subst ey eH;obtain⟨z,hd,vs,rel,dd⟩:=Jc I.hok e;have hz:vs.length<=sizeLine:=by rw[<-rel.length];exact z
  have hl:(putK AD k v).length<=sizeLine:=by have:=Oo AD k v;lia
  refine wpAny_setItem_pairs (hsz:=hz) (Jg ry) dd fun h' dd' hs=>h _ ?_;have he:∃q,h'.get? a=some q:=let⟨q,_,_,hq,_⟩:=dd';⟨q,hq⟩;exact PL I (by rw[e];exact Cy) hs he (Te hl hd (rel.put k rv) dd')
 ·subst ey eH;cases(show u=Value.ref b from ry);obtain⟨z,hd,xs,rel,dd⟩:=nB I.hok e;have hz:xs.length<=sizeLine:=by rw[<-JL rel];exact z
  have hl:(putK AD k v).length<=sizeLine:=by have:=Oo AD k v;lia
  refine wpAny_setItem_heap (hsz:=hz) (OQ hu) (Lo I.hok eb) dd fun h' dd' hs=>h _ ?_;obtain⟨q,es,ep,hq,h2,h3,h4,_,h5⟩:=dd';refine PL I (by rw[e];exact Cy) hs ⟨q,hq⟩ ⟨hl,hd,_,(rel.put k eb rv).keeps fun c ys ec=>?_,q,es,ep,hq,h2,h3,h4,h5⟩;rw[AQ (Ca ec e (fun z=>nomatch z))];exact ec
end
section
variable{k:Key}
def nH{more:List AA}(I:Inv X pins σ H s)(e:H a=some (.dK AD))(ry:RelV (kV k) u)(l:Bf AD k=some v)(hm:more=[]\/∃x,more=[x])
 (h:∀w' s',Inv X pins σ (upd H a (.dK (Jd AD k))) s'->RelV v w'->Q w' s'):cm (ax X.prog X.w) A (call (.builtin "dict.pop") (.ref a::u::more)) Q E s:=by
 obtain⟨z,hd,vs,rel,dd⟩:=Jc I.hok e;obtain⟨w',hw,rw'⟩:=Du.some_of (v:=v) (o:=tE vs k) (by rw[<-l];exact rel.val k);have hp:(keyPart u).isSome=true:=by
  cases k with
  |inl i=>obtain⟨t,q⟩:=(show∃t,u=Value.int i t from ry);subst q;rfl
  |inr x=>obtain⟨t,q⟩:=(show∃t,u=Value.str x t from ry);subst q;rfl
 have ha:argsOk "dict.pop" ⟨.ref a::u::more,[]⟩:=by
  rcases hm with q|⟨x,q⟩
  ·subst q;exact PySem.F.args_dict_pop_2 _ _
  ·subst q;exact PySem.F.args_dict_pop_3 _ _ _
 refine Ol uX dd.typeIs PySem.F.entry_dict_pop ha (meets_dict_pop_there (Ci X.prog X.w) a (Jg ry) more hm hp)
  ⟨vs,w',dd,by rw[<-rel.length];exact z,hw,fun h' dd' hs=>h w' _ ?_ rw'⟩;have he:∃q,h'.get? a=some q:=let⟨q,_,_,hq,_⟩:=dd';⟨q,hq⟩;exact PL I (by rw[e];exact Cy) hs he (Te (BJ (iU AD k) z) hd (rel.drop k) dd')
def nZ(I:Inv X pins σ H s)(e:Rd H a (.dK AD))(h:∀t s',Inv X pins σ H s'->Q (.int AD.length t) s'):cm (ax X.prog X.w) A (call (.builtin "len") [.ref a]) Q E s:=by obtain⟨z,hd,vs,rel,dd⟩:=Jk I.hok e;refine call_len_dict hd dd (by rw[<-rel.length];rw[A9] at z;lia) ?_;rw[<-rel.length];exact h _ _ (I.tok _)
end
def aX(i:qv):Prop:=∀ov iv,tu i false ov iv=operate [ov,iv] (tN ov iv)
def jn{value slice:qv}{id:String}
 (hl:typeLookup (.type T) "__getitem__" =pure (some (.builtin id)))(hs:aX slice)
 (h:cm (ax prog w) A (rC value env) (fun o s₁=>cm (ax prog w) A (rC slice env) (fun i s₂=>s₂.TypeIs o T/\cm (ax prog w) A (tN o i) Q E s₂) E s₁) E s):
 cm (ax prog w) A (rC (.Subscript value slice pos) env) Q E s:=by
 refine Subscript_ (DA h (fun o s₁ h₁=>DA h₁ (fun i s₂ h₂=>?_) fun _ _ x=>x) fun _ _ x=>x);obtain⟨hT,h₂⟩:=h₂;unfold uQ;refine AJ ?_;rw[getitemInPython_of_ne hT.not_modules];refine AJ (wpAny_specialOf hT hl ?_);have fin:cm (ax prog w) A (tu slice false o i) (fun r s₃=>cm (ax prog w) A (letTemporaryGo value o r>>=fun _=>pure r) Q E s₃) E s₂:=by rw[hs o i];exact wpAny_operating (DA h₂ (fun r s₃ h₃=>AJ (wpAny_letTemporaryGo (Ae h₃))) fun _ _ x=>x)
 first
  |exact Ae (AJ fin)
  |exact AJ (Ae (AJ fin))
  |exact AJ fin
def cj{o:Option V}(I:Inv X pins σ H s)(g:BI H a y o):s.TypeIs (.ref a) "dict" :=by
 rcases g with⟨AD,k,e,_,_⟩|⟨AD,k,b,e,_,_,_⟩
 ·obtain⟨_,_,vs,_,dd⟩:=Jk I.hok e;exact dd.typeIs
 ·obtain⟨_,_,xs,_,dd⟩:=Kh I.hok e;exact dd.typeIs
def Je(td ty:TE):TE:=fun σ H Q=>td σ H fun x H1=>ty σ H1 fun y H2=>∃a v,x=.ref a/\BI H2 a y (some v)/\Q v H2
def pX(ty td:TE):TE:=fun σ H Q=>ty σ H fun y H1=>td σ H1 fun x H2=>∃a o,x=.ref a/\BI H2 a y o/\Q (.bl o.isSome) H2
def jT(ty td:TE):TE:=fun σ H Q=>ty σ H fun y H1=>td σ H1 fun x H2=>∃a o,x=.ref a/\BI H2 a y o/\Q (.bl (!o.isSome)) H2
def oM(td ty tv:TE):TS:=fun D σ H=>tv σ H fun v H1=>td σ H1 fun x H2=>ty σ H2 fun y H3=>∃a H4,x=.ref a/\Dr H3 a y v H4/\D.nx σ H4
section
variable{o i value:qv}{pos':Pos}{td ty tv:TE}
def DJ(hu:X.A.units+1<rR)(ho:PE X o td)(hi:PE X i ty)(hs:aX i):PE X (.Subscript o i pos) (Je td ty):=by intro pins s σ H Q I h;refine jn PySem.F.slot_dict_getitem.lookup hs (Ah (ho pins s σ H _ I h) fun u s1 ⟨x,H1,I1,rx,q1⟩=>Ah (hi pins s1 σ H1 _ I1 q1) fun iv s2 ⟨y,H2,I2,ry,a,v,ex,g,q2⟩=>?_);subst ex;obtain rfl:u=Value.ref a:=rx;exact⟨cj I2 g,eK hu I2 g ry fun w' s3 I3 rw'=>⟨v,H2,I3,rw',q2⟩⟩
def TK(hu:X.A.units+1<rR)(hi:PE X i ty)(ho:PE X o td):PC X .In i o (pX ty td):=by intro pins s σ H Q I h;refine Ah (hi pins s σ H _ I h) fun iv s1 ⟨y,H1,I1,ry,q1⟩=>Ah (ho pins s1 σ H1 _ I1 q1) fun u s2 ⟨x,H2,I2,rx,a,ov,ex,g,q2⟩=>?_;subst ex;obtain rfl:u=Value.ref a:=rx;exact pW hu I2 g ry fun s3 I3=>⟨.bl ov.isSome,H2,I3,rfl,q2⟩
def Oy(hu:X.A.units+1<rR)(hi:PE X i ty)(ho:PE X o td):PC X .NotIn i o (jT ty td):=by intro pins s σ H Q I h;refine Ah (hi pins s σ H _ I h) fun iv s1 ⟨y,H1,I1,ry,q1⟩=>Ah (ho pins s1 σ H1 _ I1 q1) fun u s2 ⟨x,H2,I2,rx,a,ov,ex,g,q2⟩=>?_;subst ex;obtain rfl:u=Value.ref a:=rx;exact jy hu I2 g ry fun s3 I3=>⟨.bl (!ov.isSome),H2,I3,rfl,q2⟩
def Fj(hu:X.A.units+1<rR)(ho:PE X o td)(hi:PE X i ty)(hv:PE X value tv)(hs:tK value (some (.Subscript o i pos')) pos.line X.env=pure false):
 PS X (.Assign [.Subscript o i pos'] value pos) (oM td ty tv):=by
 intro pins s σ H D I h;refine wpAny_Assign_Subscript (Ah (hv pins s σ H _ I h) fun r s1 ⟨v,H1,I1,rv,q1⟩=>Ah (ho pins s1 σ H1 _ I1 q1) fun u s2 ⟨x,H2,I2,rx,q2⟩=>Ah (hi pins s2 σ H2 _ I2 q2) fun iv s3 ⟨y,H3,I3,ry,a,H4,ex,g,q3⟩=>?_) hs;subst ex;obtain rfl:u=Value.ref a:=rx;exact gH hu I3 g ry rv fun s4 I4=>⟨σ,H4,I4,q3⟩
end
def W9(h:rE)(hb:rV<h.objs.size):BP P w H (h.push {cls:=.type "dict",data:=.dict #[]}) h.objs.size (.dK []):=
 ⟨CN _,ON.mpr (DK (BN hb)),[],.nil,Heap.DictOf.new h⟩
def lh:TE:=fun _ H Q=>∀p,H p=none->Q (.ref p) (upd H p (.dK []))
def O4{X:Cx}{pos:Pos}:PE X (.Dict [] [] pos) lh:=fun pins s σ H Q I h=>wpAny_Dict_empty ⟨.ref s.heap.objs.size,_,I.laid (a:=s.heap.objs.size) (o:=.dK []) (t':=s.toks) (fun _ _ q=>BB _ q) (Ad _) (W9 s.heap I.big),rfl,h _ (I.hok.fresh (Ad _))⟩
def TY:List (TE×TE)->St->Hp->(List (V×V)->Hp->Prop)->Prop
 |[],_,H,Q=>Q [] H
 |(tk,tv)::r,σ,H,Q=>tk σ H fun x H1=>tv σ H1 fun y H2=>TY r σ H2 fun ps H3=>Q ((x,y)::ps) H3
abbrev VV:List (V×V)->List (AA×AA)->Prop:=Paired fun p q=>RelV p.1 q.1/\RelV p.2 q.2
def N3(X:Cx)(pos:Pos)(keys:List (Option qv))(values:List qv)(trs:List (TE×TE)):Prop:=
 ∀(pins:List (Ya×Obj))(s:Yf)(σ:St)(H:Hp)(Q:List (V×V)->Hp->Prop),Inv X pins σ H s->TY trs σ H Q->
  cm (ax X.prog X.w) X.A (evalPairs (pairTrees keys values X.env pos)) (fun vs s'=>∃ps H',Inv X pins σ H' s'/\VV ps vs/\Q ps H') X.xe s
def kS{X:Cx}{pos:Pos}:N3 X pos [] [] []:=fun pins s σ H Q I h=>pairTrees_nil_walk ⟨[],H,I,.nil,h⟩
def SJ{X:Cx}{pos:Pos}{k v:qv}{ks:List (Option qv)}{vs:List qv}{tk tv:TE}{trs:List (TE×TE)}(hk:PE X k tk)(hv:PE X v tv)(hr:N3 X pos ks vs trs):
 N3 X pos (some k::ks) (v::vs) ((tk,tv)::trs):=fun pins s σ H Q I h=>
 pairTrees_cons_walk (Ah (hk pins s σ H _ I h) fun u s1 ⟨x,H1,I1,rx,q1⟩=>Ah (hv pins s1 σ H1 _ I1 q1) fun w2 s2 ⟨y,H2,I2,ry,q2⟩=>Ah (hr pins s2 σ H2 _ I2 q2) fun ws s3 ⟨ps,H3,I3,rel,q3⟩=>⟨(x,y)::ps,H3,I3,.cons ⟨rx,ry⟩ rel,q3⟩)
def NY(AD more:List (Key×V)):List (Key×V):=more.foldl (fun acc kv=>putK acc kv.1 kv.2) AD
def KV.merge:∀{more:List (Key×V)}{rs:List (Key×AA)}{AD:List (Key×V)}{vs:List (Key×AA)},KV more rs->KV AD vs->KV (NY AD more) (merged vs rs):=by
 intro more rs AD vs r;unfold KV at r
 induction r generalizing AD vs with
 |nil=>intro q;exact q
 |@cons p q ps qs h t ih=>
  intro r0;have e:KV (putK AD p.1 p.2) (stored vs q.1 q.2):=by have:=r0.put p.1 h.2;rw[<-h.1];exact this
  exact ih e
def Vh:∀(more AD:List (Key×V)),(NY AD more).length<=AD.length+more.length
 |[],AD=>by show AD.length<=AD.length+0;lia
 |p::r,AD=>by have h1:=Vh r (putK AD p.1 p.2);have h2:=Oo AD p.1 p.2;show(NY (putK AD p.1 p.2) r).length<=_;rw[CD];lia
def Vu{P:qy}{w:rH}:∀{AD:List (Key×V)}{ws:List (AA×AA)},VV (AD.map fun kv=>(kV kv.1,kv.2)) ws->∃rs,Carries (Ci P w) ws rs/\KV AD rs
 |[],_,r=>by rw[LR] at r;cases r;exact⟨[],Cy,.nil⟩
 |p::AD,_,r=>by
  rw[Av] at r
  cases r with
  |@cons a b as bs h t=>obtain⟨rs,c,q⟩:=Vu (P:=P) (w:=w) t;obtain⟨b1,b2⟩:=b;exact⟨(p.1,b2)::rs,⟨Jg h.1,rfl,c⟩,.cons ⟨rfl,h.2⟩ q⟩
def Z2(trs:List (TE×TE)):TE:=fun σ H Q=>∀p,H p=none->TY trs σ (upd H p (.dK [])) fun ps H2=>H2 p=some (.dK [])/\∃AD:List (Key×V),ps=AD.map (fun kv=>(kV kv.1,kv.2))/\AD.length<=15/\Q (.ref p) (upd H2 p (.dK (NY [] AD)))
def jW{X:Cx}{pos:Pos}{keys:List (Option qv)}{values:List qv}{trs:List (TE×TE)}(h:N3 X pos keys values trs)(hall:keys.all (·.isSome)=true)(hl:keys.length=values.length)(h0:keys≠[])
 (h15:keys.length<=15):PE X (.Dict keys values pos) (Z2 trs):=by
 intro pins s σ H Q I q;have hn:=I.hok.fresh (Ad s.heap.objs.size);have I1:=I.laid (a:=s.heap.objs.size) (o:=.dK []) (h':=s.heap.push {cls:=.type "dict",data:=.dict #[]}) (t':=s.toks) (fun _ _ q=>BB _ q) (Ad _) (W9 s.heap I.big);refine wpAny_Dict_walk (knd:=Ci X.prog X.w) hall hl h0 h15 (Ah (h pins _ σ _ _ I1 (q _ hn)) fun ws s2 ⟨ps,H2,I2,rel,e,AD,ep,lk,q2⟩=>?_);subst ep;obtain⟨rs,c,rk⟩:=Vu (P:=X.prog) (w:=X.w) rel;obtain⟨z,hd,vs0,r0,dd⟩:=Jc I2.hok e;cases r0;refine⟨rs,c,dd,fun h' dd' hs=>⟨.ref s.heap.objs.size,_,?_,rfl,q2⟩⟩;have hz:(NY [] AD).length<=sizeLine:=by have h1:=Vh AD [];rw[HZ] at h1;rw[A9];lia
 have he:∃q,h'.get? s.heap.objs.size=some q:=let⟨q,_,_,hq,_⟩:=dd';⟨q,hq⟩;exact PL I2 (by rw[e];exact Cy) hs he (Te hz hd (rk.merge .nil) dd')
structure M1(X:Cx)(o:qv)(m:Str)(apos:Pos)(e:qv)(cpos:Pos):Prop where
 base:rK o m X.env (rC o X.env)=rC o X.env
 Dg:((rN cpos (hX [e] X.env)).all (fun x=> !x.1)&&(sY cpos (rW [] X.env)).all (fun x=>x.1.isSome)
  &&decide (([e]:List qv).length+([]:List sd).length+(if([]:List sd).isEmpty then 0 else 1)<30))=true
 line:(apos.endLine==cpos.line)=true
 trees:rN cpos (hX [e] X.env)=[(false,rC e X.env)]
structure M2(X:Cx)(o:qv)(m:Str)(apos:Pos)(e f:qv)(cpos:Pos):Prop where
 base:rK o m X.env (rC o X.env)=rC o X.env
 Dg:((rN cpos (hX [e,f] X.env)).all (fun x=> !x.1)&&(sY cpos (rW [] X.env)).all (fun x=>x.1.isSome)
  &&decide (([e,f]:List qv).length+([]:List sd).length+(if([]:List sd).isEmpty then 0 else 1)<30))=true
 line:(apos.endLine==cpos.line)=true
 trees:rN cpos (hX [e,f] X.env)=[(false,rC e X.env),(false,rC f X.env)]
def U5(H:Hp)(a:Ya):Prop:=(∃AD,Rd H a (.dK AD))\/∃AD,Rd H a (.dT AD)
def Yw(I:Inv X pins σ H s)(d:U5 H a):
 s.TypeIs (.ref a) "dict" /\(∀b,Value.ref a=.ref b->∃ob,s.heap.get? b=some ob/\ob.dict=none)/\(a==rV)=false:=by
 rcases d with⟨AD,e⟩|⟨AD,e⟩
 ·obtain⟨_,hd,vs,_,dd⟩:=Jk I.hok e;refine⟨dd.typeIs,fun b q=>?_,hd⟩;cases q;obtain⟨ob,_,_,h1,h2,_⟩:=dd;exact⟨ob,h1,h2.2.1⟩
 ·obtain⟨_,hd,xs,_,dd⟩:=Kh I.hok e;refine⟨dd.typeIs,fun b q=>?_,hd⟩;cases q;obtain⟨ob,_,_,h1,h2,_⟩:=dd;exact⟨ob,h1,h2.2.1⟩
section
variable{d:V}{r:AA}{o:Option V}
def lS(hu:A.units+1<rR)(I:Inv X pins σ H s)(g:BI H a y o)(ry:RelV y u)(rd:RelV d r)(h:∀w' s',Inv X pins σ H s'->RelV (o.getD d) w'->Q w' s'):
 cm (ax X.prog X.w) A (call (.builtin "dict.get") [.ref a,u,r]) Q E s:=by
 rcases g with⟨AD,k,e,ey,l⟩|⟨AD,k,b,e,ey,eb,l⟩
 ·subst ey;obtain⟨z,hd,vs,rel,dd⟩:=Jk I.hok e;refine Ol VO dd.typeIs uY (uZ _ _ _) (meets_dict_get_default (Ci X.prog X.w) a (Jg ry) hd r) ⟨_,dd.mapOf,h _ _ (I.tok _) ?_⟩;rw[l];exact(rel.val k).getD rd
 ·subst ey;cases(show u=Value.ref b from ry);obtain⟨z,hd,xs,rel,dd⟩:=Kh I.hok e;refine Ol VO dd.typeIs uY (uZ _ _ _) (meetsH_dict_get_default (tJ (Ci X.prog X.w)) a b hd r) ⟨OQ hu,k,xs,Lo I.hok eb,dd,h _ _ (I.tok _) ?_⟩;rw[l];exact(rel.val k).getD rd
end
def lF(td ty tx:TE):TE:=fun σ H Q=>td σ H fun x H1=>∃a,x=.ref a/\U5 H1 a/\ty σ H1 fun y H2=>tx σ H2 fun z H3=>∃o,BI H3 a y o/\Q (o.getD z) H3
def lU(td ty:TE):TE:=fun σ H Q=>td σ H fun x H1=>∃a,x=.ref a/\U5 H1 a/\ty σ H1 fun y H2=>∃AD k v,H2 a=some (.dK AD)/\y=kV k/\Bf AD k=some v/\Q v (upd H2 a (.dK (Jd AD k)))
section
variable{o f:qv}{td ty tx:TE}
def gz(hu:X.A.units+1<rR)(ho:PE X o td)(he:PE X e ty)(hf:PE X f tx)(m:M2 X o "get" apos e f cpos):PE X (.Call (.Attribute o "get" apos) [e,f] [] cpos) (lF td ty tx):=by
 intro pins s σ H Q I h;refine wpAny_Call_method m.base m.Dg m.line MN VO PySem.F.type_dict_get (Ah (ho pins s σ H _ I h) fun u s1 ⟨x,H1,I1,rx,a,ex,d,q1⟩=>?_);subst ex;obtain rfl:u=Value.ref a:=rx;obtain⟨t1,t2,_⟩:=Yw I1 d;refine⟨t1,t2,?_⟩;rw[m.trees];refine Qo rfl (VR (Q5 (Ah (he pins s1 σ H1 _ I1 q1) fun iv s2 ⟨y,H2,I2,ry,q2⟩=>Q5 (Ah (hf pins s2 σ H2 _ I2 q2) fun fv s3 ⟨z,H3,I3,rz,ov,g,q3⟩=>Calls.spliced_nil ?_))));exact lS hu I3 g ry rz fun w' s4 I4 rw'=>⟨_,H3,I4,rw',q3⟩
def JP(ho:PE X o td)(he:PE X e ty)(m:M1 X o "pop" apos e cpos):PE X (.Call (.Attribute o "pop" apos) [e] [] cpos) (lU td ty):=by intro pins s σ H Q I h;refine wpAny_Call_method m.base m.Dg m.line MN uX PySem.F.type_dict_pop (Ah (ho pins s σ H _ I h) fun u s1 ⟨x,H1,I1,rx,a,ex,d,q1⟩=>?_);subst ex;obtain rfl:u=Value.ref a:=rx;obtain⟨t1,t2,_⟩:=Yw I1 d;refine⟨t1,t2,?_⟩;rw[m.trees];refine Qo rfl (VR (Q5 (Ah (he pins s1 σ H1 _ I1 q1) fun iv s2 ⟨y,H2,I2,ry,AD,k,v,ea,ey,l,q2⟩=>Calls.spliced_nil ?_)));subst ey;exact nH I2 ea ry l (.inl rfl) fun w' s3 I3 rw'=>⟨v,_,I3,rw',q2⟩
end
section
variable{C:List α->Prop}{l:List α}
def len0(h:C [])(e:l.length=0):C l:=by
 cases l with
 |nil=>exact h
 |cons=>cases e
def QP{n:Nat}(h:∀a (r:List α),r.length=n->C (a::r))(e:l.length=n+1):C l:=by
 cases l with
 |nil=>cases e
 |cons a r=>exact h a r (Nat.succ.inj e)
def EJ(h:∀a,C [a])(e:l.length=1):C l:=QP (fun a _=>len0 (C:=fun r=>C (a::r)) (h a)) e
def Ly(h:∀a b,C [a,b])(e:l.length=2):C l:=QP (fun a _=>EJ (C:=fun r=>C (a::r)) (h a)) e
def Ue(h:∀a b c,C [a,b,c])(e:l.length=3):C l:=QP (fun a _=>Ly (C:=fun r=>C (a::r)) (h a)) e
def US(h:∀a b c d,C [a,b,c,d])(e:l.length=4):C l:=QP (fun a _=>Ue (C:=fun r=>C (a::r)) (h a)) e
def nL(h:C [])(h1:∀a,C [a])(e:l.length<2):C l:=by
 cases l with
 |nil=>exact h
 |cons a r=>exact len0 (C:=fun r=>C (a::r)) (h1 a) (Nat.lt_one_iff.mp (Nat.lt_of_succ_lt_succ e))
def qA(h:C [])(l:List α)(e:l.length=0):C l:=len0 h e
def all1(h:∀a,C [a])(l:List α)(e:l.length=1):C l:=EJ h e
def all2(h:∀a b,C [a,b])(l:List α)(e:l.length=2):C l:=Ly h e
def pO(h:∀a b c,C [a,b,c])(l:List α)(e:l.length=3):C l:=Ue h e
def pJ(h:∀a b c d,C [a,b,c,d])(l:List α)(e:l.length=4):C l:=US h e
end
variable{ifs:List qv}
def cg{elt target iter:qv}{it acc:AA}(J:Nat->Yf->Prop)
 (turn:∀n s,J n s->cm (ax prog w) A (rS it) (fun r s1=>match r with
  |none=>R (.ok .next) s1
  |some v=>cm (ax prog w) A (sU target it v) (fun _ s1'=>cm (ax prog w) A (uO target env v) (fun _ s2=>
   cm (ax prog w) A (forIn ifs true fun c r=>if r=true then do let ok<-isTrue c env (rC c env);pure (ForInStep.yield ok) else pure (ForInStep.yield r)) (fun ok s3=>
    if ok=true then cm (ax prog w) A (rC elt env) (fun x s4=>cm (ax prog w) A (call (.builtin "list.append") [acc,x]) (fun _ s5=>∃m,m<n/\J m s5) (fun _ _=>False) s4) (fun _ _=>False) s3
    else∃m,m<n/\J m s3) (fun _ _=>False) s2) (fun _ _=>False) s1') (fun _ _=>False) s1) (fun _ _=>False) s)
 (n:Nat)(h:J n s):rq (ax prog w) A (.compLoop (.ListComp elt [⟨target,iter,ifs,0⟩] scope pos) 0 it acc env) R s:=by
 refine codeAny_loop rfl J (fun n s hJ=>?_) n h;show cm (ax prog w) A ((compTurn (.ListComp elt [⟨target,iter,ifs,0⟩] scope pos) 0 it acc env).onRaise (fun x=>do noteFrame x env;theTreesLotGoes x)) _ _ s;refine wpAny_noted ?_;rw[compTurn_list];refine AJ (Og (AJ (DA (turn n s hJ) (fun r s1 h1=>?_) fun _ _ q=>q.elim)))
 cases r with
 |none=>exact Ae h1
 |some v=>
  refine AJ (DA h1 (fun _ s1' h0=>?_) fun _ _ q=>q.elim);refine AJ (DA h0 (fun _ s2 h2=>?_) fun _ _ q=>q.elim);refine AJ (DA h2 (fun ok s3 h3=>?_) fun _ _ q=>q.elim)
  cases ok with
  |false=>exact Ae ⟨rfl,h3⟩
  |true=>refine AJ (AJ (DA h3 (fun x s4 h4=>?_) fun _ _ q=>q.elim));refine AJ (DA h4 (fun _ s5 h5=>?_) fun _ _ q=>q.elim);exact Ae (Ae ⟨rfl,h5⟩)
noncomputable def EK(ix:List Nat)(σ:St):St:=ix.map fun j=>(σ[j]?).join
noncomputable def Eb(X:Cx)(Nc:List Str)(scope:tV)(cl:List (Str×Ya))(C:Ya)(s₀:Yf)(H₀:Hp)(fp:List Ya)(pins:List (Ya×Obj)):Cx:=
 {X with N:=Nc,s₀:=s₀,H₀:=H₀,env:=compEnvC scope cl C X.env,outer:=X.stack,stack:=X.stack,ex:=fp,fn:=fun _=>false,pn:=X.pn++pins,xe:=fun _ _=>False}
structure Kd(X:Cx)(ts cap:List Str)(ix:List Nat)(scope:tV)(cl:List (Str×Ya)):Prop where
 calm:X.calm=true
 pY:closureFor scope X.env=pure cl
 cell:∀y∈scope.names,y.2≠.cell
 kind:scope.kind=.function
 names:∀y∈scope.names,y.2=.local->scope.names.lookup y.1=some .local
 sub:∀y c,cl.lookup y=some c->X.env.cells.lookup y=some c
 has:∀y,((sV scope X.env).names.lookup y=some .cell\/(sV scope X.env).names.lookup y=some .free)->∃c,cl.lookup y=some c
 len:ix.length=cap.length
 qa:∀(i:Nat)(y:Str)(j:Nat),cap[i]? =some y->ix[i]? =some j->X.N[j]? =some y
 Uv:∀y∈cap,QS X.env.scope y/\X.env.kindOf y≠some .local/\((sV scope X.env).names.lookup y=some .cell\/(sV scope X.env).names.lookup y=some .free)
def JB(ts:List Str)(ix:List Nat)(σ:St)(σ2:St):Prop:=∃a:St,a.length=ts.length/\σ2=a++EK ix σ
def Lr(ts:List Str)(ix:List Nat)(σ:St)(J:It)(g:TG)(ti:TT)(te:TE)(D:Ya)(Q:VK)(H1:Hp):Prop:=∃W:Nat->Nat->Hp->Prop,(∃m,W 0 m (upd H1 D (.lst [])))/\∀i m H,W i m H->
 (J.stop i H/\Q (.ref D) H)\/(J.go i H/\∃N:Hp->Prop,(∀H',N H'->∃m',m'<m/\W (i+1) m' H')/\∀x H',J.Ju i H x H'->g x (ts.map (fun _=>none)++EK ix σ) H' fun σ2 H2=>JB ts ix σ σ2/\ti σ2 H2 fun b H3=>if b=true then te σ2 H3 fun y H4=>∃ys,H4 D=some (.lst ys)/\ys.length<sizeLine/\N (upd H4 D (.lst (ys++[y]))) else N H3)
def T6(ts:List Str)(ix:List Nat)(wi:TI)(g:TG)(ti:TT)(te:TE):TE:=fun σ H Q=>wi σ H fun J H1=>∀D,H1 D=none->Lr ts ix σ J g ti te D Q H1
variable{ts:List Str}{ix:List Nat}{ti:TT}{D:Ya}
def FA{xs:List V}{Q:VK}(Pv:Nat->Hp->Prop)(h0:Pv 0 (upd H1 D (.lst [])))(hl:∀i H,i<=xs.length->Pv i H->AK K H a xs)
 (hs:∀i x H,xs[i]? =some x->Pv i H->g x (ts.map (fun _=>none)++EK ix σ) H fun σ2 H2=>JB ts ix σ σ2/\ti σ2 H2 fun b H3=>if b=true then te σ2 H3 fun y H4=>∃ys,H4 D=some (.lst ys)/\ys.length<sizeLine/\Pv (i+1) (upd H4 D (.lst (ys++[y]))) else Pv (i+1) H3)
 (hd:∀H,Pv xs.length H->Q (.ref D) H):Lr ts ix σ (Hx K a) g ti te D Q H1:=by
 refine⟨fun i m H=>m=xs.length-i/\i<=xs.length/\Pv i H,⟨xs.length,by simp,CN _,h0⟩,?_⟩;rintro i m H ⟨rfl,hi,p⟩;have q:=hl i H hi p;by_cases h1:i<xs.length
 ·refine .inr ⟨⟨xs,xs[i],q,by simp[h1]⟩,Pv (i+1),fun H' p'=>⟨xs.length-(i+1),by lia,rfl,h1,p'⟩,fun x H' y=>?_⟩;obtain⟨e,y⟩:=y;subst e;exact hs i x _ (y xs q) p
 ·obtain rfl:i=xs.length:=by lia
  exact .inl ⟨⟨xs,q,Ad _⟩,hd H p⟩
def E1:JB [x] ix σ ((([x]:List Str).map (fun _=>(none:Option V))++EK ix σ).set 0 (some v)):=⟨[some v],rfl,rfl⟩
def OB(X:Cx)(ifs:List qv)(ti:TT):Prop:=
 ∀(h0:List (Ya×Obj))(s:Yf)(σ:St)(H:Hp)(Q:Bool->Hp->Prop),Inv X h0 σ H s->ti σ H Q->
  cm (ax X.prog X.w) X.A (forIn ifs true fun c r=>if r=true then do let ok<-isTrue c X.env (rC c X.env);pure (ForInStep.yield ok) else pure (ForInStep.yield r)) (TP X h0 σ Q) X.xe s
def qH:TT:=fun _ H Q=>Q true H
def GC:OB X [] qH:=fun _ _ _ H _ I h=>wpAny_tests_nil ⟨H,I,h⟩
def KR{t:TT}(h:PT X c t):OB X [c] t:=fun h0 s σ H Q I q=>wpAny_tests_one (h h0 s σ H Q I q)
section
variable{cap:List Str}{cl:List (Str×Ya)}
def iO(h:(EK ix σ)[i]? =some (some v)):∃j,ix[i]? =some j/\σ[j]? =some (some v):=by
 unfold EK at h;rw[Az] at h
 cases e:ix[i]?with
 |none=>rw[e] at h;cases h
 |some j=>
  rw[e] at h;have h':(σ[j]?).join=some v:=Af h;refine⟨j,rfl,?_⟩
  cases e2:σ[j]?with
  |none=>rw[e2] at h';cases h'
  |some o=>rw[e2] at h';have h2:o=some v:=h';rw[h2]
def Inv.block{tk:Nat}(ok:Kd X ts cap ix scope cl)(I:Inv X pins σ H s)(hf:∀b∈fp,GL X pins H b)(hfs:∀b∈fp,b<s.heap.objs.size)
 (hn:h'.Ns s.heap.objs.size (fun _=>none))(hk:∀b o,s.heap.get? b=some o->h'.get? b=some o):
 Inv (Eb X (ts++cap) scope cl s.heap.objs.size s H fp pins) [] (ts.map (fun _=>none)++EK ix σ) H {s with heap:=h',toks:=tk}:=by
 have nC:∀y c,cl.lookup y=some c->c<s.heap.objs.size:=fun y c e=>by obtain⟨v,z⟩:=I.cell y c (ok.sub y c e);exact z.lt
 refine⟨⟨I.ok.mod,?_,I.ok.glob,I.ok.blt,Ad _,?_,?_,?_,I.ok.hd,I.ok.frames,.inl rfl,?_,?_,?_,?_,?_,I.stack,I.PU⟩,rfl,I.bare,Un.kept hk,⟨_,hn,?_⟩,?_,I.hok.fresh (Ad _),?_,?_,I.hok.kept hk,?_⟩
 ·exact ok.kind
 ·exact fun x y c h1 h2=>I.ok.inj x y c (ok.sub x c h1) (ok.sub y c h2)
 ·exact fun y hy=>ok.has y hy
 ·exact fun y c hy=>absurd hy (by simp[Eb])
 ·intro b hb;exact⟨BN (hfs b hb),fun y c e=>(hf b hb).2.2.2.2.1 y c (ok.sub y c e)⟩
 ·exact fun b o e=>I.bs b o e
 ·exact BJ I.ok.HU I.sz
 ·intro b o e hb;rcases(hf b hb).2.2.2.1 with z|z
  ·exact I.ok.Kw b o e z
  ·exact absurd (C8 (A7 e) (BJ I.ok.HU z)) (Mn _)
 ·intro b hb hz;rcases Bn.mp (I.NX b hz) with z|z
  ·exact(hf b hb).2.1 z
  ·exact(hf b hb).2.2.1 z
 ·intro i x v e1 e2 e3;have h0:(ts++cap)[i]? =some x:=e1;by_cases hi:i<ts.length
  ·rw[C3 (by simpa using hi),Az] at e2
   cases e:ts[i]?with
   |none=>rw[e] at e2;cases e2
   |some y=>rw[e] at e2;cases e2
  ·rw[Cn (by simpa using hi),AL] at e2;rw[Cn (by lia)] at h0;obtain⟨j,hj,hv⟩:=iO e2;have hm:x∈cap:=Br h0;obtain⟨m,h5,hl⟩:=I.loc;obtain⟨Uv,nl,fr⟩:=ok.Uv x hm;obtain⟨u,r,l⟩:=hl j x v (ok.qa _ x j h0 hj) hv Uv;refine⟨u,r,?_⟩;rcases l with⟨k,_⟩|⟨_,c,hc,z⟩
   ·exact absurd k nl
   ·obtain⟨c',h3⟩:=ok.has x fr;have e:=ok.sub x c' h3;rw[hc] at e;cases e;obtain⟨o,ho,hd⟩:=z;exact .inr ⟨fr,c,h3,o,hk c o ho,hd⟩
 ·intro x c e;obtain⟨v,o,ho,hd⟩:=I.cell x c (ok.sub x c e);exact⟨v,o,hk c o ho,hd⟩
 ·intro x c e;exact I.DP x c (ok.sub x c e)
 ·intro p hp;have h4:p∈X.pn++pins:=by simpa[Eb] using hp
  obtain⟨e,n,ne,nf,d⟩:=I.pin p h4;refine⟨hk _ _ e,n,BN (A7 e),fun hz=>?_,d⟩;rcases Bn.mp (I.NX p.1 hz) with z|z
  ·exact ne z
  ·exact nf z
 ·show(ts.map (fun _=>none)++EK ix σ).length=(ts++cap).length;rw[Au,AL,Au];unfold EK;rw[AL,ok.len]
def Inv.YC{Nc:List Str}{σc:St}{s':Yf}{h'':rE}{pc:List (Ya×Obj)}(I:Inv X pins σ H s)(hf:∀b∈fp,GL X pins H b)
 (B:Inv (Eb X Nc scope cl s.heap.objs.size s H fp pins) pc σc H' s')(hs:Heap.SameBut s.heap.objs.size s'.heap h''):Inv X pins σ H' {s' with heap:=h''}:=by
 have e1:(Eb X Nc scope cl s.heap.objs.size s H fp pins).fs=Ct X.stack:=rfl;have B0:Un (Ct X.stack) fp H H' s.heap s'.heap:=B.base;have nz:∀b o,s.heap.get? b=some o->b≠s.heap.objs.size:=fun b o e=>BN (A7 e);have fr:H' s.heap.objs.size=none:=B.free;refine I.P1 (ch:=fp) (s':={s' with heap:=h''}) (show s'.os=s.os from B.os) ⟨fun b o e n hb hx=>?_,fun b o e n hb hx=>?_,B0.free,fun b o e hx=>?_,B0.FQ,B0.Ee,B0.FN⟩ (fun b u e=>?_) B.bare (fun b hb=>?_)
 ·exact(hs.2 b (nz b o e)).trans (B0.keep b o e n hb hx)
 ·obtain⟨sl,q⟩:=B0.slot b o e n hb hx;exact⟨sl,(hs.2 b (nz b o e)).trans q⟩
 ·obtain⟨o',q⟩:=B0.there b o e hx;exact⟨o',(hs.2 b (nz b o e)).trans q⟩
 ·refine(B.hok b u e).Eu (fun c v hc q=>(hs.2 c ?_).trans q) (fun _ q=>q) fun _ _ q=>q;rcases hc with z|z
  ·subst z;exact fun z=>by rw[z,fr] at e;cases e
  ·exact fun z'=>by rw[z',fr] at z;cases z
 ·obtain⟨_,f1,_,f3,f4,f5⟩:=hf b hb;exact⟨f3,f1,f4,f5⟩
end
variable{use:Option (AA->Sem Unit)}
section
variable{cap:List Str}{cl:List (Str×Ya)}
def WE{elt iter:qv}{pos2:Pos}{wi:TI}{R:AA->Yf->Prop}{Q:VK}(ok:Kd X ts cap ix scope cl)(hi:PI X tg iter wi)
 (hg:∀C s₀ H₀ fp pins,PG (Eb X (ts++cap) scope cl C s₀ H₀ fp pins) tg g)(ht:∀C s₀ H₀ fp pins,OB (Eb X (ts++cap) scope cl C s₀ H₀ fp pins) ifs ti)
 (he:∀C s₀ H₀ fp pins,PE (Eb X (ts++cap) scope cl C s₀ H₀ fp pins) elt te)(hs:∀x,foldedSetIterable iter X.env x=pure x)(I:Inv X pins σ H s)(h:T6 ts ix wi g ti te σ H Q)
 (fin:∀(D:Ya)(H3 H4:Hp)(s3 s5:Yf)(fp:List Ya),Inv X pins σ H3 s3->(∀b∈fp,GL X pins H3 b)->Inv (Eb X (ts++cap) scope cl s3.heap.objs.size s3 H3 fp pins) [] (ts.map (fun _=>none)++EK ix σ) H4 s5->Q (.ref D) H4->
  compPost (ax X.prog X.w) X.A X.xe use R (.ref D) s3.heap.objs.size (.ok .next) s5):
 cm (ax X.prog X.w) X.A (comprehension (.ListComp elt [⟨tg,iter,ifs,0⟩] scope pos) scope X.env pos2 (newList []) false (rC iter X.env) use) R X.xe s:=by
 refine wpAny_comprehension_free (use:=use) rfl hs ok.pY ok.kind ok.names (Ah (hi pins s σ H _ I h) fun v s1 h1=>Ah h1 fun q5 s2 h2=>?_);obtain⟨it,fp,tn,J,H2,e,I2,T,e6,f2,hW⟩:=h2;subst e;refine Ih (wpAny_newFunctionEnv ok.cell (by intro y hy;simp at hy) (fun h1 s0 e9=>?_) ok.kind);dsimp only at s0 e9⊢;have nD:H2 s2.heap.objs.size=none:=I2.hok.fresh (Ad _);obtain⟨W,⟨m0,w0⟩,h7⟩:=hW s2.heap.objs.size nD;have I3:=I2.Ug (t':=s2.toks) (ys:=[]) (AX:=[]) .nil (CN _);have h4:∀b∈fp,b<s2.heap.objs.size:=fun b hb=>by obtain⟨o,e,_⟩:=T.obj _ _ e6 b hb;exact A7 e
 have e3:∀b∈fp,GL X pins (upd H2 s2.heap.objs.size (.lst [])) b:=fun b hb=>⟨by rw[AQ (BN (h4 b hb))];exact(f2 b hb).1,(f2 b hb).2⟩;generalize e1:({s2 with heap:=s2.heap.push {cls:=.type "list",data:=.seq ([]:List AA).toArray},toks:=s2.toks}:Yf)=s3 at I3;have h6:s3.heap=s2.heap.push {cls:=.type "list",data:=.seq ([]:List AA).toArray}:=by rw[<-e1]
 have q6:s3.toks=s2.toks:=by rw[<-e1]
 have e4:s3.heap.objs.size=s2.heap.objs.size+1:=by rw[h6,Ha]
 have k3:∀b o,s2.heap.get? b=some o->s3.heap.get? b=some o:=fun b o e=>by rw[h6];exact BB _ e
 have r0:∀b o,s3.heap.get? b=some o->h1.get? b=some o:=fun b o e=>by have q:=e9.2 b (by rw[<-h6];exact BN (A7 e));rw[q];rw[<-h6];exact BB _ e
 have hC:(s2.heap.push {cls:=.type "list",data:=.seq ([]:List AA).toArray}).objs.size=s3.heap.objs.size:=by rw[h6]
 have B:Inv (Eb X (ts++cap) scope cl s3.heap.objs.size s3 (upd H2 s2.heap.objs.size (.lst [])) fp pins) [] (ts.map (fun _=>none)++EK ix σ) (upd H2 s2.heap.objs.size (.lst [])) {s3 with heap:=h1,toks:=s2.toks}:=
  I3.block ok e3 (fun b hb=>C8 (h4 b hb) (by rw[e4];exact E9 _)) (by rw[<-hC];exact s0) r0;let Xc:=Eb X (ts++cap) scope cl s3.heap.objs.size s3 (upd H2 s2.heap.objs.size (.lst [])) fp pins;have h3:∀{H':Hp},(∀b∈fp,H' b=none)->∀b∈fp,GL Xc [] H' b:=fun{H'} hn b hb=>by
  obtain⟨_,f1,q0,f3,f4,f5⟩:=f2 b hb;refine⟨hn b hb,?_,fun hz=>?_,.inl hb,fun x c e=>f4 x c (ok.sub x c e),fun p hp=>?_⟩
  ·have r8:b<s3.heap.objs.size:=C8 (h4 b hb) (by rw[e4];exact E9 _);exact BN r8
  ·rcases Bn.mp (I2.NX b hz) with z|z
   ·exact f1 z
   ·exact q0 z
  ·have r7:p∈X.pn++pins:=by
    have r5:p∈(X.pn++pins)++[]:=hp
    rwa [CF] at r5
   exact f5 p r7
 have e8:tn 0 h1:=T.keep 0 s2.heap h1 e6 fun b hb o e=>r0 b o (k3 b o e);have e0:∀st:Yf,st={s3 with heap:=h1,toks:=s2.toks}->
  rq (ax X.prog X.w) X.A (.compLoop (.ListComp elt [⟨tg,iter,ifs,0⟩] scope pos) 0 (.ref it) (.ref s2.heap.objs.size) (compEnvC scope cl s3.heap.objs.size X.env)) (compPost (ax X.prog X.w) X.A X.xe use R (.ref s2.heap.objs.size) s3.heap.objs.size) st:=by
  rintro st rfl;refine cg (fun n s'=>∃i H',Inv Xc [] (ts.map (fun _=>none)++EK ix σ) H' s'/\tn i s'.heap/\(∀b∈fp,H' b=none)/\W i n H') ?_ m0 ⟨0,_,B,e8,fun b hb=>(e3 b hb).1,w0⟩;rintro n s4 ⟨i,H4,B4,e5,r1,w4⟩;rcases h7 i n H4 w4 with⟨h8,q⟩|⟨go,N,hN,step⟩
  ·refine Ah (T.done Xc rfl rfl rfl ok.calm i [] s4 _ H4 _ B4 (h3 r1) e5 h8) fun r s5 ⟨hr,B5⟩=>?_;subst hr;exact fin _ _ H4 s3 s5 fp I3 e3 B5 q
  ·refine Ah (T.item Xc rfl rfl rfl ok.calm i [] s4 _ H4 (fun _ _=>False) B4 (h3 r1) e5 go) fun r s5 ⟨u,hr,h5⟩=>?_;subst hr;refine Ah h5 fun _ s6 ⟨x,H6,B6,r6,y6,h9,r9⟩=>?_;have q2:=B6.pinned (h3 r9) (T.obj _ _ h9);refine Ah (hg _ _ _ _ _ _ s6 _ H6 x u _ q2 r6 (step x H6 y6)) fun _ s7 ⟨σ7,H7,B7,r2,q7⟩=>?_;refine Ah (ht _ _ _ _ _ _ s7 σ7 H7 _ B7 q7) fun b s8 ⟨H8,B8,q8⟩=>?_;have h0:∀{H9:Hp}{s9:Yf},Inv Xc ([]++NW fp s6.heap) σ7 H9 s9->N H9->
    ∃m,m<n/\∃i H',Inv Xc [] (ts.map (fun _=>none)++EK ix σ) H' s9/\tn i s9.heap/\(∀b∈fp,H' b=none)/\W i m H':=fun{H9 s9} B9 hm=>by
    obtain⟨m',lt,w9⟩:=hN _ hm;obtain⟨a,la,e7⟩:=r2;subst e7;refine⟨m',lt,i+1,H9,(B9.PF).weak ?_ ?_,T.keep _ _ _ h9 fun b hb o e=>(B9.pin (b,o) (EU _ (EU _ (Ow hb e)))).1,fun b hb=>?_,w9⟩
    ·rw[Au,Au,AL,la]
    ·intro j v e;by_cases hj:j<ts.length
     ·rw[C3 (by simpa using hj),Az] at e
      cases e2:ts[j]?with
      |none=>rw[e2] at e;cases e
      |some y=>rw[e2] at e;cases e
     ·rw[Cn (by simpa using hj),AL] at e;rw[Cn (by lia),la];exact e
    ·obtain⟨o,e,d⟩:=T.obj _ _ h9 b hb;exact(B9.pin (b,o) (EU _ (EU _ (Ow hb e)))).2.1
   cases b with
   |false=>exact h0 B8 (by simpa using q8)
   |true=>
    have r3:te σ7 H8 fun y H4=>∃ys,H4 s2.heap.objs.size=some (.lst ys)/\ys.length<sizeLine/\N (upd H4 s2.heap.objs.size (.lst (ys++[y]))):=by simpa using q8
    refine Ah (he _ _ _ _ _ _ s8 σ7 H8 _ B8 r3) fun y s9 ⟨yv,H9,B9,ry,ys,hD,hl,q9⟩=>?_;exact Ah (EE _ s9 σ7 H9 (.ref s2.heap.objs.size) [yv] (.ref s2.heap.objs.size) [y] (fun _ H'=>N H') B9 rfl (.cons ry .nil) ⟨_,ys,yv,rfl,rfl,hD,hl,q9⟩) fun _ q4 ⟨_,t0,q3,_,r4⟩=>h0 q3 r4
 have q1:({s2 with heap:=h1,toks:=s2.toks+([]:List (Str×AA)).length}:Yf)={s3 with heap:=h1,toks:=s2.toks}:=by rw[<-e1];rfl
 have L:=e0 _ q1;rw[<-hC] at L;exact codeAny_compStart_list L (T.self X.A 0 _ _ _ e8 L)
def EF{elt iter:qv}{wi:TI}(ok:Kd X ts cap ix scope cl)(hi:PI X tg iter wi)
 (hg:∀C s₀ H₀ fp pins,PG (Eb X (ts++cap) scope cl C s₀ H₀ fp pins) tg g)(ht:∀C s₀ H₀ fp pins,OB (Eb X (ts++cap) scope cl C s₀ H₀ fp pins) ifs ti)
 (he:∀C s₀ H₀ fp pins,PE (Eb X (ts++cap) scope cl C s₀ H₀ fp pins) elt te)(hs:∀x,foldedSetIterable iter X.env x=pure x:=by intro _;rfl):
 PE X (.ListComp elt [⟨tg,iter,ifs,0⟩] scope pos) (T6 ts ix wi g ti te):=by
 intro pins s σ H Q I h;rw[eval_ListComp];refine WE (use:=none) (Q:=Q) ok hi hg ht he hs I h fun D H3 H4 s3 s5 fp I3 h2 B5 q=>?_;obtain⟨m,h1,_⟩:=B5.loc;exact⟨m,h1,fun h' h0=>⟨.ref D,H4,I3.YC h2 B5 h0,rfl,q⟩⟩
def YH{y:Str}{elt iter:qv}{spos py:Pos}{wi:TI}(ok:Kd X ts cap ix scope cl)(hN:X.N.Nodup)(hy:X.N[i]? =some y)(hl:X.env.scope.names.lookup y=some .local)(hi:PI X tg iter wi)
 (hg:∀C s₀ H₀ fp pins,PG (Eb X (ts++cap) scope cl C s₀ H₀ fp pins) tg g)(ht:∀C s₀ H₀ fp pins,OB (Eb X (ts++cap) scope cl C s₀ H₀ fp pins) ifs ti)
 (he:∀C s₀ H₀ fp pins,PE (Eb X (ts++cap) scope cl C s₀ H₀ fp pins) elt te)(hs:∀x,foldedSetIterable iter X.env x=pure x:=by intro _;rfl)
 (hsw:tK (.ListComp elt [⟨tg,iter,ifs,0⟩] scope pos) (some (.Name y py)) spos.line X.env=pure true:=by rfl):
 PS X (.Assign [.Name y py] (.ListComp elt [⟨tg,iter,ifs,0⟩] scope pos) spos) (QL (T6 ts ix wi g ti te) (Ec i)):=by
 intro pins s σ H D I h;rw[exec_Assign_Name_used _ _ _ _ hsw];refine AJ (Og (AJ ?_));show cm _ X.A (do let _<-comprehension (.ListComp elt [⟨tg,iter,ifs,0⟩] scope pos) scope X.env _ (newList []) false (rC iter X.env) (some (uO (.Name y py) X.env))) _ _ s;refine AJ (DA (WE (R:=fun _ s'=>SP X pins D .next s') (Q:=fun x H1=>Ec i x σ H1 D.nx) ok hi hg ht he hs I h fun D' H3 H4 s3 s5 fp I3 h2 B5 q=>?_) (fun _ s' hq=>Ae (Ae hq)) fun _ _ e=>e);have I5:Inv X pins σ H4 s5:=I3.YC h2 B5 (Heap.SameBut.refl ..);obtain⟨m,h0,_⟩:=B5.loc;have hC:s3.heap.objs.size<s5.heap.objs.size:=h0.lt;show cm _ X.A (uO (.Name y py) X.env (.ref D')) _ _ s5;refine wpAny_assign_Name (Wm I5 hN hy (.inl hl) (v:=.ref D') rfl (fun s' I' hb=>?_) (.inr hl));obtain⟨a,sb,ha⟩:=hb;have ea:a≠s3.heap.objs.size:=by
  rcases ha with e|e
  ·rw[e];exact BN I3.lt
  ·obtain⟨v,z⟩:=I3.cell y a e;exact BN z.lt
 refine⟨m,h0.sameBut sb (DK ea),fun h' h1=>?_⟩;refine⟨_,H4,I'.turned (t':=s'.toks) (it:=s3.heap.objs.size) (fun b o hb e=>(h1.2 b hb).trans e) B5.free (E8 I3.lt) (.inr I3.sz) (fun x c e=>?_) (fun p hp=>?_),q⟩
 ·obtain⟨v,z⟩:=I3.cell x c e;exact BN z.lt
 ·exact BN (A7 (I3.pin p hp).1)
end
def Qe(z:Str):It:=⟨fun i _=>i<z.cps.size,fun i H v H'=>H'=H/\∃c,z.cps[i]? =some c/\v=.str ⟨#[c]⟩,fun i _=>z.cps.size<=i⟩
def XY(it:Ya)(ty:String)(z:Str)(t:Tok)(hty:ty="str_ascii_iterator" \/ty="str_iterator"):
 Turn P w K tg (Qe z) [it] it (fun i h=>h.IsStrIter it ty z t i) where
 mem:=by simp
 obj:=fun i h st b hb=>by
  obtain rfl:b=it:=by simpa using hb
  obtain⟨o,e,c,d⟩:=st;exact⟨o,e,fun v q=>by rw[d] at q;cases q⟩
 keep:=fun i h h' st k=>by obtain⟨o,e,r⟩:=st;exact⟨o,k it (by simp) o e,r⟩
 item:=by
  intro X hP hw hK hc i h0 s σ H E I hf st hg;subst hP hw hK;obtain⟨f0,f1,f2,f3,f4,f5⟩:=hf it (by simp);have hi:i<z.cps.size:=hg;have h3:∀(c:Nat)(u:Tok)(h':rE)(tk:Nat),z.cps[i]? =some c->h'.IsStrIter it ty z t (i+1)->(∀b o,b≠it->s.heap.get? b=some o->h'.get? b=some o)->
   ∃v,some (Value.str ⟨#[c]⟩ u)=some v/\cm (ax X.prog X.w) X.A (sU tg (.ref it) v) (fun _ s2=>∃x H',Inv X h0 σ H' s2/\RelV x v/\(Qe z).Ju i H x H'/\s2.heap.IsStrIter it ty z t (i+1)/\∀b∈[it],H' b=none) E {s with heap:=h',toks:=tk}:=by
   intro c u h' tk hc h1 kk;have I1:Inv X h0 σ H {s with heap:=h',toks:=tk}:=I.turned (fun b o hb e=>kk b o hb e) f0 f1 f3 f4 f5;obtain⟨o,e,ec,d⟩:=id h1;refine⟨_,rfl,P0 (s:={s with heap:=h',toks:=tk}) (n:=ty) e ec d ?_ ⟨.str ⟨#[c]⟩,H,I1,⟨u,rfl⟩,⟨rfl,c,hc,rfl⟩,h1,fun b hb=>(hf b hb).1⟩⟩;rcases hty with e|e<;>subst e<;>decide
  rcases hty with e|e
  ·subst e;have W:=Walks.strAscii (prog:=X.prog) (w:=X.w) (I.ok.hd hc) it z t;refine W.item i s _ _ hi st fun v h' tk hv h1 kk=>?_;obtain⟨c,u,h2,rfl⟩:=hv;exact h3 c u h' tk h2 h1 fun b o hb e=>kk b o (by simpa using hb) e
  ·subst e;have W:=Walks.strWide (prog:=X.prog) (w:=X.w) (I.ok.hd hc) it z t;refine W.item i s _ _ hi st fun v h' tk hv h1 kk=>?_;obtain⟨c,u,h2,rfl⟩:=hv;exact h3 c u h' tk h2 h1 fun b o hb e=>kk b o (by simpa using hb) e
 done:=by
  intro X hP hw hK hc i h0 s σ H E I hf st hg;subst hP hw hK;obtain⟨f0,f1,f2,f3,f4,f5⟩:=hf it (by simp);have hi:z.cps[i]? =none:=by have:z.cps.size<=i:=hg;simp only[Array.getElem?_eq_none_iff];exact this
  rcases hty with e|e
  ·subst e;exact wpAny_pyNext_ascii_end (I.ok.hd hc) st hi fun h' eb=>⟨rfl,I.turned (t':=s.toks) (fun b o hb e=>eb b o hb e) f0 f1 f3 f4 f5⟩
  ·subst e;exact wpAny_pyNext_wide_end (I.ok.hd hc) st hi fun h' eb=>⟨rfl,I.turned (t':=s.toks) (fun b o hb e=>eb b o hb e) f0 f1 f3 f4 f5⟩
 self:=fun _ _ _ _ _ st h=>by
  rcases hty with e|e
  ·subst e;exact wpAny_pyIter_striter_ascii st h
  ·subst e;exact wpAny_pyIter_striter_wide st h
def pf(tl:TE):TI:=fun σ H R=>tl σ H fun x H1=>∃z,x=.str z/\R (Qe z) H1
def ZU{l:qv}{tl:TE}(hl:PE X l tl):PI X tg l (pf tl):=by
 intro h0 s σ H R I h;refine Ah (hl h0 s σ H _ I h) fun v s1 ⟨x,H1,I1,r1,q1⟩=>?_;obtain⟨z,e,q⟩:=q1;subst e;obtain⟨t,rfl⟩:=r1;have fp:∀b∈[s1.heap.objs.size],GL X h0 H1 b:=fun b hb=>by
  obtain rfl:b=s1.heap.objs.size:=by simpa using hb
  exact I1.Ko (Ad _) (I1.hok.fresh (Ad _))
 cases ha:z.cps.all (·<128)
 ·exact wpAny_pyIter_wide ha ⟨s1.heap.objs.size,[s1.heap.objs.size],_,_,H1,rfl,I1.kept (t':=s1.toks) fun b o e=>BB _ e,XY _ "str_iterator" z t (.inr rfl),⟨_,CC _ rfl,rfl,rfl⟩,fp,q⟩
 ·exact wpAny_pyIter_ascii ha ⟨s1.heap.objs.size,[s1.heap.objs.size],_,_,H1,rfl,I1.kept (t':=s1.toks) fun b o e=>BB _ e,XY _ "str_ascii_iterator" z t (.inl rfl),⟨_,CC _ rfl,rfl,rfl⟩,fp,q⟩
theorem WV:Bx X (qz .LtE) (fun x y H Q=>∃i j,x=.str i/\y=.str j/\Q (.bl (!decide (j.cps.toList<i.cps.toList))) H):=by intro h0 s σ H x y v u Q I rx ry h;obtain⟨i,j,rfl,rfl,q⟩:=h;obtain⟨t,rfl⟩:=rx;obtain⟨t',rfl⟩:=ry;exact P.le_str (CH I q rfl)
def V4:Bx X (sR .Mult) (fun x y H Q=>∃z k,x=.str z/\y=.int k/\MulOk z k/\Q (.str (Txt.mul z k)) H):=by intro h0 s σ H x y v u Q I rx ry h;obtain⟨z,k,rfl,rfl,hm,q⟩:=h;obtain⟨t,rfl⟩:=rx;obtain⟨t',rfl⟩:=ry;exact SB.mul hm fun h1 k'=>⟨.str _,H,I.tok _,⟨_,rfl⟩,q⟩
def Z0(f:Str->Str->Bool):V->List V->Hp->VK->Prop:=fun x vs H Q=>∃z y,x=.str z/\vs=[.str y]/\Q (.bl (f z y)) H
def fX:Ia X "str.startswith" (Z0 Txt.startswith):=by intro h0 s σ H x vs v us Q I rx rv h;obtain⟨z,y,rfl,rfl,q⟩:=h;obtain⟨t,rfl⟩:=rx;obtain⟨u,rfl,ru⟩:=rv.one;obtain⟨t',rfl⟩:=ru;exact SC.startswith ⟨.bl _,H,I,rfl,q⟩
def j5:Ia X "str.endswith" (Z0 Txt.endswith):=by intro h0 s σ H x vs v us Q I rx rv h;obtain⟨z,y,rfl,rfl,q⟩:=h;obtain⟨t,rfl⟩:=rx;obtain⟨u,rfl,ru⟩:=rv.one;obtain⟨t',rfl⟩:=ru;exact SC.endswith ⟨.bl _,H,I,rfl,q⟩
def Wc:∀l:List (Str×Tok),Vals (l.map fun p=>V.str p.1) (strValues l)
 |[]=>.nil
 |p::r=>.cons ⟨p.2,rfl⟩ (Wc r)
def mx:V->List V->Hp->VK->Prop:=fun x vs H Q=>∃z y,x=.str z/\vs=[.str y]/\(y.length==0)=false/\z.length+2<=sizeLine/\∀D,H D=none->Q (.ref D) (upd H D (.lst ((Txt.split z y).map V.str)))
def XN:Ia X "str.split" mx:=by
 intro h0 s σ H x vs v us Q I rx rv h;obtain⟨z,y,rfl,rfl,hy,hz,q⟩:=h;obtain⟨t,rfl⟩:=rx;obtain⟨u,rfl,ru⟩:=rv.one;obtain⟨t',rfl⟩:=ru;have h3:(Txt.split z y).length<=sizeLine:=by
  have h5:1<=y.length:=by
   rcases Nat.eq_zero_or_pos y.length with e|e
   ·rw[e] at hy;cases hy
   ·exact e
  have:=Mo z y h5
  lia
 have h4:∀(l:List (Str×Tok))(tk:Nat),l.map (·.1)=Txt.split z y->EP X h0 σ Q (.ref s.heap.objs.size) {s with heap:=s.heap.push {cls:=.type "list",data:=.seq (strValues l).toArray},toks:=tk}:=fun l tk e=>by
  have el:(l.map fun p=>V.str p.1)=(Txt.split z y).map V.str:=by rw[<-e,Ba];rfl
  have hl:(l.map fun p=>V.str p.1).length<=sizeLine:=by rw[el,AL];exact h3
  refine⟨.ref s.heap.objs.size,_,I.Ug (t':=tk) (Wc l) hl,rfl,?_⟩;rw[el];exact q _ I.fresh
 have hn:(Builtin.Str.partsBetween z (Builtin.Str.occurrences z y 0 z.length (z.length+1)) y.length).length<=sizeLine:=by have e1:=StrLaws.occ_length_le z y 0 z.length (z.length+1);rw[length_partsBetween];lia
 by_cases h1:(decide (z.length<y.length)||decide (Builtin.Str.strKind z<Builtin.Str.strKind y))=true
 ·refine KH F.slot_str_split (LU _ _ _) F.entry_str_split (Vc _ _) (meets_str_split_cannot_occur z y t t' h1) ?_;exact h4 [(z,t)] s.toks (by unfold Txt.split;rw[AH h1];rfl)
 ·by_cases h2:(Builtin.Str.occurrences z y 0 z.length (z.length+1)).isEmpty=true
  ·refine KH F.slot_str_split (LU _ _ _) F.entry_str_split (Vc _ _) (meets_str_split_not_found z y t t' (by simpa using h1) hy h2) ?_;exact h4 [(z,t)] s.toks (by unfold Txt.split;rw[AG h1,AH h2];rfl)
  ·refine KH F.slot_str_split (LU _ _ _) F.entry_str_split (Vc _ _) (meets_str_split_sep z y t t' (by simpa using h1) hy (by simpa using h2) (by lia) hn) ?_;have:=h4 (numbered s.toks (Builtin.Str.partsBetween z (Builtin.Str.occurrences z y 0 z.length (z.length+1)) y.length)) (s.toks+(Builtin.Str.partsBetween z (Builtin.Str.occurrences z y 0 z.length (z.length+1)) y.length).length)
    (by rw[numbered_texts];unfold Txt.split;rw[AG h1,AG h2]);rw[<-strsFrom_eq] at this;exact this
def qM:V->Option Int->Option Int->Hp->VK->Prop:=fun x lo hi H Q=>∃z,x=.str z/\z.length<=sizeLine/\Q (.str (Txt.slice z lo hi)) H
def Kc:MJ X qM:=by
 intro h1 s σ H x v vl vu lo hi sl Q I rx hs pl pu h;obtain⟨z,rfl,hz,q⟩:=h;obtain⟨t,rfl⟩:=rx;refine⟨"str",_,F.slot_str_getitem.lookup,LU _ _ _,?_⟩;have h0:∀t' k,EP X h1 σ Q (.str (Txt.slice z lo hi) t') {s with toks:=k}:=fun t' k=>⟨.str _,H,I.tok _,⟨_,rfl⟩,q⟩;have le:=BJ (Om z lo hi) hz
 cases pl with
 |none=>
  cases pu with
  |none=>exact Qm (l:=none) (u:=none) (st:=none) hs rfl (RN ⟨le,h0⟩)
  |int j uj=>exact Qm (l:=none) (u:=some (j,uj)) (st:=none) hs rfl (RN ⟨le,h0⟩)
 |int i ui=>
  cases pu with
  |none=>exact Qm (l:=some (i,ui)) (u:=none) (st:=none) hs rfl (RN ⟨le,h0⟩)
  |int j uj=>exact Qm (l:=some (i,ui)) (u:=some (j,uj)) (st:=none) hs rfl (RN ⟨le,h0⟩)
def gJ(hu:X.A.units<rR):Bx X (qz .NotEq) (fun x y H Q=>∃a b xs,x=.ref a/\y=.ref b/\AK X.K H a xs/\AK X.K H b []/\Q (.bl (!xs.isEmpty)) H):=by
 intro h2 s σ H x y v u Q I rx ry h;obtain⟨a,b,xs,rfl,rfl,ha,hb,q⟩:=h;cases rx;cases ry;obtain⟨h4,r,pl,hz⟩:=I.list ha;obtain⟨h3,r2,h0,h5⟩:=I.list hb;cases r2;have hl:=r.length
 cases xs with
 |nil=>cases r;refine SeqAt.RcNeAt.lists (e:=fun _=>true) pl.isList h0.isList rfl hu (fun j h1=>absurd h1 (by simp)) _ _ _ _ ?_;exact⟨.bl false,H,I,rfl,q⟩
 |cons x xs=>refine SeqAt.RcNeAt.lists_lengths pl.isList h0.isList ?_ hu _ _ _ _ ⟨.bl true,H,I,rfl,q⟩;cases r;simp
def fj(hu:X.A.units<rR):Bx X (qz .Eq) (fun x y H Q=>∃a b xs,x=.ref a/\y=.ref b/\AK X.K H a xs/\AK X.K H b []/\Q (.bl xs.isEmpty) H):=by
 intro h2 s σ H x y v u Q I rx ry h;obtain⟨a,b,xs,rfl,rfl,ha,hb,q⟩:=h;cases rx;cases ry;obtain⟨h4,r,pl,hz⟩:=I.list ha;obtain⟨h3,r2,h0,h5⟩:=I.list hb;cases r2;have hl:=r.length
 cases xs with
 |nil=>cases r;refine SeqAt.eq_listAt (e:=fun _=>true) pl.isList h0.isList rfl hu (fun j h1=>absurd h1 (by simp)) ?_;exact⟨.bl true,H,I,rfl,q⟩
 |cons x xs=>refine SeqAt.eq_list_lengthsAt pl.isList h0.isList ?_ hu ⟨.bl false,H,I,rfl,q⟩;cases r;simp
def gb:DO X (.builtin "isinstance") (fun xs H Q=>∃x c t b,xs=[x,.ty c]/\Bh X.K H x t/\tD X.K t (.type c)=some b/\Q (.bl b) H):=by intro h0 s σ H xs us Q I r h;obtain⟨x,c,t,b,rfl,ty,e,q⟩:=h;obtain⟨u,w',rfl,rx,rc⟩:=vals2 r;cases rc;exact gB I rx ty e fun tk=>⟨.bl b,H,I.tok _,rfl,q⟩
def W0:∀{cs:List String}{us:List AA},Vals (cs.map V.ty) us->us=cs.map Value.type
 |[],_,.nil=>rfl
 |_::_,_,.cons r t=>by rw[Av,<-W0 t];cases r;rfl
def gR:DO X (.builtin "isinstance") (fun xs H Q=>∃(x:V)(p:Ya)(cs:List String)(t:AA)(b:Bool),xs=[x,.ref p]/\H p=some (.tup (cs.map V.ty))/\Bh X.K H x t/\kitAny X.K t (cs.map Value.type)=some b/\Q (.bl b) H):=by
 intro h4 s σ H xs us Q I r h;obtain⟨x,p,cs,t,b,rfl,hp,ty,e,q⟩:=h;obtain⟨u,w',rfl,rx,rc⟩:=vals2 r;cases rc;obtain⟨_,h7,rv,o,h1,h2,n,h3⟩:=(show BP X.prog X.w H s.heap p (.tup (cs.map V.ty)) from I.hok p _ hp);have ei:=W0 rv;subst ei;obtain⟨oc,od,h6,h5⟩:=o;simp only at h2 h3;subst h2 h3;have h0:∀tk,EP X h4 σ Q (.bool b) {s with toks:=tk}:=fun tk=>⟨.bl b,H,I.tok _,rfl,q⟩
 cases ty with
 |BA=>cases(show u=Value.none from rx);exact ID kitx_none I.BS Cy h1 e (fun z=>nomatch z) h0
 |bl y=>cases(show u=Value.bool y from rx);exact ID kitx_bool I.BS Cy h1 e (fun z=>nomatch z) h0
 |int i=>obtain⟨t,q⟩:=(show∃t,u=Value.int i t from rx);cases q;exact ID kitx_int I.BS Cy h1 e (fun z=>nomatch z) h0
 |str y=>obtain⟨t,q⟩:=(show∃t,u=Value.str y t from rx);cases q;exact ID kitx_str I.BS Cy h1 e (fun z=>nomatch z) h0
 |JC y=>obtain⟨t,q⟩:=(show∃t,u=Value.float y t from rx);cases q;exact ID kitx_float I.BS Cy h1 e (fun z=>nomatch z) h0
 |@lst a xs ea=>cases(show u=Value.ref a from rx);obtain⟨_,_,n,_,g1⟩:=(show BP X.prog X.w H s.heap a (.lst xs) from I.hok a _ ea);exact ID Q9 I.BS ⟨_,g1,rfl⟩ h1 e (fun z=>nomatch z) h0
 |@BR a ob xs ea=>cases(show u=Value.ref a from rx);obtain⟨_,_,_,n,_,g1⟩:=(show BP X.prog X.w H s.heap a (.BR ob (.lst xs)) from I.hok a _ ea);exact ID Q9 I.BS ⟨_,g1,rfl⟩ h1 e (fun z=>nomatch z) h0
 |@tup a xs ea=>cases(show u=Value.ref a from rx);obtain⟨_,_,_,p⟩:=(show BP X.prog X.w H s.heap a (.tup xs) from I.hok a _ ea);obtain⟨o,g1,g2,_⟩:=p;exact ID kitx_tuple I.BS ⟨o,g1,g2⟩ h1 e (fun z=>nomatch z) h0
 |@dK a AD ea=>cases(show u=Value.ref a from rx);obtain⟨_,_,vs,_,p⟩:=(show BP X.prog X.w H s.heap a (.dK AD) from I.hok a _ ea);obtain⟨o,es,ep,g1,g2,_⟩:=p;exact ID RA I.BS ⟨o,g1,g2.1⟩ h1 e (fun z=>nomatch z) h0
 |@dT a AD ea=>cases(show u=Value.ref a from rx);obtain⟨_,_,xs,_,o,es,ep,g1,g2,_⟩:=(show BP X.prog X.w H s.heap a (.dT AD) from I.hok a _ ea);exact ID RA I.BS ⟨o,g1,g2.1⟩ h1 e (fun z=>nomatch z) h0
 |@ins a C dx fs ea cl ha hn htk hm=>cases(show u=Value.ref a from rx);obtain⟨mA,O,_⟩:=NB I.hok ea;obtain⟨od,J,_⟩:=O.look;exact ID (kitx_own (cl.get _) cl.hd ha hn htk hm) I.BS J h1 e (fun z=>nomatch z) h0
def all_range(bs:List Bool):∀n:Nat,n=bs.length->(List.range n).all (fun i=>bs.getD i true)=bs.all id:=by
 rintro n rfl;rw[Oc,OZ,OZ];constructor
 ·intro h b hb;obtain⟨i,hi,e⟩:=Ie.mp hb;have:=h i (LJ.mpr hi);rw[Cu,Ar hi] at this;rw[<-e];exact this
 ·intro h i hi;have h0:=LJ.mp hi;rw[Cu,Ar h0];exact h _ (F1 h0)
def jD(hc:X.calm=true):DO X (.builtin "all") (fun xs H Q=>∃(p:Ya)(bs:List Bool),xs=[.ref p]/\AK X.K H p (bs.map V.bl)/\Q (.bl (bs.all id)) H):=by
 intro h5 s σ H xs us Q I r h;obtain⟨p,bs,rfl,hq,q⟩:=h;obtain⟨u,rfl,rx⟩:=vals1 r;cases rx;obtain⟨h0,rv,pl,hz⟩:=I.list hq;have h1:=rv.length;obtain⟨o,ho,h7,n,h6⟩:=id pl.isList;have ne:p≠s.heap.objs.size:=BN (A7 ho);have hh:X.A.in1.handled=none:=I.ok.hd hc;have tr:TruthOf X.prog X.w X.A.in1 (fun i v=>h0.toArray[i]? =some v) (fun i=>bs.getD i true):=by
  intro i v s' Q' E' hv hQ;have h2:h0[i]? =some v:=by simpa using hv
  have hi:i<h0.length:=(BX.mp h2).1;rw[AL] at h1;have hb:bs[i]? =some bs[i]:=Ar (by lia);obtain⟨u',h3,ru⟩:=rv.get (i:=i) (x:=.bl bs[i]) (by rw[Az,hb];rfl);rw[h2] at h3;cases h3;cases ru;have h4:Q' (bs.getD i true) s':=hQ;rw[Cu,hb] at h4;exact Ae h4
 refine call_all_walk (wpAny_pyIter_list pl.isList ?_);refine⟨s.heap.objs.size,[s.heap.objs.size,p],[s.heap.objs.size],h0.toArray.size,fun i v=>h0.toArray[i]? =some v,fun i h=>h.IsListIter s.heap.objs.size p i/\h.IsList p h0.toArray,fun i=>bs.getD i true,rfl,Walks.list hh _ p ne h0.toArray,
  ⟨⟨_,CC _ rfl,rfl,rfl⟩,⟨o,BB _ ho,h7,n,h6⟩⟩,tr,fun h' tk kk=>?_⟩;rw[all_range bs h0.toArray.size (by rw[AL] at h1;simp[h1])];exact⟨.bl _,H,I.kept (fun b ob e=>kk b ob (by simpa using BN (A7 e)) (BB _ e)),rfl,q⟩
section
variable{xs:List V}
def GN(h:AK [] H a xs):AK K H a xs:=h.elim .inl fun⟨_,_,_,e,_⟩=>nomatch e
def Lz(h:AU [] H a xs):AU K H a xs:=h.elim .inl fun⟨_,_,_,e,_⟩=>nomatch e
def Cw:IB X (QD []):=fun _ _ _ _ _ _ _ _ _ _ _ I r r' ⟨p,xs,i,v,a,b,q,c⟩=>YR _ _ _ _ _ _ _ _ _ _ _ I r r' ⟨p,xs,i,v,a,b,GN q,c⟩
def Nv:IB X (Lw []):=fun _ _ _ _ _ _ _ _ _ _ _ I r r' ⟨p,xs,i,v,a,b,q,c⟩=>kY _ _ _ _ _ _ _ _ _ _ _ I r r' ⟨p,xs,i,v,a,b,Lz q,c⟩
def A8{a:qv}{i:Int}{j}(ha:PE X a ta):PE X (.Subscript a (.Constant (.int i) j p) pos) (Fw (Lw []) ta (tC (.int i))):=Bw Nv ha Ac fun _ _=>rfl
def Fu{a:qv}{i:Int}{j}(ha:PE X a ta):PE X (.Subscript a (.Constant (.int i) j p) pos) (Fw (QD []) ta (tC (.int i))):=Bw Cw ha Ac fun _ _=>rfl
def Bj.mn(r:Bj k A)(h:j<=k:=by decide):Bj j A:=r.mono h
def pH:MJ X (aP []):=fun _ _ _ _ _ _ _ _ _ _ _ _ I r a b c ⟨p,xs,e,q,z⟩=>mX _ _ _ _ _ _ _ _ _ _ _ _ I r a b c ⟨p,xs,e,Lz q,z⟩
def UI:MJ X (az []):=fun _ _ _ _ _ _ _ _ _ _ _ _ I r a b c ⟨p,xs,e,q,z⟩=>PY _ _ _ _ _ _ _ _ _ _ _ _ I r a b c ⟨p,xs,e,GN q,z⟩
def Fo:DO X (.builtin "len") (fun xs H Q=>∃p ys,xs=[.ref p]/\(AK [] H p ys\/AU [] H p ys)/\Q (.int ys.length) H):=
 fun _ _ _ _ _ _ _ I r ⟨p,ys,e,q,z⟩=>Io _ _ _ _ _ _ _ I r ⟨p,ys,e,q.imp GN Lz,z⟩
def pM:Bx X (qz .In) (Ui [] false):=fun _ _ _ _ _ _ _ _ _ I r r' ⟨p,xs,e,q,z⟩=>fA _ _ _ _ _ _ _ _ _ I r r' ⟨p,xs,e,q.imp GN Lz,z⟩
def pS(hu:X.A.units<rR):Bx X (qz .Eq) (fun x y H Q=>∃a b xs,x=.ref a/\y=.ref b/\AK [] H a xs/\AK [] H b []/\Q (.bl xs.isEmpty) H):=
 fun _ _ _ _ _ _ _ _ _ I r r' ⟨p,b,xs,e,e',q,q',z⟩=>fj hu _ _ _ _ _ _ _ _ _ I r r' ⟨p,b,xs,e,e',GN q,GN q',z⟩
def aH{x:V}(h:OA [] T x H):OA K T x H:=by
 cases x;case ref p=>exact h.imp (fun⟨e,xs,q⟩=>⟨e,xs,GN q⟩) (·.imp (fun⟨_,_,e,_⟩=>nomatch e) id)
 all_goals exact h
def bQ(t:TE):TE:=fun σ H Q=>∃Q0:VK,t σ H Q0/\∀v H1,Q0 v H1->Q v H1
def PE.mc{t:TE}(h:PE X e t):PE X e (bQ t):=fun h0 s σ H Q I ⟨Q0,z,m⟩=>Ah (h h0 s σ H Q0 I z) fun _ _ ⟨v,H1,i,r,q⟩=>⟨v,H1,i,r,m _ _ q⟩
end
section
variable{o:qv}{es:List qv}{to:TE}{t:TA}{id:String}
def EO(pa:tO T)(slot:Slot T name id)(hty:typeOf (.builtin id)=pure (.type "method_descriptor"))(hm:N5 X id r)(ho:PE X o to)(ha:PA X (e::es) t)
 (hbase:rK o name X.env (rC o X.env)=rC o X.env:=by rfl)
 (hfew:((rN cpos (hX (e::es) X.env)).all (fun x=> !x.1)&&(sY cpos (rW [] X.env)).all (fun x=>x.1.isSome)
  &&decide ((e::es).length+([]:List sd).length+(if([]:List sd).isEmpty then 0 else 1)<30))=true:=by rfl)
 (hline:(apos.endLine==cpos.line)=true:=by rfl)(hs:hX (e::es) X.env=(false,rC e X.env)::hX es X.env:=by rfl)(hplain:(rN cpos (hX es X.env)).any (·.1)=false:=by rfl):
 PE X (.Call (.Attribute o name apos) (e::es) [] cpos) (Uz [] T r to t):=
 fun h0 s σ H Q I h=>Iy pa slot hty hm ho.mc ha hbase hfew hline hs hplain h0 s σ H Q I ⟨_,h,fun _ _ ⟨y,z⟩=>⟨aH y,z⟩⟩
end
def oU{it:Ya}{tn:Nat->rE->Prop}(T:Turn P w K tg (Hx K a) fp it tn):Turn P w K tg (Hx [] a) fp it tn where
 mem:=T.mem
 obj:=T.obj
 keep:=T.keep
 item:=fun X a1 a2 a3 a4 i h0 s σ H E I f t ⟨xs,x,q,e⟩=>DA (T.item X a1 a2 a3 a4 i h0 s σ H E I f t ⟨xs,x,GN q,e⟩) (fun r s1 ⟨u,hu,z⟩=>⟨u,hu,DA z (fun _ s2 ⟨x,H',I',rx,⟨e,y⟩,z⟩=>⟨x,H',I',rx,⟨e,fun xs q=>y xs (GN q)⟩,z⟩) fun _ _ z=>z⟩) fun _ _ z=>z
 done:=fun X a1 a2 a3 a4 i h0 s σ H E I f t ⟨xs,q,e⟩=>T.done X a1 a2 a3 a4 i h0 s σ H E I f t ⟨xs,GN q,e⟩
 self:=T.self
def Ez{l:qv}{tl:TE}(hl:PE X l tl):PI X tg l (Ki [] tl):=fun h0 s σ H R I h=>
 Ah (FF (tg:=tg) hl.mc h0 s σ H (fun J H1=>∃a,J=Hx X.K a/\R (Hx [] a) H1) I (show Ki X.K (bQ tl) σ H _ from⟨_,h,fun _ _ ⟨a,e,⟨xs,q⟩,z⟩=>⟨a,e,⟨xs,GN q⟩,⟨a,rfl,z⟩⟩⟩)) fun _ _ z=>Ah z fun _ _ ⟨it,fp,tn,_,H',e,i,T,t0,f,a,ej,z⟩=>⟨it,fp,tn,Hx [] a,H',e,i,oU (ej▸T),t0,f,z⟩
structure Hv(P:qy)(w:rH)(K:uT)(mg:Str->Option AA)(base:rE)(x:Str)(k:Nat)(ps:List Str)(sp:Sp):Prop where
 ex:∃f fd,AW P w K mg base Ag k f fd ps sp/\Binds K fd ps []/\mg x=some (.ref f)/\rZ K (.ref f)=true
section
variable{E:XK}{es:List qv}{t:TA}
def Bz(h:Hv X.prog X.w X.K X.mg X.base x k ps sp)(hr:Bj k X.A)(hg:Gl X x)(hx:Passes Ag X E)(ha:PA X (e::es) t)(hdb:(x==("__debug__" :Str))=false:=by decide)
 (he:hX (e::es) X.env=(false,rC e X.env)::hX es X.env:=by rfl)(hpl:(rN pos (hX es X.env)).any (·.1)=false:=by rfl):PE X (.Call (.Name x p) (e::es) [] pos) (Ng sp [] E t):=by
 obtain⟨_,_,G,b,m,k⟩:=h.ex;exact Cp G hr hg m k b .nil hx ha hdb he hpl
end
inductive Dt where
 |bl (b:Bool)|int (i:Int)|str (x:Str)|lst (xs:List Dt)|tup (xs:List Dt)
mutual
noncomputable def Dt.sz:Dt->Nat
 |.lst xs=>1+Dt.Cb xs
 |.tup xs=>1+Dt.Cb xs
 |_=>1
noncomputable def Dt.Cb:List Dt->Nat
 |[]=>0
 |d::r=>d.sz+Dt.Cb r
end
def Dt.ZD:∀d:Dt,1<=d.sz
 |.lst _=>by unfold Dt.sz;lia
 |.tup _=>by unfold Dt.sz;lia
 |.bl _=>by unfold Dt.sz;lia
 |.int _=>by unfold Dt.sz;lia
 |.str _=>by unfold Dt.sz;lia
def Dt.PX:∀a b:List Dt,Dt.Cb (a++b)=Dt.Cb a+Dt.Cb b
 |[],b=>by rw[RO];simp[Dt.Cb]
 |d::r,b=>by rw[OY];simp only[Dt.Cb];rw[Dt.PX r b];lia
def Dt.KS:∀a:List Dt,a.length<=Dt.Cb a
 |[]=>by simp
 |d::r=>by
  have h1:=d.ZD;have h2:=Dt.KS r;simp only[Dt.Cb,CD]
  lia
inductive Rep(H:Hp):Dt->V->Prop where
 |bl (b:Bool):Rep H (.bl b) (.bl b)
 |int (i:Int):Rep H (.int i) (.int i)
 |str (x:Str):Rep H (.str x) (.str x)
 |lst {ds:List Dt} {a:Ya} {xs:List V} (h:H a=some (.lst xs)) (hl:ds.length=xs.length) (r:∀(i:Nat) d x,ds[i]? =some d->xs[i]? =some x->Rep H d x):Rep H (.lst ds) (.ref a)
 |tup {ds:List Dt} {a:Ya} {xs:List V} (h:H a=some (.tup xs)) (hl:ds.length=xs.length) (r:∀(i:Nat) d x,ds[i]? =some d->xs[i]? =some x->Rep H d x):Rep H (.tup ds) (.ref a)
def Rep.same(s:AO H H'){d:Dt}{x:V}(r:Rep H d x):Rep H' d x:=by
 induction r with
 |bl b=>exact .bl b
 |int i=>exact .int i
 |str x=>exact .str x
 |lst h hl _ ih=>exact .lst (s _ _ h) hl ih
 |tup h hl _ ih=>exact .tup (s _ _ h) hl ih
def AY{o:HO}(h:H a=none):AO H (upd H a o):=fun b u e=>by rw[AQ (A2 e h)];exact e
def AO.upd{o:HO}(s:AO H H')(h:H a=none):AO H (upd H' a o):=fun b u e=>by rw[AQ (A2 e h)];exact s b u e
def Fp{c A:Prop}[Decidable c](hc:¬c)(h:A):if(!decide c)=true then A else B:=by rw[BK hc];exact Bi h
def Bu{c A:Prop}[Decidable c](hc:c)(h:A):if decide c=true then A else B:=by rw[BW hc];exact Bi h
def CJ{c A:Prop}[Decidable c](hc:¬c)(h:B):if decide c=true then A else B:=by rw[BK hc];exact BF h
def KJ(hc:X.calm=true)(hk:scope.kind=.function)(h:scope.names.all (fun p=>p.2 !=.cell&&p.2 !=.free)=true)
 (hn:∀y∈scope.names,y.2=.local->scope.names.lookup y.1=some .local):Kd X ts [] [] scope []:=by
 have h0:∀y∈scope.names,y.2≠.cell/\y.2≠.free:=fun y hy=>by have:=OZ.mp h y hy;simpa using this
 have er:sV scope X.env=scope:=by
  unfold sV;have:(scope.names.map fun(p:Str×uP)=>if(p.2==NameKind.free&&X.env.scope.kind==.function&&X.env.kindOf p.1==some .cell)=true then(p.1,NameKind.cell) else(p.1,p.2))=scope.names:=by
   refine map_eq_self fun y hy=>?_;have e:(y.2==NameKind.free)=false:=by simpa using(h0 y hy).2
   rw[e];rfl
  exact BL (fun n=>{scope with names:=n}) this
 refine⟨hc,closureFor_none fun y hy=>(h0 y hy).2,fun y hy=>(h0 y hy).1,hk,hn,fun y c e=>(nomatch e),fun y hy=>?_,rfl,fun i y j e=>absurd e (by simp),fun y hy=>absurd hy (by simp)⟩;rw[er] at hy;rcases hy with hy|hy
 ·exact absurd rfl (h0 _ (JG hy)).1
 ·exact absurd rfl (h0 _ (JG hy)).2
variable{z:Str}
def Wv{Q:VK}(Pv:Nat->Hp->Prop)(h0:Pv 0 (upd H1 D (.lst [])))
 (hs:∀i c H,z.cps.toList[i]? =some c->Pv i H->g (.str ⟨#[c]⟩) (ts.map (fun _=>none)++EK ix σ) H fun σ2 H2=>JB ts ix σ σ2/\ti σ2 H2 fun b H3=>if b=true then te σ2 H3 fun y H4=>∃ys,H4 D=some (.lst ys)/\ys.length<sizeLine/\Pv (i+1) (upd H4 D (.lst (ys++[y]))) else Pv (i+1) H3)
 (hd:∀H,Pv z.cps.toList.length H->Q (.ref D) H):Lr ts ix σ (Qe z) g ti te D Q H1:=by
 have el:z.cps.toList.length=z.cps.size:=by simp
 rw[el] at hd;refine⟨fun i m H=>m=z.cps.size-i/\i<=z.cps.size/\Pv i H,⟨z.cps.size,by simp,CN _,h0⟩,?_⟩;rintro i m H ⟨rfl,hi,p⟩;by_cases hlt:i<z.cps.size
 ·refine .inr ⟨hlt,Pv (i+1),fun H' p'=>⟨z.cps.size-(i+1),by lia,rfl,hlt,p'⟩,fun x H' y=>?_⟩;obtain⟨e,c,hc,ex⟩:=y;subst e ex;exact hs i c _ (by simpa using hc) p
 ·obtain rfl:i=z.cps.size:=by lia
  exact .inl ⟨Ad _,hd H p⟩
def N4:([x]++[]:List Str).Nodup:=by simp
noncomputable def Ex(H:Hp)(D:Ya):Hp:=fun b=>if b=D then none else H b
def Ex.upd{o:HO}:Ex (upd H D o) D=Ex H D:=by
 funext b;unfold Ex;by_cases e:b=D
 ·rw[AH e,AH e]
 ·rw[AG e,AG e,AQ e]
def Ex.sub:AO (Ex H D) H:=fun b o e=>by
 unfold Ex at e;by_cases z:b=D
 ·rw[AH z] at e;cases e
 ·rw[AG z] at e;exact e
def Ex.mono(s:AO H H'):AO (Ex H D) (Ex H' D):=fun b o e=>by
 unfold Ex at e⊢;by_cases z:b=D
 ·rw[AH z] at e;cases e
 ·rw[AG z] at e⊢;exact s b o e
def Ex.at{o:HO}(h:H b=some o)(n:b≠D):Ex H D b=some o:=by unfold Ex;rw[AG n];exact h
def Ex.of_none(s:AO H H')(h:H D=none):AO H (Ex H' D):=fun b o e=>by unfold Ex;rw[AG (A2 e h)];exact s b o e
def Ab(H:Hp)(ds:List Dt)(xs:List V):Prop:=ds.length=xs.length/\∀(i:Nat) d x,ds[i]? =some d->xs[i]? =some x->Rep H d x
def Ab.nil:Ab H [] []:=⟨rfl,fun i d x e=>by simp at e⟩
def Ab.same{H H':Hp}(s:AO H H'){ds:List Dt}{xs:List V}(r:Ab H ds xs):Ab H' ds xs:=⟨r.1,fun i d x h1 h2=>(r.2 i d x h1 h2).same s⟩
variable{ds:List Dt}
def Ab.snoc{xs:List V}{d:Dt}{x:V}(r:Ab H ds xs)(q:Rep H d x):Ab H (ds++[d]) (xs++[x]):=by
 obtain⟨hl,r⟩:=r;refine⟨by rw[Au,Au,hl];rfl,fun i d' x' h1 h2=>?_⟩;by_cases hi:i<ds.length
 ·rw[C3 hi] at h1;rw[C3 (by lia)] at h2;exact r i d' x' h1 h2
 ·have DD:i<(ds++[d]).length:=(BX.mp h1).1;rw[Au,Cf] at DD;obtain rfl:i=ds.length:=by lia
  rw[Cn (Ad _),El] at h1;rw[Cn (by lia),<-hl,El] at h2;simp at h1 h2;subst h1 h2;exact q
def Rep.FY{xs:List V}(h:H a=some (.lst xs))(r:Ab H ds xs):Rep H (.lst ds) (.ref a):=.lst h r.1 r.2
def Rep.Jo{xs:List V}(h:H a=some (.tup xs))(r:Ab H ds xs):Rep H (.tup ds) (.ref a):=.tup h r.1 r.2
noncomputable def QN:qv->Option Str
 |.Constant (.str x) _ _=>some x
 |_=>none
def Kk:List qv->Option (List Str)
 |[]=>some []
 |c::r=>(QN c).bind fun x=>(Kk r).map (x::·)
def j0(h:QN c=some x):∃k p,c=.Constant (.str x) k p:=by
 cases c;case Constant c k p=>
  cases c;case str y=>cases h;exact⟨_,_,rfl⟩
  all_goals cases h
 all_goals cases h
def Zm(xs:List Str):TA:=fun _ H Q=>Q (xs.map V.str) H
def Sq{X:Cx}:∀{es:List qv}{xs:List Str},Kk es=some xs->PA X es (Zm xs)
 |[],xs,h=>by have e:xs=[]:=(Af h).symm;subst e;exact AI
 |c::r,xs,h=>by
  have h':(QN c).bind (fun x=>(Kk r).map (x::·))=some xs:=h
  cases ec:QN c with
  |none=>rw[ec] at h';cases h'
  |some x=>
   cases e:Kk r with
   |none=>rw[ec,e] at h';cases h'
   |some ys=>rw[ec,e] at h';have e2:xs=x::ys:=(Af h').symm;subst e2;obtain⟨_,_,rfl⟩:=j0 ec;exact AE AZ (Sq e)
def kA{X:Cx}(i:Nat)(es:List qv)(xs:List Str)(h:Kk es=some xs)(x:Str)(p pos pos':Pos)(hN:X.N.Nodup)(hi:X.N[i]? =some x)(hx:Loc X.env.scope x)(hf:X.fn x=true):
 PS X (.Assign [.Name x pos'] (.List es p) pos) (QL (af (Zm xs)) (Ec i)):=Ax hN hi hx (Bt (@Sq X es xs h)) rfl (.inl hf)
def Hg{y:Str}{c:Ya}(hc:X.calm=true)(hk:scope.kind=.function)(h:scope.names.all (fun p=>p.2 !=.cell&&(p.2 !=.free||p.1==y))=true)
 (hn:∀z∈scope.names,z.2=.local->scope.names.lookup z.1=some .local)(hcl:closureFor scope X.env=pure [(y,c)])(hce:X.env.cells.lookup y=some c)(hx:X.env.kindOf y=some .cell)(hj:X.N[j]? =some y)
 (hr:(sV scope X.env).names.lookup y=some .cell):Kd X ts [y] [j] scope [(y,c)]:=by
 have h0:∀z∈scope.names,z.2≠.cell/\(z.2=.free->z.1=y):=fun z hz=>by have:=OZ.mp h z hz;simp only[F2,Bool.or_eq_true,bne_iff_ne,Gg] at this;exact⟨this.1,fun e=>this.2.elim (fun q=>absurd e q) id⟩
 have h1:∀z k,(sV scope X.env).names.lookup z=some k->(k=.cell\/k=.free)->z=y:=fun z k hz h4=>by
  have hm:=JG hz;obtain⟨q,hq,e⟩:=BZ.mp (show(z,k)∈scope.names.map _ from hm);obtain⟨n,kq⟩:=q;have h3:=h0 (n,kq) hq;by_cases hf:kq=.free
  ·have e1:n=y:=h3.2 hf;have e2:n=z:=by have:=BL Prod.fst e;revert this;dsimp only;split<;>exact id
   rw[<-e2,e1]
  ·have e3:(n,kq)=(z,k):=by
    rw[<-e];dsimp only;rw[AG (by
     intro zz;have:(kq==NameKind.free)=true:=by simp only[F2] at zz;exact zz.1.1
     exact hf (by simpa using this))]
   have e4:kq=k:=BL Prod.snd e3;rcases h4 with z1|z1
   ·exact absurd (e4.trans z1) h3.1
   ·exact absurd (e4.trans z1) hf
 refine⟨hc,hcl,fun z hz=>(h0 z hz).1,hk,hn,fun z a e=>?_,fun z hz=>?_,rfl,fun i z k e1 e2=>?_,fun z hz=>?_⟩
 ·by_cases h2:z=y
  ·rw[h2] at e⊢;rw[HY,JI] at e;rw[<-Af e];exact hce
  ·rw[HY,LG h2] at e;cases e
 ·have e:z=y:=hz.elim (fun q=>h1 z _ q (.inl rfl)) fun q=>h1 z _ q (.inr rfl);rw[e];exact⟨c,by rw[HY,JI]⟩
 ·cases i with
  |zero=>
   have e3:z=y:=by simpa using e1.symm
   have e4:k=j:=by simpa using e2.symm
   rw[e3,e4];exact hj
  |succ i=>simp at e1
 ·have e:z=y:=Bk.mp hz;rw[e];exact⟨.inr (.inl hx),(by rw[hx];intro q;cases q),.inl hr⟩
def FV{y:Str}(h:x≠y):([x]++[y]:List Str).Nodup:=by simp[h]
def ZQ(a:String)(h:a="list" \/a="tuple"):kitAny K (.type a) (["list","tuple"].map Value.type)=some true:=by rcases h with e|e<;>subst e<;>kernel_rfl
def TF(a:String)(h:a="str" \/a="int" \/a="bool"):kitAny K (.type a) (["list","tuple"].map Value.type)=some false:=by rcases h with e|e|e<;>subst e<;>kernel_rfl
def IK(a:String):tD K (.type a) (.type a)=some true:=by unfold tD;rw[AH (by simp)]
def Zh:tD K (.type "list") (.type "tuple")=some false:=by kernel_rfl
def Zf:tD K (.type "tuple") (.type "list")=some false:=by kernel_rfl
def o4:tD K (.type "int") (.type "str")=some false:=by kernel_rfl
def nj:tD K (.type "bool") (.type "str")=some false:=by kernel_rfl
def Zl:tD K (.type "int") (.type "bool")=some false:=by kernel_rfl
def Gs:rL "isinstance" =some (.builtin "isinstance"):=by left
def En:rL "list" =some (.type "list"):=by left
def SK:rL "tuple" =some (.type "tuple"):=by left
def ZS:rL "str" =some (.type "str"):=by left
def Lk:rL "int" =some (.type "int"):=by left
def TB:rL "bool" =some (.type "bool"):=by left
structure Own(mg:Str->Option AA):Prop where
 HV:mg "isinstance" =none
 lst:mg "list" =none
 tup:mg "tuple" =none
 str:mg "str" =none
 int:mg "int" =none
 bl:mg "bool" =none
 len:mg "len" =none
 Jp:mg "range" =none
def Eg(H H':Hp)(ds:List Dt)(ps:List Ya):Prop:=ds.length=ps.length/\∀(i:Nat) d p,ds[i]? =some d->ps[i]? =some p->∃x y,H' p=some (.tup [x,y])/\Rep H d x/\Rep H d y
def Eg.same{ps:List Ya}(k:∀b xs,H1 b=some (.tup xs)->H2 b=some (.tup xs))(s:Eg H H1 ds ps):Eg H H2 ds ps:=
 ⟨s.1,fun i d p h1 h2=>let⟨x,y,a,b,c⟩:=s.2 i d p h1 h2;⟨x,y,k _ _ a,b,c⟩⟩
def Eg.snoc{ps:List Ya}{d:Dt}{p:Ya}{x:V}(s:Eg H H1 ds ps)(h:H1 p=some (.tup [x,y]))(rx:Rep H d x)(ry:Rep H d y):Eg H H1 (ds++[d]) (ps++[p]):=by
 obtain⟨hl,r⟩:=s;refine⟨by rw[Au,Au,hl];rfl,fun i d' x' h1 h2=>?_⟩;by_cases hi:i<ds.length
 ·rw[C3 hi] at h1;rw[C3 (by lia)] at h2;exact r i d' x' h1 h2
 ·have DD:i<(ds++[d]).length:=(BX.mp h1).1;rw[Au,Cf] at DD;obtain rfl:i=ds.length:=by lia
  rw[Cn (Ad _),El] at h1;rw[Cn (by lia),<-hl,El] at h2;simp at h1 h2;subst h1 h2;exact⟨x,y,h,rx,ry⟩
def Eg.lR{ps:List Ya}{p:Ya}(s:Eg H H1 ds (ps++[p])):∃ds' d x y,ds=ds'++[d]/\Eg H H1 ds' ps/\H1 p=some (.tup [x,y])/\Rep H d x/\Rep H d y:=by
 obtain⟨hl,r⟩:=s;rcases List.eq_nil_or_concat ds with e|⟨ds',d,e⟩
 ·subst e;simp at hl
 ·rw[List.concat_eq_append] at e;subst e;have h0:ds'.length=ps.length:=by simpa using hl
  obtain⟨x,y,a,b,c⟩:=r ds'.length d p (by simp) (by rw[h0];simp);refine⟨ds',d,x,y,rfl,⟨h0,fun i d1 p1 h1 h2=>r i d1 p1 ?_ ?_⟩,a,b,c⟩
  ·rw[C3 (BX.mp h1).1];exact h1
  ·rw[C3 (BX.mp h2).1];exact h2
def Inv.V9{xs:List V}(I:Inv X pins σ H s)(hf:∀b∈fp,GL X pins H b)
 (k:∀b o,b∉fp->s.heap.get? b=some o->h'.get? b=some o)(th:∀b∈fp,∃o,h'.get? b=some o)(rv:Vals xs us)(hz:xs.length<=sizeLine)(ht:IsTup h' s.heap.objs.size us.toArray):
 Inv X pins σ (upd H s.heap.objs.size (.tup xs)) {s with heap:=h',toks:=t'}:=by
 have hn:H s.heap.objs.size=none:=I.hok.fresh (Ad _);have nt:∀b o,s.heap.get? b=some o->b≠s.heap.objs.size:=fun b o e=>BN (A7 e);have tf:∀b u,H b=some u->b∉fp:=fun b u e z=>by rw[(hf b z).1] at e;cases e
 have tn:∀b u,H b=some u->b≠s.heap.objs.size:=fun b u e z=>by rw[z,hn] at e;cases e
 refine I.step (g':=s.gens) (d':=s.drawn) (ch:=fp) (fun b hb=>?_) (fun b o _ _ hc e _=>k b o hc e) (fun b o _ _ hc e _=>⟨o.slots,k b o hc e⟩) (fun b o _ e n=>by rw[AQ (nt b o e)];exact n)
  (fun b o hc e=>⟨o,k b o hc e⟩) (fun b ys e=>by rw[AQ (tn _ _ e)];exact e) (fun b o u e=>by rw[AQ (tn _ _ e)];exact e) (fun b ps e=>⟨#[],by rw[AQ (tn _ _ e),e];simp⟩) (fun m hm=>?_) (fun b u e=>?_) I.bare
 ·obtain⟨_,f1,_,f3,f4,f5⟩:=hf b hb;exact⟨f3,f1,f4,f5⟩
 ·obtain⟨o,es,ep,ho,r⟩:=hm;exact⟨o,es,ep,k _ o (fun z=>(hf _ z).2.1 rfl) ho,r⟩
 ·by_cases hb:b=s.heap.objs.size
  ·subst hb;rw[AM] at e;cases e;exact⟨hz,us,rv,ht⟩
  ·rw[AQ hb] at e;refine(I.hok b u e).Eu (fun c v hc q=>k c v ?_ q) (fun c q=>?_) fun c ys q=>?_
   ·rcases hc with z|z
    ·rw[z];exact tf b u e
    ·exact tf c _ z
   ·rw[AQ (tn _ _ q)];exact q
   ·rw[AQ (tn _ _ q)];exact q
def MA(K:uT)(a:Ya):It:=
 ⟨fun i H=>∃xs x,AK K H a xs/\xs[i]? =some x,fun i H v H'=>∃p,v=.ref p/\H p=none/\∀xs,AK K H a xs->∃x,xs[i]? =some x/\H'=upd H p (.tup [.int i,x]),fun i H=>∃xs,AK K H a xs/\xs.length<=i⟩
variable{elts:List qv}{tpos:Pos}
def zy:0<=sizeLine:=by decide
def zx:1<=sizeLine:=by decide
def zw:2<=sizeLine:=by decide
def zv:3<=sizeLine:=by decide
def z_0:4<=sizeLine:=by decide
def gG{x1:Nat}(a e it:Ya)(hne:e≠it):
 Turn P w K (.Tuple elts x1 tpos) (MA K a) [e,it] e (fun i h=>(∃old,IsEnum h e it i old)/\h.IsListIter it a i) where
 mem:=by simp
 obj:=fun i h st b hb=>by
  obtain⟨⟨old,he⟩,o,ho,hc,hd⟩:=st;have h0:b=e\/b=it:=by simpa using hb
  rcases h0 with z|z
  ·subst z;exact⟨_,he,fun v q=>by have q':Data.fields _=Data.cell v:=q;cases q'⟩
  ·subst z;exact⟨o,ho,fun v q=>by rw[hd] at q;cases q⟩
 keep:=fun i h h' st k=>by obtain⟨⟨old,he⟩,hi⟩:=st;exact⟨⟨old,k e (by simp) _ he⟩,hi.at fun o z=>k it (by simp) o z⟩
 item:=by
  intro X hP hw hK hc i h4 s σ H E I hf st hg;subst hP hw hK;obtain⟨⟨old,he⟩,hi⟩:=st;obtain⟨xs,x,hq,hx⟩:=hg;obtain⟨h5,rv,p,hz⟩:=I.list hq;obtain⟨u,hu,ru⟩:=rv.get hx;have hn:H s.heap.objs.size=none:=I.hok.fresh (Ad _);have le:e<s.heap.objs.size:=A7 he;obtain⟨oi,h6,_⟩:=id hi;refine wpAny_pyNext_enum_item he hi p.isList (x:=u) (by simpa using hu) hne fun h1 eo i1 t1 z1 k1=>⟨_,rfl,?_⟩;refine wpAny_letOwnedTupleGo_enum eo fun h2 e2 sb=>?_;have h3:Heap.SameBut e h1 h2:=sb;have k2:∀b o,b∉[e,it]->s.heap.get? b=some o->h2.get? b=some o:=fun b o hb z=>by
   have h0:b≠e/\b≠it:=by simpa using hb
   exact(h3.2 b h0.1).trans (k1 b o h0.1 h0.2 z)
  have i2:h2.IsListIter it a (i+1):=by obtain⟨o,z,r⟩:=i1;exact⟨o,(h3.2 it (DK hne)).trans z,r⟩
  have t2:IsTup h2 s.heap.objs.size [Value.int i s.toks,u].toArray:=⟨_,(h3.2 _ (E8 le)).trans t1,rfl,_,rfl⟩;have I2:=I.V9 (h':=h2) (t':=s.toks+1) (xs:=[.int i,x]) hf k2 (fun b hb=>by
   have h0:b=e\/b=it:=by simpa using hb
   rcases h0 with z|z
   ·rw[z];exact⟨_,e2⟩
   ·rw[z];obtain⟨o,z,_⟩:=i2;exact⟨o,z⟩) (.cons ⟨_,rfl⟩ (.cons ru .nil)) (by exact zw) t2;refine⟨.ref s.heap.objs.size,_,I2,rfl,⟨_,rfl,hn,fun ys hy=>⟨x,by rw[I.Wx hy hq];exact hx,rfl⟩⟩,⟨⟨u,?_⟩,i2⟩,fun b hb=>?_⟩
  ·have:IsEnum h2 e it ((i:Int)+1) u:=e2;exact this
  ·have h0:b≠s.heap.objs.size:=by
    have h7:b=e\/b=it:=by simpa using hb
    rcases h7 with z|z
    ·rw[z];exact BN le
    ·rw[z];exact BN (A7 h6)
   rw[AQ h0];exact(hf b hb).1
 done:=by intro X hP hw hK hc i h4 s σ H E I hf st hg;subst hP hw hK;obtain⟨⟨old,he⟩,hi⟩:=st;obtain⟨xs,hq,hx⟩:=hg;obtain⟨h5,rv,p,hz⟩:=I.list hq;obtain⟨f0,f1,f2,f3,f4,f5⟩:=hf it (by simp);have hl:=rv.length;exact wpAny_pyNext_enum_end (I.ok.hd hc) he hi p.isList (by simp;lia) fun h' eb=>⟨rfl,I.turned (t':=s.toks) (fun b o hb e=>eb b o hb e) f0 f1 f3 f4 f5⟩
 self:=fun _ _ _ _ _ st h=>by obtain⟨⟨old,he⟩,_⟩:=st;exact wpAny_pyIter_enum he h
def ou(K:uT)(ta:TA):TI:=fun σ H R=>ta σ H fun vs H1=>∃a,vs=[.ref a]/\(∃xs,AK K H1 a xs)/\R (MA K a) H1
def YD{x1:Nat}{a:qv}{ta:TA}(hg:Gl X "enumerate")(hm:X.mg "enumerate" =none)(ha:PA X [a] ta)(hs:hX [a] X.env=[(false,rC a X.env)]:=by rfl):
 PI X (.Tuple elts x1 tpos) (.Call (.Name "enumerate" p) [a] [] pos) (ou X.K ta):=by
 intro h0 s σ H R I h;refine Call_ (NU I hg hm boot_enumerate (VB (Ah (ha pos h0 s σ H _ I h) fun us s1 ⟨vs,H1,I1,r1,q1⟩=>?_) hs rfl));obtain⟨l,e,⟨xs,hq⟩,q⟩:=q1;subst e;obtain⟨u,rfl,ru⟩:=vals1 r1;cases ru;obtain⟨h2,rv,p,hz⟩:=I1.list hq;refine call_enumerate_list p.isList fun h' he hi h3 kk=>wpAny_pyIter_enum he ?_;refine⟨s1.heap.objs.size+1,[s1.heap.objs.size+1,s1.heap.objs.size],_,_,H1,rfl,I1.kept (t':=s1.toks) kk,gG l _ _ (E8 (Mc _)),⟨⟨_,he⟩,hi⟩,fun b hb=>?_,q⟩;have h1:b=s1.heap.objs.size+1\/b=s1.heap.objs.size:=by simpa using hb
 rcases h1 with z|z
 ·rw[z];exact I1.Ko (E9 _) (I1.hok.fresh (E9 _))
 ·rw[z];exact I1.Ko (Ad _) (I1.hok.fresh (Ad _))
def gf{xs:List V}{D:Ends}(Pv:Nat->St->Hp->Prop)(h0:Pv 0 σ H)(hl:∀i σ H,i<=xs.length->Pv i σ H->AK K H a xs)
 (hs:∀i x p σ H,xs[i]? =some x->H p=none->Pv i σ H->g (.ref p) σ (upd H p (.tup [.int i,x])) fun σ2 H2=>tb {D with nx:=Pv (i+1),ct:=Pv (i+1),bk:=D.nx} σ2 H2)(hd:∀σ H,Pv xs.length σ H->D.nx σ H):
 ∃W:Nat->Nat->St->Hp->Prop,(∃m,W 0 m σ H)/\∀i m σ H,W i m σ H->
  ((MA K a).stop i H/\D.nx σ H)\/((MA K a).go i H/\∃N:St->Hp->Prop,(∀σ' H',N σ' H'->∃m',m'<m/\W (i+1) m' σ' H')/\∀x H',(MA K a).Ju i H x H'->g x σ H' fun σ2 H2=>tb {D with nx:=N,ct:=N,bk:=D.nx} σ2 H2):=by
 refine⟨fun i m σ H=>m=xs.length-i/\i<=xs.length/\Pv i σ H,⟨xs.length,by simp,CN _,h0⟩,?_⟩;rintro i m σ H ⟨rfl,hi,p⟩;have q:=hl i σ H hi p;by_cases h1:i<xs.length
 ·refine .inr ⟨⟨xs,xs[i],q,by simp[h1]⟩,Pv (i+1),fun σ' H' p'=>⟨xs.length-(i+1),by lia,rfl,h1,p'⟩,fun v H' y=>?_⟩;obtain⟨pa,ev,hp,y⟩:=y;obtain⟨x,hx,eH⟩:=y xs q;subst ev eH;exact hs i x pa σ H hx hp p
 ·obtain rfl:i=xs.length:=by lia
  exact .inl ⟨⟨xs,q,Ad _⟩,hd σ H p⟩
def KV.vals{κ:Type}:∀{AD:List (κ×V)}{ws:List (κ×AA)},KV AD ws->Vals (AD.map (·.2)) (ws.map (·.2))
 |_,_,.nil=>.nil
 |_,_,.cons r t=>.cons r.2 (KV.vals t)
def cp(r:Vals (ns.map V.int) us){v:AA}(e:us[i]? =some v):∃t,v=.int (ns.getD i 0) t:=by have hl:=r.length;rw[AL] at hl;have hi:i<us.length:=(BX.mp e).1;have hn:ns[i]? =some ns[i]:=Ar (by lia);obtain⟨u,hu,t,et⟩:=r.get (i:=i) (x:=.int ns[i]) (by rw[Az,hn];rfl);rw[e] at hu;cases hu;rw[Cu,hn];exact⟨t,et⟩
noncomputable def Hq(p d:Ya):HO:=.ext fun h=>h.IsValuesView p d
def kK:V->List V->Hp->VK->Prop:=fun x vs H Q=>∃d h0,x=.ref d/\vs=[]/\H d=some (.dK h0)/\∀p,H p=none->Q (.ref p) (upd H p (Hq p d))
def WA:Ia X "dict.values" kK:=by intro h0 s σ H x vs v us Q I rx rv h;obtain⟨d,h4,rfl,rfl,hd,q⟩:=h;cases rx;cases rv;obtain⟨z,hm,ws,h3,dd⟩:=Jc I.hok hd;refine Ol VE dd.typeIs PySem.F.entry_dict_values (PySem.F.args_dict_values_1 _) (meets_dict_values (Ci X.prog X.w) d hm) ⟨⟨ws,dd⟩,?_⟩;refine⟨.ref s.heap.objs.size,_,I.laid (t':=s.toks) (o:=Hq s.heap.objs.size d) (fun b o e=>BB _ e) (Ad _) ?_,rfl,q _ I.fresh⟩;have hv:(s.heap.push {cls:=.type "dict_values",data:=.fields #[.ref d]}).IsValuesView s.heap.objs.size d:=⟨_,CC _ rfl,rfl,rfl⟩;exact⟨hv,⟨_,CC _ rfl⟩,fun h1 h2 a k=>let⟨o,e,r⟩:=a;⟨o,k o e,r⟩⟩
def f9(hc:X.calm=true):DO X (.builtin "min") (fun xs H Q=>∃(p d:Ya)(AD:List (Key×V))(ns:List Int),xs=[.ref p]/\H p=some (Hq p d)/\H d=some (.dK AD)/\AD.map (·.2)=ns.map V.int/\ns≠[]/\
 ∀m,m∈ns->(∀n∈ns,m<=n)->Q (.int m) H):=by
 intro h5 s σ H xs us Q I r h;obtain⟨p,d,AD,ns,rfl,hp,hd,hv,h7,q⟩:=h;obtain⟨u,rfl,rx⟩:=vals1 r;cases rx;obtain⟨z,hm,ws,h4,dd⟩:=Jc I.hok hd;obtain⟨h6,_⟩:=(show BP X.prog X.w H s.heap p (Hq p d) from I.hok p _ hp);have h0:s.heap.IsValuesView p d:=h6;obtain⟨ep,da⟩:=dd.dictAt;have hh:X.A.in1.handled=none:=I.ok.hd hc;have rv:=KV.vals h4;rw[hv] at rv;have h8:ws.length=ns.length:=by
  have h1:=rv.length;rw[AL,AL] at h1
  lia
 have vi:∀(i:Nat)(v:AA),(∃k:Key,ws[i]? =some (k,v))->∃t,v=.int (ns.getD i 0) t:=fun i v ⟨k,e⟩=>cp rv (by rw[Az,e];rfl);obtain⟨od,_,h2,_⟩:=id da;have nd:d≠s.heap.objs.size:=BN (A7 h2);have np:0<ns.length:=List.length_pos_iff.mpr h7;refine call_min_walk (wpAny_pyIter_values h0 da ?_);refine⟨s.heap.objs.size,[s.heap.objs.size,d],[s.heap.objs.size],ws.length,fun i v=>∃k:Key,ws[i]? =some (k,v),_,fun i j=>decide (ns.getD i 0<ns.getD j 0),rfl,Walks.dictValues hh _ d nd ws ep,
  ⟨⟨_,CC _ rfl,rfl,rfl⟩,da.at' fun o e=>BB _ e⟩,fun b hb=>?_,by lia,CmpOf.ints_lt (fun i=>ns.getD i 0) vi,fun v h' tk hP kk=>?_⟩
 ·have h9:b=s.heap.objs.size\/b=d:=by simpa using hb
  rw[Ha];rcases h9 with e|e
  ·rw[e];exact Mc _
  ·rw[e];exact OU (A7 h2)
 ·obtain⟨a1,a2⟩:=argBest_lt (fun i=>ns.getD i 0) (ws.length-1);obtain⟨t,et⟩:=vi _ v hP;generalize argBest (fun i j=>decide (ns.getD i 0<ns.getD j 0)) (ws.length-1)=ix at a1 a2 et;subst et;have h3:ix<ns.length:=by lia
  refine⟨.int (ns.getD ix 0),H,I.kept (fun b ob e=>kk b ob (by simpa using BN (A7 e)) (BB _ e)),⟨t,rfl⟩,q _ ?_ fun n hn=>?_⟩
  ·rw[Cu,Ar h3];exact F1 h3
  ·obtain⟨j,hj,e⟩:=Ie.mp hn;have:=a2 j (by lia);have ej:ns.getD j 0=n:=by rw[Cu,Ar hj];exact e
   rw[<-ej];exact this
section
open PySem.W
section
variable(r:Nat->Nat)
noncomputable def QY(i j:Nat):Bool:=decide (r i<r j)
end
structure Nm(α:Type) where
 lt:α->α->Bool
 bN:∀a,lt a a=false
 tr:∀a b c,lt a b=true->lt b c=true->lt a c=true
 BE:∀a b,lt a b=false->lt b a=false->a=b
noncomputable def JX{α:Type}(O:Nm α)(l:List α)(a:α):Nat:=l.countP fun b=>O.lt b a
def Ri{α:Type}{p q:α->Bool}:∀{l:List α},(∀x∈l,p x=true->q x=true)->l.countP p<=l.countP q
 |[],_=>Ad _
 |x::r,h=>by
  have ih:=Ri (l:=r) fun y hy=>h y (DG _ hy);rw[OX,OX];have hx:=h x EB
  cases e1:p x with
  |false=>simp;lia
  |true=>rw[hx e1];simp;lia
def Vi{α:Type}{p q:α->Bool}:∀{l:List α}{a:α},a∈l->(∀x∈l,p x=true->q x=true)->p a=false->q a=true->l.countP p<l.countP q
 |x::r,a,ha,h,h1,h2=>by
  rw[OX,OX];rcases Bn.mp ha with e|e
  ·subst e;have ih:=Ri (l:=r) fun y hy=>h y (DG _ hy);rw[h1,h2];simp
   lia
  ·have ih:=Vi e (fun y hy=>h y (DG _ hy)) h1 h2;have hx:=h x EB
   cases e1:p x with
   |false=>simp;lia
   |true=>rw[hx e1];simp;lia
def PH(O:Nm α)(l:List α){a b:α}(ha:a∈l):O.lt a b=decide (JX O l a<JX O l b):=by
 cases e:O.lt a b with
 |true=>have:JX O l a<JX O l b:=Vi ha (fun x _ hx=>O.tr x a b hx e) (O.bN a) e;rw[BW this]
 |false=>
  have:JX O l b<=JX O l a:=Ri fun x _ hx=>by
   cases e2:O.lt b a with
   |true=>exact O.tr x b a hx e2
   |false=>rw[O.BE a b e e2];exact hx
  rw[BK (by lia)]
noncomputable def Lg(h:rE)(a:Ya)(vs:List AA):rE:=((h.update a (Obj.mapSeq fun _=> #[])).push (rP "tuple" vs.toArray 0)).push (rP "list" #[] 0)
noncomputable def GJ(vs:List AA)(p:List Nat):List AA:=p.map fun i=>vs.getD i Value.none
def N0(prog:qy)(w:rH)(A:sJ)(vs:List AA)(r:Nat->Nat)(s3:Yf):Prop:=
 cm (ax prog w) A (keyKind' vs.toArray) (fun κ s'=>s'=s3/\∀i j C,i<vs.length->j<vs.length->C (QY r i j) s3->kas_ask prog w A κ vs i j C s3) (fun _ _=>False) s3
noncomputable def Ef:Key->Key->Bool
 |.inl i,.inl j=>decide (i<j)
 |.inr x,.inr y=>decide (x.cps.toList<y.cps.toList)
 |.inl _,.inr _=>true
 |.inr _,.inl _=>false
def Vj{a b:Str}(h:a.cps.toList=b.cps.toList):a=b:=by cases a;cases b;congr 1;exact J7.mp h
def YN:∀a,Ef a a=false
 |.inl i=>BK (by lia)
 |.inr x=>BK (List.lt_irrefl _)
def ZE:∀a b c,Ef a b=true->Ef b c=true->Ef a c=true
 |.inl i,.inl j,.inl k,h1,h2=>BW (Int.lt_trans (HX h1) (HX h2))
 |.inl _,.inl _,.inr _,_,_=>rfl
 |.inl _,.inr _,.inr _,_,_=>rfl
 |.inr x,.inr y,.inr z,h1,h2=>BW (List.lt_trans (HX h1) (HX h2))
 |.inl _,.inr _,.inl _,_,h2=>by cases h2
 |.inr _,.inl _,_,h1,_=>by cases h1
 |.inr _,.inr _,.inl _,_,h2=>by cases h2
def YQ:∀a b,Ef a b=false->Ef b a=false->a=b
 |.inl i,.inl j,h1,h2=>by
  have e1:¬i<j:=Qz h1;have e2:¬j<i:=Qz h2;have e:i=j:=by lia
  rw[e]
 |.inr x,.inr y,h1,h2=>by have e1:¬x.cps.toList<y.cps.toList:=Qz h1;have e2:¬y.cps.toList<x.cps.toList:=Qz h2;rw[Vj (List.le_antisymm (List.not_lt.mp e2) (List.not_lt.mp e1))]
 |.inl _,.inr _,h1,_=>by cases h1
 |.inr _,.inl _,_,h2=>by cases h2
def Dc:List Key->List Key->Bool
 |[],[]=>false
 |[],_::_=>true
 |_::_,[]=>false
 |a::r,b::t=>if a=b then Dc r t else Ef a b
def Xs:∀a,Dc a a=false
 |[]=>rfl
 |a::r=>by show(if a=a then Dc r r else Ef a a)=false;rw[AH rfl];exact Xs r
def Ye:∀a b c,Dc a b=true->Dc b c=true->Dc a c=true
 |[],[],_,h,_=>by cases h
 |[],_::_,[],_,h=>by cases h
 |[],_::_,_::_,_,_=>rfl
 |_::_,[],_,h,_=>by cases h
 |_::_,_::_,[],_,h=>by cases h
 |a::r,b::t,c::u,h1,h2=>by
  have h4:(if a=b then Dc r t else Ef a b)=true:=h1;have h0:(if b=c then Dc t u else Ef b c)=true:=h2;show(if a=c then Dc r u else Ef a c)=true;by_cases e1:a=b
  ·rw[AH e1] at h4;by_cases e2:b=c
   ·rw[AH e2] at h0;rw[AH (e1.trans e2)];exact Ye r t u h4 h0
   ·rw[AG e2] at h0;rw[AG (by rw[e1];exact e2),e1];exact h0
  ·rw[AG e1] at h4;by_cases e2:b=c
   ·rw[AH e2] at h0;rw[AG (by rw[<-e2];exact e1),<-e2];exact h4
   ·rw[AG e2] at h0;have h3:=ZE a b c h4 h0;by_cases e3:a=c
    ·rw[e3,YN] at h3;cases h3
    ·rw[AG e3];exact h3
def W4:∀a b,Dc a b=false->Dc b a=false->a=b
 |[],[],_,_=>rfl
 |[],_::_,h,_=>by cases h
 |_::_,[],_,h=>by cases h
 |a::r,b::t,h1,h2=>by
  have h3:(if a=b then Dc r t else Ef a b)=false:=h1;have h0:(if b=a then Dc t r else Ef b a)=false:=h2;by_cases e:a=b
  ·rw[AH e] at h3;rw[AH e.symm] at h0;rw[e,W4 r t h3 h0]
  ·rw[AG e] at h3;rw[AG (fun z=>e z.symm)] at h0;exact absurd (YQ a b h3 h0) e
def lexOrd:Nm (List Key):=⟨Dc,Xs,Ye,W4⟩
noncomputable def kd:Key->Bool
 |.inl _=>true
 |.inr _=>false
def lP{a b:Key}{v:AA}(ha:RelV (kV a) u)(hb:RelV (kV b) v)(h:kd a=kd b){Q:Bool->Yf->Prop}(q:Q (decide (a=b)) s):cm (ax prog w) A (eqBool u v) Q E s:=by
 match a,b,h with
 |.inl i,.inl j,_=>obtain⟨t,rfl⟩:=ha;obtain⟨t',rfl⟩:=hb;refine SeqAt.EqAt.int_int i t j t' prog w E Q ?_;rw[<-Yx];exact q
 |.inr x,.inr y,_=>obtain⟨t,rfl⟩:=ha;obtain⟨t',rfl⟩:=hb;refine SeqAt.EqAt.str_str x t y t' prog w E Q ?_;rw[ZL] at q;rw[Bool.beq_eq_decide_eq];exact q
 |.inl _,.inr _,h=>cases h
 |.inr _,.inl _,h=>cases h
def ka{a b:Key}{v:AA}(ha:RelV (kV a) u)(hb:RelV (kV b) v)(h:kd a=kd b)(c:Bool){Q:Bool->Yf->Prop}(q:Q (Ef a b) s):cm (ax prog w) A (oneLt' c u v) Q E s:=by
 match a,b,h with
 |.inl i,.inl j,_=>
  obtain⟨t,rfl⟩:=ha;obtain⟨t',rfl⟩:=hb
  cases c with
  |true=>exact oneLt_int q
  |false=>exact kat_one _ _ (lt_int q)
 |.inr x,.inr y,_=>
  obtain⟨t,rfl⟩:=ha;obtain⟨t',rfl⟩:=hb
  cases c with
  |true=>exact oneLt_str q
  |false=>exact kat_one _ _ (lt_str q)
 |.inl _,.inr _,h=>cases h
 |.inr _,.inl _,h=>cases h
def ZI{c:Bool}{Q:Bool->Yf->Prop}:∀(ks ls:List Key)(us vs:List AA)(i:Nat),Vals (ks.map kV) us->Vals (ls.map kV) vs->ks.map kd=ls.map kd->Q (Dc ks ls) s->KatLex prog w A c false Q (us.zip vs) i s
 |[],[],_,_,_,.nil,.nil,_,q=>q
 |[],_::_,_,_,_,_,_,h,_=>by cases h
 |_::_,[],_,_,_,_,_,h,_=>by cases h
 |a::ks,b::ls,_,_,i,.cons ra rs,.cons rb rt,h,q=>by
  have h1:kd a=kd b:=VI h;have h2:ks.map kd=ls.map kd:=List.tail_eq_of_cons_eq h;refine kat_cons (lP ra rb h1 ?_);have q':Q (if a=b then Dc ks ls else Ef a b) s:=q;by_cases e:a=b
  ·rw[BW e];rw[AH e] at q';exact kat_yes (ZI ks ls _ _ (i+1) rs rt h2 q')
  ·rw[BK e];rw[AG e] at q';exact kat_no (ka ra rb h1 _ q')
def Yr(h:rE)(ps:List (Ya×List Key)):Prop:=∀p∈ps,∃us:List AA,Vals (p.2.map kV) us/\IsTup h p.1 us.toArray
def V1{h:rE}:∀{ps:List (Ya×List Key)},Yr h ps->(∀p∈ps,p.2≠[])->∃fs:List AA,KatTups h (ps.map fun p=>Value.ref p.1) fs/\fs.length=ps.length/\∀v∈fs,∃p∈ps,∃a r,p.2=a::r/\RelV (kV a) v
 |[],_,_=>⟨[],KatTups.nil,rfl,fun v hv=>by cases hv⟩
 |p::ps,ht,hne=>by
  obtain⟨fs,t,hl,hf⟩:=V1 (ps:=ps) (fun q hq=>ht q (DG _ hq)) fun q hq=>hne q (DG _ hq);obtain⟨us,rv,o,h1,h2,n,h3⟩:=ht p EB
  cases e:p.2 with
  |nil=>exact absurd e (hne p EB)
  |cons a r=>
   rw[e] at rv
   cases rv with
   |@cons _ u _ us' ra rr=>
    refine⟨u::fs,KatTups.cons h1 h2 h3 (by simp) t,by rw[CD,CD,hl],fun v hv=>?_⟩;rcases Bn.mp hv with z|z
    ·rw[z];exact⟨p,EB,a,r,e,ra⟩
    ·obtain⟨q,hq,x⟩:=hf v z;exact⟨q,DG _ hq,x⟩
noncomputable def Fn(ps:List (Ya×List Key))(i:Nat):List Key:=(ps.getD i (0,[])).2
def Kv(ps:List (Ya×List Key))(i:Nat):Nat:=JX lexOrd (ps.map (·.2)) (Fn ps i)
def WW{ps:List (Ya×List Key)}(h:i<ps.length):Fn ps i∈ps.map (·.2):=by unfold Fn;rw[Cu,Ar h];exact BZ.mpr ⟨ps[i],F1 h,rfl⟩
def iB{ps:List (Ya×List Key)}{sh:List Bool}(ht:Yr s.heap ps)(hsh:∀p∈ps,p.2.map kd=sh)(hne:sh≠[])(h2:2<=ps.length):
 N0 prog w A (ps.map fun p=>Value.ref p.1) (Kv ps) s:=by
 have h0:∀p∈ps,p.2≠[]:=fun p hp e=>hne (by rw[<-hsh p hp,e];rfl);obtain⟨fs,t,hl,hf⟩:=V1 ht h0;obtain⟨c,cr,ec⟩:∃c cr,sh=c::cr:=by
  cases sh with
  |nil=>exact absurd rfl hne
  |cons c cr=>exact⟨c,cr,rfl⟩
 have go:∀T:AA,(∀v∈fs,Looks (ax prog w) s.heap (typeOf v) T)->(T==T)=true->(T !=Value.type "tuple")=true->N0 prog w A (ps.map fun p=>Value.ref p.1) (Kv ps) s:=fun T hT e1 e2=>by
  refine kat_kind t (by lia) hT e1 ⟨rfl,fun i j C hi hj q=>?_⟩;rw[AL] at hi hj;rw[e2];unfold kas_ask;have gi:∀k,k<ps.length->(ps.map fun p=>Value.ref p.1).getD k Value.none=Value.ref (ps.getD k (0,[])).1:=fun k hk=>by rw[Cu,Az,Ar hk,Cu,Ar hk];rfl
  have mi:∀k,k<ps.length->ps.getD k (0,[])∈ps:=fun k hk=>by rw[Cu,Ar hk];exact F1 hk
  rw[gi i hi,gi j hj];obtain⟨us,ru,ox,x1,x2,nx,x3⟩:=ht _ (mi i hi);obtain⟨vs,rv,oy,y1,y2,ny,y3⟩:=ht _ (mi j hj);have hs:(ps.getD i (0,[])).2.map kd=(ps.getD j (0,[])).2.map kd:=by rw[hsh _ (mi i hi),hsh _ (mi j hj)]
  refine kat_lt x1 x3 y1 y3 ?_;have el:decide (us.toArray.size<vs.toArray.size)=false:=by
   have l1:=ru.length;have l2:=rv.length;have l3:=BL List.length hs;rw[AL] at l1 l2;rw[AL,AL] at l3;refine BK ?_;rw[Cg,Cg]
   lia
  rw[el];refine ZI _ _ us vs 0 ru rv hs ?_;have e3:=PH lexOrd (ps.map (·.2)) (a:=Fn ps i) (b:=Fn ps j) (WW hi);have e4:QY (Kv ps) i j=Dc (Fn ps i) (Fn ps j):=e3.symm;rw[e4] at q;exact q
 cases c with
 |true=>
  refine go (.type "int") (fun v hv=>?_) (by decide) (by decide);obtain⟨p,hp,a,r,e,ra⟩:=hf v hv;have:=hsh p hp;rw[e,ec] at this
  match a,VI this with
  |.inl i,_=>obtain⟨t,rfl⟩:=ra;exact Looks.of_pure rfl
 |false=>
  refine go (.type "str") (fun v hv=>?_) (by decide) (by decide);obtain⟨p,hp,a,r,e,ra⟩:=hf v hv;have:=hsh p hp;rw[e,ec] at this
  match a,VI this with
  |.inr i,_=>obtain⟨t,rfl⟩:=ra;exact Looks.of_pure rfl
def WJ:∀{ps:List (Ya×List Key)}{us:List AA},Vals (ps.map fun p=>V.ref p.1) us->us=ps.map fun p=>Value.ref p.1
 |[],_,.nil=>rfl
 |_::_,_,.cons r t=>by rw[Av,<-WJ t];cases r;rfl
def Vv:∀ps:List (Ya×List Key),Vals (ps.map fun p=>V.ref p.1) (ps.map fun p=>Value.ref p.1)
 |[]=>.nil
 |_::r=>.cons rfl (Vv r)
def NF:∀{xs:List V}{us:List AA},xs.length=us.length->(∀(i:Nat) x u,xs[i]? =some x->us[i]? =some u->RelV x u)->Vals xs us
 |[],[],_,_=>.nil
 |x::xs,u::us,hl,h=>.cons (h 0 x u rfl rfl) (NF (by simpa using hl) fun i x u h1 h2=>h (i+1) x u (by simpa using h1) (by simpa using h2))
 |[],_::_,hl,_=>by cases hl
 |_::_,[],hl,_=>by cases hl
def L9(a b:Str):Bool:=Ef (Sum.inr a) (Sum.inr b)
def DB:Nm Str:=⟨L9,fun a=>YN _,fun a b c=>ZE _ _ _,fun a b h1 h2=>Sum.inr.inj (YQ _ _ h1 h2)⟩
def MG(zs:List Str)(i:Nat):Nat:=JX DB zs (zs.getD i "")
end
variable{zs:List Str}
section
open PySem.W
def Lj(r:Vals (zs.map V.str) us)(hk:k<zs.length):∃t,us.getD k Value.none=.str (zs.getD k "") t:=by
 have e:(zs.map V.str)[k]? =some (V.str (zs.getD k "")):=by rw[Az,Ar hk,Cu,Ar hk];rfl
 obtain⟨u,hu,t,ht⟩:=r.get e;exact⟨t,by rw[Cu,hu];exact ht⟩
def Xf(hk:k<zs.length):zs.getD k ""∈zs:=by rw[Cu,Ar hk];exact F1 hk
def iX(r:Vals (zs.map V.str) us)(h2:2<=us.length):N0 prog w A us (MG zs) s:=by
 have hl:zs.length=us.length:=by rw[<-r.length,AL]
 refine kas_kind (T:=.type "str") h2 (fun v hv=>?_) (by decide) (by decide) ⟨rfl,fun i j C hi hj q=>?_⟩
 ·obtain⟨k,hk,e⟩:=Ie.mp hv;obtain⟨t,et⟩:=Lj r (k:=k) (by lia);rw[Cu,Ar hk] at et;have:v=.str (zs.getD k "") t:=by rw[<-e];exact et
  rw[this];exact Looks.of_pure rfl
 ·unfold kas_ask;obtain⟨t1,e1⟩:=Lj r (k:=i) (by lia);obtain⟨t2,e2⟩:=Lj r (k:=j) (by lia);rw[e1,e2];refine kas_lt_str ?_;have e3:=PH DB zs (a:=zs.getD i "") (b:=zs.getD j "") (Xf (by lia));have e4:QY (MG zs) i j=decide ((zs.getD i "").cps.toList<(zs.getD j "").cps.toList):=e3.symm;rw[e4] at q;exact q
def mQ(K:uT):List V->Hp->VK->Prop:=fun xs H Q=>∃(l:Ya)(zs:List Str),xs=[.ref l]/\AK K H l (zs.map V.str)/\zs.length<64/\
 ∀(D:Ya)(ys:List Str),H D=none->ys.Perm zs->ys.Pairwise (fun a b=>L9 b a=false)->Q (.ref D) (upd H D (.lst (ys.map V.str)))
def TL:List V->Hp->VK->Prop:=fun xs H Q=>∃(d:Ya)(h0:List (Key×V)),xs=[.ref d]/\H d=some (.dK h0)/\∀l,H l=none->Q (.ref l) (upd H l (.lst (h0.map fun kv=>kV kv.1)))
def KD(hc:X.calm=true):DO X (.type "list") TL:=by
 intro h6 s σ H xs us Q I r h;obtain⟨d,h3,rfl,hd,q⟩:=h;obtain⟨u,rfl,rx⟩:=vals1 r;cases rx;obtain⟨z,hm,ws,h5,dd⟩:=Jc I.hok hd;obtain⟨ep,da⟩:=dd.dictAt;have hh:X.A.handled=none:=I.ok.hd hc;have h8:=h5.length;refine kdl_call (kdl_dict hm) hh da (by lia) fun h' tk h0 c' kp e h4=>?_;have hv:Vals (h3.map fun kv=>kV kv.1) h0.toList:=by
  refine NF (by have h1:h0.toList.length=h0.size:=E7;have h2:=h4.1;rw[AL];lia) fun i x u h1 h2=>?_;rw[GY] at h2;obtain⟨k,y,ek,is⟩:=h4.2 i u h2;have hk:(h3.map (·.1))[i]? =some k:=by rw[h5.keys,Az,ek];rfl
  have hx:(h3.map fun kv=>kV kv.1)[i]? =some (kV k):=by rw[show(h3.map fun kv=>kV kv.1)=(h3.map (·.1)).map kV by rw[Ba];rfl,Az,hk];rfl
  rw[hx] at h1;cases Af h1;have h7:Jf k u=true:=is;rcases Ge h7 with⟨i,t,rfl,rfl⟩|⟨z,t,rfl,rfl⟩
  ·exact⟨t,rfl⟩
  ·exact⟨t,rfl⟩
 refine⟨.ref s.heap.objs.size,_,I.laid (t':=tk) (o:=.lst (h3.map fun kv=>kV kv.1)) kp (Ad _) ⟨by rw[AL];lia,h0.toList,c',hv,by rw[Array.toArray_toList];exact e⟩,rfl,q _ I.fresh⟩
end
def Iq(a b:Str):(a++b).length=a.length+b.length:=by show(a.cps++b.cps).size=_;simp[Str.length]
def O9{c:TT}{t u v:TS}{D:Ends}(G:St->Hp->Prop)(hG:∀σ H,G σ H->v D σ H)(h:(∀σ H,G σ H->v D σ H)->Hu c t u {D with nx:=v D} σ H):Jm (Hu c t u) v D σ H:=h hG
def blank_eq:(" " :Str)=⟨#[32]⟩:=by left
def eG(n:Int):(Txt.mul " " n).cps.toList=List.replicate n.toNat 32:=by rw[blank_eq];exact mul_one_list 32 n
def cZ(n:Int)(h0:0<=n)(h:n<=10):MulOk " " n:=mulOk_of 1 10 (by left) (by lia) (by lia) (by decide) (by decide)
def Vg(n:Int):(Txt.mul " " n).length=n.toNat:=by have h:=BL List.length (eG n);rw[List.length_replicate] at h;simpa[Str.length] using h
def GB(xs:List α)(n:Nat)(hn:xs.length=n)(h0:0<n)(i:Int):∃v∈xs,G9 xs (i%(n:Int))=some v:=by
 have h1:0<=i%(n:Int):=RQ _ (by lia);have h2:i%(n:Int)<n:=Q4 _ (by lia);have e:i%(n:Int)=((i%(n:Int)).toNat:Int):=by lia
 have hl:(i%(n:Int)).toNat<xs.length:=by lia
 refine⟨xs[(i%(n:Int)).toNat],F1 hl,?_⟩;have:=B1 (xs:=xs) (j:=(i%(n:Int)).toNat) (v:=xs[(i%(n:Int)).toNat]) (Ar hl);rw[<-e] at this;exact this
def ZT:Sp:=fun vs H Q _=>∃a p m:Int,vs=[.int a,.int p,.int m]/\0<p/\0<m/\∀z:Int,Q (.int z) H
def Zx:Sp:=fun vs H Q _=>∃s:Int,vs=[.int s]/\∀z:Str,z.length=3->Q (.str z) H
noncomputable def sought:List Str:=["oak","oaks","elm","cat","[]","[a]","Oak","oa","elmelmelm"]
def XZ:Sp:=fun vs H Q _=>vs=[]/\∀(p:Ya)(H':Hp),AO H H'->H' p=some (.tup (sought.map V.str))->Q (.ref p) H'
def XO:Sp:=fun vs H Q _=>∃c k:Int,vs=[.int c,.int k]/\∀(z:Str)(H':Hp),z.length<=1000->AO H H'->Q (.str z) H'
def lQ:A0 ["_law_number","_law_prime","_law_many"] ["_law_number","_law_prime","_law_many"] (Ao P7):=by left
def kI(F:Ai K "_law_draw" "_law_draw" P7 f fd):AW P w K mg base Ag 1 f fd ["_law_number","_law_prime","_law_many"] ZT:=by
 refine F.ok lQ ?_ ?_
 ·rintro _ _ _ _ ⟨_,_,_,rfl,_⟩;rfl
 ·rintro _ A _ s H _ Q E hr ⟨a,p,m,rfl,hp,hm,q⟩;refine⟨_,AR (Al (An CG (An CG (An Po (pv 0) Ac) (pv 1)) (pv 2))),?_⟩;exact⟨_,rfl,_,_,rfl,rfl,.inr ⟨by decide,by decide⟩,_,rfl,_,_,rfl,rfl,hp,_,rfl,_,_,rfl,rfl,hm,q _⟩
noncomputable def bg:Str:="abcdefghijklmnopqrstuvwxyzABCDEFGHIJKLMNOPQRSTUVWXYZ0123456789"
noncomputable def bu:Str:="!#$&()*+,-./:;<=>?\x40[]^_`{|}~'"
def N7:Str:=bg++bu
def T9:A0 ["_law_spot","_law_signs"] ["_law_spot"] (Ao QJ):=by left
def UD:("w" :Str).length=1:=by left
def YB:N7.cps.toList.length=91:=by left
def mV(F:Ai K "_law_odd_word" "_law_odd_word" QJ f fd):AW P w K mg base Ag 1 f fd ["_law_spot"] Zx:=by
 refine F.ok T9 ?_ ?_
 ·rintro _ _ _ _ ⟨_,rfl,_⟩;rfl
 ·rintro _ A _ s H _ Q E hr ⟨i,rfl,q⟩;refine⟨_,AS (Ax (i:=1) T9.nd rfl (Aa rfl) AZ) (AS (Ax (i:=1) T9.nd rfl (Aa rfl) (An IG (pv 1) AZ))
   (AR (Al (An IG (An IG AZ (Bw Pq (pv 1) (An CG (pv 0) Ac) (fun _ _=>rfl))) (Bw Pq (pv 1) (An CG (An KW (pv 0) Ac) Ac) (fun _ _=>rfl)))))),?_⟩;refine⟨_,rfl,bg,bu,rfl,rfl,by left,?_⟩;obtain⟨v1,_,e1⟩:=GB N7.cps.toList 91 YB (by decide) i;obtain⟨v2,_,e2⟩:=GB N7.cps.toList 91 YB (by decide) (i/91);refine⟨_,rfl,_,rfl,_,_,rfl,rfl,(by show(0:Int)<91;decide),N7,_,v1,rfl,rfl,by left,e1,_,_,rfl,rfl,by rw[UD];show 1+1<=sizeLine;decide,?_⟩;refine⟨_,rfl,_,rfl,_,_,rfl,rfl,⟨by decide,by decide⟩,_,_,rfl,rfl,(by show(0:Int)<91;decide),N7,_,v2,rfl,rfl,by left,e2,_,_,rfl,rfl,by rw[Iq,UD];show 1+1+1<=sizeLine;decide,?_⟩;exact q _ (by rw[Iq,Iq,UD];rfl)
def Sv:List qv:=match(F6 NJ).getD 0 (.Pass ⟨0,0,0,0⟩) with|.Return (some (.Tuple v _ _)) _=>v|_=>[]
def dz:Kk Sv=some sought:=by left
def iW:A0 [] [] (Ao NJ):=by left
def fH(F:Ai K "_law_sought" "_law_sought" NJ f fd):AW P w K mg base Ag 1 f fd [] XZ:=by
 refine F.ok iW ?_ ?_
 ·rintro _ _ _ _ ⟨rfl,_⟩;rfl
 ·rintro _ A _ s H _ Q E hr ⟨rfl,q⟩;refine⟨_,@AR _ _ _ (@Al _ _ _ _ (@CA _ Sv _ _ _ (@Sq _ Sv sought dz))),?_⟩;exact⟨by show 9<=sizeLine;decide,fun p hp=>q p _ (AY hp) AM⟩
noncomputable def T7:List Str:=["oak","[a]","elm","[b]","ash","[cat]","oak","[catalogue]","[]","a[b]","[zed]","Oak"]
noncomputable def nI:List Str:=["oaks","oa","elmelmelm","oakum"]
def menu:List Str:=T7++nI
def i7:menu.length=16:=by left
def dQ:∀z∈menu,z.length<=11:=by left
def aJ:List qv:=match(F6 PZ).getD 0 (.Pass ⟨0,0,0,0⟩) with|.Assign _ (.List v _) _=>v|_=>[]
def kH:Kk aJ=some T7:=by left
def Hi:A0 ["_law_cell","_law_k","_law_menu","_law_rest","_law_text","_law_left","_law_j","_law_word"] ["_law_cell","_law_k"] (Ao PZ):=by left
def gK{fD fO:Ya}{fdD fdO:rA}(F:Ai K "_law_penned" "_law_penned" PZ f fd)(O:Own mg)
 (FD:Ai K "_law_draw" "_law_draw" P7 fD fdD)(bD:Binds K fdD ["_law_number","_law_prime","_law_many"] [])(mD:mg "_law_draw" =some (.ref fD))
 (FO:Ai K "_law_odd_word" "_law_odd_word" QJ fO fdO)(bO:Binds K fdO ["_law_spot"] [])(mO:mg "_law_odd_word" =some (.ref fO)):AW P w K mg base Ag 2 f fd ["_law_cell","_law_k"] XO:=by
 have GD:AW P w K mg base Ag 1 fD fdD ["_law_number","_law_prime","_law_many"] ZT:=kI FD;have GO:AW P w K mg base Ag 1 fO fdO ["_law_spot"] Zx:=mV FO;refine F.ok Hi ?_ ?_
 ·rintro _ _ _ _ ⟨_,_,rfl,_⟩;rfl
 ·rintro _ A _ s H _ Q E hr ⟨c,k,rfl,q⟩;refine⟨_,@AS _ _ _ _ _ (@kA _ 2 aJ T7 kH _ _ _ _ Hi.nd rfl (Aa rfl) rfl)
   (AS (Ax (i:=2) Hi.nd rfl (Aa rfl) (An Ir (pv 2) (Bt (AE AZ (AE AZ (AE AZ (AE AZ AI)))))))
   (AS (Ax (i:=3) Hi.nd rfl (Aa rfl) (An KW (pv 0) Ac))
   (AS (Ax (i:=4) Hi.nd rfl (Aa rfl) (Bw Cw (Bt (AE AZ (AE AZ AI))) (An CG (pv 3) Ac) (fun _ _=>rfl)))
   (AS (Ax (i:=5) Hi.nd rfl (Aa rfl) (Cp GD hr rfl mD FD.kp bD .nil A3 (AE (An Dk (pv 0) (An Po Ac (pv 1))) (AE Ac (AE Ac AI)))))
   (AS (DW DR rfl (O2 rfl O.Jp (AE (Bw Cw (Bt (AE (An CG (An Dk (pv 3) (pv 1)) Ac) (AE Ac AI))) (ED My rfl O.int Lk (AE (Hj BQ (An CG (pv 0) Ac) Ac (Ap _)) AI)) (fun _ _=>rfl)) AI)) (BY (i:=6) Hi.nd rfl (Aa rfl))
    (AS (Ax (i:=7) Hi.nd rfl (Aa rfl) (Bw Cw (pv 2) (An CG (An Dk (An Dk (pv 5) (An Po Ac (pv 6))) (pv 1)) Ac) (fun _ _=>rfl)))
    (AS (A1 (Aw BQ (An CG (An Dk (pv 5) (pv 6)) Ac) Ac (Ap _)) (AR (Ax (i:=7) Hi.nd rfl (Aa rfl) (Cp GO hr rfl mO FO.kp bO .nil A3 (AE (An Dk (pv 5) (pv 3)) AI)))) BD)
    (AS (Ax (i:=4) Hi.nd rfl (Aa rfl) (An IG (An IG (pv 4) (pv 7)) (An V4 AZ (Bw Cw (Bt (AE Ac (AE Ac (AE Ac (AE Ac (AE Ac AI)))))) (An CG (An Dk (pv 5) (pv 6)) Ac) (fun _ _=>rfl)))))
    (AR (Ax (i:=5) Hi.nd rfl (Aa rfl) (An KW (pv 5) Ac)))))))
   (AR (Al (pv 4)))))))),?_⟩;refine⟨by show 12<=sizeLine;decide,fun m0 h1=>⟨_,rfl,by exact z_0,fun l4 h2=>?_⟩⟩;have h9:m0≠l4:=A2 AM h2;refine⟨m0,l4,_,_,rfl,rfl,(by rw[AQ h9];exact AM),AM,by show 16<=sizeLine;decide,fun m hm=>?_⟩;generalize h7:upd (upd (upd H m0 _) l4 _) m _=Hm;have e7:H m=none:=((AY h1).trans (AY h2)).free hm;have sM:AO H Hm:=by rw[<-h7];exact(((AO.refl H).upd h1).upd ((AY h1).free h2)).upd e7
  have mM:Hm m=some (.lst (menu.map V.str)):=by rw[<-h7];exact AM
  refine⟨_,rfl,_,_,rfl,rfl,⟨by decide,by decide⟩,by exact zw,fun l2 s1=>?_⟩;obtain⟨v0,e4,e0⟩:=GB [V.str "",V.str " "] 2 rfl (by decide) (c/16);have s2:AO Hm (upd Hm l2 (.lst [V.str "",V.str " "])):=AY s1;have e5:∃t0:Str,v0=.str t0/\t0.length<=1:=by
   rcases Bn.mp e4 with e|e
   ·exact⟨"",e,by left⟩
   ·exact⟨" ",by simpa using e,by left⟩
  obtain⟨t0,rfl,s7⟩:=e5;refine⟨_,rfl,_,_,rfl,rfl,(by show(0:Int)<2;decide),l2,_,_,.str t0,rfl,rfl,AK.of AM,e0,?_⟩;refine⟨_,rfl,_,rfl,_,_,rfl,rfl,.inl ⟨by decide,by decide⟩,_,_,rfl,rfl,_,_,_,rfl,by decide,by decide,fun h0=>?_⟩;have h4:=s2 _ _ mM;have h3:=sM.trans s2;generalize upd Hm l2 (.lst [V.str "",V.str " "])=H2 at h4 h3;refine⟨_,rfl,_,rfl,_,_,rfl,rfl,_,_,rfl,rfl,(by show(0:Int)<7;decide),by exact zw,fun l3 s0=>?_⟩;have e8:0<=(c/16+k)%7/\(c/16+k)%7<7:=⟨RQ _ (by decide),Q4 _ (by decide)⟩;have s3:AO H2 (upd H2 l3 (.lst [V.int ((c/16+k)%7),V.int 24])):=AY s0;have s4:∀b:Bool,∃nn:Int,0<=nn/\nn<=24/\G9 [V.int ((c/16+k)%7),V.int 24] (if b=true then 1 else 0)=some (.int nn):=fun b=>by
   cases b with
   |false=>exact⟨((c/16+k)%7),e8.1,by lia,rfl⟩
   |true=>exact⟨24,by decide,by decide,rfl⟩
  obtain⟨nn,s6,e6,en⟩:=s4 (decide (V.int (c%37)=V.int 4));refine⟨_,rfl,_,_,rfl,rfl,(by show(0:Int)<37;decide),rfl,.inr ⟨_,rfl,l3,_,_,.int nn,rfl,rfl,AK.of AM,en,nn,rfl,by lia,by lia,?_⟩⟩;have e1:=s3 _ _ h4;have h8:=h3.trans s3;refine Mz (lo:=0) (n:=nn.toNat) (fun i σ H'=>∃(t:Str)(left:Int)(v6 v7:Option V),σ=[some (.int c),some (.int k),some (.ref m),some (.int (c/16)),some (.str t),some (.int left),v6,v7]/\AO (upd H2 l3 (.lst [V.int ((c/16+k)%7),V.int 24])) H'/\t.length<=1+16*i)
   ⟨t0,h0,none,none,rfl,AO.refl _,by lia⟩ ?_ ?_
  ·rintro i σ H' hi ⟨t,left,v6,v7,rfl,sm,tl⟩;obtain⟨vw,e3,ew⟩:=GB (menu.map V.str) 16 (by rw[AL];exact i7) (by decide) (left+5*(0+(i:Int))+k);obtain⟨wd,e2,rfl⟩:=BZ.mp e3;have h5:=dQ wd e2;refine⟨_,rfl,_,rfl,_,rfl,_,_,rfl,rfl,.inl ⟨by decide,by decide⟩,_,_,rfl,rfl,_,rfl,_,_,rfl,rfl,_,_,rfl,rfl,(by show(0:Int)<16;decide),m,_,_,.str wd,rfl,rfl,AK.of (sm _ _ e1),ew,?_⟩;dsimp only[Ec];refine O9 (fun σ H2=>∃wd:Str,wd.length<=11/\σ=[some (.int c),some (.int k),some (.ref m),some (.int (c/16)),some (.str t),some (.int left),some (.int (0+(i:Int))),some (.str wd)]/\H2=H') ?_ ?_
   ·rintro σ H2 ⟨wd,h5,rfl,rfl⟩;obtain⟨vb,h6,eb⟩:=GB [V.int 1,V.int 1,V.int 1,V.int 2,V.int 5] 5 rfl (by decide) (left+(0+(i:Int)));have hb:∃nb:Int,vb=.int nb/\0<=nb/\nb<=5:=by simp only[Bn,JJ,KP] at h6;rcases h6 with e|e|e|e|e<;>exact⟨_,e,by decide,by decide⟩
    obtain⟨nb,rfl,s5,s8⟩:=hb;refine⟨_,rfl,_,rfl,t,wd,rfl,rfl,by rw[A9];lia,by show 5<=sizeLine;decide,fun l5 e9=>?_⟩;refine⟨_,rfl,_,rfl,_,_,rfl,rfl,_,_,rfl,rfl,(by show(0:Int)<5;decide),l5,_,_,.int nb,rfl,rfl,AK.of AM,eb," ",nb,rfl,rfl,cZ nb s5 (by lia),t++wd,_,rfl,rfl,by rw[Iq,Vg,A9];lia,?_⟩;exact⟨_,rfl,_,_,rfl,rfl,⟨by decide,by decide⟩,_,_,_,_,rfl,sm.trans (AY e9),by rw[Iq,Iq,Vg];lia⟩
   ·intro hG;refine⟨_,rfl,_,rfl,_,_,rfl,rfl,_,_,rfl,rfl,(by show(0:Int)<13;decide),rfl,_,rfl,GK (fun _=>?_) (fun _=>?_)⟩
    ·exact⟨_,rfl,_,rfl,_,_,rfl,rfl,_,rfl,fun z hz=>hG _ _ ⟨z,by lia,rfl,rfl⟩⟩
    ·exact hG _ _ ⟨wd,h5,rfl,rfl⟩
  ·rintro σ H' ⟨t,left,v6,v7,rfl,sm,tl⟩;exact⟨_,rfl,q t H' (by lia) (h8.trans sm)⟩
inductive Am where
 |write (n t:Str)|rename (n o:Str)|join (n o:Str)|cut (n:Str) (p:Int) (o:Str)|drop (n:Str)|text (n:Str)|back (o:Str)|find (ws:List Str) (far:Int)
noncomputable def Am.dt:Am->Dt
 |.write n t=>.tup [.str "write",.str n,.str t]
 |.rename n o=>.tup [.str "rename",.str n,.str o]
 |.join n o=>.tup [.str "join",.str n,.str o]
 |.cut n p o=>.tup [.str "cut",.str n,.int p,.str o]
 |.drop n=>.tup [.str "drop",.str n]
 |.text n=>.tup [.str "text",.str n]
 |.back o=>.tup [.str "back",.str o]
 |.find ws far=>.tup [.str "find",.tup (ws.map Dt.str),.int far]
def Am.Good:Am->Prop
 |.write n t=>n.length<=40/\t.length<=1000
 |.rename n o=>n.length<=40/\o.length<=40
 |.join n o=>n.length<=40/\o.length<=40
 |.cut n _ o=>n.length<=40/\o.length<=40
 |.drop n=>n.length<=40
 |.text n=>n.length<=40
 |.back o=>o.length<=40
 |.find ws _=>ws.length<=9/\∀z∈ws,z.length<=9
def YA:Sp:=fun vs H Q _=>∃(a:Ya)(ns:List Int),vs=[.ref a]/\AK [] H a (ns.map V.int)/\ns.length<=63/\
 ∀(L:Ya)(ds:List Am)(xs:List V)(H':Hp),AO H H'->H L=none->H' L=some (.lst xs)->Ab (Ex H' L) (ds.map Am.dt) xs->ds.length=ns.length->(∀d∈ds,d.Good)->Q (.ref L) H'
structure LI(H H':Hp)(nm M:Ya)(xs:List V)(ds:List Am):Prop where
 same:AO H H'
 QZ:H' nm=some (.lst [.str "a",.str "b",.str "cat",.str "catalogue"])
 Dx:H' M=some (.lst xs)
 U1:H M=none
 ne:nm≠M
 rep:Ab (Ex H' M) (ds.map Am.dt) xs
 good:∀d∈ds,d.Good
def LI.ext{nm M:Ya}{xs:List V}{ds:List Am}(h:LI H H' nm M xs ds)(s:AO H' H2):LI H H2 nm M xs ds:=
 ⟨h.same.trans s,s _ _ h.QZ,s _ _ h.Dx,h.U1,h.ne,h.rep.same (Ex.mono s),h.good⟩
def LI.new{nm M l:Ya}{o:HO}{xs:List V}{ds:List Am}(h:LI H H' nm M xs ds)(hl:H' l=none):LI H (upd H' l o) nm M xs ds:=h.ext (AY hl)
def LI.push{nm M:Ya}{xs:List V}{ds:List Am}{d:Am}{x:V}(h:LI H H' nm M xs ds)(r:Rep (Ex H' M) d.dt x)(g:d.Good):LI H (upd H' M (.lst (xs++[x]))) nm M (xs++[x]) (ds++[d]):=by
 refine⟨h.same.upd h.U1,by rw[AQ h.ne];exact h.QZ,AM,h.U1,h.ne,?_,fun e he=>?_⟩
 ·rw[Ex.upd,BG];exact h.rep.snoc r
 ·rcases Bp.mp he with z|z
  ·exact h.good e z
  ·rw[Bk.mp z];exact g
def XE:∀ws:List Str,Ab H (ws.map Dt.str) (ws.map V.str):=fun ws=>by
 refine⟨by rw[AL,AL],fun i d x h1 h2=>?_⟩;rw[Az] at h1 h2
 cases e:ws[i]?with
 |none=>rw[e] at h1;cases h1
 |some z=>
 rw[e] at h1 h2;cases Af h1;cases Af h2;exact .str z
noncomputable def Ut:Str:="abcdefghijklmnopqrstuvwxyz"
def jq:Ut.cps.toList.length=26:=by left
noncomputable def QW:Str:=Txt.mul "e" 40
def kB:QW.length=40:=by left
def kg:MulOk "e" 40:=mulOk_of 1 40 (by left) (by decide) (by decide) (by decide) (by decide)
def cY:∀z∈sought,z.length<=9:=by left
def iH(ws:List Str)(lo hi:Option Int):∃vs:List Str,DY (ws.map V.str) lo hi=vs.map V.str/\vs.length<=ws.length/\∀z∈vs,z∈ws:=by
 unfold DY;refine⟨(ws.drop (BC (ws.map V.str).length 0 lo)).take (BC (ws.map V.str).length (ws.map V.str).length hi-BC (ws.map V.str).length 0 lo),by rw[Oi,Oj],?_,fun z hz=>K9 (Ic hz)⟩;rw[Bm,EX]
 lia
def Dj:A0 ["_law_cells","_law_names","_law_made","_law_k","_law_rest","_law_pick","_law_name","_law_near","_law_other","_law_place","_law_odd","_law_stop","_law_words","_law_far"] ["_law_cells"] (Ao TN):=by left
def hV{fS:Ya}{fdS:rA}(F:Ai K "_law_deeds" "_law_deeds" TN f fd)(O:Own mg)
 (HP:Hv P w K mg base "_law_penned" 2 ["_law_cell","_law_k"] XO)
 (FS:Ai K "_law_sought" "_law_sought" NJ fS fdS)(bS:Binds K fdS [] [])(mS:mg "_law_sought" =some (.ref fS)):AW P w K mg base Ag 3 f fd ["_law_cells"] YA:=by
 have GS:AW P w K mg base Ag 1 fS fdS [] XZ:=fH FS;refine F.ok Dj ?_ ?_
 ·rintro _ _ _ _ ⟨_,_,rfl,_⟩;rfl
 ·rintro _ A _ s H _ Q E hr ⟨a,ns,rfl,hS,a3,q⟩;have t6:Bj 1 _:=hr.mono (by decide);refine⟨_,(AS (Ax (i:=1) Dj.nd rfl (Aa rfl) (Bt (AE AZ (AE AZ (AE AZ (AE AZ AI)))))) (AS (Ax (i:=2) Dj.nd rfl (Aa rfl) (Bt AI)) (AS (DW DR rfl (O2 rfl O.Jp (AE (BV Fo rfl O.len DH (AE (pv 0) AI)) AI)) (BY (i:=3) Dj.nd rfl (Aa rfl))
   (AS (Ax (i:=4) Dj.nd rfl (Aa rfl) (An KW (Bw Cw (pv 0) (pv 3) (fun _ _=>rfl)) Ac)) (AS (Ax (i:=5) Dj.nd rfl (Aa rfl) (An CG (An Dk (Bw Cw (pv 0) (pv 3) (fun _ _=>rfl)) (An Po Ac (pv 3))) Ac)) (AS (Ax (i:=6) Dj.nd rfl (Aa rfl) (Bw Cw (pv 1) (An CG (An Dk (pv 4) (pv 3)) Ac) (fun _ _=>rfl))) (AS (Ax (i:=7) Dj.nd rfl (Aa rfl) (Bw Cw (pv 0) (An CG (An Dk (pv 3) Ac) (BV Fo rfl O.len DH (AE (pv 0) AI))) (fun _ _=>rfl))) (AS (Ax (i:=8) Dj.nd rfl (Aa rfl) (Bw Cw (An Ir (pv 1) (Bt (AE AZ (AE (An V4 AZ Ac) AI)))) (An CG (An Dk (pv 7) (An KW (pv 3) Ac)) Ac) (fun _ _=>rfl))) (AS (Ax (i:=9) Dj.nd rfl (Aa rfl) (An CG (An Dk (An KW (pv 7) Ac) (pv 3)) Ac)) (AS (A1 (Aw BQ (An CG (Bw Cw (pv 0) (pv 3) (fun _ _=>rfl)) Ac) Ac (Ap _))
   (AR (Ax (i:=9) Dj.nd rfl (Aa rfl) (Bw Cw (Bt (AE (EI EH Ac) (AE (An TV Ac Ac) (AE (An Tp (EI EH Ac) (An CG (pv 4) (An TV Ac Ac))) (AE (An CG (pv 7) Ac) AI))))) (An CG (pv 4) Ac) (fun _ _=>rfl))))
   BD) (AS (Ax (i:=10) Dj.nd rfl (Aa rfl) (An IG AZ (Bw Pq AZ (An CG (pv 4) Ac) (fun _ _=>rfl)))) (AS (Ax (i:=6) Dj.nd rfl (Aa rfl) (Bw Cw (Bt (AE (pv 6) (AE (pv 10) AI))) (ED My rfl O.int Lk (AE (Hj BQ (An CG (Bw Cw (pv 0) (pv 3) (fun _ _=>rfl)) Ac) Ac (Ap _)) AI)) (fun _ _=>rfl))) (AS (Ax (i:=8) Dj.nd rfl (Aa rfl) (Bw Cw (Bt (AE (pv 8) (AE (pv 10) AI))) (ED My rfl O.int Lk (AE (Hj BQ (An CG (Bw Cw (pv 0) (pv 3) (fun _ _=>rfl)) Ac) Ac (Ap _)) AI)) (fun _ _=>rfl))) (AS (A1 (Aw BQ (An CG (Bw Cw (pv 0) (pv 3) (fun _ _=>rfl)) Ac) Ac (Ap _))
   (AR (Ax (i:=8) Dj.nd rfl (Aa rfl) (Bw Cw (Bt (AE AZ (AE AZ (AE AZ (AE AZ AI))))) (An CG (pv 4) Ac) (fun _ _=>rfl))))
   BD) (AR (A1 (Aw Jb (pv 5) Ac (Ap _))
   (AS (A1 (Aw BQ (An CG (Bw Cw (pv 0) (pv 3) (fun _ _=>rfl)) Ac) Ac (Ap _))
   (AR (Ax (i:=6) Dj.nd rfl (Aa rfl) (pv 8)))
   BD) (AR (Bc (EO Dh Ei Eh EE (pv 2) (AE (CA (AE AZ (AE (pv 6) (AE (Bz HP hr rfl A3 (AE (Bw Cw (pv 0) (pv 3) (fun _ _=>rfl)) (AE (pv 3) AI))) AI)))) AI)))))
   (AR (A1 (Aw Jb (pv 5) Ac (Ap _))
   (AR (Bc (EO Dh Ei Eh EE (pv 2) (AE (CA (AE AZ (AE (pv 6) (AE (pv 8) AI)))) AI))))
   (AR (A1 (Aw Jb (pv 5) Ac (Ap _))
   (AR (Bc (EO Dh Ei Eh EE (pv 2) (AE (CA (AE AZ (AE (pv 6) (AE (pv 8) AI)))) AI))))
   (AR (A1 (Aw Jb (pv 5) Ac (Ap _))
   (AR (Bc (EO Dh Ei Eh EE (pv 2) (AE (CA (AE AZ (AE (pv 6) (AE (pv 9) (AE (pv 8) AI))))) AI))))
   (AR (A1 (Aw BQ (pv 5) Ac (Ap _))
   (AR (Bc (EO Dh Ei Eh EE (pv 2) (AE (CA (AE AZ (AE (pv 6) AI))) AI))))
   (AR (A1 (Aw BQ (pv 5) Ac (Ap _))
   (AR (Bc (EO Dh Ei Eh EE (pv 2) (AE (CA (AE AZ (AE (pv 6) AI))) AI))))
   (AR (A1 (Aw BQ (pv 5) Ac (Ap _))
   (AR (Bc (EO Dh Ei Eh EE (pv 2) (AE (CA (AE AZ (AE (pv 8) AI))) AI))))
   (AS (Ax (i:=11) Dj.nd rfl (Aa rfl) (An Dk (An CG (pv 4) Ac) (An CG (An Dk (pv 7) (pv 3)) Ac))) (AS (Ax (i:=12) Dj.nd rfl (Aa rfl) (Ff pH (Xk GS t6 rfl mS FS.kp bS .nil A3) (DV (An CG (pv 4) Ac)) (DV (pv 11)))) (AS (Ax (i:=13) Dj.nd rfl (Aa rfl) (Bt (AE (An CG (An Dk (An KW (pv 7) Ac) (pv 3)) Ac) (AE (EI EH Ac) (AE (An TV Ac Ac) (AE (An CG (pv 7) Ac) AI)))))) (AS (Ax (i:=13) Dj.nd rfl (Aa rfl) (Bw Cw (pv 13) (An CG (Bw Cw (pv 0) (An CG (An Dk (pv 3) Ac) (BV Fo rfl O.len DH (AE (pv 0) AI))) (fun _ _=>rfl)) Ac) (fun _ _=>rfl))) (AR (Bc (EO Dh Ei Eh EE (pv 2) (AE (CA (AE AZ (AE (pv 12) (AE (pv 13) AI)))) AI)))))))))))))))))))))))))))))))))) (AR (Al (pv 2)))))),?_⟩;refine⟨by exact z_0,fun nm a0=>⟨by exact zy,fun M hM=>?_⟩⟩;have s1:AO H (upd H nm (.lst [.str "a",.str "b",.str "cat",.str "catalogue"])):=AY a0;have s8:H M=none:=s1.free hM;have r6:nm≠M:=A2 AM hM;have q4:(ns.map V.int).length=ns.length:=AL ..;have r8:LI H (upd (upd H nm (.lst [.str "a",.str "b",.str "cat",.str "catalogue"])) M (.lst [])) nm M [] []:=
   ⟨s1.upd s8,by rw[AQ r6];exact AM,AM,s8,r6,Ab.nil,fun d hd=>by cases hd⟩;refine⟨_,rfl,a,_,rfl,.inl (r8.same.seq hS),((ns.map V.int).length:Int),rfl,by lia,by lia,?_⟩;refine Mz (lo:=0) (n:=(ns.map V.int).length) (fun i σ H'=>∃(xs:List V)(ds:List Am)(v3 v4 v5 v6 v7 v8 v9 e2 h7 h6 h5:Option V),σ=[some (.ref a),some (.ref nm),some (.ref M),v3,v4,v5,v6,v7,v8,v9,e2,h7,h6,h5]/\LI H H' nm M xs ds/\xs.length=i/\ds.length=i)
   ⟨[],[],none,none,none,none,none,none,none,none,none,none,none,rfl,r8,rfl,rfl⟩ ?_ ?_
  ·rintro i σ H' hi ⟨xs,ds,v3,v4,v5,v6,v7,v8,v9,e2,h7,h6,h5,rfl,li,s5,s7⟩;rw[q4] at hi;have h4:∀{H2:Hp},LI H H2 nm M xs ds->AK [] H2 a (ns.map V.int):=fun l=>l.same.seq hS;generalize ev:ns.getD i 0=c;have e0:G9 (ns.map V.int) (0+(i:Int))=some (.int c):=by rw[Int.zero_add];refine B1 ?_;rw[Az,Ar hi,<-ev,Cu,Ar hi];rfl
   have h9:∀j:Int,∃z:Int,G9 (ns.map V.int) (j%((ns.map V.int).length:Nat))=some (.int z):=fun j=>by obtain⟨v,hv,e⟩:=GB (ns.map V.int) (ns.map V.int).length rfl (by lia) j;obtain⟨z,_,rfl⟩:=BZ.mp hv;exact⟨z,e⟩
   have e7:(0:Int)<((ns.map V.int).length:Nat):=by lia
   refine⟨_,rfl,_,rfl,a,_,_,.int c,rfl,rfl,h4 li,e0,_,_,rfl,rfl,⟨by decide,by decide⟩,?_⟩;refine⟨_,rfl,_,rfl,a,_,_,.int c,rfl,rfl,h4 li,e0,_,rfl,_,_,rfl,rfl,.inl ⟨by decide,by decide⟩,_,_,rfl,rfl,_,_,rfl,rfl,(by show(0:Int)<16;decide),?_⟩;obtain⟨vn,q2,en⟩:=GB [V.str "a",V.str "b",V.str "cat",V.str "catalogue"] 4 rfl (by decide) (c/16+(0+(i:Int)));have a1:∃n0:Str,vn=.str n0/\n0.length<=40:=by simp only[Bn,JJ,KP] at q2;rcases q2 with e|e|e|e<;>exact⟨_,e,by left⟩
   obtain⟨n0,rfl,t3⟩:=a1;refine⟨_,rfl,_,rfl,_,rfl,_,_,rfl,rfl,_,_,rfl,rfl,(by show(0:Int)<4;decide),nm,_,_,.str n0,rfl,rfl,AK.of li.QZ,en,?_⟩;obtain⟨h0,e9⟩:=h9 (0+(i:Int)+1);refine⟨_,rfl,_,rfl,_,_,rfl,rfl,_,rfl,a,_,rfl,.inl (h4 li),_,_,rfl,rfl,e7,a,_,_,.int h0,rfl,rfl,h4 li,e9,?_⟩;refine⟨_,rfl,"e",40,rfl,rfl,kg,by exact zw,fun l2 a5=>?_⟩;have s4:=li.new (o:=.lst [V.str "zed",V.str QW]) a5;refine⟨nm,l2,_,_,rfl,rfl,s4.QZ,AM,by show 6<=sizeLine;decide,fun l6 a4=>?_⟩;have e6:=s4.new (o:=.lst ([V.str "a",V.str "b",V.str "cat",V.str "catalogue"]++[V.str "zed",V.str QW])) a4;obtain⟨vo,q1,eo⟩:=GB ([V.str "a",V.str "b",V.str "cat",V.str "catalogue"]++[V.str "zed",V.str QW]) 6 rfl (by decide) (h0+(0+(i:Int))/2);have t9:∃o0:Str,vo=.str o0/\o0.length<=40:=by
    simp only[Bp,Bn,JJ,KP] at q1;rcases q1 with(e|e|e|e)|e|e
    ·exact⟨_,e,by left⟩
    ·exact⟨_,e,by left⟩
    ·exact⟨_,e,by left⟩
    ·exact⟨_,e,by left⟩
    ·exact⟨_,e,by left⟩
    ·exact⟨_,e,by rw[kB];exact Ad _⟩
   obtain⟨o0,rfl,t1⟩:=t9;refine⟨_,rfl,_,rfl,_,_,rfl,rfl,⟨by decide,by decide⟩,_,_,rfl,rfl,_,_,rfl,rfl,(by show(0:Int)<6;decide),l6,_,_,.str o0,rfl,rfl,AK.of AM,eo,?_⟩;clear li s4;change LI H (upd (upd H' l2 (.lst [V.str "zed",V.str (Txt.mul "e" 40)])) l6 (.lst ([V.str "a",V.str "b",V.str "cat",V.str "catalogue"]++[V.str "zed",V.str (Txt.mul "e" 40)]))) nm M xs ds at e6;generalize upd (upd H' l2 (.lst [V.str "zed",V.str (Txt.mul "e" 40)])) l6 (.lst ([V.str "a",V.str "b",V.str "cat",V.str "catalogue"]++[V.str "zed",V.str (Txt.mul "e" 40)]))=H6 at e6;refine⟨_,rfl,_,_,rfl,rfl,⟨by decide,by decide⟩,_,rfl,_,_,rfl,rfl,_,_,rfl,rfl,(by show(0:Int)<8;decide),?_⟩;dsimp only[Ec];refine O9 (fun σ H7=>∃pl:Int,σ=[some (.ref a),some (.ref nm),some (.ref M),some (.int (0+(i:Int))),some (.int (c/16)),some (.int ((c+5*(0+(i:Int)))%16)),some (.str n0),some (.int h0),some (.str o0),some (.int pl),e2,h7,h6,h5]/\LI H H7 nm M xs ds) ?_ ?_
   ·rintro σ H7 ⟨pl,rfl,li⟩;have e1:∀(d:Am)(r0:List Dt)(es:List V)(tp:Ya)(H9:Hp)(w3 w4 w5 w6 w7 w8 w9 r5 r4 r3 r2:Option V),LI H H9 nm M xs ds->H9 tp=none->d.dt=.tup r0->Ab (Ex H9 M) r0 es->d.Good->
     ∃(r1:List V)(q8:List Am)(v3 v4 v5 v6 v7 v8 v9 e2 h7 h6 h5:Option V),([some (.ref a),some (.ref nm),some (.ref M),w3,w4,w5,w6,w7,w8,w9,r5,r4,r3,r2]:St)=[some (.ref a),some (.ref nm),some (.ref M),v3,v4,v5,v6,v7,v8,v9,e2,h7,h6,h5]/\
      LI H (upd (upd H9 tp (.tup es)) M (.lst (xs++[V.ref tp]))) nm M r1 q8/\r1.length=i+1/\q8.length=i+1:=by
     intro d r0 es tp H9 w3 w4 w5 w6 w7 w8 w9 r5 r4 r3 r2 l9 h3 ed rp gd;have s2:tp≠M:=(A2 l9.Dx h3).symm;have lt:=l9.new (o:=.tup es) h3;refine⟨_,_,_,_,_,_,_,_,_,_,_,_,_,rfl,lt.push (d:=d) ?_ gd,by rw[Au,s5];rfl,by rw[Au,s7];rfl⟩;rw[ed];exact Rep.Jo (Ex.at AM s2) (rp.same (Ex.mono (AY h3)))
    have h8:xs.length<sizeLine:=by rw[s5,A9];lia
    obtain⟨ch,_,b2⟩:=GB Ut.cps.toList 26 jq (by decide) (c/16);refine⟨_,rfl,_,_,rfl,rfl,(by show(0:Int)<26;decide),Ut,_,ch,rfl,rfl,by left,b2,_,_,rfl,rfl,by show 1+1<=sizeLine;decide,?_⟩;have e4:(("p" :Str)++(⟨#[ch]⟩:Str)).length<=40:=by rw[Iq];show 1+1<=40;decide
    have e8:∀(b:Bool)(x y:Str),x.length<=40->y.length<=40->∃z:Str,z.length<=40/\G9 [V.str x,V.str y] (if b=true then 1 else 0)=some (V.str z):=fun b x y hx hy=>by
     cases b with
     |false=>exact⟨x,hx,rfl⟩
     |true=>exact⟨y,hy,rfl⟩
    obtain⟨n1,e3,b1⟩:=e8 (decide (V.int (c%23)=V.int 7)) n0 _ t3 e4;obtain⟨o1,lo1,b0⟩:=e8 (decide (V.int (c%23)=V.int 8)) o0 _ t1 e4;refine⟨_,rfl,_,rfl,by exact zw,fun l8 q6=>⟨_,rfl,_,rfl,a,_,_,.int c,rfl,rfl,h4 (li.new q6),e0,_,_,rfl,rfl,(by show(0:Int)<23;decide),rfl,.inr ⟨_,rfl,l8,_,_,.str n1,rfl,rfl,AK.of AM,b1,?_⟩⟩⟩;have r7:=li.new (o:=.lst [V.str n0,V.str (("p" :Str)++(⟨#[ch]⟩:Str))]) q6;refine⟨_,rfl,_,rfl,by exact zw,fun l9 q5=>⟨_,rfl,_,rfl,a,_,_,.int c,rfl,rfl,h4 (r7.new q5),e0,_,_,rfl,rfl,(by show(0:Int)<23;decide),rfl,.inr ⟨_,rfl,l9,_,_,.str o1,rfl,rfl,AK.of AM,b0,?_⟩⟩⟩;have s3:=r7.new (o:=.lst [V.str o0,V.str (("p" :Str)++(⟨#[ch]⟩:Str))]) q5;dsimp only[Ec];refine O9 (fun σ H7=>∃o2:Str,o2.length<=40/\σ=[some (.ref a),some (.ref nm),some (.ref M),some (.int (0+(i:Int))),some (.int (c/16)),some (.int ((c+5*(0+(i:Int)))%16)),some (.str n1),some (.int h0),some (.str o2),some (.int pl),some (.str (("p" :Str)++(⟨#[ch]⟩:Str))),h7,h6,h5]/\LI H H7 nm M xs ds) ?_ ?_
    ·rintro σ HA ⟨o2,HN,rfl,li⟩;refine⟨_,rfl,_,_,rfl,rfl,_,rfl,GK (fun _=>?_) (fun _=>?_)⟩
     ·
      refine O9 (fun σ H7=>∃n2:Str,n2.length<=40/\σ=[some (.ref a),some (.ref nm),some (.ref M),some (.int (0+(i:Int))),some (.int (c/16)),some (.int ((c+5*(0+(i:Int)))%16)),some (.str n2),some (.int h0),some (.str o2),some (.int pl),some (.str (("p" :Str)++(⟨#[ch]⟩:Str))),h7,h6,h5]/\H7=HA) ?_ ?_
      ·rintro σ H7 ⟨n2,t2,rfl,rfl⟩;refine⟨_,rfl,.inl ⟨rfl,_,AK.of li.Dx⟩,_,rfl,_,rfl,_,rfl,a,_,_,.int c,rfl,rfl,h4 li,e0,_,rfl,c,_,rfl,fun t H9 lt s9=>⟨by exact zv,fun tp h3=>⟨M,xs,.ref tp,rfl,rfl,((li.ext s9).new h3).Dx,h8,?_⟩⟩⟩;exact e1 (.write n2 t) _ _ tp H9 _ _ _ _ _ _ _ _ _ _ _ (li.ext s9) h3 rfl (Ab.snoc (Ab.snoc (Ab.snoc Ab.nil (.str _)) (.str _)) (.str _)) ⟨t2,lt⟩
      ·intro hG;refine⟨_,rfl,_,rfl,a,_,_,.int c,rfl,rfl,h4 li,e0,_,_,rfl,rfl,(by show(0:Int)<29;decide),rfl,_,rfl,GK (fun _=>?_) (fun _=>?_)⟩
       ·exact⟨_,rfl,hG _ _ ⟨o2,HN,rfl,rfl⟩⟩
       ·exact hG _ _ ⟨n1,e3,rfl,rfl⟩
     refine⟨_,rfl,_,_,rfl,rfl,_,rfl,GK (fun _=>?_) (fun _=>?_)⟩
     ·exact⟨_,rfl,.inl ⟨rfl,_,AK.of li.Dx⟩,_,rfl,_,rfl,by exact zv,fun tp h3=>⟨M,xs,.ref tp,rfl,rfl,(li.new h3).Dx,h8,e1 (.rename n1 o2) _ _ tp HA _ _ _ _ _ _ _ _ _ _ _ li h3 rfl (Ab.snoc (Ab.snoc (Ab.snoc Ab.nil (.str _)) (.str _)) (.str _)) ⟨e3,HN⟩⟩⟩
     refine⟨_,rfl,_,_,rfl,rfl,_,rfl,GK (fun _=>?_) (fun _=>?_)⟩
     ·exact⟨_,rfl,.inl ⟨rfl,_,AK.of li.Dx⟩,_,rfl,_,rfl,by exact zv,fun tp h3=>⟨M,xs,.ref tp,rfl,rfl,(li.new h3).Dx,h8,e1 (.join n1 o2) _ _ tp HA _ _ _ _ _ _ _ _ _ _ _ li h3 rfl (Ab.snoc (Ab.snoc (Ab.snoc Ab.nil (.str _)) (.str _)) (.str _)) ⟨e3,HN⟩⟩⟩
     refine⟨_,rfl,_,_,rfl,rfl,_,rfl,GK (fun _=>?_) (fun _=>?_)⟩
     ·exact⟨_,rfl,.inl ⟨rfl,_,AK.of li.Dx⟩,_,rfl,_,rfl,_,rfl,by exact z_0,fun tp h3=>⟨M,xs,.ref tp,rfl,rfl,(li.new h3).Dx,h8,e1 (.cut n1 pl o2) _ _ tp HA _ _ _ _ _ _ _ _ _ _ _ li h3 rfl (Ab.snoc (Ab.snoc (Ab.snoc (Ab.snoc Ab.nil (.str _)) (.str _)) (.int _)) (.str _)) ⟨e3,HN⟩⟩⟩
     refine⟨_,rfl,rfl,_,rfl,GK (fun _=>?_) (fun _=>?_)⟩
     ·exact⟨_,rfl,.inl ⟨rfl,_,AK.of li.Dx⟩,_,rfl,by exact zw,fun tp h3=>⟨M,xs,.ref tp,rfl,rfl,(li.new h3).Dx,h8,e1 (.drop n1) _ _ tp HA _ _ _ _ _ _ _ _ _ _ _ li h3 rfl (Ab.snoc (Ab.snoc Ab.nil (.str _)) (.str _)) e3⟩⟩
     refine⟨_,rfl,rfl,_,rfl,GK (fun _=>?_) (fun _=>?_)⟩
     ·exact⟨_,rfl,.inl ⟨rfl,_,AK.of li.Dx⟩,_,rfl,by exact zw,fun tp h3=>⟨M,xs,.ref tp,rfl,rfl,(li.new h3).Dx,h8,e1 (.text n1) _ _ tp HA _ _ _ _ _ _ _ _ _ _ _ li h3 rfl (Ab.snoc (Ab.snoc Ab.nil (.str _)) (.str _)) e3⟩⟩
     refine⟨_,rfl,rfl,_,rfl,GK (fun _=>?_) (fun _=>?_)⟩
     ·exact⟨_,rfl,.inl ⟨rfl,_,AK.of li.Dx⟩,_,rfl,by exact zw,fun tp h3=>⟨M,xs,.ref tp,rfl,rfl,(li.new h3).Dx,h8,e1 (.back o2) _ _ tp HA _ _ _ _ _ _ _ _ _ _ _ li h3 rfl (Ab.snoc (Ab.snoc Ab.nil (.str _)) (.str _)) HN⟩⟩
     have b3:0<=c/16%7/\c/16%7<7:=⟨RQ _ (by decide),Q4 _ (by decide)⟩;have b4:0<=(h0+(0+(i:Int)))%4/\(h0+(0+(i:Int)))%4<4:=⟨RQ _ (by decide),Q4 _ (by decide)⟩;refine⟨_,rfl,_,_,rfl,rfl,(by show(0:Int)<7;decide),_,rfl,_,rfl,_,_,rfl,rfl,_,_,rfl,rfl,(by show(0:Int)<4;decide),_,_,rfl,rfl,?_⟩;refine⟨rfl,fun p HB sB t8=>⟨_,rfl,_,_,rfl,rfl,(by show(0:Int)<7;decide),_,rfl,_,rfl,_,rfl,p,_,rfl,AU.of t8,?_,fun t ht=>?_⟩⟩
     ·rintro⟨h1,h2⟩;have a8:(if c/16%7<0 then(c/16%7+((9:Nat):Int)).toNat else min (c/16%7).toNat 9)=0:=h1;have a7:(if c/16%7+(h0+(0+(i:Int)))%4<0 then(c/16%7+(h0+(0+(i:Int)))%4+((9:Nat):Int)).toNat else min (c/16%7+(h0+(0+(i:Int)))%4).toNat 9)=9:=h2;rw[AG (by lia)] at a8 a7
      lia
     obtain⟨ws,a9,t0,q9⟩:=iH sought (some (c/16%7)) (some (c/16%7+(h0+(0+(i:Int)))%4));have t4:=(li.ext sB).new (o:=.tup (DY (sought.map V.str) (some (c/16%7)) (some (c/16%7+(h0+(0+(i:Int)))%4)))) ht;have a6:=(li.ext sB).Dx;have s2:t≠M:=(A2 a6 ht).symm;have t5:(upd HB t (.tup (DY (sought.map V.str) (some (c/16%7)) (some (c/16%7+(h0+(0+(i:Int)))%4))))) t=some (.tup (ws.map V.str)):=by rw[AM,a9]
     refine⟨_,rfl,_,_,rfl,rfl,⟨by decide,by decide⟩,_,rfl,_,_,rfl,rfl,_,_,rfl,rfl,(by show(0:Int)<6;decide),_,rfl,_,_,rfl,rfl,⟨by decide,by decide,by left⟩,_,rfl,_,_,rfl,rfl,(by show(0:Int)<40;decide),by exact z_0,fun fl q7=>?_⟩;obtain⟨z,ez⟩:=h9 (0+(i:Int)+2);obtain⟨vf,q3,ef⟩:=GB [V.int ((h0/4+(0+(i:Int)))%6),V.int (-1),V.int (10^Int.toNat 9),V.int (h0%40)] 4 rfl (by decide) z;have s6:∃s0:Int,vf=.int s0:=by simp only[Bn,JJ,KP] at q3;rcases q3 with e|e|e|e<;>exact⟨_,e⟩
     obtain⟨s0,rfl⟩:=s6;have e5:=t4.new (o:=.lst [V.int ((h0/4+(0+(i:Int)))%6),V.int (-1),V.int (10^Int.toNat 9),V.int (h0%40)]) q7;refine⟨_,rfl,_,rfl,_,rfl,_,_,rfl,rfl,_,rfl,a,_,rfl,.inl (h4 e5),_,_,rfl,rfl,e7,a,_,_,.int z,rfl,rfl,h4 e5,ez,_,_,rfl,rfl,(by show(0:Int)<4;decide),fl,_,_,.int s0,rfl,rfl,AK.of AM,ef,?_⟩;refine⟨_,rfl,.inl ⟨rfl,_,AK.of e5.Dx⟩,_,rfl,_,rfl,by exact zv,fun tp h3=>⟨M,xs,.ref tp,rfl,rfl,(e5.new h3).Dx,h8,?_⟩⟩;exact e1 (.find ws s0) _ _ tp _ _ _ _ _ _ _ _ _ _ _ _ e5 h3 rfl (Ab.snoc (Ab.snoc (Ab.snoc Ab.nil (.str _)) (Rep.Jo (Ex.at ((AY q7) _ _ t5) s2) (XE ws))) (.int _)) ⟨t0,fun z hz=>cY z (q9 z hz)⟩
    ·intro hG;refine⟨_,rfl,_,rfl,a,_,_,.int c,rfl,rfl,h4 s3,e0,_,_,rfl,rfl,(by show(0:Int)<29;decide),rfl,_,rfl,GK (fun _=>?_) (fun _=>?_)⟩
     ·obtain⟨vx,r9,ex⟩:=GB [V.str "",V.str "A",V.str "a1",V.str "[a]"] 4 rfl (by decide) (c/16);have hx:∃o2:Str,vx=.str o2/\o2.length<=40:=by simp only[Bn,JJ,KP] at r9;rcases r9 with e|e|e|e<;>exact⟨_,e,by left⟩
      obtain⟨o2,rfl,HN⟩:=hx;exact⟨by exact z_0,fun lx a2=>⟨_,rfl,_,_,rfl,rfl,(by show(0:Int)<4;decide),lx,_,_,.str o2,rfl,rfl,AK.of AM,ex,hG _ _ ⟨o2,HN,rfl,s3.new a2⟩⟩⟩
     ·exact hG _ _ ⟨o1,lo1,rfl,s3⟩
   ·intro hG;refine⟨_,rfl,_,rfl,a,_,_,.int c,rfl,rfl,h4 e6,e0,_,_,rfl,rfl,(by show(0:Int)<31;decide),rfl,_,rfl,GK (fun _=>?_) (fun _=>?_)⟩
    ·refine⟨_,rfl,_,_,rfl,rfl,⟨by decide,by decide,by left⟩,_,rfl,_,rfl,_,_,rfl,rfl,⟨by decide,by decide,by left⟩,_,_,rfl,rfl,(by show(0:Int)<10^Int.toNat 60;decide+kernel),_,_,rfl,rfl,_,rfl,_,_,rfl,rfl,(by show(0:Int)<30;decide),by exact z_0,fun l hl=>?_⟩;obtain⟨vp,q0,ep⟩:=GB [V.int (-1),V.int (10^Int.toNat 9),V.int (-2-c/16%10^Int.toNat 60),V.int (h0%30)] 4 rfl (by decide) (c/16);have t7:∃pl:Int,vp=.int pl:=by simp only[Bn,JJ,KP] at q0;rcases q0 with e|e|e|e<;>exact⟨_,e⟩
     obtain⟨pl,rfl⟩:=t7;exact⟨_,rfl,_,_,rfl,rfl,(by show(0:Int)<4;decide),l,_,_,.int pl,rfl,rfl,AK.of AM,ep,hG _ _ ⟨pl,rfl,e6.new hl⟩⟩
    ·exact hG _ _ ⟨_,rfl,e6⟩
  ·rintro σ H' ⟨xs,ds,v3,v4,v5,v6,v7,v8,v9,e2,h7,h6,h5,rfl,li,s5,s7⟩;exact⟨_,rfl,q M ds xs H' li.same s8 li.Dx li.rep (by rw[s7,q4]) li.good⟩
def CB{o:qv}{td:TE}{j}(hu:X.A.units+1<rR)(ho:PE X o td):PE X (.Subscript o (.Constant (.str x) j p) pos) (Je td (tC (.str x))):=DJ hu ho AZ fun _ _=>rfl
section
variable[DecidableEq α]{f:α->Key}{g:β->V}(hf:∀a b,f a=f b->a=b)
include hf
noncomputable def AF(l:List (α×β))(k:α):Option β:=(l.find? fun p=>decide (p.1=k)).map (·.2)
noncomputable def AV(l:List (α×β))(k:α)(v:β):List (α×β):=if(l.any fun p=>decide (p.1=k))=true then l.map (fun p=>if p.1=k then(p.1,v) else p) else l++[(k,v)]
noncomputable def AN(l:List (α×β))(k:α):List (α×β):=l.filter fun p=>decide (p.1≠k)
noncomputable def Hw(f:α->Key)(g:β->V)(l:List (α×β)):List (Key×V):=l.map fun p=>(f p.1,g p.2)
def nq(a b:α):decide (f a=f b)=decide (a=b):=by
 by_cases h:a=b
 ·rw[h];simp
 ·rw[BK h,BK (fun z=>h (hf a b z))]
def Em(k:α):∀l:List (α×β),Bf (Hw f g l) (f k)=(AF l k).map g
 |[]=>rfl
 |p::l=>by
  show Bf ((f p.1,g p.2)::Hw f g l) (f k)=_;by_cases h:p.1=k
  ·rw[Gj (by rw[h])];unfold AF;rw[C9,BW h];rfl
  ·rw[Gi (fun z=>h (hf _ _ z)),Em k l];unfold AF;rw[C9,BK h]
def KL(k:α)(v:β)(l:List (α×β)):putK (Hw f g l) (f k) (g v)=Hw f g (AV l k v):=by
 unfold putK AV Hw;have e:((l.map fun p=>(f p.1,g p.2)).any fun kv=>decide (kv.1=f k))=l.any fun p=>decide (p.1=k):=by rw[List.any_map];congr 1;funext p;exact nq hf p.1 k
 rw[e];by_cases h:(l.any fun p=>decide (p.1=k))=true
 ·rw[AH h,AH h,Ba,Ba];refine Ek fun p _=>?_;show(if f p.1=f k then(f p.1,g v) else(f p.1,g p.2))=(f (if p.1=k then(p.1,v) else p).1,g (if p.1=k then(p.1,v) else p).2);by_cases hp:p.1=k
  ·rw[AH (by rw[hp]),AH hp]
  ·rw[AG (fun z=>hp (hf _ _ z)),AG hp]
 ·rw[AG h,AG h,BG];rfl
def LV(k:α)(l:List (α×β)):Jd (Hw f g l) (f k)=Hw f g (AN l k):=by
 unfold Jd AN Hw;rw[RP];congr 1;refine List.filter_congr fun p _=>?_;show decide (f p.1≠f k)=decide (p.1≠k);by_cases h:p.1=k
 ·rw[h];simp
 ·have h2:f p.1≠f k:=fun z=>h (hf _ _ z);rw[BW h2,BW (show p.1≠k from h)]
end
def FC:∀a b:Int,(Sum.inl a:Key)=Sum.inl b->a=b:=fun _ _ h=>Sum.inl.inj h
def F7:∀a b:Str,(Sum.inr a:Key)=Sum.inr b->a=b:=fun _ _ h=>Sum.inr.inj h
structure Wd where
 to:Bool
 nm:Str
 no:Int
noncomputable def Wd.vq(w:Wd):List V:=[.str (if w.to then "to" else "word"),.str w.nm,.int w.no]
structure Nk where
 names:List (Str×Int)
 texts:List (Int×List Wd)
 made:Int
abbrev Fy(l:List (Str×Int)):List (Key×V):=Hw Sum.inr V.int l
abbrev CY(l:List (Int×Ya×List Ya)):List (Key×V):=Hw Sum.inl (fun p:Ya×List Ya=>V.ref p.1) l
noncomputable def Fx(an at_:Ya)(made:Int):List (Key×V):=[(.inr "names",.ref an),(.inr "texts",.ref at_),(.inr "made",.int made)]
def QF(H:Hp)(t:Int×Ya×List Ya)(p:Int×List Wd):Prop:=t.1=p.1/\H t.2.1=some (.lst (t.2.2.map V.ref))/\t.2.2.length=p.2.length/\∀(j:Nat) w wd,t.2.2[j]? =some w->p.2[j]? =some wd->H w=some (.lst wd.vq)
structure qg(a b c:Ya):Prop where
 xy:a≠b
 xz:a≠c
 yz:b≠c
structure C0(H0 H:Hp)(a an at_:Ya)(tx:List (Int×Ya×List Ya))(n:Nk):Prop where
 same:AO H0 H
 ha:H a=some (.dK (Fx an at_ n.made))
 hn:H an=some (.dK (Fy n.names))
 ht:H at_=some (.dK (CY tx))
 len:tx.length=n.texts.length
 FU:∀(i:Nat) t p,tx[i]? =some t->n.texts[i]? =some p->QF H t p
 fa:H0 a=none
 fn:H0 an=none
 ft:H0 at_=none
 fw:∀t∈tx,∀w∈t.2.2,H0 w=none
 ap:qg a an at_
def Ce(H0 H:Hp)(a:Ya)(n:Nk):Prop:=∃an h0 tx,C0 H0 H a an h0 tx n
structure Fits(n:Nk):Prop where
 Cm:(n.names.map (·.1)).Nodup
 CW:(n.texts.map (·.1)).Nodup
 names:n.names.length<=1000
 texts:n.texts.length<=1000
 words:∀p∈n.texts,p.2.length<=100000
noncomputable def Nk.I8(n:Nk)(g:Wd->Wd):Nk:={n with texts:=n.texts.map fun p=>(p.1,p.2.map g)}
variable{H0:Hp}{an at_:Ya}{n:Nk}
def C0.ext{tx:List (Int×Ya×List Ya)}(h:C0 H0 H a an at_ tx n)(s:AO H H'):C0 H0 H' a an at_ tx n:=
 ⟨h.same.trans s,s _ _ h.ha,s _ _ h.hn,s _ _ h.ht,h.len,fun i t p h1 h2=>let⟨q1,q2,q3,q4⟩:=h.FU i t p h1 h2;⟨q1,s _ _ q2,q3,fun j w wd e1 e2=>s _ _ (q4 j w wd e1 e2)⟩,h.fa,h.fn,h.ft,h.fw,h.ap⟩
def C0.keys{tx:List (Int×Ya×List Ya)}(h:C0 H0 H a an at_ tx n):tx.map (·.1)=n.texts.map (·.1):=by
 apply J2;intro i;rw[Az,Az]
 cases e1:tx[i]?with
 |none=>rw[E6 (by rw[<-h.len];exact OG.mp e1)];rfl
 |some t=>
  have hi:i<n.texts.length:=by rw[<-h.len];exact(BX.mp e1).1
  rw[Ar hi];exact BL some (h.FU i t _ e1 (Ar hi)).1
variable{m:Int}
def M5:Bf (Fx an at_ m) (.inr "texts")=some (.ref at_):=rfl
def iA:Bf (Fx an at_ m) (.inr "names")=some (.ref an):=rfl
def jU:Bf (Fx an at_ m) (.inr "made")=some (.int m):=rfl
def lJ{k:Int}:putK (Fx an at_ m) (.inr "made") (.int k)=Fx an at_ k:=rfl
structure bC(a at_ L:Ya)(A:List (Key×V))(tx:List (Int×Ya×List Ya))(H:Hp):Prop where
 ha:H a=some (.dK A)
 hA:Bf A (.inr "texts")=some (.ref at_)
 ht:H at_=some (.dK (CY tx))
 hL:H L=some (.lst (tx.map fun t=>V.int t.1))
 hl:∀t∈tx,H t.2.1=some (.lst (t.2.2.map V.ref))
 nd:(tx.map (·.1)).Nodup
def JS{α β:Type}[DecidableEq α]:∀{l:List (α×β)}{i:Nat}{p:α×β},(l.map (·.1)).Nodup->l[i]? =some p->AF l p.1=some p.2
 |[],i,p,_,h=>by simp at h
 |q::l,0,p,_,h=>by
  have e:q=p:=by simpa using h
  subst e;unfold AF;rw[C9,BW rfl];rfl
 |q::l,i+1,p,nd,h=>by
  have h':l[i]? =some p:=by simpa using h
  have h0:=Ik.mp nd;have h1:¬q.1=p.1:=fun z=>h0.1 (by have:q.1=p.1:=z;show q.1∈l.map (·.1);rw[this];exact BZ.mpr ⟨p,Br h',rfl⟩);have:=JS h0.2 h';unfold AF at this⊢;rw[C9,BK h1];exact this
def V2{D:Ends}{A:List (Key×V)}{tx:List (Int×Ya×List Ya)}
 (Iv:Ya->Nat->Nat->St->Hp->Prop)(s0:σ[0]? =some (some (.ref a)))
 (ha:H a=some (.dK A))(hA:Bf A (.inr "texts")=some (.ref at_))(ht:H at_=some (.dK (CY tx)))
 (h0:∀L,H L=none->Iv L 0 0 σ (upd H L (.lst (tx.map fun t=>V.int t.1))))
 (hw:∀L p q σ H,Iv L p q σ H->bC a at_ L A tx H/\σ[0]? =some (some (.ref a))/\i<σ.length)(hi:0<i)
 (st:∀L p t q w σ H (D':Ends),tx[p]? =some t->t.2.2[q]? =some w->Iv L p q σ H->(∀σ' H',Iv L p (q+1) σ' H'->D'.nx σ' H')->tb D' (σ.set j (some (.ref w))) H)
 (set:∀L p t σ H,tx[p]? =some t->Iv L p 0 σ H->Iv L p 0 (σ.set i (some (.int t.1))) H)
 (nxt:∀L p t σ H,tx[p]? =some t->Iv L p t.2.2.length σ H->Iv L (p+1) 0 σ H)(hd:∀L σ H,Iv L tx.length 0 σ H->D.nx σ H):
 Np (Ki [] (QR TL (Nf (Je (Ew 0) (tC (.str "texts"))) Ks))) (Ec i) (Np (Ki [] (Je (Je (Ew 0) (tC (.str "texts"))) (Ew i))) (Ec j) tb) D σ H:=by
 have gt:∀{H:Hp},H a=some (.dK A)->BI H a (.str "texts") (some (.ref at_)):=fun h=>by have:=BI.kq (k:=.inr "texts") h;rw[hA] at this;exact this
 refine⟨_,s0,a,_,rfl,gt ha,at_,_,rfl,ht,fun L hL=>?_⟩;have ek:((CY tx).map fun kv=>kV kv.1)=tx.map fun t=>V.int t.1:=by show(tx.map _).map _=_;rw[Ba];rfl
 rw[ek];refine⟨L,rfl,⟨_,AK.of AM⟩,?_⟩;refine He (K:=[]) (a:=L) (xs:=tx.map fun t=>V.int t.1) (fun p σ H=>Iv L p 0 σ H) (h0 L hL) (fun p σ H _ iv=>AK.of (hw _ _ _ _ _ iv).1.hL) ?_ (fun σ H iv=>hd L σ H (by rw[AL] at iv;exact iv));intro p x σ1 H1 hx iv;rw[Az] at hx
 cases et:tx[p]?with
 |none=>rw[et] at hx;cases hx
 |some t=>
 rw[et] at hx;obtain rfl:V.int t.1=x:=Af hx;obtain⟨wk,z0,zi⟩:=hw _ _ _ _ _ iv;have h1:=set _ _ _ _ _ et iv;obtain⟨h5,h2,h4⟩:=hw _ _ _ _ _ h1;have gv:BI H1 at_ (.int t.1) (some (.ref t.2.1)):=by have:=BI.kq (k:=.inl t.1) wk.ht;rw[Em FC,JS wk.nd et] at this;exact this
 refine⟨_,h2,a,_,rfl,gt wk.ha,_,by rw[OI zi],at_,_,rfl,gv,t.2.1,rfl,⟨_,AK.of (wk.hl t (Br et))⟩,?_⟩;refine He (K:=[]) (a:=t.2.1) (xs:=t.2.2.map V.ref) (fun q σ H=>Iv L p q σ H) h1 (fun q σ H _ iv=>AK.of ((hw _ _ _ _ _ iv).1.hl t (Br et))) ?_ (fun σ H iv=>nxt _ _ _ _ _ et (by rw[AL] at iv;exact iv));intro q x σ2 H2 hx h3;rw[Az] at hx
 cases ew:t.2.2[q]?with
 |none=>rw[ew] at hx;cases hx
 |some w=>
 rw[ew] at hx;obtain rfl:V.ref w=x:=Af hx;exact st _ _ _ _ _ _ _ _ et ew h3 fun σ' H' z=>z
def Z9{a b:Wd}(h:a.vq=b.vq):a=b:=by
 obtain⟨t1,n1,k1⟩:=a;obtain⟨t2,n2,k2⟩:=b;unfold Wd.vq at h;simp only[List.cons.injEq,V.str.injEq,V.int.injEq,and_true] at h;obtain⟨h1,h2,h3⟩:=h;subst h2 h3;cases t1<;>cases t2
 ·rfl
 ·exact absurd (show("word" :Str)="to" from h1) (by left)
 ·exact absurd (show("to" :Str)="word" from h1) (by left)
 ·rfl
def WN(as:List Ya)(w:Wd):as.map V.ref≠w.vq:=fun h=>by
 cases as with
 |nil=>cases h
 |cons x xs=>exact absurd (IF h).1 (by intro z;cases z)
def eI(l:List β)(f:β->Int)(w:Wd):(l.map fun t=>V.int (f t))≠w.vq:=fun h=>by
 cases l with
 |nil=>cases h
 |cons x xs=>exact absurd (IF h).1 (by intro z;cases z)
def ZN{o:HO}(h:H a=some o):upd H a o=H:=by
 funext b;unfold upd;by_cases e:b=a
 ·rw[AH e,e,h]
 ·rw[AG e]
structure MI(H0 H:Hp)(a an at_ L:Ya)(tx:List (Int×Ya×List Ya))(n:Nk)(g:Wd->Wd)(p q:Nat)(H':Hp):Prop where
 wk:bC a at_ L (Fx an at_ n.made) tx H'
 same:AO H0 H'
 hn:H' an=some (.dK (Fy n.names))
 c1:∀(i:Nat) t pp (j:Nat) w wd,tx[i]? =some t->n.texts[i]? =some pp->t.2.2[j]? =some w->pp.2[j]? =some wd->H' w=some (.lst wd.vq)\/H' w=some (.lst (g wd).vq)
 c2:∀(i:Nat) t pp (j:Nat) w wd,tx[i]? =some t->n.texts[i]? =some pp->t.2.2[j]? =some w->pp.2[j]? =some wd->(i<p\/(i=p/\j<q))->H' w=some (.lst (g wd).vq)
variable{L:Ya}
def MI.set{tx:List (Int×Ya×List Ya)}{g:Wd->Wd}{p q:Nat}{w:Ya}{wd wc:Wd}{t:Int×Ya×List Ya}{pp:Int×List Wd}(idem:∀w,g (g w)=g w)(nk:C0 H0 H a an at_ tx n)
 (m:MI H0 H a an at_ L tx n g p q H')(et:tx[p]? =some t)(ep:n.texts[p]? =some pp)(ew:t.2.2[q]? =some w)(ed:pp.2[q]? =some wd)(hc:H' w=some (.lst wc.vq))(hg:g wc=g wd):MI H0 H a an at_ L tx n g p (q+1) (upd H' w (.lst (g wc).vq)):=by
 have h8:H0 w=none:=nk.fw t (Br et) w (Br ew);have h0:∀b o,H' b=some o->o≠.lst wc.vq->(upd H' w (.lst (g wc).vq)) b=some o:=fun b o h1 h2=>by rw[AQ (Ca h1 hc h2)];exact h1
 have h7:H w=some (.lst wd.vq):=(nk.FU p t pp et ep).2.2.2 q w wd ew ed;refine⟨⟨h0 _ _ m.wk.ha (by intro z;cases z),m.wk.hA,h0 _ _ m.wk.ht (by intro z;cases z),h0 _ _ m.wk.hL (by intro z;exact eI tx (·.1) wc (HO.lst.inj z)),fun t' h9=>h0 _ _ (m.wk.hl t' h9) (by intro z;exact WN _ wc (HO.lst.inj z)),m.wk.nd⟩,
  m.same.upd h8,h0 _ _ m.hn (by intro z;cases z),fun i t' h4 j w' h3 e1 e2 e3 e4=>?_,fun i t' h4 j w' h3 e1 e2 e3 e4 e0=>?_⟩
 ·by_cases h5:w'=w
  ·subst h5;have h6:H w'=some (.lst h3.vq):=(nk.FU i t' h4 e1 e2).2.2.2 j w' h3 e3 e4;rw[h7] at h6;have:wd=h3:=Z9 (HO.lst.inj (Af h6));subst this;exact .inr (by rw[AM,hg])
  ·rw[AQ h5];exact m.c1 i t' h4 j w' h3 e1 e2 e3 e4
 ·by_cases h5:w'=w
  ·subst h5;have h6:H w'=some (.lst h3.vq):=(nk.FU i t' h4 e1 e2).2.2.2 j w' h3 e3 e4;rw[h7] at h6;have:wd=h3:=Z9 (HO.lst.inj (Af h6));subst this;rw[AM,hg]
  ·rw[AQ h5];rcases e0 with h|⟨h1,h2⟩
   ·exact m.c2 i t' h4 j w' h3 e1 e2 e3 e4 (.inl h)
   ·by_cases hj:j<q
    ·exact m.c2 i t' h4 j w' h3 e1 e2 e3 e4 (.inr ⟨h1,hj⟩)
    ·have e5:j=q:=by lia
     subst h1 e5;rw[et] at e1;cases Af e1;rw[ew] at e3;exact absurd (Af e3).symm h5
def Wq{D:Ends}{tx:List (Int×Ya×List Ya)}(S:St->Prop)(g:Wd->Wd)(idem:∀w,g (g w)=g w)
 (hS:S σ)(S0:∀σ,S σ->σ[0]? =some (some (.ref a))/\i<σ.length)(Si:∀σ v,S σ->S (σ.set i v))(Sj:∀σ v,S σ->S (σ.set j v))(hi:0<i)(nk:C0 H0 H a an at_ tx n)(CW:(n.texts.map (·.1)).Nodup)
 (bd:∀σ H' (D':Ends) w wd,S σ->H' w=some (.lst wd.vq)->D'.nx (σ.set j (some (.ref w))) (upd H' w (.lst (g wd).vq))->tb D' (σ.set j (some (.ref w))) H')
 (hd:∀σ H',S σ->C0 H0 H' a an at_ tx (n.I8 g)->D.nx σ H'):
 Np (Ki [] (QR TL (Nf (Je (Ew 0) (tC (.str "texts"))) Ks))) (Ec i) (Np (Ki [] (Je (Je (Ew 0) (tC (.str "texts"))) (Ew i))) (Ec j) tb) D σ H:=by
 have h0:∀{p t},tx[p]? =some t->∃pp,n.texts[p]? =some pp:=fun{p t} e=>by
  have hp:p<n.texts.length:=by rw[<-nk.len];exact(BX.mp e).1
  exact⟨_,Ar hp⟩
 refine V2 (a:=a) (at_:=at_) (A:=Fx an at_ n.made) (tx:=tx) (fun L p q σ H'=>S σ/\MI H0 H a an at_ L tx n g p q H') (S0 σ hS).1 nk.ha M5 nk.ht (fun L hL=>⟨hS,?_⟩) (fun L p q σ H' h=>⟨h.2.wk,S0 σ h.1⟩) hi
  (fun L p t q w σ H' D' et ew h kn=>?_) (fun L p t σ H' et h=>⟨Si _ _ h.1,h.2⟩) (fun L p t σ H' et h=>⟨h.1,h.2.wk,h.2.same,h.2.hn,h.2.c1,fun i t' h6 j w' h5 e1 e2 e3 e4 h3=>?_⟩) (fun L σ H' h=>hd σ H' h.1 ?_)
 ·have s:AO H (upd H L (.lst (tx.map fun t=>V.int t.1))):=AY hL;have h1:=nk.ext s;refine⟨⟨h1.ha,M5,h1.ht,AM,fun t ht=>?_,by rw[nk.keys];exact CW⟩,h1.same,h1.hn,fun i t pp j w wd e1 e2 e3 e4=>.inl ((h1.FU i t pp e1 e2).2.2.2 j w wd e3 e4),fun i t pp j w wd e1 e2 e3 e4 h3=>by lia⟩;obtain⟨i,h8,e⟩:=Ie.mp ht;have e1:tx[i]? =some t:=by rw[Ar h8,e]
  obtain⟨pp,ep⟩:=h0 e1;exact(h1.FU i t pp e1 ep).2.1
 ·obtain⟨pp,ep⟩:=h0 et;have hq:q<pp.2.length:=by rw[<-(nk.FU p t pp et ep).2.2.1];exact(BX.mp ew).1
  have ed:pp.2[q]? =some pp.2[q]:=Ar hq;rcases h.2.c1 p t pp q w _ et ep ew ed with hc|hc
  ·exact bd σ H' D' w _ h.1 hc (kn _ _ ⟨Sj _ _ h.1,h.2.set idem nk et ep ew ed hc rfl⟩)
  ·exact bd σ H' D' w _ h.1 hc (kn _ _ ⟨Sj _ _ h.1,h.2.set idem nk et ep ew ed hc (idem _)⟩)
 ·rcases h3 with h3|⟨_,h3⟩
  ·by_cases h7:i=p
   ·subst h7;rw[et] at e1;cases Af e1;exact h.2.c2 i t h6 j w' h5 et e2 e3 e4 (.inr ⟨rfl,(BX.mp e3).1⟩)
   ·exact h.2.c2 i t' h6 j w' h5 e1 e2 e3 e4 (.inl (by lia))
  ·lia
 ·have m:=h.2;refine⟨m.same,m.wk.ha,m.hn,m.wk.ht,by show _=(n.texts.map _).length;rw[AL];exact nk.len,fun i t p' e1 e2=>?_,nk.fa,nk.fn,nk.ft,nk.fw,nk.ap⟩;have h4:(n.texts.map fun p=>(p.1,p.2.map g))[i]? =some p':=e2;rw[Az] at h4;obtain⟨pp,ep⟩:=h0 e1;rw[ep] at h4;cases Af h4;obtain⟨q1,q2,q3,q4⟩:=nk.FU i t pp e1 ep;refine⟨q1,m.wk.hl t (Br e1),by show _=(pp.2.map g).length;rw[AL];exact q3,fun j w wd e3 e4=>?_⟩;have h2:(pp.2.map g)[j]? =some wd:=e4;rw[Az] at h2
  cases e5:pp.2[j]?with
  |none=>rw[e5] at h2;cases h2
  |some wo=>
  rw[e5] at h2;cases Af h2;exact m.c2 i t pp j w wo e1 ep e3 e5 (.inl (BX.mp e1).1)
noncomputable def CT(name:Str)(no:Int)(w:Wd):Wd:=if w.to=true/\w.no= -1/\w.nm=name then{w with no:=no} else w
noncomputable def CS(no:Int)(name:Str)(other:Int)(w:Wd):Wd:=if w.to=true/\w.no=no then{w with nm:=name,no:=other} else w
def dX(name:Str)(no:Int)(w:Wd):CT name no (CT name no w)=CT name no w:=by
 unfold CT;by_cases h:w.to=true/\w.no= -1/\w.nm=name
 ·rw[AH h];by_cases h2:w.to=true/\no= -1/\w.nm=name
  ·rw[AH h2]
  ·rw[AG h2]
 ·rw[AG h,AG h]
def dk(no:Int)(name:Str)(other:Int)(w:Wd):CS no name other (CS no name other w)=CS no name other w:=by
 unfold CS;by_cases h:w.to=true/\w.no=no
 ·rw[AH h];by_cases h2:w.to=true/\other=no
  ·rw[AH h2]
  ·rw[AG h2]
 ·rw[AG h,AG h]
def Nk.named(n:Nk)(name:Str)(no:Int):Nk:=({n with names:=AV n.names name no}:Nk).I8 (CT name no)
def Nk.turned(n:Nk)(no:Int)(name:Str)(other:Int):Nk:=n.I8 (CS no name other)
noncomputable def Nk.flat(n:Nk):List Wd:=n.texts.flatMap (·.2)
noncomputable def Hs(no:Int)(w:Wd):Bool:=w.to&&decide (w.no=no)
def Nk.led(n:Nk)(no:Int):Nat:=n.flat.countP (Hs no)
def C0.tab{tx:List (Int×Ya×List Ya)}{o:HO}(h:C0 H0 H a an at_ tx n)(hb:H b=some (.dK AD)):∀(i:Nat) t p,tx[i]? =some t->n.texts[i]? =some p->QF (upd H b o) t p:=fun i t p h1 h2=>by
 obtain⟨q1,q2,q3,q4⟩:=h.FU i t p h1 h2;exact⟨q1,by rw[AQ (Ca q2 hb (by intro z;cases z))];exact q2,q3,fun j w wd e1 e2=>by have:=q4 j w wd e1 e2;rw[AQ (Ca this hb (by intro z;cases z))];exact this⟩
def C0.putN{tx:List (Int×Ya×List Ya)}(h:C0 H0 H a an at_ tx n)(nm:List (Str×Int)):C0 H0 (upd H an (.dK (Fy nm))) a an at_ tx {n with names:=nm}:=
 ⟨h.same.upd h.fn,by rw[AQ h.ap.xy];exact h.ha,AM,by rw[AQ h.ap.yz.symm];exact h.ht,h.len,h.tab h.hn,h.fa,h.fn,h.ft,h.fw,h.ap⟩
def C0.qG{tx:List (Int×Ya×List Ya)}(h:C0 H0 H a an at_ tx n)(k:Int):C0 H0 (upd H a (.dK (Fx an at_ k))) a an at_ tx {n with made:=k}:=
 ⟨h.same.upd h.fa,AM,by rw[AQ h.ap.xy.symm];exact h.hn,by rw[AQ h.ap.xz.symm];exact h.ht,h.len,h.tab h.ha,h.fa,h.fn,h.ft,h.fw,h.ap⟩
def any_keys{α γ:Type}[DecidableEq α]{l:List (α×β)}{m:List (α×γ)}(e:l.map (·.1)=m.map (·.1))(k:α):(l.any fun p=>decide (p.1=k))=m.any fun p=>decide (p.1=k):=by
 have h1:(l.any fun p=>decide (p.1=k))=(l.map (·.1)).any fun x=>decide (x=k):=by rw[List.any_map];rfl
 have h2:(m.any fun p=>decide (p.1=k))=(m.map (·.1)).any fun x=>decide (x=k):=by rw[List.any_map];rfl
 rw[h1,h2,e]
def C0.Nt{tx:List (Int×Ya×List Ya)}(h:C0 H0 H a an at_ tx n)(k:Int){l:Ya}{ws:List Ya}{Cc:List Wd}(hl:H l=some (.lst (ws.map V.ref)))(el:ws.length=Cc.length)
 (hw:∀(j:Nat) w wd,ws[j]? =some w->Cc[j]? =some wd->H w=some (.lst wd.vq))(hf:∀w∈ws,H0 w=none):
 C0 H0 (upd H at_ (.dK (CY (AV tx k (l,ws))))) a an at_ (AV tx k (l,ws)) {n with texts:=AV n.texts k Cc}:=by
 have new:QF (upd H at_ (.dK (CY (AV tx k (l,ws))))) (k,l,ws) (k,Cc):=⟨rfl,by rw[AQ (Ca hl h.ht (by intro z;cases z))];exact hl,el,fun j w wd e1 e2=>by have:=hw j w wd e1 e2;rw[AQ (Ca this h.ht (by intro z;cases z))];exact this⟩;have ek:=any_keys h.keys k;refine⟨h.same.upd h.ft,by rw[AQ h.ap.xz];exact h.ha,by rw[AQ h.ap.yz];exact h.hn,AM,?_,fun i t p h1 h2=>?_,h.fa,h.fn,h.ft,fun t ht w h3=>?_,h.ap⟩
 ·unfold AV;by_cases c:(tx.any fun p=>decide (p.1=k))=true
  ·rw[AH c,AH (by rw[<-ek];exact c),AL,AL];exact h.len
  ·rw[AG c,AG (by rw[<-ek];exact c),Au,Au,h.len];rfl
 ·have h0:(AV n.texts k Cc)[i]? =some p:=h2;unfold AV at h1 h0;by_cases c:(tx.any fun p=>decide (p.1=k))=true
  ·rw[AH c,Az] at h1;rw[AH (by rw[<-ek];exact c),Az] at h0
   cases e1:tx[i]?with
   |none=>rw[e1] at h1;cases h1
   |some t0=>
   cases e2:n.texts[i]?with
   |none=>rw[e2] at h0;cases h0
   |some p0=>
   rw[e1] at h1;rw[e2] at h0;have q:=h.tab (o:=.dK (CY (AV tx k (l,ws)))) h.ht i t0 p0 e1 e2;have f1:(if t0.1=k then(t0.1,(l,ws)) else t0)=t:=Af h1;have f2:(if p0.1=k then(p0.1,Cc) else p0)=p:=Af h0;by_cases hk:t0.1=k
   ·rw[AH hk] at f1;rw[AH (by rw[<-q.1];exact hk)] at f2;rw[<-f1,<-f2,hk,<-q.1,hk];exact new
   ·rw[AG hk] at f1;rw[AG (by rw[<-q.1];exact hk)] at f2;rw[<-f1,<-f2];exact q
  ·rw[AG c] at h1;rw[AG (by rw[<-ek];exact c)] at h0;by_cases hi:i<tx.length
   ·rw[C3 hi] at h1;rw[C3 (by rw[<-h.len];exact hi)] at h0;exact h.tab h.ht i t p h1 h0
   ·have DD:i<(tx++[(k,l,ws)]).length:=(BX.mp h1).1;rw[Au,Cf] at DD;obtain rfl:i=tx.length:=by lia
    rw[Cn (Ad _),El] at h1;rw[Cn (by rw[h.len];exact Ad _),h.len,El] at h0;rw[<-Af h1,<-Af h0];exact new
 ·unfold AV at ht;by_cases c:(tx.any fun p=>decide (p.1=k))=true
  ·rw[AH c] at ht;obtain⟨t0,h4,e⟩:=BZ.mp ht;by_cases hk:t0.1=k
   ·rw[AH hk] at e;rw[<-e] at h3;exact hf w h3
   ·rw[AG hk] at e;rw[<-e] at h3;exact h.fw t0 h4 w h3
  ·rw[AG c] at ht;rcases Bp.mp ht with z|z
   ·exact h.fw t z w h3
   ·rw[Bk.mp z] at h3;exact hf w h3
noncomputable def Fz:Nk:=⟨[],[],0⟩
def YV:Sp:=fun vs H Q _=>vs=[]/\∀(a:Ya)(H':Hp),Ce H H' a Fz->Q (.ref a) H'
def Sg:Sp:=fun vs H Q _=>∃(a:Ya)(h0:Str)(no:Int)(H0:Hp)(n:Nk),vs=[.ref a,.str h0,.int no]/\Ce H0 H a n/\Fits n/\∀H',Ce H0 H' a (n.named h0 no)->Q .BA H'
def SY:Sp:=fun vs H Q _=>∃(a:Ya)(no:Int)(h1:Str)(h0:Int)(H0:Hp)(n:Nk),vs=[.ref a,.int no,.str h1,.int h0]/\Ce H0 H a n/\Fits n/\∀H',Ce H0 H' a (n.turned no h1 h0)->Q .BA H'
def UB:Sp:=fun vs H Q _=>∃(a:Ya)(no:Int)(H0:Hp)(n:Nk),vs=[.ref a,.int no]/\Ce H0 H a n/\Fits n/\∀H',AO H H'->Q (.int (n.led no)) H'
def EC(h:H a=some (.dK (Fx an at_ m))):BI H a (.str "names") (some (.ref an)):=by have:=BI.kq (k:=.inr "names") h;rw[iA] at this;exact this
def Gf(h:H a=some (.dK (Fx an at_ m))):BI H a (.str "texts") (some (.ref at_)):=by have:=BI.kq (k:=.inr "texts") h;rw[M5] at this;exact this
def fK(h:H a=some (.dK (Fx an at_ m))):BI H a (.str "made") (some (.int m)):=by have:=BI.kq (k:=.inr "made") h;rw[jU] at this;exact this
def jE{X:Cx}{pos:Pos}{k1 k2 k3 v1 v2 v3:qv}{trs:List (TE×TE)}(h:N3 X pos [some k1,some k2,some k3] [v1,v2,v3] trs):PE X (.Dict [some k1,some k2,some k3] [v1,v2,v3] pos) (Z2 trs):=@jW X pos [some k1,some k2,some k3] [v1,v2,v3] trs h rfl rfl (List.cons_ne_nil _ _) (by show 3<=15;decide)
def jP:A0 [] [] (Ao Pu):=by left
def ie(F:Ai K "_law_begun" "_law_begun" Pu f fd):AW P w K mg base Ag 1 f fd [] YV:=by
 refine F.ok jP ?_ ?_
 ·rintro _ _ _ _ ⟨rfl,_⟩;rfl
 ·rintro _ A _ s H _ Q E hr ⟨rfl,q⟩;refine⟨_,@AR _ _ _ (@Al _ _ _ _ (@jE _ _ _ _ _ _ _ _ _ (@SJ _ _ _ _ _ _ _ _ _ (@AZ _ _ _ _) (@O4 _ _) (@SJ _ _ _ _ _ _ _ _ _ (@AZ _ _ _ _) (@O4 _ _) (@SJ _ _ _ _ _ _ _ _ _ (@AZ _ _ _ _) (@Ac _ _ _ _) (@kS _ _)))))),?_⟩;intro a ha an h2 h0 h1;have n1:a≠an:=A2 AM h2;have h3:(upd (upd H a (.dK [])) an (.dK [])) a=some (.dK []):=by rw[AQ n1];exact AM
  have n2:a≠h0:=A2 h3 h1;have n3:an≠h0:=A2 AM h1;have h5:H an=none:=(AY ha).free h2;have h4:H h0=none:=((AY ha).trans (AY h2)).free h1;refine⟨by rw[AQ n2];exact h3,[(.inr "names",.ref an),(.inr "texts",.ref h0),(.inr "made",.int 0)],rfl,by show 3<=15;decide,q a _ ⟨an,h0,[],?_⟩⟩;refine⟨(((AO.refl H).upd ha).upd h5).upd h4|>.upd ha,?_,?_,?_,rfl,fun i t p e=>(by simp at e),ha,h5,h4,fun t ht=>(by cases ht),⟨n1,n2,n3⟩⟩
  ·rw[AM];rfl
  ·rw[AQ n1.symm,AQ n3];exact AM
  ·rw[AQ n2.symm];exact AM
def Sl:A0 ["_law_nook","_law_name","_law_number","_law_one","_law_word"] ["_law_nook","_law_name","_law_number"] (Ao NQ):=by left
def W2(F:Ai K "_law_named" "_law_named" NQ f fd)(O:Own mg):AW P w K mg base Ag 1 f fd ["_law_nook","_law_name","_law_number"] Sg:=by
 refine F.ok Sl ?_ ?_
 ·rintro _ _ _ _ ⟨_,_,_,_,_,rfl,_⟩;rfl
 ·rintro _ A _ s H _ Q E hr ⟨a,h0,no,H0,n,rfl,⟨an,h8,tx,nk⟩,h5,q⟩;have h4:=CZ hr;refine⟨_,(AS (Fj h4 (CB h4 (pv 0)) (pv 1) (pv 2) rfl) (AR (DW DR rfl (Ez (ED (KD rfl) rfl O.lst En (AE (CB h4 (pv 0)) AI))) (BY (i:=3) Sl.nd rfl (Aa rfl))
   (AR (DW DR rfl (Ez (DJ h4 (CB h4 (pv 0)) (pv 3) (fun _ _=>rfl))) (BY (i:=4) Sl.nd rfl (Aa rfl))
   (AR (A1 (PW.pt (FH (Aw BQ (Fu (pv 4)) AZ (Ap _)) (FH (Aw BQ (Fu (pv 4)) (EI EH Ac) (Ap _)) (Gm (Aw BQ (Fu (pv 4)) (pv 1) (Ap _))))))
   (AR (Tb (pv 2) (Ta (pv 4) Ac set_list)))
   BD))))))),?_⟩;have hl:(Fy n.names).length<sizeLine:=by
   show(n.names.map _).length<_;have:=h5.names;rw[AL,A9]
   lia
  have dp:=Dr.kq (k:=.inr h0) (v:=.int no) nk.hn hl;rw[KL F7] at dp;refine⟨_,rfl,_,rfl,a,_,rfl,EC nk.ha,_,rfl,an,_,rfl,dp,?_⟩;have h7:=nk.putN (AV n.names h0 no);refine Wq (fun σ=>∃v3 v4,σ=[some (.ref a),some (.str h0),some (.int no),v3,v4]) (CT h0 no) (dX h0 no) ⟨none,none,rfl⟩ ?_ ?_ ?_ (by decide) h7 h5.CW ?_ ?_
  ·rintro σ ⟨v3,v4,rfl⟩;exact⟨rfl,by show 3<5;decide⟩
  ·rintro σ v ⟨v3,v4,rfl⟩;exact⟨_,_,rfl⟩
  ·rintro σ v ⟨v3,v4,rfl⟩;exact⟨_,_,rfl⟩
  ·rintro _ H' D' w wd ⟨v3,v4,rfl⟩ hw kn;obtain⟨to,nm,h3⟩:=wd;have same:CT h0 no ⟨to,nm,h3⟩=⟨to,nm,h3⟩->D'.nx [some (.ref a),some (.str h0),some (.int no),v3,some (.ref w)] H':=fun e=>by rw[e,ZN hw] at kn;exact kn
   cases to with
   |false=>refine⟨_,rfl,w,_,_,.str "word",rfl,rfl,AK.of hw,rfl,rfl,_,rfl,CJ (by intro z;exact absurd (V.str.inj z) (by left)) (BF (same ?_))⟩;unfold CT;rw[AG (by simp)]
   |true=>
    refine⟨_,rfl,w,_,_,.str "to",rfl,rfl,AK.of hw,rfl,rfl,_,rfl,Bu rfl ⟨_,rfl,w,_,_,.int h3,rfl,rfl,AK.of hw,rfl,_,rfl,rfl,_,rfl,?_⟩⟩;by_cases h1:h3= -1
    ·refine Bu (by rw[h1]) ⟨_,rfl,w,_,_,.str nm,rfl,rfl,AK.of hw,rfl,_,rfl,rfl,_,rfl,?_⟩;by_cases h2:nm=h0
     ·refine Bu (by rw[h2]) ⟨_,rfl,_,rfl,w,_,_,2,rfl,rfl,hw,rfl,?_⟩;have eg:CT h0 no ⟨true,nm,h3⟩=⟨true,nm,no⟩:=by unfold CT;rw[AH ⟨rfl,h1,h2⟩]
      rw[eg] at kn;exact kn
     ·refine CJ (by intro z;exact h2 (V.str.inj z)) (same ?_);unfold CT;rw[AG (fun z=>h2 z.2.2)]
    ·refine CJ (by intro z;exact h1 (V.int.inj z)) (BF (same ?_));unfold CT;rw[AG (fun z=>h1 z.2.1)]
  ·rintro σ H' ⟨v3,v4,rfl⟩ h6;exact q H' ⟨an,h8,tx,h6⟩
def SV:A0 ["_law_nook","_law_number","_law_name","_law_other","_law_one","_law_word"] ["_law_nook","_law_number","_law_name","_law_other"] (Ao NN):=by left
def V5(F:Ai K "_law_turned" "_law_turned" NN f fd)(O:Own mg):AW P w K mg base Ag 1 f fd ["_law_nook","_law_number","_law_name","_law_other"] SY:=by
 refine F.ok SV ?_ ?_
 ·rintro _ _ _ _ ⟨_,_,_,_,_,_,rfl,_⟩;rfl
 ·rintro _ A _ s H _ Q E hr ⟨a,no,h2,h0,H0,n,rfl,⟨an,h7,tx,nk⟩,h6,q⟩;have h4:=CZ hr;refine⟨_,(AR (DW DR rfl (Ez (ED (KD rfl) rfl O.lst En (AE (CB h4 (pv 0)) AI))) (BY (i:=4) SV.nd rfl (Aa rfl))
   (AR (DW DR rfl (Ez (DJ h4 (CB h4 (pv 0)) (pv 4) (fun _ _=>rfl))) (BY (i:=5) SV.nd rfl (Aa rfl))
   (AR (A1 (PW.pt (FH (Aw BQ (Fu (pv 5)) AZ (Ap _)) (Gm (Aw BQ (Fu (pv 5)) (pv 1) (Ap _)))))
   (AS (Tb (pv 2) (Ta (pv 5) Ac set_list)) (AR (Tb (pv 3) (Ta (pv 5) Ac set_list))))
   BD)))))),?_⟩;refine Wq (fun σ=>∃v4 v5,σ=[some (.ref a),some (.int no),some (.str h2),some (.int h0),v4,v5]) (CS no h2 h0) (dk no h2 h0) ⟨none,none,rfl⟩ ?_ ?_ ?_ (by decide) nk h6.CW ?_ ?_
  ·rintro σ ⟨v3,v4,rfl⟩;exact⟨rfl,by show 4<6;decide⟩
  ·rintro σ v ⟨v3,v4,rfl⟩;exact⟨_,_,rfl⟩
  ·rintro σ v ⟨v3,v4,rfl⟩;exact⟨_,_,rfl⟩
  ·rintro _ H' D' w wd ⟨v3,v4,rfl⟩ hw kn;obtain⟨to,nm,h3⟩:=wd;have same:CS no h2 h0 ⟨to,nm,h3⟩=⟨to,nm,h3⟩->D'.nx [some (.ref a),some (.int no),some (.str h2),some (.int h0),v3,some (.ref w)] H':=fun e=>by rw[e,ZN hw] at kn;exact kn
   cases to with
   |false=>refine⟨_,rfl,w,_,_,.str "word",rfl,rfl,AK.of hw,rfl,rfl,_,rfl,CJ (by intro z;exact absurd (V.str.inj z) (by left)) (BF (same ?_))⟩;unfold CS;rw[AG (by simp)]
   |true=>
    refine⟨_,rfl,w,_,_,.str "to",rfl,rfl,AK.of hw,rfl,rfl,_,rfl,Bu rfl ⟨_,rfl,w,_,_,.int h3,rfl,rfl,AK.of hw,rfl,_,rfl,rfl,_,rfl,?_⟩⟩;by_cases h1:h3=no
    ·refine Bu (by rw[h1]) ⟨_,rfl,_,rfl,w,_,_,1,rfl,rfl,hw,rfl,_,rfl,_,rfl,w,_,_,2,rfl,rfl,AM,rfl,?_⟩;have eg:CS no h2 h0 ⟨true,nm,h3⟩=⟨true,h2,h0⟩:=by unfold CS;rw[AH ⟨rfl,h1⟩]
     rw[eg] at kn;rw[KY];exact kn
    ·refine CJ (by intro z;exact h1 (V.int.inj z)) (same ?_);unfold CS;rw[AG (fun z=>h1 z.2)]
  ·rintro σ H' ⟨v3,v4,rfl⟩ h5;exact q H' ⟨an,h7,tx,h5⟩
def Ni:A0 ["_law_nook","_law_number","_law_many","_law_one","_law_word"] ["_law_nook","_law_number"] (Ao Ny):=by left
noncomputable def upTo(n:Nk)(p q:Nat):List Wd:=(n.texts.take p).flatMap (·.2)++(((n.texts[p]?).map (·.2)).getD []).take q
def ZV(F:Ai K "_law_led" "_law_led" Ny f fd)(O:Own mg):AW P w K mg base Ag 1 f fd ["_law_nook","_law_number"] UB:=by
 refine F.ok Ni ?_ ?_
 ·rintro _ _ _ _ ⟨_,_,_,_,rfl,_⟩;rfl
 ·rintro _ A _ s H _ Q E hr ⟨a,no,H0,n,rfl,⟨an,at_,tx,nk⟩,h7,q⟩;have h5:=CZ hr;refine⟨_,(AS (Ax (i:=2) Ni.nd rfl (Aa rfl) Ac) (AS (DW DR rfl (Ez (ED (KD rfl) rfl O.lst En (AE (CB h5 (pv 0)) AI))) (BY (i:=3) Ni.nd rfl (Aa rfl))
   (AR (DW DR rfl (Ez (DJ h5 (CB h5 (pv 0)) (pv 3) (fun _ _=>rfl))) (BY (i:=4) Ni.nd rfl (Aa rfl))
   (AR (Ax (i:=2) Ni.nd rfl (Aa rfl) (An Dk (pv 2) (ED My rfl O.int Lk (AE (Pr (Hj BQ (Fu (pv 4)) AZ (Ap _)) (Pk (Hj BQ (Fu (pv 4)) (pv 1) (Ap _)))) AI)))))))) (AR (Al (pv 2))))),?_⟩;have h0:∀{p t},tx[p]? =some t->∃pp,n.texts[p]? =some pp:=fun{p t} e=>by
   have hp:p<n.texts.length:=by rw[<-nk.len];exact(BX.mp e).1
   exact⟨_,Ar hp⟩
  refine V2 (a:=a) (at_:=at_) (A:=Fx an at_ n.made) (tx:=tx) (fun L p q σ H'=>∃(v3 v4:Option V),σ=[some (.ref a),some (.int no),some (.int ((upTo n p q).countP (Hs no):Nat)),v3,v4]/\AO H H'/\H' L=some (.lst (tx.map fun t=>V.int t.1))) rfl nk.ha M5 nk.ht
   (fun L hL=>⟨none,none,rfl,AY hL,AM⟩) ?_ (by decide) ?_ ?_ ?_ ?_
  ·rintro L p q σ H' ⟨v3,v4,rfl,sm,hL⟩;have h3:=nk.ext sm;refine⟨⟨h3.ha,M5,h3.ht,hL,fun t ht=>?_,by rw[nk.keys];exact h7.CW⟩,rfl,by show 3<5;decide⟩;obtain⟨i,h6,e⟩:=Ie.mp ht;have e1:tx[i]? =some t:=by rw[Ar h6,e]
   obtain⟨pp,ep⟩:=h0 e1;exact(h3.FU i t pp e1 ep).2.1
  ·rintro L p t q w σ H' D' et ew ⟨v3,v4,rfl,sm,hL⟩ kn;obtain⟨pp,ep⟩:=h0 et;have h3:=nk.ext sm;have hq:q<pp.2.length:=by rw[<-(nk.FU p t pp et ep).2.2.1];exact(BX.mp ew).1
   have ed:pp.2[q]? =some pp.2[q]:=Ar hq;have hw:=(h3.FU p t pp et ep).2.2.2 q w _ ew ed;generalize pp.2[q]=wd at ed hw;have eu:upTo n p (q+1)=upTo n p q++[wd]:=by unfold upTo;rw[ep];show _++pp.2.take (q+1)=(_++pp.2.take q)++[wd];rw[Di,ed,Bl];rfl
   have h4:D'.nx [some (.ref a),some (.int no),some (.int (((upTo n p q).countP (Hs no):Nat)+(if Hs no wd=true then 1 else 0))),v3,some (.ref w)] H':=by
    have h1:=kn [some (.ref a),some (.int no),some (.int ((upTo n p (q+1)).countP (Hs no):Nat)),v3,some (.ref w)] H' ⟨_,_,rfl,sm,hL⟩;rw[eu,List.countP_append,List.countP_singleton] at h1;have e2:(((upTo n p q).countP (Hs no)+(if Hs no wd=true then 1 else 0):Nat):Int)=((upTo n p q).countP (Hs no):Nat)+(if Hs no wd=true then 1 else 0):=by cases Hs no wd<;>rfl
    rw[e2] at h1;exact h1
   obtain⟨to,nm,h2⟩:=wd
   cases to with
   |false=>refine⟨_,rfl,_,rfl,w,_,_,.str "word",rfl,rfl,AK.of hw,rfl,rfl,_,rfl,CJ (by intro z;exact absurd (V.str.inj z) (by left)) (.inr ⟨_,rfl,_,_,rfl,rfl,h4⟩)⟩
   |true=>
    refine⟨_,rfl,_,rfl,w,_,_,.str "to",rfl,rfl,AK.of hw,rfl,rfl,_,rfl,Bu rfl ⟨_,rfl,w,_,_,.int h2,rfl,rfl,AK.of hw,rfl,_,rfl,rfl,.inr ⟨_,rfl,_,_,rfl,rfl,?_⟩⟩⟩;have e3:Hs no ⟨true,nm,h2⟩=decide (V.int h2=V.int no):=by
     show(true&&decide (h2=no))=_;rw[Bool.true_and];by_cases h:h2=no
     ·rw[h];simp
     ·rw[BK h,BK (fun z=>h (V.int.inj z))]
    rw[e3] at h4;exact h4
  ·rintro L p t σ H' et ⟨v3,v4,rfl,sm,hL⟩;exact⟨_,_,rfl,sm,hL⟩
  ·rintro L p t σ H' et ⟨v3,v4,rfl,sm,hL⟩;obtain⟨pp,ep⟩:=h0 et;have eu:upTo n p t.2.2.length=upTo n (p+1) 0:=by unfold upTo;rw[ep,Di,ep,(nk.FU p t pp et ep).2.2.1,J9,CF];show _++pp.2.take pp.2.length=(_++[pp]).flatMap _;rw[CL,OO];show _++pp.2=_++(pp.2++[]);rw[CF]
   rw[eu];exact⟨_,_,rfl,sm,hL⟩
  ·rintro L σ H' ⟨v3,v4,rfl,sm,hL⟩;have eu:upTo n tx.length 0=n.flat:=by unfold upTo Nk.flat;rw[nk.len,CL,J9,CF]
   rw[eu];exact⟨_,rfl,q H' sm⟩
theorem fF:Bx X (qz .Gt) (fun x y H Q=>∃i j,x=.str i/\y=.str j/\Q (.bl (decide (j.cps.toList<i.cps.toList))) H):=by intro h0 s σ H x y v u Q I rx ry h;obtain⟨i,j,rfl,rfl,q⟩:=h;obtain⟨t,rfl⟩:=rx;obtain⟨t',rfl⟩:=ry;exact P.gt_str (CH I q rfl)
noncomputable def D8(c:Nat):Bool:=decide (([c]:List Nat)<("a" :Str).cps.toList)||decide (("z" :Str).cps.toList<([c]:List Nat))
def DN(z:Str):Bool:=(!decide (z=""))&&(z.cps.toList.filter D8).isEmpty
def Sa:Sp:=fun vs H Q _=>∃z:Str,vs=[.str z]/\z.length<=100000/\∀H',AO H H'->Q (.bl (DN z)) H'
def Nk.added(n:Nk)(name:Str):Nk:=({n with made:=n.made+1,texts:=AV n.texts n.made []}:Nk).named name n.made
def Yo:Sp:=fun vs H Q _=>∃(a:Ya)(h0:Str)(H0:Hp)(n:Nk),vs=[.ref a,.str h0]/\Ce H0 H a n/\Fits n/\n.texts.length<1000/\AF n.texts n.made=none/\∀H',Ce H0 H' a (n.added h0)->Q (.int n.made) H'
def M9{α β:Type}[DecidableEq α]{k:α}:∀{l:List (α×β)},AF l k=none->k∉l.map (·.1)
 |[],_=>by simp
 |p::l,h=>by
  unfold AF at h;rw[C9] at h;by_cases e:p.1=k
  ·rw[BW e] at h;cases h
  ·rw[BK e] at h;have:=M9 (l:=l) (k:=k) h;rw[Av,Bn];rintro(z|z)
   ·exact e z.symm
   ·exact this z
def Fh{α:Type}[DecidableEq α]{k:α}{v:β}{l:List (α×β)}(h:AF l k=none):AV l k v=l++[(k,v)]:=by unfold AV;rw[AG];intro z;obtain⟨p,hp,e⟩:=LD.mp z;exact M9 h (BZ.mpr ⟨p,hp,HX e⟩)
def Fits.qE{k:Int}(h:Fits n)(hk:AF n.texts k=none)(hl:n.texts.length<1000):Fits {n with made:=m,texts:=AV n.texts k []}:=by
 refine⟨h.Cm,?_,h.names,?_,fun p hp=>?_⟩
 ·show((AV n.texts k []).map (·.1)).Nodup;rw[Fh hk,BG,OV];refine⟨h.CW,by simp,fun x hx y hy z=>?_⟩;have:y=k:=by simpa using hy
  rw[this] at z;rw[z] at hx;exact M9 hk hx
 ·show(AV n.texts k []).length<=1000;rw[Fh hk,Au,Cf]
  lia
 ·have h0:p∈AV n.texts k []:=hp;rw[Fh hk] at h0;rcases Bp.mp h0 with z|z
  ·exact h.words p z
  ·rw[Bk.mp z];exact CN _
def Yi:A0 ["_law_nook","_law_name","_law_number"] ["_law_nook","_law_name"] (Ao Tq):=by left
def iC{fNa:Ya}{fdNa:rA}(F:Ai K "_law_added" "_law_added" Tq f fd)(O:Own mg)
 (FNa:Ai K "_law_named" "_law_named" NQ fNa fdNa)(bNa:Binds K fdNa ["_law_nook","_law_name","_law_number"] [])(mNa:mg "_law_named" =some (.ref fNa)):AW P w K mg base Ag 2 f fd ["_law_nook","_law_name"] Yo:=by
 have e4:AW P w K mg base Ag 1 fNa fdNa ["_law_nook","_law_name","_law_number"] Sg:=W2 FNa O;refine F.ok Yi ?_ ?_
 ·rintro _ _ _ _ ⟨_,_,_,_,rfl,_⟩;rfl
 ·rintro _ A _ s H _ Q E hr ⟨a,h2,H0,n,rfl,⟨an,h4,tx,nk⟩,e3,e1,h3,q⟩;have h0:=CZ hr;refine⟨_,(AS (Ax (i:=2) Yi.nd rfl (Aa rfl) (CB h0 (pv 0))) (AS (Fj h0 (pv 0) AZ (An Dk (pv 2) Ac) rfl) (AS (Fj h0 (CB h0 (pv 0)) (pv 2) (Bt AI) rfl) (AS (Bc (Cp e4 hr rfl mNa FNa.kp bNa .nil A3 (AE (pv 0) (AE (pv 1) (AE (pv 2) AI))))) (AR (Al (pv 2))))))),?_⟩;have h7:=Dr.kq (k:=.inr "made") (v:=.int (n.made+1)) nk.ha (by show 3<sizeLine;decide);rw[lJ] at h7;refine⟨_,rfl,a,_,rfl,fK nk.ha,_,rfl,_,_,rfl,rfl,_,rfl,a,_,rfl,h7,?_⟩;have h5:=nk.qG (n.made+1);generalize upd H a (.dK (Fx an h4 (n.made+1)))=H1 at h5;refine⟨by exact zy,fun l hl=>?_⟩;have h1:=h5.ext (AY (o:=.lst []) hl);have e0:(CY tx).length<sizeLine:=by
   show(tx.map _).length<_;rw[AL,nk.len,A9]
   lia
  have h6:=Dr.kq (k:=.inl n.made) (v:=.ref l) h1.ht e0;have e2:putK (CY tx) (.inl n.made) (.ref l)=CY (AV tx n.made (l,[])):=KL (g:=fun p:Ya×List Ya=>V.ref p.1) FC n.made (l,[]) tx;rw[e2] at h6;refine⟨_,rfl,a,_,rfl,Gf h1.ha,_,rfl,h4,_,rfl,h6,?_⟩;have h8:=h1.Nt n.made (l:=l) (ws:=[]) (Cc:=[]) AM rfl (fun j w wd e=>by simp at e) (fun w hw=>by cases hw);exact⟨_,rfl,_,rfl,_,rfl,a,h2,n.made,H0,_,rfl,⟨an,h4,_,h8⟩,e3.qE h3 e1,fun H' h9=>⟨_,rfl,q H' h9⟩⟩
def jA:A0 ["_law_text"] ["_law_text"] (Ao NH):=by left
def V6(F:Ai K "_law_is_name" "_law_is_name" NH f fd):AW P w K mg base Ag 1 f fd ["_law_text"] Sa:=by
 refine F.ok jA ?_ ?_
 ·rintro _ _ _ _ ⟨_,rfl,_⟩;rfl
 ·rintro _ A _ s H _ Q E hr ⟨x,rfl,hx,k⟩;have hu:=hr.TQ;refine⟨_,(AR (Al (Pr (Hj Er (pv 0) AZ (Ap _)) (Pk (Hj (pS hu) (EF (ts:=["_law_sign"]) (cap:=[]) (ix:=[]) (KJ rfl rfl (by left) (by left)) (ZU (pv 0)) (fun _ _ _ _ _=>BY (i:=0) N4 rfl (Aa rfl) (CP rfl)) (fun _ _ _ _ _=>(KR (PW.pt (Jh (Aw eQ (pv 0) AZ (Ap _)) (JW (Aw fF (pv 0) AZ (Ap _))))))) (fun _ _ _ _ _=>(pv 0))) (Bt AI) (Ap _)))))),?_⟩;refine⟨_,rfl,rfl,_,rfl,?_⟩;by_cases e:x=""
  ·refine D7 (by rw[e]) ?_;have:DN x=false:=by unfold DN;rw[BW e];rfl
   have q:=k H (AO.refl H);rw[this] at q;exact q
  ·refine Fp (fun z=>e (V.str.inj z)) ?_;have en:DN x=(x.cps.toList.filter D8).isEmpty:=by unfold DN;rw[BK e];rfl
   have el:x.cps.toList.length<=100000:=by simpa[Str.length] using hx
   refine⟨_,rfl,x,rfl,fun D hD=>Wv (fun i H'=>AO H H'/\H' D=some (.lst (((x.cps.toList.take i).filter D8).map fun c=>V.str ⟨#[c]⟩))) ⟨AY hD,AM⟩ ?_ ?_⟩
   ·rintro i c H' hc ⟨sm,h0⟩;have h4:i<x.cps.toList.length:=(BX.mp hc).1;have et:x.cps.toList.take (i+1)=x.cps.toList.take i++[c]:=by rw[Di,hc];rfl
    have put:D8 c=true->∃ys,H' D=some (.lst ys)/\ys.length<sizeLine/\AO H (upd H' D (.lst (ys++[V.str ⟨#[c]⟩])))/\(upd H' D (.lst (ys++[V.str ⟨#[c]⟩]))) D=some (.lst (((x.cps.toList.take (i+1)).filter D8).map fun c=>V.str ⟨#[c]⟩)):=fun hb=>by
     refine⟨_,h0,?_,sm.upd hD,?_⟩
     ·have:=EA D8 (x.cps.toList.take i);rw[Bm] at this;rw[AL,A9]
      lia
     ·rw[AM,et,MW,BG];have:[c].filter D8=[c]:=by simp[hb]
      rw[this];rfl
    have h3:D8 c=false->AO H H'/\H' D=some (.lst (((x.cps.toList.take (i+1)).filter D8).map fun c=>V.str ⟨#[c]⟩)):=fun hb=>by
     refine⟨sm,?_⟩;rw[h0,et,MW];have:[c].filter D8=[]:=by simp[hb]
     rw[this,CF]
    refine⟨E1,_,rfl,_,_,rfl,rfl,_,rfl,?_⟩;by_cases h1:([c]:List Nat)<("a" :Str).cps.toList
    ·exact Bu h1 (Bi ⟨_,rfl,put (by unfold D8;rw[BW h1];rfl)⟩)
    ·refine CJ h1 ⟨_,rfl,_,_,rfl,rfl,_,rfl,?_⟩;by_cases h2:("z" :Str).cps.toList<([c]:List Nat)
     ·exact Bu h2 ⟨_,rfl,put (by unfold D8;rw[BW h2,Bool.or_true])⟩
     ·exact CJ h2 (h3 (by unfold D8;rw[BK h1,BK h2];rfl))
   ·rintro H' ⟨sm,h0⟩;rw[CL] at h0;refine⟨by exact zy,fun q hq=>⟨D,q,_,rfl,rfl,AK.of ((AY hq) _ _ h0),AK.of AM,?_⟩⟩;have h1:=k _ (sm.trans (AY (o:=.lst []) hq));have h2:((x.cps.toList.filter D8).map fun c=>V.str ⟨#[c]⟩).isEmpty=(x.cps.toList.filter D8).isEmpty:=by cases x.cps.toList.filter D8<;>rfl
    rw[h2,<-en];exact h1
def eM{c:TT}{t u:TS}{D:Ends}(G:Hp->Prop)(hG:∀H2,G H2->u D σ H2)(h:(∀H2,G H2->u D σ H2)->Hu c t u D σ H):Hu c t u D σ H:=h hG
def fG(t p:Str)(h:p∈Txt.split t " "):p.length<=t.length:=by
 have hw:=Mo t " " (by decide);have h2:p.length<=((Txt.split t " ").map (·.length)).sum:=by
  generalize Txt.split t " " =L at h
  induction L with
  |nil=>cases h
  |cons a r ih=>
   rw[Av,CM];rcases Bn.mp h with e|e
   ·subst e;lia
   ·have:=ih e;lia
 have h3:1<=(Txt.split t " ").length:=VL h
 lia
noncomputable def inner(p:Str):Str:=Txt.slice p (some 1) (some (-1))
def IQ(p:Str):Bool:=decide (V.str (Txt.slice p none (some 1))=V.str "[")&&(decide (V.str (Txt.slice p (some (-1)) none)=V.str "]")&&DN (inner p))
def EL(names:List (Str×Int))(p:Str):Option Wd:=if IQ p=true then some ⟨true,inner p,(AF names (inner p)).getD (-1)⟩ else if p="" then none else some ⟨false,p,-1⟩
def Gp(names:List (Str×Int))(z:Str):List Wd:=(Txt.split z " ").filterMap (EL names)
structure IY(H H':Hp)(ws:List Ya)(Cc:List Wd):Prop where
 len:ws.length=Cc.length
 at_:∀(j:Nat) w wd,ws[j]? =some w->Cc[j]? =some wd->H' w=some (.lst wd.vq)
 new:∀w∈ws,H w=none
def Vy:Sp:=fun vs H Q _=>∃(a:Ya)(z:Str)(H0:Hp)(n:Nk),vs=[.ref a,.str z]/\Ce H0 H a n/\z.length<=1000/\
 ∀(L:Ya)(ws:List Ya)(H':Hp),AO H H'->H L=none->H' L=some (.lst (ws.map V.ref))->IY H H' ws (Gp n.names z)->Q (.ref L) H'
def IY.snoc{ws:List Ya}{Cc:List Wd}{w:Ya}{wd:Wd}{o:HO}(h:IY H H2 ws Cc)(hw:H2 w=none)(hn:H w=none)(hL:H2 L=some (.lst (ws.map V.ref))):IY H (upd (upd H2 w (.lst wd.vq)) L o) (ws++[w]) (Cc++[wd]):=by
 have h0:w≠L:=(A2 hL hw).symm;refine⟨by rw[Au,Au,h.len];rfl,fun j x xd h1 h2=>?_,fun x hx=>?_⟩
 ·by_cases hj:j<ws.length
  ·rw[C3 hj] at h1;rw[C3 (by rw[<-h.len];exact hj)] at h2;have:=h.at_ j x xd h1 h2;rw[AQ (Ca this hL (by intro z;exact WN _ xd (HO.lst.inj z).symm)),AQ (A2 this hw)];exact this
  ·have h3:j<(ws++[w]).length:=(BX.mp h1).1;rw[Au,Cf] at h3;obtain rfl:j=ws.length:=by lia
   rw[Cn (Ad _),El] at h1;rw[Cn (by rw[h.len];exact Ad _),h.len,El] at h2;cases Af h1;cases Af h2;rw[AQ h0,AM]
 ·rcases Bp.mp hx with z|z
  ·exact h.new x z
  ·rw[Bk.mp z];exact hn
def IY.ext{H3:Hp}{ws:List Ya}{Cc:List Wd}(h:IY H H2 ws Cc)(s:AO H2 H3):IY H H3 ws Cc:=⟨h.len,fun j w wd h1 h2=>s _ _ (h.at_ j w wd h1 h2),h.new⟩
def Rt:A0 ["_law_nook","_law_text","_law_words","_law_one"] ["_law_nook","_law_text"] (Ao Rw):=by left
def cw{fIs:Ya}{fdIs:rA}(F:Ai K "_law_penned_in" "_law_penned_in" Rw f fd)(FIs:Ai K "_law_is_name" "_law_is_name" NH fIs fdIs)(bIs:Binds K fdIs ["_law_text"] [])(mIs:mg "_law_is_name" =some (.ref fIs)):
 AW P w K mg base Ag 2 f fd ["_law_nook","_law_text"] Vy:=by
 have e8:AW P w K mg base Ag 1 fIs fdIs ["_law_text"] Sa:=V6 FIs;refine F.ok Rt ?_ ?_
 ·rintro _ _ _ _ ⟨_,_,_,_,rfl,_⟩;rfl
 ·rintro _ A _ s H _ Q E hr ⟨a,z,H0,n,rfl,⟨an,s1,tx,nk⟩,hz,q⟩;have e2:=CZ hr;refine⟨_,(AS (Ax (i:=2) Rt.nd rfl (Aa rfl) (Bt AI)) (AS (DW DR rfl (Ez (EO MO uc ud XN (pv 1) (AE AZ AI))) (BY (i:=3) Rt.nd rfl (Aa rfl))
   (AR (A1 (PW.pt (FH (Aw BQ (Ff Kc (pv 3) KU (DV Ac)) AZ (Ap _)) (FH (Aw BQ (Ff Kc (pv 3) (DV (EI EH Ac)) KU) AZ (Ap _)) (Gm (D5 (Cp e8 hr rfl mIs FIs.kp bIs .nil A3 (AE (Ff Kc (pv 3) (DV Ac) (DV (EI EH Ac))) AI)))))))
   (AR (Bc (EO Dh Ei Eh EE (pv 2) (AE (Bt (AE AZ (AE (Ff Kc (pv 3) (DV Ac) (DV (EI EH Ac))) (AE (gz e2 (CB e2 (pv 0)) (Ff Kc (pv 3) (DV Ac) (DV (EI EH Ac))) (EI EH Ac) ⟨rfl,rfl,rfl,rfl⟩) AI)))) AI))))
   (AR (A1 (Aw Er (pv 3) AZ (Ap _))
   (AR (Bc (EO Dh Ei Eh EE (pv 2) (AE (Bt (AE AZ (AE (pv 3) (AE (EI EH Ac) AI)))) AI))))
   BD))))) (AR (Al (pv 2))))),?_⟩;have e9:(Txt.split z " ").length<=1001:=by
   have:=Mo z " " (by decide)
   lia
  refine⟨by exact zy,fun L hL=>⟨_,rfl,rfl,z,_,rfl,rfl,by left,by rw[A9];lia,fun D0 e5=>?_⟩⟩;have h9:L≠D0:=A2 AM e5;have h8:H D0=none:=(AY hL).free e5;refine⟨D0,rfl,⟨_,AK.of AM⟩,?_⟩;refine He (K:=[]) (a:=D0) (xs:=(Txt.split z " ").map V.str) (fun i σ H'=>∃(ws:List Ya)(v3:Option V),σ=[some (.ref a),some (.str z),some (.ref L),v3]/\AO H H'/\H' D0=some (.lst ((Txt.split z " ").map V.str))/\H' L=some (.lst (ws.map V.ref))/\IY H H' ws (((Txt.split z " ").take i).filterMap (EL n.names))/\ws.length<=i)
   ⟨[],none,rfl,((AO.refl H).upd hL).upd h8,AM,by rw[AQ h9];exact AM,⟨rfl,fun j w wd e=>by simp at e,fun w hw=>by cases hw⟩,Ad _⟩ (fun i σ H' _ ⟨_,_,_,_,h,_⟩=>AK.of h) ?_ ?_
  ·rintro i x σ H' hx ⟨ws,v3,rfl,sm,h5,h0,pw,wl⟩;rw[Az] at hx
   cases ep:(Txt.split z " ")[i]?with
   |none=>rw[ep] at hx;cases hx
   |some pc=>
   rw[ep] at hx;obtain rfl:V.str pc=x:=Af hx;have hi:i<(Txt.split z " ").length:=(BX.mp ep).1;have s0:=fG z pc (Br ep);have h4:pc.length<=sizeLine:=by rw[A9];lia
   have li:(inner pc).length<=100000:=by have:=Om pc (some 1) (some (-1));unfold inner;lia
   have e7:((Txt.split z " ").take (i+1)).filterMap (EL n.names)=((Txt.split z " ").take i).filterMap (EL n.names)++(EL n.names pc).toList:=by rw[Di,ep,List.filterMap_append];show _++[pc].filterMap _=_;cases e:EL n.names pc<;>simp[e]
   have e4:(ws.map V.ref).length<sizeLine:=by rw[AL,A9];lia
   have e6:∀(wd:Wd)(es:List V)(H2:Hp)(w:Ya),EL n.names pc=some wd->es=wd.vq->AO H' H2->H2 w=none->∃(h6:List Ya)(v3:Option V),([some (V.ref a),some (.str z),some (.ref L),some (.str pc)]:St)=[some (.ref a),some (.str z),some (.ref L),v3]/\AO H (upd (upd H2 w (.lst es)) L (.lst (ws.map V.ref++[V.ref w])))/\
    (upd (upd H2 w (.lst es)) L (.lst (ws.map V.ref++[V.ref w]))) D0=some (.lst ((Txt.split z " ").map V.str))/\(upd (upd H2 w (.lst es)) L (.lst (ws.map V.ref++[V.ref w]))) L=some (.lst (h6.map V.ref))/\
    IY H (upd (upd H2 w (.lst es)) L (.lst (ws.map V.ref++[V.ref w]))) h6 (((Txt.split z " ").take (i+1)).filterMap (EL n.names))/\h6.length<=i+1:=by
    rintro wd es H2 w e rfl s2 hw;have e1:H w=none:=(sm.trans s2).free hw;refine⟨ws++[w],_,rfl,((sm.trans s2).upd e1).upd hL,?_,by rw[AM,BG];rfl,?_,by rw[Au,Cf];lia⟩
    ·rw[AQ h9.symm,AQ (A2 (s2 _ _ h5) hw)];exact s2 _ _ h5
    ·rw[e7,e];exact(pw.ext s2).snoc hw e1 (s2 _ _ h0)
   refine eM (fun H2=>AO H' H2/\IQ pc=false) ?_ ?_
   ·rintro H2 ⟨s2,e3⟩;refine⟨_,rfl,rfl,_,rfl,?_⟩;by_cases e0:pc=""
    ·refine D7 (by rw[e0]) ?_;have er:EL n.names pc=none:=by unfold EL;rw[e3,AG (by decide),AH e0]
     exact⟨ws,_,rfl,sm.trans s2,s2 _ _ h5,s2 _ _ h0,by rw[e7,er];show IY _ _ _ (_++[]);rw[CF];exact pw.ext s2,by lia⟩
    ·refine Fp (fun z=>e0 (V.str.inj z)) ⟨_,rfl,.inl ⟨rfl,_,AK.of (s2 _ _ h0)⟩,_,rfl,_,rfl,by exact zv,fun w hw=>⟨L,_,.ref w,rfl,rfl,(AY hw) _ _ (s2 _ _ h0),e4,?_⟩⟩;have er:EL n.names pc=some ⟨false,pc,-1⟩:=by unfold EL;rw[e3,AG (by decide),AG e0]
     exact e6 _ _ H2 w er rfl s2 hw
   ·intro hG;refine⟨_,rfl,_,rfl,pc,rfl,h4,rfl,_,rfl,?_⟩;by_cases h1:V.str (Txt.slice pc none (some 1))=V.str "["
    ·refine Bu h1 ⟨_,rfl,_,rfl,_,rfl,pc,rfl,h4,rfl,_,rfl,?_⟩;by_cases h2:V.str (Txt.slice pc (some (-1)) none)=V.str "]"
     ·refine Bu h2 ⟨_,rfl,_,rfl,_,rfl,_,rfl,pc,rfl,h4,inner pc,rfl,li,fun H2 s2=>⟨_,rfl,?_⟩⟩
      cases h3:DN (inner pc) with
      |false=>exact BF (hG H2 ⟨s2,by unfold IQ;rw[h3,LK,LK]⟩)
      |true=>
       have hp:IQ pc=true:=by unfold IQ;rw[h3,BW h1,BW h2];rfl
       have h7:=nk.ext (sm.trans s2);have dg:=BI.kq (k:=.inr (inner pc)) h7.hn;rw[Em F7] at dg;refine Bi ⟨_,rfl,.inl ⟨rfl,_,AK.of (s2 _ _ h0)⟩,_,rfl,_,rfl,_,rfl,_,rfl,pc,rfl,h4,_,rfl,a,_,rfl,EC h7.ha,an,rfl,.inl ⟨_,.inl h7.hn⟩,_,rfl,_,rfl,_,rfl,_,rfl,pc,rfl,h4,_,rfl,_,dg,by exact zv,fun w hw=>⟨L,_,.ref w,rfl,rfl,(AY hw) _ _ (s2 _ _ h0),e4,?_⟩⟩;have er:EL n.names pc=some ⟨true,inner pc,(AF n.names (inner pc)).getD (-1)⟩:=by unfold EL;rw[AH hp]
       refine e6 _ _ H2 w er ?_ s2 hw;show[V.str "to",V.str (inner pc),((AF n.names (inner pc)).map V.int).getD (V.int (-1))]=[V.str "to",V.str (inner pc),V.int ((AF n.names (inner pc)).getD (-1))];cases AF n.names (inner pc)<;>rfl
     ·exact CJ h2 (BF (hG _ ⟨AO.refl _,by unfold IQ;rw[BK h2,Ml,LK]⟩))
    ·exact CJ h1 (BF (hG _ ⟨AO.refl _,by unfold IQ;rw[BK h1,Ml]⟩))
  ·rintro σ H' ⟨ws,v3,rfl,sm,h5,h0,pw,wl⟩;rw[AL,CL] at pw;exact⟨_,rfl,q L ws H' sm hL h0 pw⟩
noncomputable def nameOf(names:List (Str×Int))(no:Int):Str:=((names.find? fun p=>decide (p.2=no)).map (·.1)).getD ""
def shown(names:List (Str×Int))(w:Wd):Str:=if w.to=true then(if w.no= -1 then "[" ++w.nm++ "]" else "[" ++nameOf names w.no++ "]") else w.nm
def XI:Sp:=fun vs H Q _=>∃(a:Ya)(no:Int)(H0:Hp)(n:Nk),vs=[.ref a,.int no]/\Ce H0 H a n/\Fits n/\∀H',AO H H'->Q (.str (nameOf n.names no)) H'
def Sw:Sp:=fun vs H Q _=>∃(a w:Ya)(wd:Wd)(H0:Hp)(n:Nk),vs=[.ref a,.ref w]/\Ce H0 H a n/\Fits n/\H w=some (.lst wd.vq)/\wd.nm.length<=2000/\(∀p∈n.names,p.1.length<=2000)/\∀H',AO H H'->Q (.str (shown n.names wd)) H'
variable{names:List (Str×Int)}{no:Int}
def dS(h:∀p∈names,p.1.length<=2000):(nameOf names no).length<=2000:=by
 unfold nameOf
 cases e:names.find? fun p=>decide (p.2=no) with
 |none=>show("" :Str).length<=2000;decide+kernel
 |some p=>exact h p (VC e)
def XQ:A0 ["_law_nook","_law_number","_law_name"] ["_law_nook","_law_number"] (Ao Pc):=by left
def eY(F:Ai K "_law_name_of" "_law_name_of" Pc f fd)(O:Own mg):AW P w K mg base Ag 1 f fd ["_law_nook","_law_number"] XI:=by
 refine F.ok XQ ?_ ?_
 ·rintro _ _ _ _ ⟨_,_,_,_,rfl,_⟩;rfl
 ·rintro _ A _ s H _ Q E hr ⟨a,no,H0,n,rfl,⟨an,h6,tx,nk⟩,h5,q⟩;have h1:=CZ hr;refine⟨_,(AS (DW DR rfl (Ez (ED (KD rfl) rfl O.lst En (AE (CB h1 (pv 0)) AI))) (BY (i:=2) XQ.nd rfl (Aa rfl))
   (AR (A1 (Aw BQ (DJ h1 (CB h1 (pv 0)) (pv 2) (fun _ _=>rfl)) (pv 1) (Ap _))
   (AR (Al (pv 2)))
   BD))) (AR (Al AZ))),?_⟩;refine⟨_,rfl,a,_,rfl,EC nk.ha,an,_,rfl,nk.hn,fun L hL=>?_⟩;have ek:((Fy n.names).map fun kv=>kV kv.1)=n.names.map fun p=>V.str p.1:=by
   show(n.names.map _).map _=_;rw[Ba];rfl
  rw[ek];refine⟨L,rfl,⟨_,AK.of AM⟩,?_⟩;refine He (K:=[]) (a:=L) (xs:=n.names.map fun p=>V.str p.1) (fun i σ H'=>∃v2:Option V,σ=[some (.ref a),some (.int no),v2]/\AO (upd H L (.lst (n.names.map fun p=>V.str p.1))) H'/\(n.names.take i).find? (fun p=>decide (p.2=no))=none)
   ⟨none,rfl,AO.refl _,rfl⟩ (fun i σ H' _ ⟨_,_,sm,_⟩=>AK.of (sm _ _ AM)) ?_ ?_
  ·rintro i x σ H' hx ⟨v2,rfl,sm,h0⟩;rw[Az] at hx
   cases ep:n.names[i]?with
   |none=>rw[ep] at hx;cases hx
   |some p=>
   rw[ep] at hx;obtain rfl:V.str p.1=x:=Af hx;have h2:=(AY hL).trans sm;have h3:=nk.ext h2;have dg:=BI.kq (k:=.inr p.1) h3.hn;rw[Em F7,JS h5.Cm ep] at dg;refine⟨_,rfl,a,_,rfl,EC h3.ha,_,rfl,an,_,rfl,dg,_,rfl,rfl,_,rfl,?_⟩;have h4:n.names.take (i+1)=n.names.take i++[p]:=by rw[Di,ep];rfl
   by_cases hp:p.2=no
   ·refine Bu (by rw[hp]) ⟨_,rfl,?_⟩;have en:nameOf n.names no=p.1:=by
     unfold nameOf;have:n.names.find? (fun p=>decide (p.2=no))=some p:=by
      conv=>lhs;rw[<-ET (i+1) n.names]
      rw[h4,RD,RD,h0,List.find?_singleton,AH (BW hp)];rfl
     rw[this];rfl
    have:=q H' h2;rw[en] at this;exact this
   ·refine CJ (fun z=>hp (V.int.inj z)) ⟨_,rfl,sm,?_⟩;rw[h4,RD,h0,List.find?_singleton,AG (by rw[BK hp];decide)];rfl
  ·rintro σ H' ⟨v2,rfl,sm,h0⟩;rw[AL,CL] at h0;have en:nameOf n.names no="" :=by unfold nameOf;rw[h0];rfl
   have:=q H' ((AY hL).trans sm);rw[en] at this;exact this
def jZ:A0 ["_law_nook","_law_word"] ["_law_nook","_law_word"] (Ao Ts):=by left
def ju:("[" :Str).length=1/\("]" :Str).length=1:=by left
def gZ{fNo:Ya}{fdNo:rA}(F:Ai K "_law_shown" "_law_shown" Ts f fd)(O:Own mg)(FNo:Ai K "_law_name_of" "_law_name_of" Pc fNo fdNo)(bNo:Binds K fdNo ["_law_nook","_law_number"] [])(mNo:mg "_law_name_of" =some (.ref fNo)):
 AW P w K mg base Ag 2 f fd ["_law_nook","_law_word"] Sw:=by
 have h4:AW P w K mg base Ag 1 fNo fdNo ["_law_nook","_law_number"] XI:=eY FNo O;refine F.ok jZ ?_ ?_
 ·rintro _ _ _ _ ⟨_,_,_,_,_,rfl,_⟩;rfl
 ·rintro _ A _ s H _ Q E hr ⟨a,w,wd,H0,n,rfl,nk,h3,hw,h1,h2,q⟩;refine⟨_,(AS (A1 (Aw BQ (Fu (pv 1)) AZ (Ap _))
   (AR (Al (Fu (pv 1))))
   BD) (AS (A1 (Aw BQ (Fu (pv 1)) (EI EH Ac) (Ap _))
   (AR (Al (An IG (An IG AZ (Fu (pv 1))) AZ)))
   BD) (AR (Al (An IG (An IG AZ (Cp h4 hr rfl mNo FNo.kp bNo .nil A3 (AE (pv 0) (AE (Fu (pv 1)) AI)))) AZ))))),?_⟩;obtain⟨b1,b2⟩:=ju;have h0:=dS (no:=wd.no) h2;obtain⟨to,nm,no⟩:=wd
  cases to with
  |false=>exact⟨_,rfl,w,_,_,.str "word",rfl,rfl,AK.of hw,rfl,rfl,_,rfl,Bu rfl ⟨_,rfl,w,_,_,.str nm,rfl,rfl,AK.of hw,rfl,q H (AO.refl H)⟩⟩
  |true=>
   refine⟨_,rfl,w,_,_,.str "to",rfl,rfl,AK.of hw,rfl,rfl,_,rfl,CJ (by intro z;exact absurd (V.str.inj z) (by left)) ⟨_,rfl,w,_,_,.int no,rfl,rfl,AK.of hw,rfl,_,rfl,rfl,_,rfl,?_⟩⟩;by_cases h:no= -1
   ·refine Bu (by rw[h]) ⟨_,rfl,w,_,_,.str nm,rfl,rfl,AK.of hw,rfl,_,_,rfl,rfl,by rw[b1,A9];show 1+nm.length<=_;have:nm.length<=2000:=h1;lia,_,_,rfl,rfl,by rw[Iq,b1,b2,A9];have:nm.length<=2000:=h1;lia,?_⟩;have:=q H (AO.refl H);have es:shown n.names ⟨true,nm,no⟩="[" ++nm++ "]" :=by unfold shown;rw[AH rfl,AH h]
    rw[es] at this;exact this
   ·refine CJ (fun z=>h (V.int.inj z)) ⟨_,rfl,_,rfl,w,_,_,.int no,rfl,rfl,AK.of hw,rfl,a,no,H0,n,rfl,nk,h3,fun H' s'=>⟨_,_,rfl,rfl,by rw[b1,A9];have:(nameOf n.names no).length<=2000:=h0;lia,_,_,rfl,rfl,by rw[Iq,b1,b2,A9];have:(nameOf n.names no).length<=2000:=h0;lia,?_⟩⟩;have:=q H' s';have es:shown n.names ⟨true,nm,no⟩="[" ++nameOf n.names no++ "]" :=by unfold shown;rw[AH rfl,AG h]
    rw[es] at this;exact this
def Su{α β γ:Type}[DecidableEq α]{R:(α×β)->(α×γ)->Prop}(hR:∀t p,R t p->t.1=p.1)(k:α):∀(l:List (α×β))(m:List (α×γ)),l.length=m.length->(∀(i:Nat) t p,l[i]? =some t->m[i]? =some p->R t p)->
 (AN l k).length=(AN m k).length/\∀(i:Nat) t p,(AN l k)[i]? =some t->(AN m k)[i]? =some p->R t p
 |[],[],_,_=>⟨rfl,fun i t p e=>by simp[AN] at e⟩
 |t0::l,p0::m,hl,h=>by
  have h0:=h 0 t0 p0 rfl rfl;obtain⟨e1,e2⟩:=Su hR k l m (by simpa using hl) fun i t p a b=>h (i+1) t p (by simpa using a) (by simpa using b);have ek:=hR _ _ h0;by_cases c:t0.1=k
  ·have d1:AN (t0::l) k=AN l k:=by unfold AN;rw[Fb];simp[c]
   have d2:AN (p0::m) k=AN m k:=by unfold AN;rw[Fb];simp[<-ek,c]
   rw[d1,d2];exact⟨e1,e2⟩
  ·have d1:AN (t0::l) k=t0::AN l k:=by unfold AN;rw[Ej];simp[c]
   have d2:AN (p0::m) k=p0::AN m k:=by unfold AN;rw[Ej];simp[<-ek,c]
   rw[d1,d2];refine⟨by rw[CD,CD,e1],fun i t p a b=>?_⟩
   cases i with
   |zero=>
    have a':t0=t:=by simpa using a
    have b':p0=p:=by simpa using b
    rw[<-a',<-b'];exact h0
   |succ i=>exact e2 i t p (by simpa using a) (by simpa using b)
 |[],_::_,hl,_=>by cases hl
 |_::_,[],hl,_=>by cases hl
def C0.Pz{tx:List (Int×Ya×List Ya)}(h:C0 H0 H a an at_ tx n)(k:Int):C0 H0 (upd H at_ (.dK (CY (AN tx k)))) a an at_ (AN tx k) {n with texts:=AN n.texts k}:=by obtain⟨e1,e2⟩:=Su (R:=QF (upd H at_ (.dK (CY (AN tx k))))) (fun t p r=>r.1) k tx n.texts h.len (h.tab h.ht);exact⟨h.same.upd h.ft,by rw[AQ h.ap.xz];exact h.ha,by rw[AQ h.ap.yz];exact h.hn,AM,e1,e2,h.fa,h.fn,h.ft,fun t ht=>h.fw t (F3.mp ht).1,h.ap⟩
def Fi{α β:Type}[DecidableEq α]{k:α}{v:β}:∀{l:List (α×β)},AF l k=some v->∃i:Nat,l[i]? =some (k,v)
 |[],h=>by cases h
 |p::l,h=>by
  unfold AF at h;rw[C9] at h;by_cases e:p.1=k
  ·rw[BW e] at h;have hv:p.2=v:=Af h;exact⟨0,by rw[<-e,<-hv];rfl⟩
  ·rw[BK e] at h;obtain⟨i,hi⟩:=Fi (l:=l) h;exact⟨i+1,by simpa using hi⟩
def C0.find{tx:List (Int×Ya×List Ya)}(h:C0 H0 H a an at_ tx n)(CW:(n.texts.map (·.1)).Nodup){k:Int}{Cc:List Wd}(hk:AF n.texts k=some Cc):
 ∃(l:Ya)(ws:List Ya),AF tx k=some (l,ws)/\H l=some (.lst (ws.map V.ref))/\ws.length=Cc.length/\(∀(j:Nat) w wd,ws[j]? =some w->Cc[j]? =some wd->H w=some (.lst wd.vq))/\∀w∈ws,H0 w=none:=by
 obtain⟨i,hi⟩:=Fi hk;have hl:i<tx.length:=by rw[h.len];exact(BX.mp hi).1
 have et:tx[i]? =some tx[i]:=Ar hl;generalize tx[i]=t at et;obtain⟨q1,q2,q3,q4⟩:=h.FU i t _ et hi;obtain⟨k',l,ws⟩:=t;have h0:k'=k:=q1;subst h0;exact⟨l,ws,JS (by rw[h.keys];exact CW) et,q2,q3,q4,h.fw _ (Br et)⟩
def DT{α β:Type}[DecidableEq α]{k j:α}(hne:j≠k):∀l:List (α×β),AF (AN l k) j=AF l j
 |[]=>rfl
 |p::l=>by
  have ih:=DT hne l;by_cases c:p.1=k
  ·have d1:AN (p::l) k=AN l k:=by unfold AN;rw[Fb];simp[c]
   rw[d1,ih];unfold AF;rw[C9,BK (fun z=>hne (z.symm.trans c))]
  ·have d1:AN (p::l) k=p::AN l k:=by unfold AN;rw[Ej];simp[c]
   rw[d1];unfold AF at ih⊢;rw[C9,C9]
   cases decide (p.1=j) with
   |true=>rfl
   |false=>exact ih
def DI{α:Type}[DecidableEq α]{k:α}{l:List (α×β)}(h:(l.map (·.1)).Nodup):((AN l k).map (·.1)).Nodup:=by unfold AN;exact h.sublist (List.filter_sublist.map _)
def XD{α:Type}[DecidableEq α]{k:α}{v w:β}{l:List (α×β)}(h:AF l k=some w):(AV l k v).map (·.1)=l.map (·.1):=by
 unfold AV;obtain⟨i,hi⟩:=Fi h;rw[AH (LD.mpr ⟨_,Br hi,BW rfl⟩),Ba];refine Ek fun p _=>?_;show(if p.1=k then(p.1,v) else p).1=p.1;by_cases c:p.1=k
 ·rw[AH c]
 ·rw[AG c]
def Nk.joined(n:Nk)(no:Int)(other:Str)(gone:Int)(w1 w2:List Wd):Nk:=({n with names:=AN n.names other,texts:=AV (AN n.texts gone) no (w1++w2)}:Nk).turned gone "" no
def XB:Sp:=fun vs H Q _=>∃(a:Ya)(no:Int)(h0:Str)(H0:Hp)(n:Nk)(h1:Int)(w1 w2:List Wd),vs=[.ref a,.int no,.str h0]/\Ce H0 H a n/\Fits n/\AF n.names h0=some h1/\AF n.texts no=some w1/\AF n.texts h1=some w2/\no≠h1/\(w1++w2).length<=100000/\
 ∀H',Ce H0 H' a (n.joined no h0 h1 w1 w2)->Q (.int ((n.joined no h0 h1 w1 w2).led no)) H'
def Fits.map{n:Nk}{g:Wd->Wd}(h:Fits n):Fits (n.I8 g):=by
 have ek:(n.I8 g).texts.map (·.1)=n.texts.map (·.1):=by show(n.texts.map _).map _=_;rw[Ba];rfl
 refine⟨h.Cm,by rw[ek];exact h.CW,h.names,?_,fun p hp=>?_⟩
 ·show(n.texts.map _).length<=1000;rw[AL];exact h.texts
 ·obtain⟨q,hq,e⟩:=BZ.mp (show p∈n.texts.map _ from hp);rw[<-e];show(q.2.map g).length<=_;rw[AL];exact h.words q hq
def Fits.join{gone:Int}{other:Str}{w1 w2:List Wd}(h:Fits n)(h1:AF n.texts no=some w1)(hne:no≠gone)(hl:(w1++w2).length<=100000):Fits {n with names:=AN n.names other,texts:=AV (AN n.texts gone) no (w1++w2)}:=by
 have hg:AF (AN n.texts gone) no=some w1:=by rw[DT hne];exact h1
 refine⟨DI h.Cm,?_,BJ (EA _ _) h.names,?_,fun p hp=>?_⟩
 ·show((AV (AN n.texts gone) no (w1++w2)).map (·.1)).Nodup;rw[XD hg];exact DI h.CW
 ·show(AV (AN n.texts gone) no (w1++w2)).length<=1000;have:=BL List.length (XD (v:=w1++w2) hg);rw[AL,AL] at this;rw[this];exact BJ (EA _ _) h.texts
 ·have h0:p∈AV (AN n.texts gone) no (w1++w2):=hp;unfold AV at h0;by_cases c:((AN n.texts gone).any fun p=>decide (p.1=no))=true
  ·rw[AH c] at h0;obtain⟨q,hq,e⟩:=BZ.mp h0;by_cases d:q.1=no
   ·rw[AH d] at e;rw[<-e];exact hl
   ·rw[AG d] at e;rw[<-e];exact h.words q (F3.mp hq).1
  ·rw[AG c] at h0;rcases Bp.mp h0 with z|z
   ·exact h.words p (F3.mp z).1
   ·rw[Bk.mp z];exact hl
def Xm:A0 ["_law_nook","_law_number","_law_other","_law_gone"] ["_law_nook","_law_number","_law_other"] (Ao Sy):=by left
def fB{fTu fLe:Ya}{fdTu fdLe:rA}(F:Ai K "_law_joined" "_law_joined" Sy f fd)(O:Own mg)
 (FTu:Ai K "_law_turned" "_law_turned" NN fTu fdTu)(bTu:Binds K fdTu ["_law_nook","_law_number","_law_name","_law_other"] [])(mTu:mg "_law_turned" =some (.ref fTu))
 (FLe:Ai K "_law_led" "_law_led" Ny fLe fdLe)(bLe:Binds K fdLe ["_law_nook","_law_number"] [])(mLe:mg "_law_led" =some (.ref fLe)):AW P w K mg base Ag 2 f fd ["_law_nook","_law_number","_law_other"] XB:=by
 have r6:AW P w K mg base Ag 1 fTu fdTu ["_law_nook","_law_number","_law_name","_law_other"] SY:=V5 FTu O;have r7:AW P w K mg base Ag 1 fLe fdLe ["_law_nook","_law_number"] UB:=ZV FLe O;refine F.ok Xm ?_ ?_
 ·rintro _ _ _ _ ⟨_,_,_,_,_,_,_,_,rfl,_⟩;rfl
 ·rintro _ A _ s H _ Q E hr ⟨a,no,h4,H0,n,h0,w1,w2,rfl,⟨an,h7,tx,nk⟩,e8,r4,s7,s9,r1,e3,q⟩;have h9:=CZ hr;refine⟨_,(AS (Ax (i:=3) Xm.nd rfl (Aa rfl) (JP (CB h9 (pv 0)) (pv 2) ⟨rfl,rfl,rfl,rfl⟩)) (AS (Fj h9 (CB h9 (pv 0)) (pv 1) (An Ir (DJ h9 (CB h9 (pv 0)) (pv 1) (fun _ _=>rfl)) (JP (CB h9 (pv 0)) (pv 3) ⟨rfl,rfl,rfl,rfl⟩)) rfl) (AS (Bc (Cp r6 hr rfl mTu FTu.kp bTu .nil A3 (AE (pv 0) (AE (pv 3) (AE AZ (AE (pv 1) AI)))))) (AR (Al (Cp r7 hr rfl mLe FLe.kp bLe .nil A3 (AE (pv 0) (AE (pv 1) AI)))))))),?_⟩;have v1:Bf (Fy n.names) (.inr h4)=some (.int h0):=by rw[Em F7,r4];rfl
  refine⟨_,rfl,a,_,rfl,EC nk.ha,an,rfl,.inl ⟨_,.inl nk.hn⟩,_,rfl,_,.inr h4,_,nk.hn,rfl,v1,?_⟩;rw[LV F7];have h5:=nk.putN (AN n.names h4);generalize upd H an (.dK (Fy (AN n.names h4)))=H1 at h5;obtain⟨l1,h8,g1,r3,EJ,r5,s1⟩:=h5.find (show(n.texts.map (·.1)).Nodup from e8.CW) s7;obtain⟨l2,e0,g2,r2,Ly,s2,s0⟩:=h5.find (show(n.texts.map (·.1)).Nodup from e8.CW) s9;have d1:BI H1 h7 (.int no) (some (.ref l1)):=by have:=BI.kq (k:=.inl no) h5.ht;rw[Em FC,g1] at this;exact this
  have v2:Bf (CY tx) (.inl h0)=some (.ref l2):=by rw[Em FC,g2];rfl
  refine⟨_,rfl,a,_,rfl,Gf h5.ha,_,rfl,h7,_,rfl,d1,_,rfl,a,_,rfl,Gf h5.ha,h7,rfl,.inl ⟨_,.inl h5.ht⟩,_,rfl,_,.inl h0,_,h5.ht,rfl,v2,?_⟩;rw[LV FC];have s5:=h5.Pz h0;have keep:∀b xs,H1 b=some (.lst xs)->(upd H1 h7 (.dK (CY (AN tx h0)))) b=some (.lst xs):=fun b xs e=>by rw[AQ (Ca e h5.ht (by intro z;cases z))];exact e
  have e5:=keep _ _ r3;have e4:=keep _ _ r2;have e7:=fun j w wd (e1:h8[j]? =some w)(e2:w1[j]? =some wd)=>keep _ _ (r5 j w wd e1 e2);have h6:=fun j w wd (e1:e0[j]? =some w)(e2:w2[j]? =some wd)=>keep _ _ (s2 j w wd e1 e2);generalize upd H1 h7 (.dK (CY (AN tx h0)))=H2 at s5 e5 e4 e7 h6;rw[Au] at e3;refine⟨l1,l2,_,_,rfl,rfl,e5,e4,by rw[AL,AL,A9];lia,fun l hl=>?_⟩;have s3:AO H2 (upd H2 l (.lst (h8.map V.ref++e0.map V.ref))):=AY hl;have e9:=s5.ext s3;have r0:(CY (AN tx h0)).length<sizeLine:=by
   show((AN tx h0).map _).length<_;have h1:=EA (fun p:Int×Ya×List Ya=>decide (p.1≠h0)) tx;have h2:=e8.texts;have h3:=nk.len;rw[AL,A9];show(tx.filter _).length<_
   lia
  have dp:=Dr.kq (k:=.inl no) (v:=.ref l) e9.ht r0;have e2:putK (CY (AN tx h0)) (.inl no) (.ref l)=CY (AV (AN tx h0) no (l,h8++e0)):=KL (g:=fun p:Ya×List Ya=>V.ref p.1) FC no (l,h8++e0) (AN tx h0);rw[e2] at dp;refine⟨_,rfl,a,_,rfl,Gf e9.ha,_,rfl,h7,_,rfl,dp,?_⟩;have s8:=e9.Nt no (l:=l) (ws:=h8++e0) (Cc:=w1++w2) (by rw[AM,BG]) (by rw[Au,Au,EJ,Ly]) (fun j w wd e1 e2=>?_) (fun w hw=>(Bp.mp hw).elim (s1 w) (s0 w))
  ·have e6:Fits {n with names:=AN n.names h4,texts:=AV (AN n.texts h0) no (w1++w2)}:=e8.join s7 r1 (by rw[Au];exact e3);refine⟨_,rfl,_,rfl,_,rfl,a,h0,"",no,H0,_,rfl,⟨an,h7,_,s8⟩,e6,fun H5 s4=>?_⟩;exact⟨_,rfl,_,rfl,a,no,H0,_,rfl,s4,e6.map,fun H6 s6=>q H6 (let⟨x,y,z,nk⟩:=s4;⟨x,y,z,nk.ext s6⟩)⟩
  ·by_cases hj:j<h8.length
   ·rw[C3 hj] at e1;rw[C3 (by lia)] at e2;exact s3 _ _ (e7 j w wd e1 e2)
   ·rw[Cn (by lia)] at e1;rw[Cn (by lia),<-EJ] at e2;exact s3 _ _ (h6 _ w wd e1 e2)
def dn(hu:X.A.units<rR):Bx X (qz .Eq) (fun x y H Q=>∃a b xs,x=.ref a/\y=.ref b/\AU [] H a xs/\AU [] H b []/\Q (.bl xs.isEmpty) H):=by intro h3 s σ H x y v u Q I rx ry h;obtain⟨a,b,xs,rfl,rfl,ha,hb,q⟩:=h;cases rx;cases ry;obtain⟨h5,r,pl,hz⟩:=I.tuple (Lz ha);obtain⟨h4,r2,h0,h6⟩:=I.tuple (Lz hb);cases r2;refine SeqAt.eq_tupleAt (e:=fun _=>true) pl h0 hu (fun j h1 h2=>absurd h2 (by simp)) ⟨.bl xs.isEmpty,H,I,?_,q⟩;cases r<;>rfl
def Bb(r:Rep H (.str z) v):v=.str z:=by cases r;rfl
def jv{z:Int}(r:Rep H (.int z) v):v=.int z:=by cases r;rfl
def Bv(r:Rep H (.tup ds) v):∃a xs,v=.ref a/\H a=some (.tup xs)/\Ab H ds xs:=by
 cases r with
 |tup h hl rr=>exact⟨_,_,rfl,h,hl,rr⟩
def Gv{x y:Dt}{xs:List V}(r:Ab H [x,y] xs):∃u v,xs=[u,v]/\Rep H x u/\Rep H y v:=by exact Ly (C:=fun xs=>Ab H [x,y] xs->∃u v,xs=[u,v]/\Rep H x u/\Rep H y v) (fun u v r=>⟨u,v,rfl,r.2 0 x u rfl rfl,r.2 1 y v rfl rfl⟩) r.1.symm r
def Eo{x y z:Dt}{xs:List V}(r:Ab H [x,y,z] xs):∃u v w,xs=[u,v,w]/\Rep H x u/\Rep H y v/\Rep H z w:=by exact Ue (C:=fun xs=>Ab H [x,y,z] xs->∃u v w,xs=[u,v,w]/\Rep H x u/\Rep H y v/\Rep H z w) (fun u v w r=>⟨u,v,w,rfl,r.2 0 x u rfl rfl,r.2 1 y v rfl rfl,r.2 2 z w rfl rfl⟩) r.1.symm r
def Px{x y z t:Dt}{xs:List V}(r:Ab H [x,y,z,t] xs):∃u v w q,xs=[u,v,w,q]/\Rep H x u/\Rep H y v/\Rep H z w/\Rep H t q:=by exact US (C:=fun xs=>Ab H [x,y,z,t] xs->∃u v w q,xs=[u,v,w,q]/\Rep H x u/\Rep H y v/\Rep H z w/\Rep H t q) (fun u v w q r=>⟨u,v,w,q,rfl,r.2 0 x u rfl rfl,r.2 1 y v rfl rfl,r.2 2 z w rfl rfl,r.2 3 t q rfl rfl⟩) r.1.symm r
def BU(n:Nk):Am->Str
 |.find ws _=>if ws=[] then "no words" else ""
 |.back _=>""
 |.write nm _=>if DN nm=true then "" else "no name"
 |.rename nm o=>if AF n.names nm=none then "no page" else if DN o=false then "no name" else if AF n.names o=none then "" else "taken"
 |.join nm o=>if AF n.names nm=none then "no page" else if AF n.names o=none then "no page" else if nm=o then "same page" else ""
 |.cut nm p o=>match AF n.names nm with
  |none=>"no page"
  |some no=>if DN o=false then "no name" else if AF n.names o=none then(if p<0 then "no place" else if((AF n.texts no).getD []).length<p then "no place" else "") else "taken"
 |.drop nm=>if AF n.names nm=none then "no page" else ""
 |.text nm=>if AF n.names nm=none then "no page" else ""
def XM:Sp:=fun vs H Q _=>∃(a:Ya)(d:V)(dd:Am)(H0:Hp)(n:Nk),vs=[.ref a,d]/\Ce H0 H a n/\Fits n/\Rep H dd.dt d/\dd.Good/\(∀nm no,AF n.names nm=some no->∃ws,AF n.texts no=some ws)/\∀H',AO H H'->Q (.str (BU n dd)) H'
def EY(h:H an=some (.dK (Fy names)))(z:Str):BI H an (.str z) ((AF names z).map V.int):=by have:=BI.kq (k:=.inr z) h;rw[Em F7] at this;exact this
section
variable{y:Str}{a rest:TS}{t:TT}{D:Ends}
def Be(hx:σ[i]? =some (some (.str x)))(ne:x≠y)(h:rest D σ H):Jm (Hu (Ke (Fw ME (Ew i) (tC (.str y)))) a Kl) rest D σ H:=⟨_,hx,rfl,_,rfl,CJ (fun z=>ne (V.str.inj z)) h⟩
def Jx(hx:σ[i]? =some (some (.str y)))(h:a {D with nx:=rest D} σ H):Jm (Hu (Ke (Fw ME (Ew i) (tC (.str y)))) a Kl) rest D σ H:=⟨_,hx,rfl,_,rfl,Bu rfl h⟩
def Dw(hx:σ[i]? =some (some (.str x)))(ne:x≠y)(h:rest D σ H):Jm (Hu (UZ (Ke (Fw ME (Ew i) (tC (.str y)))) t) a Kl) rest D σ H:=⟨_,hx,rfl,_,rfl,CJ (fun z=>ne (V.str.inj z)) (BF h)⟩
def qd(hx:σ[i]? =some (some (.str y)))(h:rest D σ H):Jm (Hu (UZ (Ke (Fw bM (Ew i) (tC (.str y)))) t) a Kl) rest D σ H:=⟨_,hx,rfl,_,rfl,D7 rfl (BF h)⟩
end
variable{d:Ya}
section
variable{y:Str}{a rest:TS}{t:TT}{D:Ends}
def Ib{vs:List V}(hx:σ[i]? =some (some (.ref d)))(hd:H d=some (.tup (.str x::vs)))(ne:x≠y)(h:rest D σ H):Jm (Hu (Ke (Fw ME (Fw (Lw []) (Ew i) (tC (.int 0))) (tC (.str y)))) a Kl) rest D σ H:=⟨_,hx,d,_,_,.str x,rfl,rfl,AU.of hd,B1 (j:=0) rfl,rfl,_,rfl,CJ (fun z=>ne (V.str.inj z)) h⟩
def Qb{vs:List V}(hx:σ[i]? =some (some (.ref d)))(hd:H d=some (.tup (.str y::vs)))(h:a {D with nx:=rest D} σ H):Jm (Hu (Ke (Fw ME (Fw (Lw []) (Ew i) (tC (.int 0))) (tC (.str y)))) a Kl) rest D σ H:=⟨_,hx,d,_,_,.str y,rfl,rfl,AU.of hd,B1 (j:=0) rfl,rfl,_,rfl,Bu rfl h⟩
end
def SU:A0 ["_law_nook","_law_deed","_law_names","_law_word"] ["_law_nook","_law_deed"] (Ao TH):=by left
def fU{fIs:Ya}{fdIs:rA}(F:Ai K "_law_barred" "_law_barred" TH f fd)(O:Own mg)(FIs:Ai K "_law_is_name" "_law_is_name" NH fIs fdIs)(bIs:Binds K fdIs ["_law_text"] [])(mIs:mg "_law_is_name" =some (.ref fIs)):
 AW P w K mg base Ag 2 f fd ["_law_nook","_law_deed"] XM:=by
 have h7:AW P w K mg base Ag 1 fIs fdIs ["_law_text"] Sa:=V6 FIs;refine F.ok SU ?_ ?_
 ·rintro _ _ _ _ ⟨_,_,_,_,_,rfl,_⟩;rfl
 ·rintro _ A _ s H _ Q E hr ⟨a,dv,dd,H0,n,rfl,⟨an,h6,tx,nk⟩,h9,rd,gd,BE,q⟩;have hu:=hr.TQ;have h2:=CZ hr;refine⟨_,(AS (Ax (i:=2) SU.nd rfl (Aa rfl) (CB h2 (pv 0))) (AS (Ax (i:=3) SU.nd rfl (Aa rfl) (A8 (pv 1))) (AS (A1 (Aw BQ (pv 3) AZ (Ap _))
   (AR (Al (Bw Cw (Bt (AE AZ (AE AZ AI))) (ED My rfl O.int Lk (AE (Hj (dn hu) (A8 (pv 1)) (CA AI) (Ap _)) AI)) (fun _ _=>rfl))))
   BD) (AS (A1 (Aw BQ (pv 3) AZ (Ap _))
   (AR (Al AZ))
   BD) (AS (A1 (PW.pt (FH (Aw Er (pv 3) AZ (Ap _)) (Gm (JZ (Oy h2 (A8 (pv 1)) (pv 2))))))
   (AR (Al AZ))
   BD) (AS (A1 (PW.pt (FH (Aw BQ (pv 3) AZ (Ap _)) (Gm (JZ (Oy h2 (A8 (pv 1)) (pv 2))))))
   (AR (Al AZ))
   BD) (AS (A1 (PW.pt (FH (Aw BQ (pv 3) AZ (Ap _)) (Gm (Gq (D5 (Cp h7 hr rfl mIs FIs.kp bIs .nil A3 (AE (A8 (pv 1)) AI)))))))
   (AR (Al AZ))
   BD) (AS (A1 (Aw pM (pv 3) (Bt (AE AZ (AE AZ AI))) rfl)
   (AS (A1 (Gq (D5 (Cp h7 hr rfl mIs FIs.kp bIs .nil A3 (AE (Bw Nv (pv 1) (EI EH Ac) (fun _ _=>rfl)) AI))))
   (AR (Al AZ))
   BD) (AR (A1 (JZ (TK h2 (Bw Nv (pv 1) (EI EH Ac) (fun _ _=>rfl)) (pv 2)))
   (AR (Al AZ))
   BD)))
   BD) (AS (A1 (PW.pt (FH (Aw BQ (pv 3) AZ (Ap _)) (Gm (Aw BQ (A8 (pv 1)) (A8 (pv 1)) (Ap _)))))
   (AR (Al AZ))
   BD) (AS (A1 (PW.pt (FH (Aw BQ (pv 3) AZ (Ap _)) (Gm (PW.pt (Jh (Aw Jb (A8 (pv 1)) Ac (Ap _)) (JW (Aw T5 (A8 (pv 1)) (BV Fo rfl O.len DH (AE (DJ h2 (CB h2 (pv 0)) (DJ h2 (pv 2) (A8 (pv 1)) (fun _ _=>rfl)) (fun _ _=>rfl)) AI)) (Ap _))))))))
   (AR (Al AZ))
   BD) (AR (Al AZ)))))))))))),?_⟩;refine⟨_,rfl,a,_,rfl,EC nk.ha,?_⟩;have q0:=q H (AO.refl H)
  cases dd with
  |back o=>obtain⟨d,xs,rfl,hd,rs⟩:=Bv rd;obtain⟨u,v,rfl,r1,r2⟩:=Gv rs;cases Bb r1;cases Bb r2;refine⟨_,rfl,d,_,_,.str "back",rfl,rfl,AU.of hd,rfl,?_⟩;refine Be rfl (by left) ?_;exact Jx rfl q0
  |find ws e0=>
   obtain⟨d,xs,rfl,hd,rs⟩:=Bv rd;obtain⟨u,v,x,rfl,r1,r2,r3⟩:=Eo rs;cases Bb r1;obtain⟨t,ys,rfl,ht,ry⟩:=Bv r2;refine⟨_,rfl,d,_,_,.str "find",rfl,rfl,AU.of hd,rfl,?_⟩;refine⟨_,rfl,rfl,_,rfl,Bu rfl ⟨by exact zw,fun l hl=>?_⟩⟩;have s1:AO H (upd H l (.lst [V.str "",V.str "no words"])):=AY hl;refine⟨_,rfl,d,_,_,.ref t,rfl,rfl,AU.of (s1 _ _ hd),rfl,by exact zy,fun e he=>?_⟩;have s2:=AY (o:=.tup []) he;have h4:=ry.1;rw[AL] at h4;refine⟨t,e,ys,rfl,rfl,AU.of (s2 _ _ (s1 _ _ ht)),AU.of AM,.inr ⟨_,rfl,l,_,_,.str (BU n (.find ws e0)),rfl,rfl,AK.of (s2 _ _ AM),?_,q _ (s1.trans s2)⟩⟩
   cases ws with
   |nil=>
    cases ys with
    |nil=>rfl
    |cons y ys=>cases h4
   |cons w ws=>
    cases ys with
    |nil=>cases h4
    |cons y ys=>rfl
  |write nm t=>
   obtain⟨d,xs,rfl,hd,rs⟩:=Bv rd;obtain⟨u,v,x,rfl,r1,r2,r3⟩:=Eo rs;cases Bb r1;cases Bb r2;cases Bb r3;refine⟨_,rfl,d,_,_,.str "write",rfl,rfl,AU.of hd,rfl,?_⟩;refine Be rfl (by left) ?_;refine Be rfl (by left) ?_;refine qd rfl ?_;refine Dw rfl (by left) ?_;refine⟨_,rfl,rfl,_,rfl,Bu rfl ⟨_,rfl,d,_,_,.str nm,rfl,rfl,AU.of hd,rfl,nm,rfl,by have:=gd.1;lia,fun H2 s2=>⟨_,rfl,?_⟩⟩⟩;have q2:=q H2 s2
   cases hn:DN nm with
   |false=>
    have eb:BU n (.write nm t)="no name" :=by show(if DN nm=true then _ else _)=_;rw[hn];rfl
    rw[eb] at q2;exact Bi q2
   |true=>
    have eb:BU n (.write nm t)="" :=by show(if DN nm=true then _ else _)=_;rw[hn];rfl
    refine BF ?_;refine⟨_,rfl,by exact zw,fun l hl=>⟨l,_,rfl,.inl (AK.of AM),rfl,rfl,false,BL V.bl (by left),BF ?_⟩⟩;refine Dw rfl (by left) ?_;refine Dw rfl (by left) ?_;have q3:=q _ (s2.trans (AY (o:=.lst [V.str "rename",V.str "cut"]) hl));rw[eb] at q3;exact q3
  |drop nm=>
   obtain⟨d,xs,rfl,hd,rs⟩:=Bv rd;obtain⟨u,v,rfl,r1,r2⟩:=Gv rs;cases Bb r1;cases Bb r2;refine⟨_,rfl,d,_,_,.str "drop",rfl,rfl,AU.of hd,rfl,?_⟩;refine Be rfl (by left) ?_;refine Be rfl (by left) ?_;refine⟨_,rfl,rfl,_,rfl,Fp (by intro z;exact absurd (V.str.inj z) (by left)) ⟨_,rfl,d,_,_,.str nm,rfl,rfl,AU.of hd,rfl,_,rfl,an,_,rfl,EY nk.hn nm,_,rfl,?_⟩⟩
   cases hg:AF n.names nm with
   |none=>
    have eb:BU n (.drop nm)="no page" :=by unfold BU;simp only[hg,CO]
    rw[eb] at q0;exact Bi q0
   |some no=>
   refine BF ?_;refine Dw rfl (by left) ?_;refine Dw rfl (by left) ?_;refine⟨_,rfl,by exact zw,fun l hl=>⟨l,_,rfl,.inl (AK.of AM),rfl,rfl,false,BL V.bl (by left),?_⟩⟩;have s1:AO H (upd H l (.lst [V.str "rename",V.str "cut"])):=AY hl;generalize upd H l (.lst [V.str "rename",V.str "cut"])=H1 at s1⊢;have q1:=q H1 s1;refine BF ?_;refine Dw rfl (by left) ?_;refine Dw rfl (by left) ?_;have eb:BU n (.drop nm)="" :=by unfold BU;simp only[hg,Bs,reduceCtorEq]
   rw[eb] at q1;exact q1
  |text nm=>
   obtain⟨d,xs,rfl,hd,rs⟩:=Bv rd;obtain⟨u,v,rfl,r1,r2⟩:=Gv rs;cases Bb r1;cases Bb r2;refine⟨_,rfl,d,_,_,.str "text",rfl,rfl,AU.of hd,rfl,?_⟩;refine Be rfl (by left) ?_;refine Be rfl (by left) ?_;refine⟨_,rfl,rfl,_,rfl,Fp (by intro z;exact absurd (V.str.inj z) (by left)) ⟨_,rfl,d,_,_,.str nm,rfl,rfl,AU.of hd,rfl,_,rfl,an,_,rfl,EY nk.hn nm,_,rfl,?_⟩⟩
   cases hg:AF n.names nm with
   |none=>
    have eb:BU n (.text nm)="no page" :=by unfold BU;simp only[hg,CO]
    rw[eb] at q0;exact Bi q0
   |some no=>
   refine BF ?_;refine Dw rfl (by left) ?_;refine Dw rfl (by left) ?_;refine⟨_,rfl,by exact zw,fun l hl=>⟨l,_,rfl,.inl (AK.of AM),rfl,rfl,false,BL V.bl (by left),?_⟩⟩;have s1:AO H (upd H l (.lst [V.str "rename",V.str "cut"])):=AY hl;generalize upd H l (.lst [V.str "rename",V.str "cut"])=H1 at s1⊢;have q1:=q H1 s1;refine BF ?_;refine Dw rfl (by left) ?_;refine Dw rfl (by left) ?_;have eb:BU n (.text nm)="" :=by unfold BU;simp only[hg,Bs,reduceCtorEq]
   rw[eb] at q1;exact q1
  |join nm o=>
   obtain⟨d,xs,rfl,hd,rs⟩:=Bv rd;obtain⟨u,v,x,rfl,r1,r2,r3⟩:=Eo rs;cases Bb r1;cases Bb r2;cases Bb r3;refine⟨_,rfl,d,_,_,.str "join",rfl,rfl,AU.of hd,rfl,?_⟩;refine Be rfl (by left) ?_;refine Be rfl (by left) ?_;refine⟨_,rfl,rfl,_,rfl,Fp (by intro z;exact absurd (V.str.inj z) (by left)) ⟨_,rfl,d,_,_,.str nm,rfl,rfl,AU.of hd,rfl,_,rfl,an,_,rfl,EY nk.hn nm,_,rfl,?_⟩⟩
   cases hg:AF n.names nm with
   |none=>
    have eb:BU n (.join nm o)="no page" :=by unfold BU;simp only[hg,CO]
    rw[eb] at q0;exact Bi q0
   |some no=>
   refine BF ?_;refine⟨_,rfl,rfl,_,rfl,Bu rfl ⟨_,rfl,d,_,_,.str o,rfl,rfl,AU.of hd,rfl,_,rfl,an,_,rfl,EY nk.hn o,_,rfl,?_⟩⟩
   cases ho:AF n.names o with
   |none=>
    have eb:BU n (.join nm o)="no page" :=by unfold BU;simp only[hg,ho,CO,Bs,reduceCtorEq]
    rw[eb] at q0;exact Bi q0
   |some h5=>
   refine BF ?_;refine Dw rfl (by left) ?_;refine⟨_,rfl,by exact zw,fun l hl=>⟨l,_,rfl,.inl (AK.of AM),rfl,rfl,false,BL V.bl (by left),?_⟩⟩;have s1:AO H (upd H l (.lst [V.str "rename",V.str "cut"])):=AY hl;generalize upd H l (.lst [V.str "rename",V.str "cut"])=H1 at s1⊢;have q1:=q H1 s1;refine BF ?_;refine⟨_,rfl,rfl,_,rfl,Bu rfl ⟨_,rfl,d,_,_,.str nm,rfl,rfl,AU.of (s1 _ _ hd),rfl,_,rfl,d,_,_,.str o,rfl,rfl,AU.of (s1 _ _ hd),rfl,rfl,_,rfl,?_⟩⟩;by_cases he:nm=o
   ·have eb:BU n (.join nm o)="same page" :=by unfold BU;simp only[hg,ho,Bs,reduceCtorEq];rw[AH he]
    rw[eb] at q1;exact Bu (by rw[he]) q1
   ·refine CJ (fun z=>he (V.str.inj z)) ?_;refine Dw rfl (by left) ?_;have eb:BU n (.join nm o)="" :=by unfold BU;simp only[hg,ho,Bs,reduceCtorEq];rw[AG he]
    rw[eb] at q1;exact q1
  |rename nm o=>
   obtain⟨d,xs,rfl,hd,rs⟩:=Bv rd;obtain⟨u,v,x,rfl,r1,r2,r3⟩:=Eo rs;cases Bb r1;cases Bb r2;cases Bb r3;refine⟨_,rfl,d,_,_,.str "rename",rfl,rfl,AU.of hd,rfl,?_⟩;refine Be rfl (by left) ?_;refine Be rfl (by left) ?_;refine⟨_,rfl,rfl,_,rfl,Fp (by intro z;exact absurd (V.str.inj z) (by left)) ⟨_,rfl,d,_,_,.str nm,rfl,rfl,AU.of hd,rfl,_,rfl,an,_,rfl,EY nk.hn nm,_,rfl,?_⟩⟩
   cases hg:AF n.names nm with
   |none=>
    have eb:BU n (.rename nm o)="no page" :=by unfold BU;simp only[hg,CO]
    rw[eb] at q0;exact Bi q0
   |some no=>
   refine BF ?_;refine Dw rfl (by left) ?_;refine Dw rfl (by left) ?_;refine⟨_,rfl,by exact zw,fun l hl=>⟨l,_,rfl,.inl (AK.of AM),rfl,rfl,true,BL V.bl (by left),?_⟩⟩;have s1:AO H (upd H l (.lst [V.str "rename",V.str "cut"])):=AY hl;generalize upd H l (.lst [V.str "rename",V.str "cut"])=H1 at s1⊢;have q1:=q H1 s1;refine Bi ⟨_,rfl,_,rfl,d,_,_,.str o,rfl,rfl,AU.of (s1 _ _ hd),rfl,o,rfl,by have:=gd.2;lia,fun H2 s2=>⟨_,rfl,?_⟩⟩;have h0:=s1.trans s2;have q2:=q H2 h0;have h1:=nk.ext h0
   cases hn:DN o with
   |false=>
    have eb:BU n (.rename nm o)="no name" :=by unfold BU;simp only[hg,hn,CO,Bs,reduceCtorEq]
    rw[eb] at q2;exact Bi q2
   |true=>
   refine BF ⟨_,rfl,_,rfl,d,_,_,.str o,rfl,rfl,AU.of (h0 _ _ hd),rfl,_,rfl,an,_,rfl,EY h1.hn o,_,rfl,?_⟩
   cases ho:AF n.names o with
   |some h5=>
    have eb:BU n (.rename nm o)="taken" :=by unfold BU;simp only[hg,hn,ho,Bs,reduceCtorEq,MX]
    rw[eb] at q2;exact Bi q2
   |none=>
   refine BF ?_;refine Dw rfl (by left) ?_;refine Dw rfl (by left) ?_;have eb:BU n (.rename nm o)="" :=by unfold BU;simp only[hg,hn,ho,CO,Bs,reduceCtorEq,MX]
   rw[eb] at q2;exact q2
  |cut nm p o=>
   obtain⟨d,xs,rfl,hd,rs⟩:=Bv rd;obtain⟨u,v,x,y,rfl,r1,r2,r3,r4⟩:=Px rs;cases Bb r1;cases Bb r2;cases jv r3;cases Bb r4;refine⟨_,rfl,d,_,_,.str "cut",rfl,rfl,AU.of hd,rfl,?_⟩;refine Be rfl (by left) ?_;refine Be rfl (by left) ?_;refine⟨_,rfl,rfl,_,rfl,Fp (by intro z;exact absurd (V.str.inj z) (by left)) ⟨_,rfl,d,_,_,.str nm,rfl,rfl,AU.of hd,rfl,_,rfl,an,_,rfl,EY nk.hn nm,_,rfl,?_⟩⟩
   cases hg:AF n.names nm with
   |none=>
    have eb:BU n (.cut nm p o)="no page" :=by unfold BU;simp only[hg,CO]
    rw[eb] at q0;exact Bi q0
   |some no=>
   refine BF ?_;refine Dw rfl (by left) ?_;refine Dw rfl (by left) ?_;refine⟨_,rfl,by exact zw,fun l hl=>⟨l,_,rfl,.inl (AK.of AM),rfl,rfl,true,BL V.bl (by left),?_⟩⟩;have s1:AO H (upd H l (.lst [V.str "rename",V.str "cut"])):=AY hl;generalize upd H l (.lst [V.str "rename",V.str "cut"])=H1 at s1⊢;have q1:=q H1 s1;refine Bi ⟨_,rfl,_,rfl,d,_,_,.str o,rfl,rfl,AU.of (s1 _ _ hd),rfl,o,rfl,by have:=gd.2;lia,fun H2 s2=>⟨_,rfl,?_⟩⟩;have h0:=s1.trans s2;have q2:=q H2 h0;have h1:=nk.ext h0
   cases hn:DN o with
   |false=>
    have eb:BU n (.cut nm p o)="no name" :=by unfold BU;simp only[hg,hn,CO,Bs,reduceCtorEq]
    rw[eb] at q2;exact Bi q2
   |true=>
   refine BF ⟨_,rfl,_,rfl,d,_,_,.str o,rfl,rfl,AU.of (h0 _ _ hd),rfl,_,rfl,an,_,rfl,EY h1.hn o,_,rfl,?_⟩
   cases ho:AF n.names o with
   |some h5=>
    have eb:BU n (.cut nm p o)="taken" :=by unfold BU;simp only[hg,hn,ho,Bs,reduceCtorEq,MX]
    rw[eb] at q2;exact Bi q2
   |none=>
   refine BF ?_;refine Dw rfl (by left) ?_;obtain⟨ws,h3⟩:=BE nm no hg;obtain⟨l1,e1,g1,h8,EJ,_,_⟩:=h1.find h9.CW h3;have d1:BI H2 h6 (.int no) (some (.ref l1)):=by have:=BI.kq (k:=.inl no) h1.ht;rw[Em FC,g1] at this;exact this
   have d2:BI H2 an (.str nm) (some (.int no)):=by have:=EY h1.hn nm;rw[hg] at this;exact this
   refine⟨_,rfl,rfl,_,rfl,Bu rfl ⟨_,rfl,d,_,_,.int p,rfl,rfl,AU.of (h0 _ _ hd),rfl,_,_,rfl,rfl,_,rfl,?_⟩⟩;by_cases hp:p<0
   ·have eb:BU n (.cut nm p o)="no place" :=by unfold BU;simp only[hg,hn,ho,CO,Bs,reduceCtorEq,MX];rw[AH hp]
    rw[eb] at q2;exact Bu hp (Bi q2)
   ·refine CJ hp ⟨_,rfl,d,_,_,.int p,rfl,rfl,AU.of (h0 _ _ hd),rfl,_,rfl,a,_,rfl,Gf h1.ha,_,rfl,_,rfl,d,_,_,.str nm,rfl,rfl,AU.of (h0 _ _ hd),rfl,an,_,rfl,d2,h6,_,rfl,d1,l1,_,rfl,.inl (AK.of h8),_,_,rfl,rfl,_,rfl,?_⟩;rw[AL,EJ];by_cases hq:(ws.length:Int)<p
    ·have eb:BU n (.cut nm p o)="no place" :=by unfold BU;simp only[hg,hn,ho,h3,CO,Bs,reduceCtorEq,MX,Option.getD_some];rw[AG hp,AH hq]
     rw[eb] at q2;exact Bu hq q2
    ·have eb:BU n (.cut nm p o)="" :=by unfold BU;simp only[hg,hn,ho,h3,CO,Bs,reduceCtorEq,MX,Option.getD_some];rw[AG hp,AG hq]
     rw[eb] at q2;exact CJ hq q2
noncomputable def Cs(C:Ya)(dd:Option Ya)(vs:Array AA):Obj:={cls:=.ref C,dict:=dd,data:=.fields vs}
def Hd(h:rE)(e:Ya)(vs:Array AA):Prop:=
 vs[1]? =some .none\/∃T oT ts,vs[1]? =some (.ref T)/\T≠e/\h.get? T=some oT/\oT.data=.fields ts/\ts[3]? =some .none
structure Lv(fs:List Ya)(e C:Ya)(dd:Option Ya)(vs:Array AA)(h h':rE):Prop where
 keep:∀b o,h.get? b=some o->b∉fs->b≠e->(∀T,vs[1]? =some (.ref T)->b≠T)->h'.get? b=some o
 slot:∀b o,h.get? b=some o->b∈fs->∃sl,h'.get? b=some {o with slots:=sl}
 size:h.objs.size<=h'.objs.size
 here:∃T oT ts,h'.get? e=some (Cs C dd (vs.setIfInBounds 1 (.ref T)))/\h.objs.size<=T/\h'.get? T=some oT/\oT.data=.fields ts/\ts[3]? =some .none
def V8{l:List Env}(hl:h.FunFrames base l)(hb:h.get? b=some o)(hd:o.data=.fields vs):b∉Ct l:=fun hm=>by obtain⟨_,u,hu,hn⟩:=hl.mem hm;rw[hb] at hu;cases hu;exact hn vs hd
variable{dd:Option Ya}
def X9{e:Ya}{head:AA}{hn:Bool}{Q:Unit->Yf->Prop}
 (hfr:A.frames=some (env::outer))(hl:s.heap.FunFrames base (env::outer))(hf:env.frame=some L)(he:s.heap.get? e=some (Cs C dd vs))(hz:1<vs.size)
 (h:∀h',(∀b o,s.heap.get? b=some o->b∉Ct (env::outer)->b≠e->h'.get? b=some o)->(∀b o,s.heap.get? b=some o->b∈Ct (env::outer)->∃sl,h'.get? b=some {o with slots:=sl})->
  s.heap.objs.size<=h'.objs.size->(∃T oT ts,h'.get? e=some (Cs C dd (vs.setIfInBounds 1 (.ref T)))/\s.heap.objs.size<=T/\h'.get? T=some oT/\oT.data=.fields ts/\ts[3]? =some .none)->Q () {s with heap:=h'}):
 cm M A (do
  let a<-frameOf env;let pl<-entryPlaceOf L hn;let b<-EntryCells.newEntry head a .none (rm L) .none pl
  setField (.ref e) 1 b) (fun _ s'=>cm M A (tZ (.ref e) none) Q E s') E s:=by
 have nf:e∉Ct (env::outer):=V8 hl he rfl;refine AJ (wpAny_frameOf_fun hfr hl hf fun h1 q1=>?_);obtain⟨z1,k1,h4⟩:=q1;have e1:h1.get? e=some (Cs C dd vs):=(k1 e nf).trans he;refine AJ (wpAny_entryPlaceOf fun pl h5=>?_);unfold EntryCells.newEntry newFields;refine AJ (Ih ?_ (h5.sizeOk5 _ _ _ _ _));generalize h3:(([head,Value.ref L,Value.none,rm L,Value.none]++(if pl.isEmpty then List.replicate 6 Value.none else pl)).toArray)=h0;have z3:3<h0.size:=by rw[<-h3,Cg,Au];simp only[CD,HZ];lia
 have Tn:h1.objs.size≠e:=E8 (A7 e1);have e2:=BB {cls:=.type "traceback",dict:=none,data:=.fields h0} e1;refine Od e2 rfl hz ?_;have e3:=JF (Obj.mapFields (·.setIfInBounds 1 (Value.ref h1.objs.size))) e2 rfl;have t3:((h1.push {cls:=.type "traceback",dict:=none,data:=.fields h0}).update e (Obj.mapFields (·.setIfInBounds 1 (Value.ref h1.objs.size)))).get? h1.objs.size=some {cls:=.type "traceback",dict:=none,data:=.fields h0}:=
  (ES _ _ (DK Tn)).trans (CC h1 rfl);unfold tZ;refine AJ (KC e3 rfl (x:=.ref h1.objs.size) (by simp[hz]) ?_);rw[AH (show(Value.ref h1.objs.size !=Value.none)=true from by simp)];refine Od t3 rfl z3 (h _ (fun b o hb nb ne=>?_) (fun b o hb mb=>?_) ?_ ⟨h1.objs.size,_,_,?_,Nat.le_of_eq z1.symm,JF _ t3 rfl,rfl,by simp[z3]⟩)
 ·have h2:=(k1 b nb).trans hb;rw[ES _ _ (E8 (A7 h2)),ES _ _ (DK ne)];exact BB _ h2
 ·obtain⟨sl,h2⟩:=h4 b o hb;refine⟨sl,?_⟩;rw[ES _ _ (E8 (A7 h2)),ES _ _ (show e≠b from fun z=>nf (by rw[z];exact mb))];exact BB _ h2
 ·rw[OJ,OJ,Ha,z1];exact E9 _
 ·rw[ES _ _ Tn];exact e3
def Yt{e:Ya}{Q:Unit->Yf->Prop}
 (hfr:A.frames=some (env::outer))(hl:s.heap.FunFrames base (env::outer))(hf:env.frame=some L)(he:s.heap.get? e=some (Cs C dd vs))(hz:1<vs.size)(hh:Hd s.heap e vs)
 (h:∀h',Lv (Ct (env::outer)) e C dd vs s.heap h'->Q () {s with heap:=h'}):
 cm M A (noteFrame (.ref e) env) (fun _ s'=>cm M A (tZ (.ref e) none) Q E s') E s:=by
 unfold noteFrame;simp only[hf];rcases hh with h1|⟨T,oT,ts,h1,nT,hT,dT,h3⟩
 ·refine AJ (KC he rfl h1 ?_);rw[AG (by decide)];exact X9 hfr hl hf he hz fun h' a b c d=>h h' ⟨fun x o q n1 n2 _=>a x o q n1 n2,b,c,d⟩
 ·refine AJ (KC he rfl h1 ?_);rw[AH (show(Value.ref T !=Value.none)=true from by simp)];refine AJ (KC hT dT h3 ?_);rw[AG (show¬((Value.none==rm L)=true) from by simp[rm])];refine AJ (Od hT dT (Array.getElem?_eq_some_iff.mp h3).1 ?_);have ot:∀b,b≠T->(s.heap.update T (Obj.mapFields (·.setIfInBounds 3 Value.none))).get? b=s.heap.get? b:=fun b hb=>ES _ _ (DK hb);have h0:T∉Ct (env::outer):=V8 hl hT dT;refine X9 (s:={s with heap:=s.heap.update T (Obj.mapFields (·.setIfInBounds 3 Value.none))}) hfr
   (hl.of_keeps fun b o hb h2=>⟨o,(ot b fun z=>h2 ts (by subst z;rw[hT] at hb;cases hb;exact dT)).trans hb,rfl⟩) hf ((ot e (DK nT)).trans he) hz fun h' a b c d=>h h' ⟨fun x o q n1 n2 n3=>a x o ((ot x (n3 T h1)).trans q) n1 n2,fun x o q m=>b x o ((ot x fun z=>h0 (z▸m)).trans q) m,?_,?_⟩
  ·have:=c;rw[OJ] at this;exact this
  ·have:=d;rw[OJ] at this;exact this
def kZ{e:Ya}{T:Ya}{oT:Obj}{ts:Array AA}{Q:Unit->Yf->Prop}
 (he:s.heap.get? e=some (Cs C dd vs))(h1:vs[1]? =some (.ref T))(hT:s.heap.get? T=some oT)(dT:oT.data=.fields ts)(h3:ts[3]? =some .none)
 (h:∀h',(∀b,b≠T->h'.get? b=s.heap.get? b)->(∃o,h'.get? T=some o)->h'.objs.size=s.heap.objs.size->Q () {s with heap:=h'}):cm M A (tZ (.ref e) none) Q E s:=by
 unfold tZ;refine AJ (KC he rfl h1 ?_);rw[AH (show(Value.ref T !=Value.none)=true from by simp)];exact Od hT dT (Array.getElem?_eq_some_iff.mp h3).1 (h _ (fun b hb=>ES _ _ (DK hb)) ⟨_,JF _ hT (Obj.isFreed_of_fields (Obj.data_mapFields dT _))⟩ (OJ ..))
def Gx(h:rE)(C:Ya)(bm:List AA)(N:Ya):Prop:=
 ∃nm q bs h0 sn sub ab h1 dd k0 k1 k2 k3 k5,h.get? C=some (sZ nm q C N bs bm h0 sn sub ab h1 dd k0 k1 k2 k3 k5 "Exception.__new__")
variable{bm:List AA}
def Gx.keeps{N:Ya}(x:Gx h C bm N)(k:∀b o,h.get? b=some o->h'.get? b=some o):Gx h' C bm N:=by obtain⟨a1,a2,a3,a4,a5,a6,a7,a8,a9,b1,b2,b3,b4,b5,hC⟩:=x;exact⟨a1,a2,a3,a4,a5,a6,a7,a8,a9,b1,b2,b3,b4,b5,k _ _ hC⟩
structure Iu(bm:List AA):Prop where
 exc:bm.contains (.type "Exception")=true
 base:bm.contains (.type "BaseException")=true
 Jq:bm.contains (.type "AttributeError")=false
 ba:bm.contains (.type "NameError")=false
section
variable{g:Array sj}{d:Drawn}{t:Nat}{N:Ya}{rest:List AA}
def IP{v:AA}{b:Bool}(e:bm.contains v=b)(hv:(v==Value.ref C)=false):(Value.ref C::bm).contains v=b:=by rw[Q3,hv,Rb];exact e
def ir(xc:Gx h C bm N)(ln:Iu bm){Q:Unit->Yf->Prop}(hq:Q () ⟨h,g,d,t,os⟩):cm M A (checkBuiltinCall "Exception.__new__" ⟨.ref C::rest,[]⟩) Q E ⟨h,g,d,t,os⟩:=by
 obtain⟨a1,a2,a3,a4,a5,a6,a7,a8,a9,b1,b2,b3,b4,b5,h0⟩:=xc;have cE:(Value.ref C::bm).contains (.type "Exception")=true:=IP ln.exc rfl;have h1:=JD.noStar;simp only[checkBuiltinCall,JD.newKind,JD.newSplit,JD.newRow];repeat (first|refine JH h0 ?_|(refine MS h0 ?_;rw[cE])|refine wpAny_staticBase_exc h0 ?_|refine wpAny_madeBy_exc h0 ?_|simp only[EW,CQ,Bs]|wp_step)
 exact hq
abbrev Jj(h:rE)(C:Ya)(rest:List AA):rE:=(h.push {cls:=.type "tuple",data:=.seq rest.toArray}).push (Cs C none #[.ref h.objs.size,.none,.none,.none,.bool false,.none])
def oe(xc:Gx h C bm N)(ln:Iu bm)(hq:R (.ok (.ret (.ref (h.objs.size+1)))) ⟨Jj h C rest,g,d,t,os⟩)(hrest:rest.length<=sizeLine):
 rq (ax prog w) A (.builtin "Exception.__new__" ⟨.ref C::rest,[]⟩) R ⟨h,g,d,t,os⟩:=by
 obtain⟨a1,a2,a3,a4,a5,a6,a7,a8,a9,b1,b2,b3,b4,b5,h0⟩:=xc;have h1:=JD.ends;have cE:(Value.ref C::bm).contains (.type "Exception")=true:=IP ln.exc rfl;have cA:(Value.ref C::bm).contains (.type "AttributeError")=false:=IP ln.Jq rfl;have cN:(Value.ref C::bm).contains (.type "NameError")=false:=IP ln.ba rfl;refine codeAny_builtinAt JD.entry ?_;unfold Builtin.«BaseException.__new__»;refine PySem.wpAt_bind ?_;show PySem.wpAt _ _ _ (stack>>=_) _ _ _;refine PySem.wpAt_bind (PySem.wpAt_stack fun p h2=>uf ?_)
 wp_walk
 refine uf ?_;rw[JD.owner];repeat (first|with_reducible refine wpAny_madeHere_exc JD.canon h0 ?_|with_reducible refine JH h0 ?_|(with_reducible refine MS h0 ?_;first|rw[cE]|rw[cA]|rw[cN])|wp_step)
 show R _ _;rw[Ha];exact hq
end
variable{fI:Ya}
section
variable{g:Array sj}{d:Drawn}{t:Nat}{N:Ya}{rest:List AA}
def mY(X:K.In h)(xc:Gx h C bm N)(ln:Iu bm){oI:Obj}(hi:rJ K (.ref C) "__init__" =some (some (.ref fI)))(hfI:h.get? fI=some oI)(hfc:oI.cls=.type "function")
 (hq:cm (ax prog w) (A.under (.builtin "type.__call__" ⟨.ref C::rest,[]⟩)) (call (.ref fI) (.ref (h.objs.size+1)::rest)) (fun r s'=>r=.none/\Q (.ref (h.objs.size+1)) s') E ⟨Jj h C rest,g,d,t,os⟩)(hrest:rest.length<=sizeLine):
 cm (ax prog w) A (call (.ref C) rest) Q E ⟨h,g,d,t,os⟩:=by
 have kk:∀b o,h.get? b=some o->(Jj h C rest).get? b=some o:=fun b o e=>BB _ (BB _ e);have h4:=xc.keeps kk;have h2:(Jj h C rest).get? (h.objs.size+1)=some (Cs C none #[.ref h.objs.size,.none,.none,.none,.bool false,.none]):=by have z:=CC (h.push {cls:=.type "tuple",data:=.seq rest.toArray}) (o:=Cs C none #[.ref h.objs.size,.none,.none,.none,.bool false,.none]) rfl;rw[Ha] at z;exact z
 have h5:=xc;obtain⟨a1,a2,a3,a4,a5,a6,a7,a8,a9,b1,b2,b3,b4,b5,h1⟩:=h5;have f1:=tc_lookup;have f2:=tc_bind (.ref C);have tT:(⟨h,g,d,t,os⟩:Yf).TypeIs (.ref C) "type" :=⟨_,h1,rfl⟩;refine Mr (uC ?_);show cm _ _ (callAny (.ref C) _) _ _ _;repeat (any_goals (first|assumption|with_reducible refine JH h1 ?_|wp_step))
 refine⟨rfl,?_⟩;refine codeAny_call_builtin_at (OS _ (by left)) entry_typeCall (wpAny_check_type_call_sub h1 ?_);repeat (first|with_reducible refine JH h1 ?_|with_reducible refine wpAny_madeBy_exc h1 ?_|wp_step)
 refine codeAny_call_builtin_code (OS _ JD.quiet) (ir (rest:=rest) xc ln ?_);refine oe (rest:=rest) xc ln ?_ hrest;show cm _ _ _ _ _ _;obtain⟨c1,c2,c3,c4,c5,c6,c7,c8,c9,d1,d2,d3,d4,d5,h3⟩:=h4;have cC:(Value.ref C::bm).contains (.ref C)=true:=by simp
 have h6:=kk _ _ hfI;have h0:(Jj h C rest).get? (h.objs.size+1)=some {cls:=.ref C,dict:=none,data:=.fields #[.ref h.objs.size,.none,.none,.none,.bool false,.none]}:=h2;unfold uK;repeat (first|(with_reducible refine JH h0 ?_)|(with_reducible refine MS h3 ?_;rw[cC])|wp_step)
 show cm _ _ (typeLookup (.ref C) _) _ _ _;refine(OL (X.keeps kk) hi).at ?_;refine Gb (AJ ?_);unfold bindSpecial;refine AJ (tR (T:="function") ⟨_,h6,hfc⟩ ?_);rw[AH (by decide)];refine Ae (AJ (DA hq (fun r s' hr=>?_) fun _ _ x=>x));obtain⟨rfl,hQ⟩:=hr
 wp_walk
 exact hQ
def jV{x:Sem AA}{Q:Flow->Yf->Prop}(hh:A.handled=none)(ln:Iu bm)
 (hx:cm M A x (fun v s1=>∃e N t0 dd,v=.ref e/\Gx s1.heap C bm N/\s1.heap.get? e=some (Cs C dd #[.ref t0,.none,.none,.none,.bool false,.none])/\E (.ref e) s1) E s):
 cm M A (raiseStmt env (some x) none) Q E s:=by
 have cB:(Value.ref C::bm).contains (.type "BaseException")=true:=IP ln.base rfl;unfold raiseStmt;refine AJ (DA hx (fun v s1 h1=>?_) fun _ _ z=>z);obtain⟨e,N,t0,dd,rfl,xc,he,hE⟩:=h1;obtain⟨a1,a2,a3,a4,a5,a6,a7,a8,a9,b1,b2,b3,b4,b5,cAt⟩:=xc;obtain⟨hp,g,d,tk,os⟩:=s1;unfold Cs at he;repeat (first|with_reducible refine JH he ?_|with_reducible refine JH cAt ?_|(with_reducible refine MS cAt ?_;rw[cB])|wp_step)
 exact wpAny_raiseNew_none hh hE
end
section
open PySem.Builtin PySem.Builtin.ObjectAttr
section
variable{g:Array sj}{d:Drawn}{t:Nat}{N e:Ya}{v:AA}
structure Dl(K:uT)(C:Ya)(name:Str):Prop where
 dict:sW K C=true
 no:rJ K (.ref C) name=some none
 sa:rJ K (.ref C) "__setattr__" =some (some (.builtin "object.__setattr__"))
 ga:rJ K (.ref C) "__getattribute__" =some (some (.builtin "BaseException.__getattribute__"))
 hook:rJ K (.ref C) "__getattr__" =some none
 mro:∃cd l,clsIn K C=some cd/\cd.mro=l++[.type "Exception",.type "BaseException",.type "object"]/\∀c∈l,∃a,c=Value.ref a
def Vk(self:AA)(what:Str)(r:List AA):∀l:List AA,(∀c∈l,∃a,c=Value.ref a)->refuseLoop self what (l++r)=refuseLoop self what r
 |[],_=>rfl
 |c::l,hc=>by obtain⟨a,rfl⟩:=hc c (.head _);rw[OY,refuseLoop_ref];exact Vk self what r l fun c' h'=>hc c' (.tail _ h')
def XW{x:AA}{r:List AA}{b:Bool}(hx:∀a,(x==Value.ref a)=false)(e:r.contains x=b):∀l:List AA,(∀c∈l,∃a,c=Value.ref a)->(l++r).contains x=b
 |[],_=>e
 |c::l,hc=>by obtain⟨a,rfl⟩:=hc c (.head _);rw[OY,Q3,hx a,Rb];exact XW hx e l fun c' h'=>hc c' (.tail _ h')
def oS(he:h.get? e=some (Cs C none vs)):InstAt h e (Cs C none vs) C none:=⟨he,rfl,rfl,Cy⟩
def oh{od:Obj}(he:h.get? e=some (Cs C (some D) vs))(hd:h.get? D=some od):InstAt h e (Cs C (some D) vs) C (some od):=⟨he,rfl,rfl,hd⟩
def Zb(X:K.In h)(xa:Dl K C name){b:Bool}(e:[Value.type "Exception",.type "BaseException",.type "object"].contains (.type T)=b):mroIn K C (.type T)=some b:=by obtain⟨cd,l,hc,hm,hl⟩:=xa.mro;unfold mroIn;rw[hc,Mb,hm];rw[AG (by cases l<;>simp),XW (fun _=>rfl) e l hl]
def om(X:K.In h)(xa:Dl K C name)(he:h.get? e=some (Cs C none vs)){Q:Unit->Yf->Prop}
 (hq:∀h' tk,h'.get? e=some (Cs C (some h.objs.size) vs)->h'.Ns1 h.objs.size (fun y=>if y=name then some v else none)->(∀b o,b≠e->h.get? b=some o->h'.get? b=some o)->Q () ⟨h',g,d,tk,os⟩):
 cm (ax prog w) A (setAttr (.ref e) name v) Q E ⟨h,g,d,t,os⟩:=by
 have SF:=PySem.F.store_object;have I:InstAt h e (Cs C none vs) C none:=oS he;have T0:uV (ax prog w) h (typeOf (.ref e)) (.ref C):=I.type;obtain⟨cd,l,hc,hm,hl⟩:=xa.mro;obtain⟨h7,h6,h0⟩:=any_some xa.dict;obtain rfl:cd=h7:=Af (hc.symm.trans h6);have h1:uV (ax prog w) h (mroOf (.ref C)) cd.mro:=(VW X hc).andThen .now;have sub:uV (ax prog w) h (uK (.ref e) (.type "object")) true:=T0.andThen (looks_mroIn X (Zb X xa rfl));refine set_plain X I xa.sa ?_;refine VQ SF.slot.plain SF.entry ?_;refine @check_slot (ax prog w) _ _ ⟨h,g,d,t+1,os⟩ "object.__setattr__" "object" "__setattr__" (.ref e) [.str name t,v] [] _ SF.kind SF.split sub (SF.args (.ref e) (.str name t) v) ?_;rw[osa_eq,refuse_eq];refine AJ (AJ (T0.at (AJ (h1.at ?_))));rw[hm,Vk _ _ _ l hl,PySem.F.store_Exception.passes];refine Ae (AJ (T0.at (AJ ((OL X xa.no).at (AJ (Ae ?_))))));show cm _ _ (storeInOwnDict (.ref e) (.ref C) _ name v _) _ _ _;have ne:e≠h.objs.size:=BN (A7 he);unfold storeInOwnDict;refine AJ (Ae ?_);rw[AG (show¬((Value.ref C==Value.type "module")=true) from Cd)];refine AJ (AJ (wpAny_loadPart he ?_));refine AJ ((VW X hc).at ?_);rw[h0,AG (by decide)];have e1:=BB {cls:=.type "dict",data:=.dict #[]} he;have e2:=JF (fun o=>{o with dict:=some h.objs.size}) e1 rfl;have d2:((h.push {cls:=.type "dict",data:=.dict #[]}).update e fun o=>{o with dict:=some h.objs.size}).get? h.objs.size=some {cls:=.type "dict",data:=.dict #[]}:=
  (ES _ _ ne).trans (CC h rfl);show cm _ _ (do
  let dd<-alloc {cls:=Value.type "dict",data:=Data.dict #[]}
  update e fun o=>{o with dict:=some dd}
  dictMade (.ref C) e dd) _ _ _;refine AJ (wpAny_alloc' ?_);refine AJ (wpAny_update' e1 ?_);refine Ae ?_;show cm _ _ (storeInDict h.objs.size (.str name t) name v) _ _ _;have nd:((h.push {cls:=.type "dict",data:=.dict #[]}).update e fun o=>{o with dict:=some h.objs.size}).Ns h.objs.size (fun _=>none):=⟨_,#[],_,d2,rfl,fun x hx=>absurd hx (by simp),fun _=>rfl⟩;unfold storeInDict newKeyGuard;refine AJ (Ae (AJ (wpAny_nsSet1 (Heap.Ns1.of_empty nd) fun h' h2 hs=>?_)));obtain⟨oD,h8,h9,h3,h4,h5⟩:=h2.count (Within.cons name v Within.nil);refine AJ (wpAny_lookBehind h3 (by rw[h4];exact pastItsLine_dict (BJ h5 (by rw[CD,HZ,A9];lia))) ?_);refine Ae ?_;exact hq h' _ ((hs.2 e ne).trans e2) h2 fun b o nb hb=>(hs.2 b (BN (A7 hb))).trans ((ES _ _ (DK nb)).trans (BB _ hb))
def mz{expr:Bool}(X:K.In h)(xa:Dl K C name)(he:h.get? e=some (Cs C (some D) vs))(hn:h.Ns1 D mA)(hv:mA name=some v)(hh:handedIn v=true)
 (hq:∀tk,Q v ⟨h,g,d,tk,os⟩):cm (ax prog w) A (uE (.ref e) name expr) Q E ⟨h,g,d,t,os⟩:=by
 obtain⟨od,h1,h2⟩:=WR hn;have I:InstAt h e (Cs C (some D) vs) C (some od):=oh he h1;have T0:uV (ax prog w) h (typeOf (.ref e)) (.ref C):=I.type;obtain⟨cd,l,hc,hm,hl⟩:=xa.mro;obtain⟨h4,h3,h0⟩:=any_some xa.dict;obtain rfl:cd=h4:=Af (hc.symm.trans h3);have fo:findObj K C (some od) name=some (.value v):=by unfold findObj;rw[hc,Mb,xa.no,Mb];dsimp only[Mb];unfold PySem.W.ownOf;rw[h0,AH rfl];dsimp only;rw[h2,hv];rfl
 have L1:=looks_find (M:=ax prog w) X I fo;have sub:uV (ax prog w) h (uK (.ref e) (.type "BaseException")) true:=T0.andThen (looks_mroIn X (Zb X xa rfl));have GA:=PySem.F.attr_Exception.ga;unfold uE getAttrBy;refine AJ (wpAny_mkText (Gb (AJ (T0.at (AJ ((OL X xa.ga).at ?_))))));dsimp only;rw[show(onTheHeap (Value.ref C)&&Value.builtin "BaseException.__getattribute__" ==Value.builtin "object.__getattribute__")=false from by rw[show(Value.builtin "BaseException.__getattribute__" ==Value.builtin "object.__getattribute__")=false from by left,LK],AG (by decide)];unfold getAttrByItsOwn;refine AJ ((show uV (ax prog w) h (hookBefore (.ref C)) none from OL X xa.hook).at ?_);refine AJ (KA (Gb ?_));unfold callGetattribute;rw[show(expr&&onTheHeap (Value.builtin "BaseException.__getattribute__"))=false from LK _,AG (by decide)];unfold boundAndCalled;rw[GA.bind];refine AJ (Ae ?_);show cm _ _ (call (.builtin "BaseException.__getattribute__") [.ref e,.str name t]) _ _ _;refine Mr (VQ GA.plain PySem.F.entry_bexc_ga ?_);refine @check_slot (ax prog w) _ _ ⟨h,g,d,t+1,os⟩ "BaseException.__getattribute__" "BaseException" "__getattribute__" (.ref e) [.str name t] [] _ (by left) (by left) sub (PySem.F.args_bexc_ga (.ref e) (.str name t)) ?_;unfold Builtin.«object.__getattribute__»;refine AJ (Ae ?_);refine AJ (Ae ?_);refine AJ (T0.at (AJ (L1.at ?_)));refine Ae ?_;show cm _ _ (handedOut v) _ _ _;rw[handedOut_of hh];exact Ae (hq _)
end
end
def xO(e C:Ya)(dd:Option Ya)(vs:Array AA):HO:=.ext fun h=>h.get? e=some (Cs C dd vs)
def T1{e:Ya}(he:h.get? e=some (Cs C dd vs)):BP P w H h e (xO e C dd vs):=
 ⟨he,⟨_,he⟩,fun _ _ p k=>k _ p⟩
def Kg{e:Ya}(ok:By P w H h)(q:H e=some (xO e C dd vs)):h.get? e=some (Cs C dd vs):=(ok e _ q).1
structure Hz(h0:rE)(H:Hp)(h:rE)(e C D:Ya)(vs:Array AA):Prop where
 xo:H e=some (xO e C (some D) vs)
 hd:Hd h e vs
 new:h0.objs.size<=e
 Nq:∀T,vs[1]? =some (.ref T)->h0.objs.size<=T/\H T=none
 two:1<vs.size
def Ck(P:qy)(w:rH):Jw:=fun h0 H s E v s'=>∃e C D vs H',v=Value.ref e/\s'.os=s.os/\sf s'.gens/\Un (Ct h0) [] H H' s.heap s'.heap/\By P w H' s'.heap/\Hz s.heap H' s'.heap e C D vs/\
 ∀vs,E (.ref C) (some D) (upd H' e (xO e C (some D) vs))
section
variable{h0 h2 h3:rE}{e:Ya}{fs:List Ya}
def Hz.ne(f:Hz h0 H2 h2 e C D vs)(hb:h0.get? b=some o):b≠e/\∀T,vs[1]? =some (.ref T)->b≠T:=
 ⟨fun z=>absurd (A7 hb) (Ox.mpr (z▸f.new)),fun T ht z=>absurd (A7 hb) (Ox.mpr (z▸(f.Nq T ht).1))⟩
def Hz.step(ok:By P w H2 h2)(f:Hz h0 H2 h2 e C D vs)(lv:Lv fs e C (some D) vs h2 h3)(ff:∀b∈fs,H2 b=none):
 ∃vs3,By P w (upd H2 e (xO e C (some D) vs3)) h3/\Hz h0 (upd H2 e (xO e C (some D) vs3)) h3 e C D vs3:=by
 obtain⟨T,oT,ts,he,hT,gT,dT,h1⟩:=lv.here;have e2:=Kg ok f.xo;have Tn:T≠e:=E8 (C8 (A7 e2) hT);have one:(vs.setIfInBounds 1 (.ref T))[1]? =some (.ref T):=by simp[f.two]
 refine⟨_,fun b o q=>?_,AM,.inr ⟨T,oT,ts,one,Tn,gT,dT,h1⟩,f.new,fun T' ht=>?_,by simpa using f.two⟩
 ·by_cases hb:b=e
  ·subst hb;rw[AM] at q;cases q;exact T1 he
  ·rw[AQ hb] at q;refine(ok b o q).Eu (fun c u hc g=>?_) (fun c g=>?_) fun c xs g=>?_
   ·have tc:H2 c≠none:=by
     rcases hc with z|z
     ·rw[z,q];exact fun y=>nomatch y
     ·rw[z];exact fun y=>nomatch y
    refine lv.keep c u g (fun m=>tc (ff c m)) (fun z=>?_) fun T' ht z=>tc (z▸(f.Nq T' ht).2);rcases hc with y|y
    ·exact hb (y.symm.trans z)
    ·rw[z,f.xo] at y;cases y
   ·rw[AQ (fun z=>by rw[z,f.xo] at g;cases g)];exact g
   ·rw[AQ (fun z=>by rw[z,f.xo] at g;cases g)];exact g
 ·rw[one] at ht;obtain rfl:T=T':=by cases ht;rfl
  refine⟨BJ (BJ f.new (F5 (A7 e2))) hT,?_⟩;rw[AQ Tn];exact ok.fresh hT
def Hz.un(u:Un (Ct outer) [] H H2 h0 h2)(f:Hz h0 H2 h2 e C D vs){vs3:Array AA}(lv:Lv fs e C (some D) vs h2 h3)(hfs:∀b,b∈fs↔b=L\/b∈Ct outer)(hL:h0.objs.size<=L):
 Un (Ct outer) [] H (upd H2 e (xO e C (some D) vs3)) h0 h3:=by
 have nl:∀b o,h0.get? b=some o->b≠L:=fun b o q z=>absurd (A7 q) (Ox.mpr (z▸hL));have nil:∀b:Ya,b∉([]:List Ya):=fun b=>by simp
 refine⟨fun b o q n nb _=>?_,fun b o q n mb _=>?_,fun b o q n _=>?_,fun b o q _=>?_,fun b xs q=>?_,fun b o u' q=>?_,fun b ps q=>?_⟩
 ·exact lv.keep b o (u.keep b o q n nb (nil b)) (fun m=>((hfs b).mp m).elim (nl b o q) nb) (f.ne q).1 (f.ne q).2
 ·obtain⟨sl,e1⟩:=u.slot b o q n mb (nil b);obtain⟨h1,e2⟩:=lv.slot b _ e1 ((hfs b).mpr (.inr mb));exact⟨h1,e2⟩
 ·rw[AQ (f.ne q).1];exact u.free b o q n (nil b)
 ·obtain⟨o',e1⟩:=u.there b o q (nil b);by_cases m:b∈fs
  ·obtain⟨sl,e2⟩:=lv.slot b _ e1 m;exact⟨_,e2⟩
  ·exact⟨o',lv.keep b o' e1 m (f.ne q).1 (f.ne q).2⟩
 ·have:=u.FQ b xs q;rw[AQ (fun z=>by rw[z,f.xo] at this;cases this)];exact this
 ·have:=u.Ee b o u' q;rw[AQ (fun z=>by rw[z,f.xo] at this;cases this)];exact this
 ·obtain⟨more,this⟩:=u.FN b ps q;exact⟨more,by rw[AQ (fun z=>by rw[z,f.xo] at this;cases this)];exact this⟩
def Hz.qf(u:Un fs [] H H2 h0 h2)(f:Hz h0 H2 h2 e C D vs){vs3:Array AA}(lv:Lv fs e C (some D) vs h2 h3):Un fs [] H (upd H2 e (xO e C (some D) vs3)) h0 h3:=by
 have nil:∀b:Ya,b∉([]:List Ya):=fun b=>by simp
 refine⟨fun b o q n nb _=>lv.keep b o (u.keep b o q n nb (nil b)) nb (f.ne q).1 (f.ne q).2,fun b o q n mb _=>?_,fun b o q n _=>?_,fun b o q _=>?_,fun b xs q=>?_,fun b o u' q=>?_,fun b ps q=>?_⟩
 ·obtain⟨sl,e1⟩:=u.slot b o q n mb (nil b);obtain⟨h1,e2⟩:=lv.slot b _ e1 mb;exact⟨h1,e2⟩
 ·rw[AQ (f.ne q).1];exact u.free b o q n (nil b)
 ·obtain⟨o',e1⟩:=u.there b o q (nil b);by_cases m:b∈fs
  ·obtain⟨sl,e2⟩:=lv.slot b _ e1 m;exact⟨_,e2⟩
  ·exact⟨o',lv.keep b o' e1 m (f.ne q).1 (f.ne q).2⟩
 ·have:=u.FQ b xs q;rw[AQ (fun z=>by rw[z,f.xo] at this;cases this)];exact this
 ·have:=u.Ee b o u' q;rw[AQ (fun z=>by rw[z,f.xo] at this;cases this)];exact this
 ·obtain⟨more,this⟩:=u.FN b ps q;exact⟨more,by rw[AQ (fun z=>by rw[z,f.xo] at this;cases this)];exact this⟩
end
section
variable{E:XK}
abbrev HL(P:qy)(w:rH)(K:uT)(mg:Str->Option AA)(base:rE)(N:List Str)(qual:Str)(scope:tV)(f:Ya)(cd:AA)(A:sJ)(outer:List Env)(s:Yf)(H:Hp)(E:XK):Cx:=
 Jl (Ck P w) P w K mg base N qual scope f cd A outer s H E
def gU(hf:env.frame=some L)(outer:List Env)(b:Ya):b∈Ct (env::outer)↔b=L\/b∈Ct outer:=by unfold Ct;rw[Qw,hf];exact Bn
def YO{s2:Yf}{e:Ya}(J:Inv (HL P w K mg base N qual scope f cd A outer s H E) pins σ H2 s2)(fl:Hz s.heap H2 s2.heap e C D vs)
 (hE:∀vs,E (.ref C) (some D) (upd H2 e (xO e C (some D) vs))):(HL P w K mg base N qual scope f cd A outer s H E).xe (.ref e) s2:=by
 show cm _ _ (leaving (sX qual scope s.heap.objs.size f cd) (.ref e)) _ _ s2;refine AJ (Yt (base:=base) (L:=s.heap.objs.size) (outer:=outer) J.ok.frames J.stack rfl (Kg J.hok fl.xo) fl.two fl.hd fun h3 lv=>?_);obtain⟨h1,h5,h6⟩:=fl.step J.hok lv J.PU;refine⟨e,C,D,h1,_,rfl,J.os,J.bare,?_,h5,h6,fun h4=>?_⟩
 ·exact fl.un J.base lv (gU rfl outer) (Ad _)
 ·rw[KY];exact hE h4
def FJ:Passes (Ck P w) (HL P w K mg base N qual scope f cd A outer s H E) E:=fun h4 σ H1 s1 v s2 I cx=>by obtain⟨e,C,D,vs,H2,rfl,os,h1,un,ok,fl,hE⟩:=cx;have J:=I.P1 (ch:=[]) os un ok h1 (fun b z=>absurd z (by simp));exact YO J ⟨fl.xo,fl.hd,BJ I.sz fl.new,fun T ht=>⟨BJ I.sz (fl.Nq T ht).1,(fl.Nq T ht).2⟩,fl.two⟩ hE
def nK:Passes (Ck P w) X E0:=fun _ _ _ _ _ _ _ ⟨_,_,_,vs,_,_,_,_,_,_,_,h⟩=>(h vs).elim
def IZ{st:qu}(F:Ai K x qual st f fd)(S:A0 N ps (Ao st))(len:∀vs H Q E,sp vs H Q E->vs.length=ps.length)
 (hbody:∀(cdv:AA)(A:sJ)(outer:List Env)(s:Yf)(H:Hp)(vs:List V)(Q:VK)(E:XK),Bj k (A.deeper (sX qual (Ao st) s.heap.objs.size f cdv))->sp vs H Q E->
  ∃t,E3 (HL P w K mg base N qual (Ao st) f cdv A outer s H E) (F6 st) t/\t {nx:=fun _ H'=>Q .BA H',rt:=Q} (start N vs) H):AW P w K mg base (Ck P w) (k+1) f fd ps sp:=by
 obtain⟨oc,od,kV,h5,pm,an,cdv,ct,h4,rfl,lk,h1⟩:=F.ex;exact Z5 lk h1 S len (hbody cdv)
end
structure U2(K:uT)(C fI:Ya)(bm:List AA):Prop where
 cls:∃N,∀h:rE,K.In h->Gx h C bm N
 init:rJ K (.ref C) "__init__" =some (some (.ref fI))
 line:Iu bm
 fn:isFn K (.ref fI)=true
 kp:rZ K (.ref C)=true
def GG(C:Ya)(f:Str)(msg:Str):Sp:=fun vs H Q _=>∃e ws,vs=[.ref e]/\H e=some (xO e C none ws)/\∀D,H D=none->D≠e->Q .BA (upd (upd H D (.xd [(f,.str msg)])) e (xO e C (some D) ws))
noncomputable def Jy(t:Ya):Array AA:= #[.ref t,.none,.none,.none,.bool false,.none]
def i6{o u:HO}(h:a≠b):upd (upd H a o) b u=upd (upd H b u) a o:=by
 funext c;unfold upd;by_cases h1:c=a
 ·subst h1;rw[AG h,AH rfl,AH rfl]
 ·by_cases h2:c=b
  ·subst h2;rw[AH rfl,AG h1,AH rfl]
  ·rw[AG h2,AG h1,AG h1,AG h2]
section
variable{f:Str}
def iF(I:Inv X pins σ H s)(C:Ya):Inv X pins σ (upd H (s.heap.objs.size+1) (xO (s.heap.objs.size+1) C none (Jy s.heap.objs.size))) {s with heap:=Jj s.heap C []}:=by
 have kk:∀b o,s.heap.get? b=some o->(Jj s.heap C []).get? b=some o:=fun b o e=>BB _ (BB _ e);have e2:(Jj s.heap C []).get? (s.heap.objs.size+1)=some (Cs C none (Jy s.heap.objs.size)):=by have z:=CC (s.heap.push {cls:=.type "tuple",data:=.seq ([]:List AA).toArray}) (o:=Cs C none (Jy s.heap.objs.size)) rfl;rw[Ha] at z;exact z
 exact I.laid (t':=s.toks) kk (E9 _) (T1 e2)
end
variable{msg:Str}
section
variable{f:Str}
def jk(M:U2 X.K C fI bm)(F:AW X.prog X.w X.K X.mg X.base Ag k fI fd ["self"] (GG C f msg))(hr:Bj (k+1) X.A)(hg:Gl X x)(hm:X.mg x=some (.ref C))(hb:Binds X.K fd ["self"] [])
 (hdb:(x==("__debug__" :Str))=false)(I:Inv X pins σ H s):
 cm (ax X.prog X.w) X.A (rC (.Call (.Name x p) [] [] pos) X.env) (fun u s2=>∃e D t,u=Value.ref e/\s.heap.objs.size<=e/\H e=none/\H D=none/\D≠e/\Inv X pins σ (upd (upd H D (.xd [(f,.str msg)])) e (xO e C (some D) (Jy t))) s2) X.xe s:=by
 refine MV (Lf I hg hm ?_ hdb);refine Qu I.BS M.kp ?_;obtain⟨N,xc⟩:=M.cls;obtain⟨o,ho,h0⟩:=OH.mp (Gg.mp M.fn);have I2:=iF I C;have sp:GG C f msg [.ref (s.heap.objs.size+1)] (upd H (s.heap.objs.size+1) (xO (s.heap.objs.size+1) C none (Jy s.heap.objs.size))) (fun v H2=>v=.BA/\∃D,H D=none/\D≠s.heap.objs.size+1/\
  H2=upd (upd H D (.xd [(f,.str msg)])) (s.heap.objs.size+1) (xO (s.heap.objs.size+1) C (some D) (Jy s.heap.objs.size))) E0:=by
  refine⟨_,_,rfl,AM,fun D hD nD=>⟨rfl,D,?_,nD,?_⟩⟩
  ·rw[AQ nD] at hD;exact hD
  ·rw[i6 (DK nD),KY]
 have run:=F.run (X.A.under (.builtin "type.__call__" ⟨[.ref C],[]⟩)) X.stack _ _ ⟨[.ref (s.heap.objs.size+1)],[]⟩ [.ref (s.heap.objs.size+1)] [.ref (s.heap.objs.size+1)] _ E0 (hr.make C [] []) (I2.UL.make C [] [])
  (hb _ [.ref (s.heap.objs.size+1)] I2.BS rfl) (.cons rfl .nil) sp;obtain⟨hp,g,d,tk,os⟩:=s;refine mY (rest:=[]) I.BS (xc _ I.BS) M.line M.init (I.BS _ _ ho) h0 ?_ (CN _);refine Mr (LQ run fun r s' hq=>?_)
 cases r with
 |error e=>exact hq.elim
 |ok fl=>
  cases fl with
  |ret u=>obtain⟨v,H',I3,rv,ev,D,q1,q2,q3⟩:=I2.after hq;subst ev q3;exact⟨rv,hp.objs.size+1,D,hp.objs.size,rfl,E9 _,I.hok.fresh (E9 _),q1,q2,I3⟩
  |next=>exact False.elim hq
  |brk=>exact False.elim hq
  |cont=>exact False.elim hq
def i5{g:Ya}{dvs:List V}{ds:List AA}{E:XK}{m:Str}{es:List qv}{t:TA}(hg:Gl X x)(hm:X.mg x=some (.ref C))(hrd:readsIn X.K C (.type "type")=true)
 (hf:findCls X.K (.ref C) (.type "type") m=some (.val (.ref g)))(hs:tY X.K (.ref C) "__getattribute__" =some (some (.builtin "type.__getattribute__")))(hk:rZ X.K (.ref g)=true)
 (F:AW X.prog X.w X.K X.mg X.base CX k g fd ps sp)(hr:Bj k X.A)(hb:Binds X.K fd ps ds)(hd:Vals dvs ds)(hx:Passes CX X E)(ha:PA X (e::es) t)(hdb:(x==("__debug__" :Str))=false:=by decide)
 (hst:hX (e::es) X.env=(false,rC e X.env)::hX es X.env:=by rfl)(hpl:(rN pos (hX es X.env)).any (·.1)=false:=by rfl)
 (ht:rC (.Call (.Attribute (.Name x p) m apos) (e::es) [] pos) X.env=(do
  let ov<-rC (.Name x p) X.env
  uD apos.atName
  let(f,first)<-sk [ov] (tM ov m pl)
  callWith pos f first (rN pos (hX (e::es) X.env)) (sY pos (rW [] X.env))):=by rfl):
 PE X (.Call (.Attribute (.Name x p) m apos) (e::es) [] pos) (Ng sp dvs E t):=by
 intro h0 s σ H Q I h;refine VN (pl:=pl) (Lf I hg hm ?_ hdb) ht;refine method_cls I.BS hs (cls_value I.BS hrd hf rfl ?_);have I1:=I.tok (s.toks+1);refine VZ (first:=[]) (h₀:=X.base) I.ok.mod.OD hk (Ah (ha pos h0 _ σ H _ I1 h) fun us s2 ⟨vs,H2,I2,r,q2⟩=>⟨I2.BS,?_⟩) hst hpl;exact NT F hr hb hd hx I2 r q2
def pD(K:uT)(ta tv:TE)(f:Str):TS:=fun D σ H=>tv σ H fun y H1=>ta σ H1 fun x H2=>∃e C ws,x=.ref e/\H2 e=some (xO e C none ws)/\Dl K C f/\
 ∀d,H2 d=none->d≠e->D.nx σ (upd (upd H2 d (.xd [(f,y)])) e (xO e C (some d) ws))
def kN{o value:qv}{pos':Pos}{tv:TE}(ha:PE X o ta)(hv:PE X value tv)(hs:tK value (some (.Attribute o f pos')) pos.line X.env=pure false):PS X (.Assign [.Attribute o f pos'] value pos) (pD X.K ta tv f):=by
 intro h0 s σ H D I h;refine tW (Ah (hv h0 s σ H _ I h) fun u s1 ⟨y,H1,I1,ry,q⟩=>Ah (ha h0 s1 σ H1 _ I1 q) fun ov s2 ⟨x,H2,I2,rx,e,C,ws,ex,ea,xa,q2⟩=>?_) hs;subst ex;obtain rfl:ov=Value.ref e:=rx;have he:=Kg I2.hok ea;have nD:s2.heap.objs.size≠e:=E8 (A7 he);have fr:H2 s2.heap.objs.size=none:=I2.hok.fresh (Ad _);obtain⟨hp,g,d,tk,os⟩:=s2;refine om I2.BS xa he fun h' h5 h3 h2 h1=>⟨σ,_,?_,q2 hp.objs.size fr nD⟩;have hD:∃o,h'.get? hp.objs.size=some o:=let⟨o,_,_,q,_⟩:=h2;⟨o,q⟩;have un:Un X.fs [] H2 (upd (upd H2 hp.objs.size (.xd [(f,y)])) e (xO e C (some hp.objs.size) ws)) hp h':=by
  refine⟨fun b o q n _ _=>h1 b o (fun z=>by rw[z,ea] at n;cases n) q,fun b o q n _ _=>⟨o.slots,h1 b o (fun z=>by rw[z,ea] at n;cases n) q⟩,fun b o q n _=>?_,fun b o q _=>?_,fun b xs q=>?_,fun b o u q=>?_,fun b ps q=>⟨#[],?_⟩⟩
  ·rw[AQ (fun z=>by rw[z,ea] at n;cases n),AQ (BN (A7 q))];exact n
  ·by_cases z:b=e
   ·rw[z];exact⟨_,h3⟩
   ·exact⟨o,h1 b o z q⟩
  ·rw[AQ (fun z=>by rw[z,ea] at q;cases q),AQ (A2 q fr)];exact q
  ·rw[AQ (fun z=>by rw[z,ea] at q;cases q),AQ (A2 q fr)];exact q
  ·rw[AQ (fun z=>by rw[z,ea] at q;cases q),AQ (A2 q fr),q];simp
 refine I2.un (t':=h5) (h':=h') un fun b o q=>?_;by_cases hb:b=e
 ·subst hb;rw[AM] at q;cases q;exact T1 h3
 ·rw[AQ hb] at q;by_cases h4:b=hp.objs.size
  ·subst h4;rw[AM] at q;cases q;refine⟨_,h2,fun y'=>?_⟩;show Du (List.lookup y' [(f,y)]) (if y'=f then some u else none);by_cases z:y'=f
   ·subst z;rw[AH rfl,HY,JI];exact ry
   ·rw[AG z,HY,LG z];exact Cy
  ·rw[AQ h4] at q;refine(I2.hok b o q).Eu (fun c v hc gg=>h1 c v (fun z=>?_) gg) (fun c gg=>?_) fun c xs gg=>?_
   ·rcases hc with y1|y1
    ·exact hb (y1.symm.trans z)
    ·rw[z,ea] at y1;cases y1
   ·rw[AQ (fun z=>by rw[z,ea] at gg;cases gg),AQ (A2 gg fr)];exact gg
   ·rw[AQ (fun z=>by rw[z,ea] at gg;cases gg),AQ (A2 gg fr)];exact gg
end
section
variable{E:XK}
def lI(C:Ya)(fl msg:Str)(E:XK):TS:=fun _ _ H=>∀e D ws,H e=none->H D=none->D≠e->E (.ref C) (some D) (upd (upd H D (.xd [(fl,.str msg)])) e (xO e C (some D) ws))
def iE{np:Pos}{fl:Str}(M:U2 K C fI bm)(F:AW P w K mg base Ag k fI fd ["self"] (GG C fl msg))
 (hr:Bj (k+1) (HL P w K mg base N qual scope f cd A outer s H E).A)(hg:Gl (HL P w K mg base N qual scope f cd A outer s H E) x)(hm:mg x=some (.ref C))(hb:Binds K fd ["self"] [])(hdb:(x==("__debug__" :Str))=false:=by decide):
 PS (HL P w K mg base N qual scope f cd A outer s H E) (.Raise (some (.Call (.Name x np) [] [] cpos)) none pos) (lI C fl msg E):=by
 intro h0 s1 σ H1 D I h;rw[arm_exec_Raise];refine AJ (Og ?_);have ev:=jk (X:=HL P w K mg base N qual scope f cd A outer s H E) (p:=np) (pos:=cpos) M F hr hg hm hb hdb I;refine jV (C:=C) (bm:=bm) (I.ok.hd rfl) M.line ?_;refine AJ (DA ev (fun v s2 z=>?_) fun _ _ z=>z);obtain⟨e,D',t,rfl,new,he,hD,ne,I2⟩:=z;refine AJ (Og (Ae ?_));obtain⟨Nn,xc⟩:=M.cls;have at2:(upd (upd H1 D' (.xd [(fl,.str msg)])) e (xO e C (some D') (Jy t))) e=some (xO e C (some D') (Jy t)):=AM;refine⟨e,Nn,t,some D',rfl,xc _ I2.BS,Kg I2.hok at2,?_⟩;refine YO I2 ⟨at2,.inl rfl,?_,(fun T hT=>by cases hT),(by show 1<6;decide)⟩ fun ws=>?_
 ·exact BJ I.sz new
 ·rw[KY];exact h e D' ws he hD ne
end
abbrev NP(X:Cx)(pins:List (Ya×Obj))(W:AA->Yf->Prop):Cx:={X with pn:=X.pn++pins,xe:=W}
abbrev KQ(X:Cx)(e:Ya)(W:AA->Yf->Prop):Cx:={X with A:=X.A.mark (some (.ref e)),calm:=false,xe:=W}
def Inv.o6(I:Inv X pins σ H s)(W:AA->Yf->Prop):Inv (NP X pins W) [] σ H s:=
 ⟨⟨I.ok.mod,I.ok.kind,I.ok.glob,I.ok.blt,I.ok.above,I.ok.inj,I.ok.has,I.ok.K0,I.ok.hd,I.ok.frames,I.ok.L5,I.ok.Qj,I.ok.bs,I.ok.HU,I.ok.Kw,I.ok.Ky,I.ok.FK,I.ok.IX⟩,
  I.os,I.bare,I.base,I.loc,I.cell,I.free,I.DP,fun p hp=>I.pin p (by rw[CF] at hp;exact hp),I.hok,I.len⟩
def Inv.NM{pins1:List (Ya×Obj)}{W:AA->Yf->Prop}(ok:X.Ok)(I:Inv (NP X pins W) pins1 σ H s):Inv X pins σ H s:=
 ⟨ok,I.os,I.bare,I.base,I.loc,I.cell,I.free,I.DP,fun p hp=>I.pin p (Ig _ hp),I.hok,I.len⟩
def Inv.marked(I:Inv X pins σ H s)(e:Ya)(W:AA->Yf->Prop):Inv (KQ X e W) pins σ H s:=
 ⟨⟨I.ok.mod,I.ok.kind,I.ok.glob,I.ok.blt,I.ok.above,I.ok.inj,I.ok.has,I.ok.K0,(fun z=>nomatch z),I.ok.frames,I.ok.L5,I.ok.Qj,I.ok.bs,I.ok.HU,I.ok.Kw,I.ok.Ky,I.ok.FK,I.ok.IX⟩,
  I.os,I.bare,I.base,I.loc,I.cell,I.free,I.DP,I.pin,I.hok,I.len⟩
def Inv.unmarked{e:Ya}{W:AA->Yf->Prop}(ok:X.Ok)(I:Inv (KQ X e W) pins σ H s):Inv X pins σ H s:=
 ⟨ok,I.os,I.bare,I.base,I.loc,I.cell,I.free,I.DP,I.pin,I.hok,I.len⟩
structure UJ(K:uT)(R:Ya):Prop where
 cls:∃bm N,(∀h:rE,K.In h->Gx h R bm N)/\Iu bm
structure UU(K:uT)(C R:Ya):Prop where
 cls:∃bm N,(∀h:rE,K.In h->Gx h C bm N)/\(Value.ref C::bm).contains (.ref R)=true
section
variable{g:Array sj}{d:Drawn}{t:Nat}{R N NR e:Ya}{bmR:List AA}
def jR(xc:Gx h C bm N)(xr:Gx h R bmR NR)(ln:Iu bmR)(he:h.get? e=some (Cs C dd vs))(hs:(Value.ref C::bm).contains (.ref R)=true){Q:Bool->Yf->Prop}(hq:Q true ⟨h,g,d,t,os⟩):
 cm M A (excMatches (.ref e) (.ref R)) Q E ⟨h,g,d,t,os⟩:=by
 obtain⟨a1,a2,a3,a4,a5,a6,a7,a8,a9,b1,b2,b3,b4,b5,h1⟩:=xc;obtain⟨c1,c2,c3,c4,c5,c6,c7,c8,c9,d1,d2,d3,d4,d5,h0⟩:=xr;have rB:(Value.ref R::bmR).contains (.type "BaseException")=true:=IP ln.base rfl;have nt:=tc_notTuple;unfold Cs at he;unfold excMatches;repeat (first|with_reducible refine JH he ?_|with_reducible refine JH h0 ?_|(with_reducible refine MS h0 ?_;rw[rB])|(with_reducible refine MS h1 ?_;rw[hs])|wp_step)
 exact hq
end
def Tc(K:uT)(R:Ya)(f:Str)(Q:VK):XK:=fun c d H'=>∃C D h0,c=.ref C/\d=some D/\UU K C R/\Dl K C f/\H' D=some (.xd [(f,.str h0)])/\Q (.str h0) H'
def ni{e:Ya}{ws:Array AA}{f:Str}{fs:List (Str×V)}{expr:Bool}{Q:VK}(I:Inv X pins σ H s)(he:H e=some (xO e C (some D) ws))(xa:Dl X.K C f)
 (hD:H D=some (.xd fs))(hv:fs.lookup f=some v)(q:Q v H):cm (ax X.prog X.w) A (uE (.ref e) f expr) (EP X pins σ Q) E s:=by
 obtain⟨mA,hn,h0⟩:=(show BP X.prog X.w H s.heap D (.xd fs) from I.hok D _ hD);have r:=h0 f;rw[hv] at r;obtain⟨u,hu,ru⟩:=r.some_of;have h1:=Kg I.hok he;obtain⟨hp,g,d,tk,os⟩:=s;exact mz I.BS xa h1 hn hu (WQ ru) fun tk=>⟨v,H,I.tok tk,ru,q⟩
def o9(K:uT)(ta:TE)(f:Str):TE:=fun σ H Q=>ta σ H fun x H1=>∃e C D ws fs v,x=.ref e/\H1 e=some (xO e C (some D) ws)/\Dl K C f/\H1 D=some (.xd fs)/\fs.lookup f=some v/\Q v H1
def j7{o:qv}{f:Str}(he:PE X o ta)(hb:rK o f X.env (rC o X.env)=rC o X.env):PE X (.Attribute o f pos) (o9 X.K ta f):=by intro h0 s σ H Q I h;refine YT hb (Ah (he h0 s σ H _ I h) fun u s1 ⟨x,H1,I1,rx,e,C,D,ws,fs,v,ex,ea,xa,eD,l,q⟩=>?_);subst ex;obtain rfl:u=Value.ref e:=rx;exact ni I1 ea xa eD l q
def gj{m':Str->Option AA}(I:Inv X pins σ H s)(hs:Heap.SameBut X.env.locals s.heap h')(hn:h'.Ns X.env.locals m'):
 Inv X pins (List.replicate X.N.length none) H {s with heap:=h',toks:=t'}:=by
 have nl:∀b o,X.s₀.heap.get? b=some o->b≠X.env.locals:=fun b o e=>BN (C8 (A7 e) I.ok.above);refine⟨I.ok,I.os,I.bare,⟨fun b o e n hb hx=>(hs.2 b (nl b o e)).trans (I.base.keep b o e n hb hx),fun b o e n hb hx=>?_,I.base.free,fun b o e hx=>?_,I.base.FQ,I.base.Ee,I.base.FN⟩,⟨m',hn,fun j y v' _ e2 _=>?_⟩,fun y c e=>?_,I.free,I.DP,
  fun p hp=>?_,fun b u e=>?_,by simp⟩
 ·obtain⟨sl,e1⟩:=I.base.slot b o e n hb hx;exact⟨sl,(hs.2 b (nl b o e)).trans e1⟩
 ·obtain⟨o',e1⟩:=I.base.there b o e hx;exact⟨o',(hs.2 b (nl b o e)).trans e1⟩
 ·rw[List.getElem?_replicate] at e2;split at e2<;>cases e2
 ·obtain⟨v,z⟩:=I.cell y c e;exact⟨v,z.sameBut hs (I.Jv y c e)⟩
 ·obtain⟨e,n,ne,nf,dt⟩:=I.pin p hp;exact⟨(hs.2 p.1 ne).trans e,n,ne,nf,dt⟩
 ·refine(I.hok b u e).Eu (fun c w' hc q=>(hs.2 c ?_).trans q) (fun _ q=>q) fun _ _ q=>q;intro z;rcases hc with y|y
  ·rw[<-y,z,I.free] at e;cases e
  ·rw[z,I.free] at y;cases y
def kh{tb:XK->TS}{n R:Str}{Rc:Ya}{f:Str}{np p1 p2 p3 hpos:Pos}(hN:X.N.Nodup)(hi:X.N[i]? =some n)(hn:X.env.scope.names.lookup n=some .local)
 (hb:∀(pins:List (Ya×Obj))(W:AA->Yf->Prop)(E:XK),Passes (Ck X.prog X.w) (NP X pins W) E->E3 (NP X pins W) body (tb E))
 (hg:Gl X R)(hm:X.mg R=some (.ref Rc))(hR:UJ X.K Rc)(hst:X.stack=X.env::X.outer/\X.env.frame=some X.env.locals)(hd1:(R==("__debug__" :Str))=false:=by decide)(hd2:(n==("__debug__" :Str))=false:=by decide)(hd3:(n==("__classdict__" :Str))=false:=by decide)
 (hab:rK (.Name n p1) f X.env (rC (.Name n p1) X.env)=rC (.Name n p1) X.env:=by rfl):
 PS X (.Try body [.ExceptHandler (some (.Name R np)) (some n) [.Return (some (.Attribute (.Name n p1) f p2)) p3] hpos] [] [] pos) (fun D σ H=>tb (Tc X.K Rc f D.rt) D σ H):=by
 intro pins s σ H D I h;let W:AA->Yf->Prop:=fun v s'=>∃σ1 H1 s1,Inv X pins σ1 H1 s1/\Ck X.prog X.w X.stack H1 s1 (Tc X.K Rc f D.rt) v s';have ps:Passes (Ck X.prog X.w) (NP X pins W) (Tc X.K Rc f D.rt):=fun h9 σ1 H1 s1 v s2 I1 cx=>⟨σ1,H1,s1,Inv.NM I.ok I1,cx⟩;have hr:=hb pins W _ ps [] s σ H D (Inv.o6 I W) h;refine wpAny_Try_except (DA hr (fun fl s1 z=>?_) fun v s2 z=>?_)
 ·cases fl with
  |next=>obtain⟨σ',H',J,q⟩:=z;exact Oa ⟨σ',H',Inv.NM I.ok J,q⟩
  |brk=>obtain⟨σ',H',J,q⟩:=z;exact⟨σ',H',Inv.NM I.ok J,q⟩
  |cont=>obtain⟨σ',H',J,q⟩:=z;exact⟨σ',H',Inv.NM I.ok J,q⟩
  |ret u=>obtain⟨v,σ',H',J,r,q⟩:=z;exact⟨v,σ',H',Inv.NM I.ok J,r,q⟩
 ·obtain⟨σ1,H1,s1,I1,e,C,Dd,vs,H2,rfl,os,h5,un,ok,fl,hE⟩:=z;have J:=I1.P1 (ch:=[]) os un ok h5 (fun b z=>absurd z (by simp));have ff:(envs:List Env)->X.stack=envs->s2.heap.FunFrames X.base envs:=fun l e=>e▸J.stack;refine Yt (base:=X.base) (L:=X.env.locals) (outer:=X.outer) (hst.1▸J.ok.frames) (ff _ hst.1) hst.2 (Kg J.hok fl.xo) fl.two fl.hd fun h3 lv=>?_;obtain⟨h0,e1,h6⟩:=fl.step J.hok lv (fun b hb=>J.PU b (by rw[hst.1];exact hb));have e0:Un (Ct X.stack) [] H1 (upd H2 e (xO e C (some Dd) h0)) s1.heap h3:=by rw[hst.1] at un⊢;exact fl.qf un lv
  have J3:Inv X pins σ1 (upd H2 e (xO e C (some Dd) h0)) {s2 with heap:=h3}:=I1.P1 (s':={s2 with heap:=h3}) (ch:=[]) os e0 e1 h5 (fun b z=>absurd z (by simp));obtain⟨C',D',e2,eC,eD,xs,xa,hD,hQ⟩:=hE h0;obtain rfl:C=C':=by cases eC;rfl
  obtain rfl:Dd=D':=by cases eD;rfl
  obtain⟨bm,N,xc,h8⟩:=xs.cls;obtain⟨bmR,NR,xr,e4⟩:=hR.cls;have e3:=Kg J3.hok h6.xo;refine wpAny_handleBy_cons (codeAny_handlers_test ?_) (by intro q;cases q);refine Lf (X:=KQ X e fun _ _=>True) (Inv.marked J3 e _) hg hm ?_ hd1;refine jR (xc _ J3.BS) (xr _ J3.BS) e4 e3 h8 ?_;refine codeAny_handlers_suite_as ?_;obtain⟨T,oT,ts,h1,nT,hT,dT,e6⟩:∃T oT ts,h0[1]? =some (.ref T)/\T≠e/\h3.get? T=some oT/\oT.data=.fields ts/\ts[3]? =some .none:=by
   rcases h6.hd with z|z
   ·obtain⟨T,oT,ts,he,_,gT,dT,e8⟩:=lv.here;have:h0=vs.setIfInBounds 1 (.ref T):=by have a:=e3.symm.trans he;cases a;rfl
    rw[this] at z;simp[fl.two] at z
   ·exact z
  have h2:=h6.Nq T h1;refine kZ e3 h1 hT dT e6 fun h4 k4 x4 z4=>?_;have J4:=J3.turned (t':=s2.toks) (it:=T) (h':=h4) (fun b o nb q=>(k4 b nb).trans q) h2.2 (E8 (C8 I1.lt h2.1)) (.inr (BJ I1.sz h2.1))
   (fun x c q=>by obtain⟨v,z⟩:=I1.cell x c q;exact BN (C8 z.lt h2.1))
   fun p hp=>BN (C8 (A7 (I1.pin p hp).1) h2.1);refine SE (X:=KQ X e fun _ _=>True) (Inv.marked J4 e _) hN hi (.inl hn) (v:=.ref e) rfl (fun s5 J5=>?_) (.inr hn);have e5:i<σ1.length:=by rw[I1.len];exact(BX.mp hi).1
  refine DA ((AR (Al (j7 (X:=KQ X e _) (f:=f) (pos:=p2) (Y5 (X:=KQ X e _) (pos:=p1) hi (.inl hn) hd2 hd3) hab)):E3 (KQ X e _) _ _) pins s5 _ _ {nx:=fun _ _=>False,rt:=D.rt} (Inv.marked (Inv.unmarked I.ok J5) e _)
   ⟨.ref e,OI e5,e,C,Dd,h0,_,.str e2,rfl,h6.xo,xa,hD,by rw[HY,JI],hQ⟩) (fun e7 s6 z=>?_) fun _ _ z=>z
  cases e7 with
  |next=>obtain⟨_,_,_,q⟩:=z;exact q.elim
  |brk=>obtain⟨_,_,_,q⟩:=z;exact q.elim
  |cont=>obtain⟨_,_,_,q⟩:=z;exact q.elim
  |ret u=>obtain⟨v,σ6,H6,J6,r6,q6⟩:=z;obtain⟨m6,n6,_⟩:=J6.loc;exact wpAny_nameGoes hn n6 (by rw[I.ok.kind];rfl) fun h7 m7 n7 s7=>⟨v,_,H6,gj (Inv.unmarked I.ok J6) s7 n7,r6,q6⟩
abbrev PR:=Str×Str
noncomputable def GQ(p:PR):List V:=[.str p.1,.str p.2]
noncomputable def Dm(p:PR):Dt:=.tup [.str p.1,.str p.2]
noncomputable def Nu(H:Hp)(a:Ya):Option PR:=match H a with
 |some (.tup [.str k,.str z])=>some (k,z)
 |_=>none
def Yn{p:PR}(h:H a=some (.tup (GQ p))):Nu H a=some p:=by unfold Nu;rw[h];rfl
def Lp{p:PR}(r:Rep H (Dm p) v):∃a,v=.ref a/\H a=some (.tup (GQ p)):=by
 cases r with
 |@tup ds a xs h hl rr=>refine⟨a,rfl,?_⟩;revert h rr;refine Ly (C:=fun xs=>H a=some (.tup xs)->(∀(i:Nat) d x,[Dt.str p.1,Dt.str p.2][i]? =some d->xs[i]? =some x->Rep H d x)->H a=some (.tup (GQ p))) (fun u v h rr=>?_) hl.symm;have e1:=rr 0 (.str p.1) u rfl rfl;have e2:=rr 1 (.str p.2) v rfl rfl;cases e1;cases e2;exact h
def Tu{p:PR}(h:H a=some (.tup (GQ p))):Rep H (Dm p) (.ref a):=by
 refine .tup h rfl fun i d x h1 h2=>?_
 match i with
 |0=>cases h1;cases h2;exact .str _
 |1=>cases h1;cases h2;exact .str _
 |i+2=>simp at h1
def Yq(p q:PR):decide (p=q)=((p.1==q.1)&&((p.2==q.2)&&true)):=by
 by_cases h1:p.1=q.1
 ·by_cases h2:p.2=q.2
  ·rw[BW (Prod.ext h1 h2),h1,h2,JI,JI];rfl
  ·rw[BK (fun z=>h2 (BL Prod.snd z)),LG h2,Ml,LK]
 ·rw[BK (fun z=>h1 (BL Prod.fst z)),LG h1,Ml]
def kL(I:Inv X pins σ H s){p q:PR}(ha:H a=some (.tup (GQ p)))(hb:H b=some (.tup (GQ q)))(hu:A.units<rR):SeqAt.EqAt A s (.ref a) (.ref b) (decide (p=q)):=by
 by_cases h0:a=b
 ·subst h0;rw[ha] at hb;have e:p=q:=by have:=Af hb;cases p;cases q;simp[GQ] at this;exact Prod.ext this.1 this.2
  rw[BW e];exact .same _
 ·obtain⟨h5,r,pl,hz⟩:=I.tuple (AU.of (K:=X.K) ha);obtain⟨h4,r2,h3,h6⟩:=I.tuple (AU.of (K:=X.K) hb);obtain⟨u1,u2,rfl,e1,e2⟩:=Vals.two r;obtain⟨w1,w2,rfl,e3,e4⟩:=Vals.two r2;obtain⟨t1,rfl⟩:=e1;obtain⟨t2,rfl⟩:=e2;obtain⟨t3,rfl⟩:=e3;obtain⟨t4,rfl⟩:=e4;have rc:=SeqAt.RcAt.tuples (e:=fun j=>if j=0 then p.1==q.1 else p.2==q.2) pl h3 hu (fun j h1 h2=>?_)
  ·refine SeqAt.EqAt.of_refs h0 ?_;have:decide (p=q)=((List.range (min #[Value.str p.1 t1,Value.str p.2 t2].size #[Value.str q.1 t3,Value.str q.2 t4].size)).all (fun j=>if j=0 then p.1==q.1 else p.2==q.2)&& #[Value.str p.1 t1,Value.str p.2 t2].size== #[Value.str q.1 t3,Value.str q.2 t4].size):=by show decide (p=q)=((List.range 2).all (fun j=>if j=0 then p.1==q.1 else p.2==q.2)&&true);rw[Bool.and_true,show List.range 2=[0,1] from rfl,LN,LN,List.all_nil];exact Yq p q
   rw[this];exact rc
  ·match j,h1 with
   |0,_=>exact .str_str _ _ _ _
   |1,_=>exact .str_str _ _ _ _
def HH(H:Hp)(p:PR)(u:AA):Bool:=match u with
 |.ref a=>decide (Nu H a=some p)
 |_=>false
def ZK(I:Inv X pins σ H s)(hu:A.units<rR){p:PR}(hb:H b=some (.tup (GQ p))):∀{ws:List PR}{xs:List V}{us:List AA},Ab H (ws.map Dm) xs->Vals xs us->∀u∈us,SeqAt.EqAt A s u (.ref b) (HH H p u):=fun{ws xs us} rr rv u h4=>by
 obtain⟨i,hi⟩:=Qr h4;have hl:i<ws.length:=by
  have h1:=(BX.mp hi).1;have h2:=rv.length;have h3:=rr.1;rw[AL] at h3
  lia
 have hx:i<xs.length:=by have:=rr.1;rw[AL] at this;lia
 have ex:xs[i]? =some xs[i]:=Ar hx;have ew:(ws.map Dm)[i]? =some (Dm ws[i]):=by rw[Az,Ar hl];rfl
 obtain⟨a,ea,ha⟩:=Lp (rr.2 i _ _ ew ex);obtain⟨u',h0,ru⟩:=rv.get ex;rw[hi] at h0;cases h0;rw[ea] at ru;cases ru;have e:HH H p (.ref a)=decide (ws[i]=p):=by
  show decide (Nu H a=some p)=_;rw[Yn ha];by_cases z:ws[i]=p
  ·rw[z];simp
  ·rw[BK z,BK (fun y=>z (Af y))]
 rw[e];exact kL I ha hb hu
def Td(H:Hp)(p:PR):∀{ws:List PR}{xs:List V}{us:List AA},Ab H (ws.map Dm) xs->Vals xs us->us.map (HH H p)=ws.map fun q=>decide (q=p)
 |[],[],_,_,.nil=>rfl
 |w::ws,x::xs,u::us,rr,.cons r t=>by
  obtain⟨a,ea,ha⟩:=Lp (rr.2 0 _ x rfl rfl);rw[Av,Av,Td H p (ws:=ws) (xs:=xs) ⟨by simpa using rr.1,fun i d y h1 h2=>rr.2 (i+1) d y (by simpa using h1) (by simpa using h2)⟩ t];rw[ea] at r;cases r;congr 1;show decide (Nu H a=some p)=_;rw[Yn ha];by_cases z:w=p
  ·rw[z];simp
  ·rw[BK z,BK (fun y=>z (Af y))]
 |[],_::_,_,rr,_=>by cases rr.1
 |_::_,[],_,rr,_=>by cases rr.1
def qK:R2:=fun x y H Q=>∃a b p q,x=.ref a/\y=.ref b/\H a=some (.tup (GQ p))/\H b=some (.tup (GQ q))/\Q (.bl (decide (p=q))) H
def W8(hu:X.A.units<rR):Bx X (qz .Eq) qK:=by
 intro pins s σ H x y v u Q I rx ry h;obtain⟨a,b,p,q,rfl,rfl,ha,hb,qq⟩:=h;cases rx;cases ry;obtain⟨h4,r,pl,hz⟩:=I.tuple (AU.of (K:=X.K) ha);obtain⟨h3,r2,h0,h5⟩:=I.tuple (AU.of (K:=X.K) hb);obtain⟨u1,u2,rfl,e1,e2⟩:=Vals.two r;obtain⟨w1,w2,rfl,e3,e4⟩:=Vals.two r2;obtain⟨t1,rfl⟩:=e1;obtain⟨t2,rfl⟩:=e2;obtain⟨t3,rfl⟩:=e3;obtain⟨t4,rfl⟩:=e4;refine SeqAt.eq_tupleAt (e:=fun j=>if j=0 then p.1==q.1 else p.2==q.2) pl h0 hu (fun j h1 h2=>?_) ⟨.bl (decide (p=q)),H,I,?_,qq⟩
 ·match j,h1 with
  |0,_=>exact .str_str _ _ _ _
  |1,_=>exact .str_str _ _ _ _
 ·show Value.bool ((List.range 2).all (fun j=>if j=0 then p.1==q.1 else p.2==q.2)&&true)=Value.bool (decide (p=q));rw[Bool.and_true,show List.range 2=[0,1] from rfl,LN,LN,List.all_nil];exact BL Value.bool (Yq p q).symm
def qP:R2:=fun x y H Q=>∃(b l:Ya)(p:PR)(ws:List PR)(xs:List V),x=.ref b/\y=.ref l/\H b=some (.tup (GQ p))/\H l=some (.lst xs)/\Ab H (ws.map Dm) xs/\Q (.bl (ws.any fun q=>decide (q=p))) H
def i3(hu:X.A.units+1<rR):Bx X (qz .In) qP:=by intro pins s σ H x y v u Q I rx ry h;obtain⟨b,l,p,ws,xs,rfl,rfl,hb,hl,rr,q⟩:=h;cases rx;cases ry;obtain⟨h0,r,pl,hz⟩:=I.list (AK.of (K:=X.K) hl);refine SeqAt.in_listAt (HH H p) pl.isList (fun w hw=>ZK I (show X.A.in1.units<rR from hu) hb rr r w (by simpa using hw)) ⟨.bl _,H,I,rfl,?_⟩;have e:=BL (fun l:List Bool=>l.any id) (Td H p rr r);simp only[List.any_map] at e;rw[show h0.toArray.any (HH H p)=h0.any (HH H p) by simp,show h0.any (HH H p)=h0.any (id∘HH H p) from rfl,e];exact q
def jt:V->List V->Hp->VK->Prop:=fun x vs H Q=>∃(b l:Ya)(p:PR)(ws:List PR)(xs:List V),x=.ref l/\vs=[.ref b]/\H b=some (.tup (GQ p))/\H l=some (.lst xs)/\Ab H (ws.map Dm) xs/\Q (.int (ws.countP fun q=>decide (q=p):Nat)) H
def ck(hu:X.A.units+1<rR):Ia X "list.count" jt:=by intro pins s σ H x vs v us Q I rx rv h;obtain⟨b,l,p,ws,xs,rfl,rfl,hb,hl,rr,q⟩:=h;cases rx;obtain⟨u,rfl,ru⟩:=rv.one;cases ru;obtain⟨z,h0,n,r,h1,e⟩:=I.Ku hl;refine KH F.slot_list_count ⟨_,e,rfl⟩ F.entry_list_count (F.args_list_count_2 _ _) (SeqAt.list_countAt l h0.toArray n none #[] (.ref b) (HH H p)) ⟨e,fun w hw=>ZK I (show X.A.in1.units<rR from hu) hb rr r w (by simpa using hw),?_⟩;refine⟨.int _,H,I.tok _,⟨_,rfl⟩,?_⟩;have e2:=BL (fun l:List Bool=>l.countP id) (Td H p rr r);simp only[List.countP_map] at e2;show Q (.int (h0.countP (HH H p):Nat)) H;rw[show h0.countP (HH H p)=h0.countP (id∘HH H p) from rfl,e2];exact q
def Inv.ZO{o u:HO}(I:Inv X pins σ H s)(h:H d=some o)(nt:∀xs,o≠.tup xs)(nw:∀x,o≠.own x)(nf:∀b u',X.H₀ d≠some (.BR b u'))(nb:∀ps,o≠.Js ps)(new:BP X.prog X.w (upd H d u) s.heap d u):Inv X pins σ (upd H d u) s:=by
 refine⟨I.ok,I.os,I.bare,⟨I.base.keep,I.base.slot,fun b ob q n hx=>?_,I.base.there,fun b xs q=>?_,fun b ob u' q=>?_,fun b ps q=>?_⟩,I.loc,I.cell,?_,fun x c e=>?_,fun p hp=>?_,fun b ob q=>?_,I.len⟩
 ·have z:=I.base.free b ob q n hx;rw[AQ (fun y=>by rw[y,h] at z;cases z)];exact z
 ·have z:=I.base.FQ b xs q;rw[AQ (fun y=>by rw[y,h] at z;exact nt xs (Af z))];exact z
 ·have z:=I.base.Ee b ob u' q;rw[AQ (fun y=>nf ob u' (by rw[<-y];exact q))];exact z
 ·obtain⟨m,z⟩:=I.base.FN b ps q;exact⟨m,by rw[AQ (fun y=>by rw[y,h] at z;exact nb _ (Af z))];exact z⟩
 ·rw[AQ (fun y=>by have:=I.free;rw[y,h] at this;cases this)];exact I.free
 ·rw[AQ (fun y=>by have:=I.DP x c e;rw[y,h] at this;cases this)];exact I.DP x c e
 ·obtain⟨e,n,r⟩:=I.pin p hp;exact⟨e,by rw[AQ (fun y=>by rw[y,h] at n;cases n)];exact n,r⟩
 ·by_cases hb:b=d
  ·subst hb;rw[AM] at q;cases q;exact new
  ·rw[AQ hb] at q;refine(I.hok b ob q).Eu (fun _ _ _ z=>z) (fun c z=>?_) fun c xs z=>?_
   ·rw[AQ (fun y=>by rw[y,h] at z;exact nw _ (Af z))];exact z
   ·rw[AQ (fun y=>by rw[y,h] at z;exact nt _ (Af z))];exact z
def Inv.Lu(I:Inv X pins σ H s)(h:H d=some (.dK AD))(b:Obj)(u:HO):X.H₀ d≠some (.BR b u):=fun z=>by have:=I.base.Ee d b u z;rw[h] at this;cases this
def BP.Z3(x:BP P w H h d (.dK AD)):BP P w H' h d (.dK AD):=x
def Inv.Zr(I:Inv X pins σ H s)(h:H d=some (.dK AD)):∃o es ep,s.heap.get? d=some o/\o.data=.dict es ep/\Inv X pins σ (upd H d (.BR o (.dK AD))) s:=by have ok:=I.hok d _ h;obtain⟨z,hm,vs,h0,o,es,ep,ho,hc,hd,r⟩:=(show BP X.prog X.w H s.heap d (.dK AD) from ok);refine⟨o,es,ep,ho,hd,I.ZO h (fun _ q=>nomatch q) (fun _ q=>nomatch q) (I.Lu h) (fun _ q=>nomatch q) ⟨ho,BP.Z3 (show BP X.prog X.w H s.heap d (.dK AD) from ok)⟩⟩
def Inv.Nr(I:Inv X pins σ H s)(nf:∀b u',X.H₀ d≠some (.BR b u'))(h:H d=some (.BR o (.dK AD))):Inv X pins σ (upd H d (.dK AD)) s:=by have ok:=I.hok d _ h;obtain⟨ho,z⟩:=(show BP X.prog X.w H s.heap d (.BR o (.dK AD)) from ok);exact I.ZO h (fun _ q=>nomatch q) (fun _ q=>nomatch q) nf (fun _ q=>nomatch q) (BP.Z3 (show BP X.prog X.w H s.heap d (.dK AD) from z))
def ng(d:Ya)(AD:List (Key×V))(te:TE):TE:=fun σ H Q=>H d=some (.dK AD)/\te σ H fun v H'=>∃o,H' d=some (.BR o (.dK AD))/\Q v (upd H' d (.dK AD))
def Yp(he:PE X e te):PE X e (fun σ H Q=>∃d AD,ng d AD te σ H Q):=by intro pins s σ H Q I h;obtain⟨d,AD,hd,h⟩:=h;refine Ah (he pins s σ H _ I h) fun v s1 ⟨x,H',I1,r,o,ho,q⟩=>?_;exact⟨x,_,I1.Nr (I.Lu hd) ho,r,q⟩
def pB(d:Ya)(AD:List (Key×V))(t:TS):TS:=fun D σ H=>H d=some (.dK AD)/\t {nx:=(fun σ' H'=>∃o,H' d=some (.BR o (.dK AD))/\D.nx σ' (upd H' d (.dK AD))),rt:=(fun v H'=>∃o,H' d=some (.BR o (.dK AD))/\D.rt v (upd H' d (.dK AD))),bk:=(fun σ' H'=>∃o,H' d=some (.BR o (.dK AD))/\D.bk σ' (upd H' d (.dK AD))),ct:=(fun σ' H'=>∃o,H' d=some (.BR o (.dK AD))/\D.ct σ' (upd H' d (.dK AD)))} σ H
def jx{st:qu}{t:TS}(hs:PS X st t):PS X st (fun D σ H=>∃d AD,pB d AD t D σ H):=by
 intro pins s σ H D I h;obtain⟨d,AD,hd,h⟩:=h;refine Ah (hs pins s σ H _ I h) fun f s1 z=>?_
 cases f with
 |next=>obtain⟨σ',H',J,o,ho,q⟩:=z;exact⟨σ',_,J.Nr (I.Lu hd) ho,q⟩
 |brk=>obtain⟨σ',H',J,o,ho,q⟩:=z;exact⟨σ',_,J.Nr (I.Lu hd) ho,q⟩
 |cont=>obtain⟨σ',H',J,o,ho,q⟩:=z;exact⟨σ',_,J.Nr (I.Lu hd) ho,q⟩
 |ret u=>obtain⟨v,σ',H',J,r,o,ho,q⟩:=z;exact⟨v,σ',_,J.Nr (I.Lu hd) ho,r,q⟩
noncomputable def IM(p d:Ya):HO:=.ext fun h=>h.IsItemsView p d
def mw:V->List V->Hp->VK->Prop:=fun x vs H Q=>∃d AD,x=.ref d/\vs=[]/\H d=some (.dK AD)/\∀p,H p=none->Q (.ref p) (upd H p (IM p d))
def XU:Ia X "dict.items" mw:=by intro pins s σ H x vs v us Q I rx rv h;obtain⟨d,AD,rfl,rfl,hd,q⟩:=h;cases rx;cases rv;obtain⟨z,hm,ws,h0,dd⟩:=Jc I.hok hd;refine Ol VG dd.typeIs PySem.F.entry_dict_items (PySem.F.args_dict_items_1 _) (meets_dict_items (Ci X.prog X.w) d hm) ⟨⟨ws,dd⟩,?_⟩;refine⟨.ref s.heap.objs.size,_,I.laid (t':=s.toks) (o:=IM s.heap.objs.size d) (fun b o e=>BB _ e) (Ad _) ?_,rfl,q _ I.fresh⟩;have hv:(s.heap.push {cls:=.type "dict_items",data:=.fields #[.ref d]}).IsItemsView s.heap.objs.size d:=⟨_,CC _ rfl,rfl,rfl⟩;exact⟨hv,⟨_,CC _ rfl⟩,fun h1 h2 a k=>let⟨o,e,r⟩:=a;⟨o,k o e,r⟩⟩
def L7(d:Ya)(o:Obj)(AD:List (Key×V)):It:=
 ⟨fun i H=>H d=some (.BR o (.dK AD))/\i<AD.length,fun i H v H'=>∃p k x,v=.ref p/\H p=none/\AD[i]? =some (k,x)/\H'=upd H p (.tup [kV k,x]),fun i H=>H d=some (.BR o (.dK AD))/\AD.length<=i⟩
def Uu(d:Ya)(o:Obj)(AD:List (Key×V)):It:=
 ⟨fun i H=>H d=some (.BR o (.dK AD))/\i<AD.length,fun i H v H'=>∃k,AD[i]? =some (k,v)/\H'=H,fun i H=>H d=some (.BR o (.dK AD))/\AD.length<=i⟩
variable{ep:Nat}
def Ll{es:Array DictEntry}(ok:By P w H h)(e:H d=some (.BR o (.dK AD)))(hd:o.data=.dict es ep):∃vs,KV AD vs/\h.DictAt (Ci P w) d vs ep:=by obtain⟨ho,z,hm,vs,h2,o',h3,h4,h0,hc,h1,r⟩:=(show BP P w H h d (.BR o (.dK AD)) from ok d _ e);rw[ho] at h0;cases h0;rw[hd] at h1;cases h1;exact⟨vs,h2,o,es,ho,hc,hd,r⟩
def Tf{AD:List (Key×V)}{ws:List (Key×AA)}:KV AD ws->∀{i:Nat}{k:Key}{x:V},AD[i]? =some (k,x)->∃u,ws[i]? =some (k,u)/\RelV x u
 |.nil,i,k,x,e=>by simp at e
 |.cons r t,0,k,x,e=>by have e':=Af (show some _=some (k,x) from by simpa using e);subst e';rename_i b _ _;obtain⟨k',u⟩:=b;obtain⟨h1,h2⟩:=r;exact⟨u,by simp;exact h1.symm,h2⟩
 |.cons _ t,i+1,k,x,e=>by obtain⟨u,h1,h2⟩:=Tf (show KV _ _ from t) (i:=i) (k:=k) (x:=x) (by simpa using e);exact⟨u,by simpa using h1,h2⟩
def jS{k:Key}{key:AA}(h:(Ci P w).is k key=true):RelV (kV k) key:=by
 rcases Ge h with⟨i,t,rfl,rfl⟩|⟨x,t,rfl,rfl⟩
 ·exact⟨t,rfl⟩
 ·exact⟨t,rfl⟩
def cU:entryFor table "dict_itemiterator.__iter__" =some Builtin.«dict_keyiterator.__iter__»:=
 entryFor_alias (id':="dict_keyiterator.__iter__") (by kernel_rfl) rfl (by left) (by kernel_rfl)
def df{x1:Nat}(d it:Ya)(o:Obj)(AD:List (Key×V))(es:Array DictEntry)(ep:Nat)(hod:o.data=.dict es ep):
 Turn P w K (.Tuple elts x1 tpos) (L7 d o AD) [it] it (fun i h=>∃ok ov,IsItemIter h it d i AD.length ep ok ov) where
 mem:=by simp
 obj:=fun i h st b hb=>by
  obtain⟨ok,ov,he⟩:=st;have h0:b=it:=by simpa using hb
  subst h0;exact⟨_,he,fun v q=>nomatch q⟩
 keep:=fun i h h' st k=>by obtain⟨ok,ov,he⟩:=st;exact⟨ok,ov,k it (by simp) _ he⟩
 item:=by
  intro X hP hw hK hc i pins s σ H E I hf st hg;subst hP hw hK;obtain⟨ok,ov,he⟩:=st;obtain⟨hd,hi⟩:=hg;obtain⟨vs,h3,h5⟩:=Ll I.hok hd hod;have ex:AD[i]? =some (AD[i].1,AD[i].2):=Ar hi;obtain⟨u,hu,ru⟩:=Tf h3 ex;have hl:AD.length=vs.length:=JL h3;have hn:H s.heap.objs.size=none:=I.hok.fresh (Ad _);have lt:=A7 he;rw[hl] at he;refine wpAny_pyNext_items_item (knd:=Ci X.prog X.w) he h5 hu fun h7 h1 h4 e1 t1 z1 k1=>⟨_,rfl,?_⟩;refine wpAny_letOwnedTupleGo_items e1 fun h2 e2 sb=>?_;have h6:Heap.SameBut it h1 h2:=sb;have k2:∀b o,b∉[it]->s.heap.get? b=some o->h2.get? b=some o:=fun b o hb z=>by
   have h0:b≠it:=by simpa using hb
   exact(h6.2 b h0).trans (k1 b o h0 z)
  have t2:IsTup h2 s.heap.objs.size [h7,u].toArray:=⟨_,(h6.2 _ (E8 lt)).trans t1,rfl,_,rfl⟩;have I2:=I.V9 (h':=h2) (t':=s.toks) (xs:=[kV AD[i].1,AD[i].2]) hf k2 (fun b hb=>by
   have h0:b=it:=by simpa using hb
   rw[h0];exact⟨_,e2⟩) (.cons (jS h4) (.cons ru .nil)) (by exact zw) t2;refine⟨.ref s.heap.objs.size,_,I2,rfl,⟨_,_,_,rfl,hn,ex,rfl⟩,⟨h7,u,by rw[hl];exact e2⟩,fun b hb=>?_⟩;have h0:b=it:=by simpa using hb
  rw[h0,AQ (BN lt)];exact(hf it (by simp)).1
 done:=by intro X hP hw hK hc i pins s σ H E I hf st hg;subst hP hw hK;obtain⟨ok,ov,he⟩:=st;obtain⟨hd,hi⟩:=hg;obtain⟨vs,h3,h5⟩:=Ll I.hok hd hod;have hl:AD.length=vs.length:=JL h3;obtain⟨f0,f1,f2,f3,f4,f5⟩:=hf it (by simp);rw[hl] at he;exact wpAny_pyNext_items_end (knd:=Ci X.prog X.w) (I.ok.hd hc) he h5 (OG.mpr (by lia)) fun h' eb=>⟨rfl,I.turned (t':=s.toks) (fun b o hb e=>eb b o hb e) f0 f1 f3 f4 f5⟩
 self:=fun A i s Q E st h=>by obtain⟨ok,ov,he⟩:=st;have ty:s.TypeIs (.ref it) "dict_itemiterator" :=⟨_,he,rfl⟩;refine wpAny_pyIter_slot ty cM (Ii cM ty cU ?_ (PySem.F.args_dict_itemiterator_iter_1 _));show cm _ _ (ret (.ref it)) _ _ s;exact Ae ⟨_,rfl,"dict_itemiterator",_,ty,PySem.F.slot_dict_itemiterator_next.lookup,h⟩
def cy(d it:Ya)(o:Obj)(AD:List (Key×V))(es:Array DictEntry)(ep:Nat)(hod:o.data=.dict es ep):
 Turn P w K tg (Uu d o AD) [it] it (fun i h=>h.IsValIter it d i AD.length ep) where
 mem:=by simp
 obj:=fun i h st b hb=>by
  obtain⟨oi,he,hc,h2⟩:=st;have h3:b=it:=by simpa using hb
  subst h3;exact⟨_,he,fun v q=>by rw[h2] at q;cases q⟩
 keep:=fun i h h' st k=>st.at fun o z=>k it (by simp) o z
 item:=by
  intro X hP hw hK hc i pins s σ H E I hf st hg;subst hP hw hK;obtain⟨hd,hi⟩:=hg;obtain⟨vs,h0,h4⟩:=Ll I.hok hd hod;have ex:AD[i]? =some (AD[i].1,AD[i].2):=Ar hi;obtain⟨u,hu,ru⟩:=Tf h0 ex;have hl:AD.length=vs.length:=JL h0;obtain⟨f0,f1,f2,f3,f4,f5⟩:=hf it (by simp);rw[hl] at st;refine wpAny_pyNext_values_item (knd:=Ci X.prog X.w) st h4 hu fun h1 e1 sb=>⟨_,rfl,?_⟩;obtain⟨oi,he,h5,h2⟩:=id e1;refine P0 (s:={s with heap:=h1}) he h5 h2 (by decide) ?_;exact⟨AD[i].2,H,I.turned (t':=s.toks) (fun b o hb e=>(sb.2 b hb).trans e) f0 f1 f3 f4 f5,ru,⟨_,ex,rfl⟩,by rw[hl];exact e1,fun b hb=>by
   have h3:b=it:=by simpa using hb
   rw[h3];exact f0⟩
 done:=by intro X hP hw hK hc i pins s σ H E I hf st hg;subst hP hw hK;obtain⟨hd,hi⟩:=hg;obtain⟨vs,h0,h4⟩:=Ll I.hok hd hod;have hl:AD.length=vs.length:=JL h0;obtain⟨f0,f1,f2,f3,f4,f5⟩:=hf it (by simp);rw[hl] at st;exact wpAny_pyNext_values_end (knd:=Ci X.prog X.w) (I.ok.hd hc) st h4 (OG.mpr (by lia)) fun h' eb=>⟨rfl,I.turned (t':=s.toks) (fun b o hb e=>eb b o hb e) f0 f1 f3 f4 f5⟩
 self:=fun _ _ _ _ _ st h=>wpAny_pyIter_valiter st h
def lV(tl:TE):TI:=fun σ H R=>tl σ H fun x H1=>∃p d AD,x=.ref p/\H1 p=some (IM p d)/\H1 d=some (.dK AD)/\∀o,R (L7 d o AD) (upd H1 d (.BR o (.dK AD)))
def nP(tl:TE):TI:=fun σ H R=>tl σ H fun x H1=>∃p d AD,x=.ref p/\H1 p=some (Hq p d)/\H1 d=some (.dK AD)/\∀o,R (Uu d o AD) (upd H1 d (.BR o (.dK AD)))
def Xp{x1:Nat}{l:qv}{tl:TE}(hl:PE X l tl):PI X (.Tuple elts x1 tpos) l (lV tl):=by
 intro pins s σ H R I h;refine Ah (hl pins s σ H _ I h) fun v s1 ⟨x,H1,I1,r,p,d,AD,ex,hp,hd,q⟩=>?_;subst ex;cases r;obtain⟨h2,_⟩:=(show BP X.prog X.w H1 s1.heap p (IM p d) from I1.hok p _ hp);obtain⟨o,es,ep,ho,h0,I2⟩:=I1.Zr hd;obtain⟨vs,h1,h5⟩:=Ll I2.hok AM h0;have h3:AD.length=vs.length:=JL h1;refine wpAny_pyIter_items (knd:=Ci X.prog X.w) h2 h5 ?_;refine⟨s1.heap.objs.size,[s1.heap.objs.size],_,_,_,rfl,I2.kept (t':=s1.toks) (fun b o e=>BB _ e),df d _ o AD es ep h0,⟨.none,.none,?_⟩,fun b hb=>?_,q o⟩
 ·rw[h3];exact CC _ rfl
 ·have h4:b=s1.heap.objs.size:=by simpa using hb
  rw[h4];exact I2.Ko (Ad _) (I2.hok.fresh (Ad _))
def jO{l:qv}{tl:TE}(hl:PE X l tl):PI X tg l (nP tl):=by
 intro pins s σ H R I h;refine Ah (hl pins s σ H _ I h) fun v s1 ⟨x,H1,I1,r,p,d,AD,ex,hp,hd,q⟩=>?_;subst ex;cases r;obtain⟨h2,_⟩:=(show BP X.prog X.w H1 s1.heap p (Hq p d) from I1.hok p _ hp);obtain⟨o,es,ep,ho,h0,I2⟩:=I1.Zr hd;obtain⟨vs,h1,h5⟩:=Ll I2.hok AM h0;have h3:AD.length=vs.length:=JL h1;refine wpAny_pyIter_values (knd:=Ci X.prog X.w) h2 h5 ?_;refine⟨s1.heap.objs.size,[s1.heap.objs.size],_,_,_,rfl,I2.kept (t':=s1.toks) (fun b o e=>BB _ e),cy d _ o AD es ep h0,?_,fun b hb=>?_,q o⟩
 ·exact⟨_,CC _ rfl,rfl,by rw[h3];rfl⟩
 ·have h4:b=s1.heap.objs.size:=by simpa using hb
  rw[h4];exact I2.Ko (Ad _) (I2.hok.fresh (Ad _))
def dr{Q:VK}(Pv:Nat->Hp->Prop)(h0:Pv 0 (upd H1 D (.lst [])))(hl:∀i H,Pv i H->H d=some (.BR o (.dK AD)))
 (hs:∀i k x p H,AD[i]? =some (k,x)->H p=none->Pv i H->g (.ref p) (ts.map (fun _=>none)++EK ix σ) (upd H p (.tup [kV k,x])) fun σ2 H2=>JB ts ix σ σ2/\ti σ2 H2 fun b H3=>if b=true then te σ2 H3 fun y H4=>∃ys,H4 D=some (.lst ys)/\ys.length<sizeLine/\Pv (i+1) (upd H4 D (.lst (ys++[y]))) else Pv (i+1) H3)
 (hd:∀H,Pv AD.length H->Q (.ref D) H):Lr ts ix σ (L7 d o AD) g ti te D Q H1:=by
 refine⟨fun i m H=>m=AD.length-i/\i<=AD.length/\Pv i H,⟨AD.length,by simp,CN _,h0⟩,?_⟩;rintro i m H ⟨rfl,hi,p⟩;by_cases h1:i<AD.length
 ·refine .inr ⟨⟨hl i H p,h1⟩,Pv (i+1),fun H' p'=>⟨AD.length-(i+1),by lia,rfl,h1,p'⟩,fun v H' y=>?_⟩;obtain⟨q,k,x,ev,hq,ex,eH⟩:=y;subst ev eH;exact hs i k x q H ex hq p
 ·obtain rfl:i=AD.length:=by lia
  exact .inl ⟨⟨hl _ H p,Ad _⟩,hd H p⟩
def gQ{Q:VK}(Pv:Nat->Hp->Prop)(h0:Pv 0 (upd H1 D (.lst [])))(hl:∀i H,Pv i H->H d=some (.BR o (.dK AD)))
 (hs:∀i k x H,AD[i]? =some (k,x)->Pv i H->g x (ts.map (fun _=>none)++EK ix σ) H fun σ2 H2=>JB ts ix σ σ2/\ti σ2 H2 fun b H3=>if b=true then te σ2 H3 fun y H4=>∃ys,H4 D=some (.lst ys)/\ys.length<sizeLine/\Pv (i+1) (upd H4 D (.lst (ys++[y]))) else Pv (i+1) H3)
 (hd:∀H,Pv AD.length H->Q (.ref D) H):Lr ts ix σ (Uu d o AD) g ti te D Q H1:=by
 refine⟨fun i m H=>m=AD.length-i/\i<=AD.length/\Pv i H,⟨AD.length,by simp,CN _,h0⟩,?_⟩;rintro i m H ⟨rfl,hi,p⟩;by_cases h1:i<AD.length
 ·refine .inr ⟨⟨hl i H p,h1⟩,Pv (i+1),fun H' p'=>⟨AD.length-(i+1),by lia,rfl,h1,p'⟩,fun v H' y=>?_⟩;obtain⟨k,ex,eH⟩:=y;subst eH;exact hs i k v _ ex p
 ·obtain rfl:i=AD.length:=by lia
  exact .inl ⟨⟨hl _ H p,Ad _⟩,hd H p⟩
def ee{D:Ends}(Pv:Nat->St->Hp->Prop)(h0:Pv 0 σ H)(hl:∀i σ H,Pv i σ H->H d=some (.BR o (.dK AD)))
 (hs:∀i k x p σ H,AD[i]? =some (k,x)->H p=none->Pv i σ H->g (.ref p) σ (upd H p (.tup [kV k,x])) fun σ2 H2=>tb {D with nx:=Pv (i+1),ct:=Pv (i+1),bk:=D.nx} σ2 H2)(hd:∀σ H,Pv AD.length σ H->D.nx σ H):
 ∃W:Nat->Nat->St->Hp->Prop,(∃m,W 0 m σ H)/\∀i m σ H,W i m σ H->
  ((L7 d o AD).stop i H/\D.nx σ H)\/((L7 d o AD).go i H/\∃N:St->Hp->Prop,(∀σ' H',N σ' H'->∃m',m'<m/\W (i+1) m' σ' H')/\∀x H',(L7 d o AD).Ju i H x H'->g x σ H' fun σ2 H2=>tb {D with nx:=N,ct:=N,bk:=D.nx} σ2 H2):=by
 refine⟨fun i m σ H=>m=AD.length-i/\i<=AD.length/\Pv i σ H,⟨AD.length,by simp,CN _,h0⟩,?_⟩;rintro i m σ H ⟨rfl,hi,p⟩;by_cases h1:i<AD.length
 ·refine .inr ⟨⟨hl i σ H p,h1⟩,Pv (i+1),fun σ' H' p'=>⟨AD.length-(i+1),by lia,rfl,h1,p'⟩,fun v H' y=>?_⟩;obtain⟨q,k,x,ev,hq,ex,eH⟩:=y;subst ev eH;exact hs i k x q σ H ex hq p
 ·obtain rfl:i=AD.length:=by lia
  exact .inl ⟨⟨hl _ σ H p,Ad _⟩,hd σ H p⟩
def Xi{y:Str}{c e:Ya}(hc:X.calm=true)(hk:scope.kind=.function)(h:scope.names.all (fun p=>p.2 !=.cell&&(p.2 !=.free||(p.1==y||p.1==z)))=true)
 (hn:∀q∈scope.names,q.2=.local->scope.names.lookup q.1=some .local)(hcl:closureFor scope X.env=pure [(y,c),(z,e)])(hyz:z≠y)(hce:X.env.cells.lookup y=some c)(hce2:X.env.cells.lookup z=some e)(hx:X.env.kindOf y=some .cell)(hx2:X.env.kindOf z=some .cell)
 (hj:X.N[j]? =some y)(hj2:X.N[k]? =some z)(hr:(sV scope X.env).names.lookup y=some .cell)(hr2:(sV scope X.env).names.lookup z=some .cell):Kd X ts [y,z] [j,k] scope [(y,c),(z,e)]:=by
 have h0:∀q∈scope.names,q.2≠.cell/\(q.2=.free->q.1=y\/q.1=z):=fun q hq=>by have:=OZ.mp h q hq;simp only[F2,Bool.or_eq_true,bne_iff_ne,Gg] at this;exact⟨this.1,fun e=>this.2.elim (fun q=>absurd e q) id⟩
 have h3:∀q kd,(sV scope X.env).names.lookup q=some kd->(kd=.cell\/kd=.free)->q=y\/q=z:=fun q kd hq h5=>by
  have hm:=JG hq;obtain⟨p,hp,e⟩:=BZ.mp (show(q,kd)∈scope.names.map _ from hm);obtain⟨n,kq⟩:=p;have h4:=h0 (n,kq) hp;by_cases hf:kq=.free
  ·have e1:=h4.2 hf;have e2:n=q:=by have:=BL Prod.fst e;revert this;dsimp only;split<;>exact id
   rw[<-e2];exact e1
  ·have e3:(n,kq)=(q,kd):=by
    rw[<-e];dsimp only;rw[AG (by
     intro zz;have:(kq==NameKind.free)=true:=by simp only[F2] at zz;exact zz.1.1
     exact hf (by simpa using this))]
   have e4:kq=kd:=BL Prod.snd e3;rcases h5 with z1|z1
   ·exact absurd (e4.trans z1) h4.1
   ·exact absurd (e4.trans z1) hf
 have l1:List.lookup y [(y,c),(z,e)]=some c:=by rw[HY,JI]
 have l2:List.lookup z [(y,c),(z,e)]=some e:=by rw[HY,LG hyz,HY,JI]
 refine⟨hc,hcl,fun q hq=>(h0 q hq).1,hk,hn,fun q a e'=>?_,fun q hq=>?_,rfl,fun i q m e1 e2=>?_,fun q hq=>?_⟩
 ·by_cases h1:q=y
  ·rw[h1] at e'⊢;rw[l1] at e';rw[<-Af e'];exact hce
  ·by_cases h2:q=z
   ·rw[h2] at e'⊢;rw[l2] at e';rw[<-Af e'];exact hce2
   ·rw[HY,LG h1,HY,LG h2] at e';cases e'
 ·have e:=hq.elim (fun r=>h3 q _ r (.inl rfl)) fun r=>h3 q _ r (.inr rfl);rcases e with e|e
  ·rw[e];exact⟨c,l1⟩
  ·rw[e];exact⟨_,l2⟩
 ·match i with
  |0=>
   have e3:q=y:=by simpa using e1.symm
   have e4:m=j:=by simpa using e2.symm
   rw[e3,e4];exact hj
  |1=>
   have e3:q=z:=by simpa using e1.symm
   have e4:m=k:=by simpa using e2.symm
   rw[e3,e4];exact hj2
  |i+2=>simp at e1
 ·have e:q=y\/q=z:=by simpa using hq
  rcases e with e|e
  ·rw[e];exact⟨.inr (.inl hx),(by rw[hx];intro q;cases q),.inl hr⟩
  ·rw[e];exact⟨.inr (.inl hx2),(by rw[hx2];intro q;cases q),.inl hr2⟩
def bw{y:Str}(h:x≠y)(h2:x≠z)(h3:y≠z):([x]++[y,z]:List Str).Nodup:=by simp[h,h2,h3]
def UY{y:Str}{u:V}:JB [x,y] ix σ (((([x,y]:List Str).map (fun _=>(none:Option V))++EK ix σ).set 0 (some u)).set 1 (some v)):=⟨[some u,some v],rfl,rfl⟩
def Wi(hc:X.calm=true):DO X (.builtin "sum") (fun xs H Q=>∃(l:Ya)(ns:List Int),xs=[.ref l]/\AK X.K H l (ns.map V.int)/\Q (.int ns.sum) H):=by
 intro h1 s σ H xs us Q I r h;obtain⟨l,ns,rfl,hq,q⟩:=h;obtain⟨u,rfl,rx⟩:=vals1 r;cases rx;obtain⟨h0,rv,pl,hz⟩:=I.list hq;have hh:X.A.handled=none:=I.ok.hd hc;obtain⟨l',e,en⟩:∃l:List (Int×Tok),l.map (fun p=>Value.int p.1 p.2)=h0/\l.map (·.1)=ns:=by
  have:∀(ns:List Int)(us:List AA),Vals (ns.map V.int) us->∃l:List (Int×Tok),l.map (fun p=>Value.int p.1 p.2)=us/\l.map (·.1)=ns:=by
   intro ns
   induction ns with
   |nil=>intro us h;cases h;exact⟨[],rfl,rfl⟩
   |cons n r ih=>
    intro us h
    cases h with
    |cons a t=>obtain⟨l,e,en⟩:=ih _ t;obtain⟨k,ek⟩:=a;exact⟨(n,k)::l,by rw[Av,e,ek],by rw[Av,en]⟩
  exact this ns h0 rv
 have ex:intItems l'.toArray=h0.toArray:=by unfold intItems;rw[<-e];simp
 refine sum_intListG hh (xs:=l'.toArray) (by rw[ex];exact pl.isList) fun h' tk t' kk=>?_;refine⟨.int _,H,I.kept kk,⟨t',rfl⟩,?_⟩;rw[preSum_eq];have:((l'.toArray.toList.map (·.1)).take l'.toArray.size)=ns:=by
  show(l'.map (·.1)).take l'.length=ns;rw[en,F0];have:=BL List.length en;rw[AL] at this
  lia
 rw[this];exact q
noncomputable def QX(sep:Str):List Str->Str
 |[p]=>p
 |l=>PySem.Builtin.Str.glued sep l
def rJoin(K:uT):V->List V->Hp->VK->Prop:=fun x vs H Q=>∃(h0:Str)(l:Ya)(zs:List Str),x=.str h0/\vs=[.ref l]/\AK K H l (zs.map V.str)/\zs.foldl (·+·.length+h0.length) 0<=sizeLine/\(QX h0 zs).length<=sizeLine/\Q (.str (QX h0 zs)) H
def X8:∀(zs:List Str)(us:List AA),Vals (zs.map V.str) us->∃l:List (Str×Tok),strValues l=us/\l.map (·.1)=zs
 |[],us,h=>by cases h;exact⟨[],rfl,rfl⟩
 |z::zs,us,h=>by
  cases h with
  |cons a t=>obtain⟨l,e,en⟩:=X8 zs _ t;obtain⟨k,ek⟩:=a;exact⟨(z,k)::l,by show Value.str z k::strValues l=_;rw[e,ek],by rw[Av,en]⟩
def YF:Ia X "str.join" (rJoin X.K):=by
 intro h2 s σ H x vs v us Q I rx rv h;obtain⟨h1,l,zs,rfl,rfl,hq,hz,h0,q⟩:=h;obtain⟨t,rfl⟩:=rx;obtain⟨u,rfl,ru⟩:=rv.one;cases ru;obtain⟨h3,r,pl,h4⟩:=I.list hq;obtain⟨l',e,en⟩:=X8 zs h3 r;refine KH F.slot_str_join (LU _ _ _) F.entry_str_join (F.args_str_join_2 _ _) (meets_str_join_list h1 t l l' ?_) ⟨by rw[e];exact pl.isList,?_⟩
 ·rw[en];unfold Builtin.Str.tooLong;simpa using hz
 ·match l',en with
  |[],en=>subst en;exact⟨h0,.str _,H,I.tok _,⟨_,rfl⟩,q⟩
  |[p],en=>subst en;exact⟨.str _,H,I,⟨_,rfl⟩,q⟩
  |p::p2::l,en=>subst en;exact⟨h0,.str _,H,I.tok _,⟨_,rfl⟩,q⟩
def oY(a b:Str)(tx:TE):TE:=fun σ H Q=>tx σ H fun v H1=>∃z,v=.str z/\z.length<=4000000/\Q (.str (a++z++b)) H1
def jM{a b:Str}{x:qv}{tx:TE}{k1 k2:Nat}{p1 p2 p3 p4:Pos}(hx:PE X x tx)(ha:a.length<=1000)(hb:b.length<=1000):PE X (.JoinedStr [.Constant (.str a) k1 p1,.FormattedValue x (-1) none p2,.Constant (.str b) k2 p3] p4) (oY a b tx):=by
 intro h0 s σ H Q I h;refine wpAny_JoinedStr ?_;refine Vd ⟨a,_,rfl,?_,?_⟩
 ·rw[Fc,A9];show 0+a.length<=_;lia
 refine wpAny_FormattedValue_plain (Ah (hx h0 _ σ H _ (I.tok _) h) fun v s1 ⟨y,H1,I1,r,z,ey,hz,q⟩=>?_);subst ey;obtain⟨t,rfl⟩:=r;have h2:∀(u:Tok)(s2:Yf),Inv X h0 σ H1 s2->∃y t,Value.str z u=.str y t/\(Str.empty++a++y).length<=sizeLine/\Joins (ax X.prog X.w) X.A X.xe [rC (.Constant (.str b) k2 p3) X.env] (Str.empty++a++y) (fun h1 s₁=>h1.length<=sizeLine/\EP X h0 σ Q (.str h1 s₁.toks) {s₁ with toks:=s₁.toks+1}) s2:=fun u s2 I2=>by
  refine⟨z,u,rfl,?_,Vd ⟨b,_,rfl,?_,?_,?_⟩⟩
  ·rw[Fc,Fc,A9];show 0+a.length+z.length<=_;lia
  ·rw[Fc,Fc,Fc,A9];show 0+a.length+z.length+b.length<=_;lia
  ·rw[Fc,Fc,Fc,A9];show 0+a.length+z.length+b.length<=_;lia
  ·refine⟨.str (Str.empty++a++z++b),H1,(I2.tok _).tok _,⟨_,rfl⟩,?_⟩;have e:Str.empty++a=a:=by obtain⟨c⟩:=a;show(⟨#[]++c⟩:Str)=⟨c⟩;rw[Array.empty_append]
   rw[e];exact q
 exact wpAny_formatField_str (h2 t s1 I1) (h2 _ _ (I1.tok _)) (by rw[A9];lia)
structure CI(H1:Hp)(D:Ya)(out:List Dt)(H:Hp):Prop where
 same:AO H1 H
 fr:H1 D=none
 lst:∃ys,H D=some (.lst ys)/\Ab (Ex H D) out ys
def CI.start(h:H1 D=none):CI H1 D [] (upd H1 D (.lst [])):=⟨AY h,h,[],AM,Ab.nil⟩
def CI.ext{out:List Dt}(c:CI H1 D out H)(s:AO H H'):CI H1 D out H':=by obtain⟨ys,h,r⟩:=c.lst;exact⟨c.same.trans s,c.fr,ys,s _ _ h,r.same (Ex.mono s)⟩
def CI.push{out:List Dt}{d:Dt}(c:CI H1 D out H)(r:Rep (Ex H D) d y)(hl:out.length<=200000):∃ys,H D=some (.lst ys)/\ys.length<sizeLine/\CI H1 D (out++[d]) (upd H D (.lst (ys++[y]))):=by
 obtain⟨ys,h,rr⟩:=c.lst;refine⟨ys,h,?_,c.same.upd c.fr,c.fr,ys++[y],AM,?_⟩
 ·have:=rr.1;rw[A9]
  lia
 ·rw[Ex.upd];exact rr.snoc r
def CI.done{out:List Dt}(c:CI H1 D out H):Rep H (.lst out) (.ref D):=by obtain⟨ys,h,rr⟩:=c.lst;exact Rep.FY h (rr.same Ex.sub)
def EG(r:Rep H (.lst ds) v):∃a xs,v=.ref a/\H a=some (.lst xs)/\Ab H ds xs:=by
 cases r with
 |lst h hl rr=>exact⟨_,_,rfl,h,hl,rr⟩
def Mp(hD:H D=some (.dK AD)){d:Dt}(r:Rep H d v):Rep (Ex H D) d v:=by
 induction r with
 |bl b=>exact .bl b
 |int i=>exact .int i
 |str x=>exact .str x
 |lst h hl _ ih=>exact .lst (Ex.at h (Ca h hD (by intro z;cases z))) hl ih
 |tup h hl _ ih=>exact .tup (Ex.at h (Ca h hD (by intro z;cases z))) hl ih
def F9{f:α->Dt}{ws:List α}{xs:List V}(r:Ab H (ws.map f) xs){x:V}(h:xs[i]? =some x):∃w,ws[i]? =some w/\Rep H (f w) x:=by
 have hl:i<ws.length:=by
  have h1:=(BX.mp h).1;have h2:=r.1;rw[AL] at h2
  lia
 refine⟨ws[i],Ar hl,r.2 i _ x ?_ h⟩;rw[Az,Ar hl];rfl
def JK{f:α->β}{ws:List α}{w:α}(h:ws[i]? =some w):(ws.take (i+1)).map f=(ws.take i).map f++[f w]:=by rw[Di,h,BG];rfl
def take_succ_filter{p:α->Bool}{ws:List α}{w:α}(h:ws[i]? =some w):(ws.take (i+1)).filter p=(ws.take i).filter p++(if p w=true then[w] else[]):=by
 rw[Di,h,MW];congr 1;show List.filter p [w]=_;by_cases z:p w=true
 ·rw[AH z,Ej z];rfl
 ·rw[AG z,Fb z];rfl
def Sk{y:Str}{p1 p2:Pos}(hK:X.K=K)(hc:X.calm=true)(hN:X.N.Nodup)(hi:X.N[i]? =some x)(hx:Loc X.env.scope x)(hf:X.fn x=true\/X.env.scope.names.lookup x=some .local)(hj:X.N[j]? =some y)(hy:Loc X.env.scope y)(hg:X.fn y=true\/X.env.scope.names.lookup y=some .local):
 PG X (.Tuple [.Name x p1,.Name y p2] k pos) (UG K 2 (Lq (Ec i) (Lq (Ec j) Uc))):=by
 subst hK;exact Na hc (Hc (BY hN hi hx hf) (Hc (BY hN hj hy hg) NK))
def kG{l:Nat}{y:Str}{p1 p2 p3:Pos}(hK:X.K=K)(hc:X.calm=true)(hN:X.N.Nodup)(hi:X.N[i]? =some x)(hx:Loc X.env.scope x)(hf:X.fn x=true\/X.env.scope.names.lookup x=some .local)(hj:X.N[j]? =some y)(hy:Loc X.env.scope y)(hg:X.fn y=true\/X.env.scope.names.lookup y=some .local)
 (hl:X.N[l]? =some z)(hz:Loc X.env.scope z)(hh:X.fn z=true\/X.env.scope.names.lookup z=some .local):
 PG X (.Tuple [.Name x p1,.Name y p2,.Name z p3] k pos) (UG K 3 (Lq (Ec i) (Lq (Ec j) (Lq (Ec l) Uc)))):=by
 subst hK;exact Na hc (Hc (BY hN hi hx hf) (Hc (BY hN hj hy hg) (Hc (BY hN hl hz hh) NK)))
section
variable{o:qv}{es:List qv}{to:TE}{t:TA}{id:String}
def mj(K:uT)(hK:X.K=K)(pa:tO T)(slot:Slot T name id)(hty:typeOf (.builtin id)=pure (.type "method_descriptor"))(hm:N5 X id r)(ho:PE X o to)(ha:PA X (e::es) t)
 (hbase:rK o name X.env (rC o X.env)=rC o X.env:=by rfl)
 (hfew:((rN cpos (hX (e::es) X.env)).all (fun x=> !x.1)&&(sY cpos (rW [] X.env)).all (fun x=>x.1.isSome)&&decide ((e::es).length+([]:List sd).length+(if([]:List sd).isEmpty then 0 else 1)<30))=true:=by rfl)
 (hline:(apos.endLine==cpos.line)=true:=by rfl)(hs:hX (e::es) X.env=(false,rC e X.env)::hX es X.env:=by rfl)(hplain:(rN cpos (hX es X.env)).any (·.1)=false:=by rfl):
 PE X (.Call (.Attribute o name apos) (e::es) [] cpos) (Uz K T r to t):=by
 subst hK;exact Iy pa slot hty hm ho ha hbase hfew hline hs hplain
def kF(K:uT)(hK:X.K=K){f:Str}(he:PE X e ta)(hb:rK e f X.env (rC e X.env)=rC e X.env):PE X (.Attribute e f pos) (bB K ta f):=by subst hK;exact Cq he hb
end
def fQ{xs:List V}{Q:VK}(Pv:Nat->Hp->Prop)(h0:Pv 0 (upd H1 D (.lst [])))(hl:∀i H,i<=xs.length->Pv i H->AK K H a xs)
 (hs:∀i x p H,xs[i]? =some x->H p=none->Pv i H->g (.ref p) (ts.map (fun _=>none)++EK ix σ) (upd H p (.tup [.int i,x])) fun σ2 H2=>JB ts ix σ σ2/\ti σ2 H2 fun b H3=>if b=true then te σ2 H3 fun y H4=>∃ys,H4 D=some (.lst ys)/\ys.length<sizeLine/\Pv (i+1) (upd H4 D (.lst (ys++[y]))) else Pv (i+1) H3)
 (hd:∀H,Pv xs.length H->Q (.ref D) H):Lr ts ix σ (MA K a) g ti te D Q H1:=by
 refine⟨fun i m H=>m=xs.length-i/\i<=xs.length/\Pv i H,⟨xs.length,by simp,CN _,h0⟩,?_⟩;rintro i m H ⟨rfl,hi,p⟩;have q:=hl i H hi p;by_cases h1:i<xs.length
 ·refine .inr ⟨⟨xs,xs[i],q,by simp[h1]⟩,Pv (i+1),fun H' p'=>⟨xs.length-(i+1),by lia,rfl,h1,p'⟩,fun v H' y=>?_⟩;obtain⟨pa,ev,hp,y⟩:=y;obtain⟨x,hx,eH⟩:=y xs q;subst ev eH;exact hs i x pa H hx hp p
 ·obtain rfl:i=xs.length:=by lia
  exact .inl ⟨⟨xs,q,Ad _⟩,hd H p⟩
section
variable{xs:List V}
def Ex.ne(h:b≠D):Ex H D b=H b:=by unfold Ex;rw[AG h]
def Ex.self:Ex H D D=none:=by unfold Ex;rw[AH rfl]
def Inv.oB(I:Inv X pins σ H s)(h:H D=some (.lst xs)):∃o:Obj,(∃(AX:List AA)(n:Nat),Vals xs AX/\o={cls:=.type "list",data:=.seq AX.toArray n})/\xs.length<=sizeLine/\Inv X (pins++[(D,o)]) σ (Ex H D) s:=by
 obtain⟨hz,AX,n,rv,ho⟩:=(show BP X.prog X.w H s.heap D (.lst xs) from I.hok D _ h);have nD:∀b,H b=none->b≠D:=fun b hb z=>by rw[z,h] at hb;cases hb
 refine⟨_,⟨AX,n,rv,rfl⟩,hz,I.ok,I.os,I.bare,⟨I.base.keep,I.base.slot,fun b ob q nn hx=>?_,I.base.there,fun b ys q=>?_,fun b ob u q=>?_,fun b ps q=>?_⟩,I.loc,I.cell,?_,fun x c e=>?_,fun p hp=>?_,fun b ob q=>?_,I.len⟩
 ·have z:=I.base.free b ob q nn hx;rw[Ex.ne (nD b z)];exact z
 ·have z:=I.base.FQ b ys q;rw[Ex.ne (fun y=>by rw[y,h] at z;cases z)];exact z
 ·have z:=I.base.Ee b ob u q;rw[Ex.ne (fun y=>by rw[y,h] at z;cases z)];exact z
 ·obtain⟨m,z⟩:=I.base.FN b ps q;exact⟨m,by rw[Ex.ne (fun y=>by rw[y,h] at z;cases z)];exact z⟩
 ·rw[Ex.ne (nD _ I.free)];exact I.free
 ·rw[Ex.ne (nD _ (I.DP x c e))];exact I.DP x c e
 ·rw[<-Bl] at hp;rcases Bp.mp hp with z|z
  ·obtain⟨e,nn,r⟩:=I.pin p z;exact⟨e,by rw[Ex.ne (nD _ nn)];exact nn,r⟩
  ·have e:=Bk.mp z;subst e;refine⟨ho,Ex.self,fun z=>?_,fun z=>?_,fun v z=>nomatch z⟩
   ·have:=I.free;rw[<-z,h] at this;cases this
   ·obtain⟨_,o,h0,_⟩:=I.ok.FK.mem z;by_cases hx:D∈X.ex
    ·exact I.ok.Ky D hx z
    ·have:=I.base.free D o h0 (I.ok.IX D z) hx;rw[h] at this;cases this
 ·by_cases hb:b=D
  ·rw[hb,Ex.self] at q;cases q
  ·rw[Ex.ne hb] at q;refine(I.hok b ob q).Eu (fun _ _ _ z=>z) (fun c z=>?_) fun c ys z=>?_
   ·rw[Ex.ne (fun y=>by rw[y,h] at z;cases z)];exact z
   ·rw[Ex.ne (fun y=>by rw[y,h] at z;cases z)];exact z
def Inv.oX{n:Nat}(I:Inv X (pins++[(D,{cls:=.type "list",data:=.seq AX.toArray n})]) σ H s)(rv:Vals xs AX)(hz:xs.length<=sizeLine)(h0:∀o,X.s₀.heap.get? D=some o->D∈X.ex\/X.H₀ D≠none)(hp0:∀p∈X.pn++pins,p.1≠D):H D=none/\Inv X pins σ (upd H D (.lst xs)) s:=by
 obtain⟨e,nn,nl,nf,_⟩:=I.pin (D,{cls:=.type "list",data:=.seq AX.toArray n}) (by rw[<-Bl];exact EU _ (.head _));have nn:H D=none:=nn;refine⟨nn,I.ok,I.os,I.bare,⟨I.base.keep,I.base.slot,fun b ob q n0 hx=>?_,I.base.there,fun b ys q=>?_,fun b ob u q=>?_,fun b ps q=>?_⟩,I.loc,I.cell,?_,fun x c ec=>?_,fun p hp=>?_,fun b ob q=>?_,I.len⟩
 ·have z:=I.base.free b ob q n0 hx;by_cases hb:b=D
  ·subst hb;rcases h0 ob q with y|y
   ·exact absurd y hx
   ·exact absurd n0 y
  ·rw[AQ hb];exact z
 ·have z:=I.base.FQ b ys q;rw[AQ (A2 z nn)];exact z
 ·have z:=I.base.Ee b ob u q;rw[AQ (A2 z nn)];exact z
 ·obtain⟨m,z⟩:=I.base.FN b ps q;exact⟨m,by rw[AQ (A2 z nn)];exact z⟩
 ·rw[AQ (fun z=>nl z.symm)];exact I.free
 ·have hc:=I.cell x c ec;rw[AQ (fun z=>by obtain⟨v,oc,h1,h2⟩:=hc;rw[z] at h1;have e':s.heap.get? D=some {cls:=.type "list",data:=.seq AX.toArray n}:=e;rw[e'] at h1;cases h1;cases h2)];exact I.DP x c ec
 ·obtain⟨e1,n1,r1⟩:=I.pin p (by rw[<-Bl];exact Ig _ hp);exact⟨e1,by rw[AQ (hp0 p hp)];exact n1,r1⟩
 ·by_cases hb:b=D
  ·subst hb;rw[AM] at q;cases q;exact⟨hz,AX,n,rv,e⟩
  ·rw[AQ hb] at q;refine(I.hok b ob q).Eu (fun _ _ _ z=>z) (fun c z=>?_) fun c ys z=>?_
   ·rw[AQ (A2 z nn)];exact z
   ·rw[AQ (A2 z nn)];exact z
end
def Xl(he:PE X e te):PE X e (fun σ H Q=>∃D xs,H D=some (.lst xs)/\te σ (Ex H D) fun v H'=>H' D=none->Q v (upd H' D (.lst xs))):=by
 intro pins s σ H Q I h;obtain⟨D,xs,hD,h⟩:=h;obtain⟨o,⟨h2,n,rv,rfl⟩,hz,I2⟩:=I.oB hD;have h0:∀o,X.s₀.heap.get? D=some o->D∈X.ex\/X.H₀ D≠none:=fun o ho=>by
  by_cases hx:D∈X.ex
  ·exact .inl hx
  ·exact .inr fun z=>by have:=I.base.free D o ho z hx;rw[hD] at this;cases this
 have h1:∀p∈X.pn++pins,p.1≠D:=fun p hp z=>by obtain⟨_,nn,_⟩:=I.pin p hp;rw[z,hD] at nn;cases nn
 refine Ah (he _ s σ _ _ I2 h) fun v s1 ⟨x,H',I1,r,q⟩=>?_;obtain⟨nn,I3⟩:=I1.oX rv hz h0 h1;exact⟨x,_,I3,r,q nn⟩
section
variable(O:Nm α)
noncomputable def L0(a:α):List α->List α
 |[]=>[a]
 |b::l=>if O.lt b a=true then b::L0 a l else a::b::l
def Iz:List α->List α
 |[]=>[]
 |a::l=>L0 O a (Iz l)
def Rx(a:α):∀l:List α,(L0 O a l).Perm (a::l)
 |[]=>.refl _
 |b::l=>by
  unfold L0;split
  ·exact((Rx a l).cons b).trans (.swap a b l)
  ·exact .refl _
def Gh:∀l:List α,(Iz O l).Perm l
 |[]=>.refl _
 |a::l=>(Rx O a (Iz O l)).trans ((Gh l).cons a)
def YW(a:α):∀l:List α,l.Pairwise (fun x y=>O.lt y x=false)->(L0 O a l).Pairwise (fun x y=>O.lt y x=false)
 |[],_=>VH _ _
 |b::l,h=>by
  obtain⟨h1,h2⟩:=OR.mp h;unfold L0;by_cases z:O.lt b a=true
  ·rw[AH z];refine OR.mpr ⟨fun c hc=>?_,YW a l h2⟩;rcases Bn.mp ((Rx O a l).mem_iff.mp hc) with e|e
   ·rw[e]
    cases y:O.lt a b with
    |false=>rfl
    |true=>have:=O.tr _ _ _ z y;rw[O.bN] at this;cases this
   ·exact h1 c e
  ·rw[AG z];have z':O.lt b a=false:=by simpa using z
   refine OR.mpr ⟨fun c hc=>?_,h⟩;rcases Bn.mp hc with e|e
   ·rw[e];exact z'
   ·cases y:O.lt c a with
    |false=>rfl
    |true=>
     exfalso
     cases w:O.lt a b with
     |true=>have:=O.tr _ _ _ y w;rw[h1 c e] at this;cases this
     |false=>have:=O.BE _ _ w z';subst this;rw[h1 c e] at y;cases y
def NI:∀l:List α,(Iz O l).Pairwise (fun x y=>O.lt y x=false)
 |[]=>List.Pairwise.nil
 |a::l=>YW O a _ (NI l)
def Rj:∀l m:List α,l.Perm m->l.Pairwise (fun x y=>O.lt y x=false)->m.Pairwise (fun x y=>O.lt y x=false)->l=m
 |[],m,p,_,_=>p.nil_eq
 |a::l,[],p,_,_=>absurd p.symm.nil_eq (by intro z;cases z)
 |a::l,b::m,p,h1,h2=>by
  obtain⟨a1,a2⟩:=OR.mp h1;obtain⟨b1,b2⟩:=OR.mp h2;have e:a=b:=by
   rcases Bn.mp (p.mem_iff.mp (.head _)) with e|e
   ·exact e
   ·rcases Bn.mp (p.mem_iff.mpr (List.Mem.head m)) with f|f
    ·exact f.symm
    ·exact O.BE _ _ (b1 a e) (a1 b f)
  subst e;rw[Rj l m p.cons_inv a2 b2]
def Kb{l m:List α}(p:l.Perm m)(h:l.Pairwise (fun x y=>O.lt y x=false)):l=Iz O m:=Rj O _ _ (p.trans (Gh O m).symm) h (NI O m)
def gw{l m:List α}(p:l.Perm m):Iz O l=Iz O m:=Kb O ((Gh O l).trans p) (NI O l)
end
abbrev Dv:List Str->List Str:=Iz DB
section
open PySem.W
noncomputable def dK:dA:=(Value.none,Value.none)
abbrev SM:=StateT qw Sem
noncomputable def up1(lo b BM:Nat):SM (Option (Option Nat)×Nat):=
 forIn [b:BM] ((none,b):Option (Option Nat)×Nat) fun _ z=>ltAt' (lo+z.2) (lo+z.2-1)>>=fun t=>
  match t with
  |some c=>if c=true then pure (.done (none,z.2)) else pure (.yield (none,z.2+1))
  |none=>pure (.done (some none,z.2))
noncomputable def qJ(z:Option (Option Nat)×Nat):SM (Option Nat):=
 match z.1 with
 |some r=>pure r
 |none=>pure (some z.2)
def K4(lo n BM:Nat):SM (Option Nat):=sg lo (lo+n)>>=fun _=>up1 lo n BM>>=qJ
noncomputable def Uq(lo b BM:Nat):SM (Option (Option Nat)×Nat×Nat):=
 forIn [b:BM] ((none,b,0):Option (Option Nat)×Nat×Nat) fun _ z=>ltAt' (lo+z.2.1) (lo+z.2.1-1)>>=fun t=>
  match t with
  |some c=>
   if c=true then
    (if z.2.2>0 then(sg (lo+z.2.1-(z.2.2+1)) (lo+z.2.1)>>=fun _=>pure (.yield (none,z.2.1+1,0))) else pure (.yield (none,z.2.1+1,0)))
   else ltAt' (lo+z.2.1-1) (lo+z.2.1)>>=fun t=>
    match t with
    |some d=>if d=true then pure (.done (none,z.2.1,z.2.2)) else pure (.yield (none,z.2.1+1,z.2.2+1))
    |none=>pure (.done (some none,z.2.1,z.2.2))
  |none=>pure (.done (some none,z.2.1,z.2.2))
def qN(lo BM:Nat)(z:Option (Option Nat)×Nat×Nat):SM (Option Nat):=
 match z.1 with
 |some r=>pure r
 |none=>if z.2.2>0 then(sg (lo+z.2.1-(z.2.2+1)) (lo+z.2.1)>>=fun _=>K4 lo z.2.1 BM) else K4 lo z.2.1 BM
def P2(lo n BM:Nat):SM (Option Nat):=(liftM (rule "list.sort.descending-run"):SM Unit)>>=fun _=>Uq lo (n+1) BM>>=qN lo BM
def qh(lo BM:Nat)(z:Option (Option Nat)×Nat):SM (Option Nat):=
 match z.1 with
 |some r=>pure r
 |none=>if(z.2==BM)=true then pure (some z.2) else
  if z.2>1 then(ltAt' lo (lo+z.2-1)>>=fun t=>
   match t with
   |some c=>if c=true then pure (some z.2) else sg lo (lo+z.2)>>=fun _=>P2 lo z.2 BM
   |none=>pure none)
  else P2 lo z.2 BM
def BH{m m':SM α}{f f':α->SM β}(h:m=m')(g:∀x,f x=f' x):(m>>=f)=(m'>>=f'):=by rw[h,funext g]
def Hn{a b:Nat}{c:β}{f g:Nat->β->SM (ForInStep β)}(h:∀i z,f i z=g i z):forIn [a:b] c f=forIn [a:b] c g:=by rw[funext fun i=>funext (h i)]
def count_eq(lo BM:Nat):countRun' lo BM=(up1 lo 1 BM>>=qh lo BM):=by
 rw[countRun'_eq];refine BH (Hn fun i z=>BH rfl fun x=>?_) fun z=>?_
 ·cases x<;>rfl
 ·obtain⟨r,n⟩:=z
  match r with
  |some r=>rfl
  |none=>
   refine DU rfl (fun _=>rfl) fun _=>DU rfl (fun _=>BH rfl fun x=>?_) fun _=>?_;rcases x with _|c
   ·rfl
   refine DU rfl (fun _=>rfl) fun _=>BH rfl fun _=>?_;all_goals
    refine BH rfl fun _=>BH (Hn fun i z=>BH rfl fun x=>?_) fun z=>?_
    ·cases x with
     |none=>rfl
     |some c=>refine DU rfl (fun _=>rfl) fun _=>BH rfl fun x=>?_;cases x<;>rfl
    ·obtain⟨r,n,q⟩:=z
     match r with
     |some r=>rfl
     |none=>refine DU rfl (fun _=>BH rfl fun _=>?_) fun _=>?_<;>exact BH rfl fun _=>BH (Hn fun i z=>BH rfl fun x=>by cases x<;>rfl) fun z=>by obtain⟨r,n⟩:=z;cases r<;>rfl
section
variable(rk:dA->Nat)
def kv(xs:Array dA)(i:Nat):Nat:=rk (xs.getD i dK)
end
end
variable{xs:Array dA}
section
open PySem.W
section
variable(rk:dA->Nat)
def IS{ys:Array dA}(h:xs[i]? =ys[j]?):kv rk xs i=kv rk ys j:=by unfold kv;rw[HW,HW,h]
def Up(xs:Array dA)(lo hi:Nat):Prop:=∀i j,lo<=i->i<=j->j<hi->kv rk xs i<=kv rk xs j
def Dn(xs:Array dA)(lo hi:Nat):Prop:=∀i j,lo<=i->i<=j->j<hi->kv rk xs j<=kv rk xs i
def Ev(xs:Array dA)(lo hi:Nat):Prop:=∀i,lo<=i->i<hi->kv rk xs i=kv rk xs (hi-1)
def Ti(hj:j<=xs.size)(k:Nat):kv rk (tj xs i j ((j-i)/2)) k=if i<=k/\k<j then kv rk xs (i+j-1-k) else kv rk xs k:=by
 have e:=getElem?_mirror_all (i:=i) hj k;by_cases c:i<=k/\k<j
 ·rw[AH c] at e⊢;exact IS rk e
 ·rw[AG c] at e⊢;exact IS rk e
def Pa(hj:j<=xs.size)(he:Ev rk xs i j)(k:Nat):kv rk (tj xs i j ((j-i)/2)) k=kv rk xs k:=by
 rw[Ti rk hj];split
 ·rw[he _ (by lia) (by lia),he k (by lia) (by lia)]
 ·rfl
def Up.one(xs:Array dA)(lo:Nat):Up rk xs lo (lo+1):=fun i j h1 h2 h3=>by
 have:i=j:=by lia
 rw[this];exact Ad _
end
end
variable{lo:Nat}
section
open PySem.W
section
variable(rk:dA->Nat)
def Up.step{n:Nat}(h1:1<=n)(h:Up rk xs lo (lo+n))(hl:¬kv rk xs (lo+n)<kv rk xs (lo+n-1)):Up rk xs lo (lo+(n+1)):=fun i j a b c=>by
 by_cases e:j<lo+n
 ·exact h i j a b e
 ·have e':j=lo+n:=by lia
  subst e';by_cases e2:i=lo+n
  ·rw[e2];exact Ad _
  ·exact BJ (h i (lo+n-1) a (by lia) (by lia)) (OW hl)
def Dn.step{ys:Array dA}{n:Nat}(h1:1<=n)(hk:∀k,kv rk ys k=kv rk xs k)(h:Dn rk xs lo (lo+n))(hl:kv rk xs (lo+n)<=kv rk xs (lo+n-1)):Dn rk ys lo (lo+(n+1)):=fun i j a b c=>by
 rw[hk,hk];by_cases e:j<lo+n
 ·exact h i j a b e
 ·have e':j=lo+n:=by lia
  subst e';by_cases e2:i=lo+n
  ·rw[e2];exact Ad _
  ·exact BJ hl (h i (lo+n-1) a (by lia) (by lia))
end
structure Ok(κ:SortKind)(a0:Array dA)(lo:Nat)(P:Array (Nat×Nat×Nat))(st:qw):Prop where
 perm:(dy st).Perm a0
 fix:∀k,k<lo->(dy st)[k]? =a0[k]?
 kind:kindOf st=κ
 failed:rM st=none
 pend:dq st=P
end
variable{κ:SortKind}{a0:Array dA}{st:qw}
section
open PySem.W
def Ok.size{P:Array (Nat×Nat×Nat)}(h:Ok κ a0 lo P st):(dy st).size=a0.size:=h.perm.size_eq
def Ok.set{P:Array (Nat×Nat×Nat)}(h:Ok κ a0 lo P st)(hp:xs.Perm (dy st))(hf:∀k,k<lo->xs[k]? =(dy st)[k]?):Ok κ a0 lo P (setArr st xs):=
 ⟨hp.trans h.perm,fun k hk=>(hf k hk).trans (h.fix k hk),h.kind,h.failed,h.pend⟩
def Ok.QT{P:Array (Nat×Nat×Nat)}(h:Ok κ a0 lo P st)(hi:lo<=i)(hj:j<=a0.size):Ok κ a0 lo P (setArr st (tj (dy st) i j ((j-i)/2))):=
 h.set (mirror_perm _ _ _ _) fun k hk=>by rw[getElem?_mirror_all (by rw[h.size];exact hj),AG (by lia)]
end
variable{rk:dA->Nat}
section
open PySem.W
section
variable{P:Array (Nat×Nat×Nat)}
def C7(prog:qy)(w:rH)(A:sJ)(s:Yf)(κ:SortKind)(rk:dA->Nat)(a0:Array dA):Prop:=
 ∀x y,x∈a0.toList->y∈a0.toList->∀C:Bool->Yf->Prop,C (decide (rk x<rk y)) s->cm (ax prog w) A (keyLt' κ x.1 y.1) C (fun _ _=>False) s
def Nj(hc:C7 prog w A s κ rk a0){x y:dA}{Q:Option Bool->qw->Prop}(hk:kindOf st=κ)(hx:x∈a0.toList)(hy:y∈a0.toList)(h:Q (some (decide (rk x<rk y))) st):
 wpS (ax prog w) A E s (lt' x y) Q st:=by
 rw[lt'_eq];refine Ak (IL ?_);rw[hk];refine Ak (Lb (KA (DA (hc x y hx hy (fun c s'=>c=decide (rk x<rk y)/\s'=s) ⟨rfl,rfl⟩) (fun c s' z=>?_) fun _ _ z=>z.elim)));obtain⟨rfl,rfl⟩:=z;exact⟨rfl,As h⟩
def Ok.at(hB:Ok κ a0 lo P st)(hi:i<a0.size):(dy st)[i]? =some ((dy st).getD i dK)/\(dy st).getD i dK∈a0.toList:=by
 have h0:i<(dy st).size:=by rw[hB.size];exact hi
 have e:(dy st)[i]? =some (dy st)[i]:=Gd _ i h0;have e2:(dy st).getD i dK=(dy st)[i]:=by rw[HW,e];rfl
 rw[e2];exact⟨e,(MM.mp hB.perm).mem_iff.mp (by simp)⟩
def Nb(hc:C7 prog w A s κ rk a0){Q:Option Bool->qw->Prop}(hB:Ok κ a0 lo P st)(hi:i<a0.size)(hj:j<a0.size)
 (h:Q (some (decide (kv rk (dy st) i<kv rk (dy st) j))) st):wpS (ax prog w) A E s (ltAt' i j) Q st:=by
 rw[ltAt'_eq];refine Ak (IL ?_);show wpS _ _ _ _ (rY (dy st) i>>=fun x=>rY (dy st) j>>=fun y=>lt' x y) Q st;rw[elem'_eq,elem'_eq,(hB.at hi).1,(hB.at hj).1];exact Ak (As (Ak (As (Nj hc hB.kind (hB.at hi).2 (hB.at hj).2 h))))
def P5{Q:Unit->qw->Prop}(h:Q () (setArr st (tj (dy st) i j ((j-i)/2)))):wpS (ax prog w) A E s (sg i j) Q st:=by rw[reverseSlice'_eq];exact KG h
def Zi(hc:C7 prog w A s κ rk a0){b BM:Nat}{Q:Option (Option Nat)×Nat->qw->Prop}(hn:lo+BM<=a0.size)(hb:1<=b)(hbn:b<=BM)(hB:Ok κ a0 lo P st)(hs:Up rk (dy st) lo (lo+b))
 (h:∀n,b<=n->n<=BM->Up rk (dy st) lo (lo+n)->(n=BM\/kv rk (dy st) (lo+n)<kv rk (dy st) (lo+n-1))->Q (none,n) st):
 wpS (ax prog w) A E s (up1 lo b BM) Q st:=by
 unfold up1;refine Fe (I:=fun x c h0=>h0=st/\c=(none,x)/\Up rk (dy st) lo (lo+x)) ?_ ?_ ⟨rfl,rfl,hs⟩
 ·rintro x c h0 h1 h2 ⟨rfl,rfl,h3⟩;refine Ak (Nb hc hB (by dsimp only;lia) (by dsimp only;lia) ?_);by_cases hl:kv rk (dy h0) (lo+x)<kv rk (dy h0) (lo+x-1)
  ·simp only[hl,LS,CO];exact As (h x h1 (by lia) h3 (.inr hl))
  ·simp only[hl,LP,CQ,Bs];exact As ⟨rfl,rfl,h3.step rk (by lia) hl⟩
 ·rintro c h0 ⟨rfl,rfl,h3⟩;rw[show max b BM=BM by lia] at h3⊢;exact h BM hbn (Ad _) h3 (.inl rfl)
def Zt(hc:C7 prog w A s κ rk a0){n BM:Nat}{Q:Option Nat->qw->Prop}(hn:lo+BM<=a0.size)(h1:1<=n)(hnn:n<=BM)(hB:Ok κ a0 lo P st)(hs:Dn rk (dy st) lo (lo+n))
 (h:∀m st',Ok κ a0 lo P st'->1<=m->m<=BM->Up rk (dy st') lo (lo+m)->Q (some m) st'):wpS (ax prog w) A E s (K4 lo n BM) Q st:=by
 unfold K4;refine Ak (P5 ?_);have h0:=hB.QT (i:=lo) (j:=lo+n) (Ad _) (by lia);refine Ak (Zi hc hn h1 hnn h0 ?_ fun m a b c _=>As (h m _ h0 (by lia) b c));intro i j a b c;have hz:lo+n<=(dy st).size:=by rw[hB.size];lia
 show kv rk (tj (dy st) lo (lo+n) _) i<=kv rk (tj (dy st) lo (lo+n) _) j;rw[Ti rk hz,Ti rk hz,AH (by lia),AH (by lia)];exact hs _ _ (by lia) (by lia) (by lia)
def oW(hc:C7 prog w A s κ rk a0){n BM:Nat}{Q:Option (Option Nat)×Nat×Nat->qw->Prop}(hn:lo+BM<=a0.size)(h1:1<=n)(hnn:n<=BM)(hB:Ok κ a0 lo P st)(hs:Dn rk (dy st) lo (lo+n))
 (h:∀m q st',Ok κ a0 lo P st'->n<=m->m<=BM->Dn rk (dy st') lo (lo+m)->q+1<=m->Ev rk (dy st') (lo+m-(q+1)) (lo+m)->Q (none,m,q) st'):
 wpS (ax prog w) A E s (Uq lo n BM) Q st:=by
 unfold Uq;refine Fe (I:=fun x c st'=>∃q,c=(none,x,q)/\Ok κ a0 lo P st'/\Dn rk (dy st') lo (lo+x)/\q+1<=x/\Ev rk (dy st') (lo+x-(q+1)) (lo+x)) ?_ ?_
  ⟨0,rfl,hB,hs,by lia,fun i a b=>by congr 1;lia⟩
 ·rintro x c st' h2 h3 ⟨q,rfl,h0,h4,hq,he⟩;have hz:lo+x<=(dy st').size:=by rw[h0.size];lia
  refine Ak (Nb hc h0 (by dsimp only;lia) (by dsimp only;lia) ?_);by_cases hl:kv rk (dy st') (lo+x)<kv rk (dy st') (lo+x-1)
  ·simp only[hl,LS,CO];by_cases h5:q>0
   ·rw[AH h5];refine Ak (P5 (As ⟨0,rfl,h0.QT (by lia) (by lia),h4.step rk (by lia) (Pa rk hz he) (F5 hl),by lia,fun i a b=>by congr 1;lia⟩))
   ·rw[AG h5];exact As ⟨0,rfl,h0,h4.step rk (by lia) (fun _=>rfl) (F5 hl),by lia,fun i a b=>by congr 1;lia⟩
  ·simp only[hl,LP,CQ,Bs];refine Ak (Nb hc h0 (by lia) (by lia) ?_);by_cases hg:kv rk (dy st') (lo+x-1)<kv rk (dy st') (lo+x)
   ·simp only[hg,LS,CO];exact As (h x q st' h0 h2 (by lia) h4 hq he)
   ·simp only[hg,LP,CQ,Bs];have ex:kv rk (dy st') (lo+x)=kv rk (dy st') (lo+x-1):=by lia
    refine As ⟨q+1,rfl,h0,h4.step rk (by lia) (fun _=>rfl) (by lia),by lia,fun i a b=>?_⟩;rw[show lo+(x+1)-1=lo+x by lia,ex];by_cases ei:i=lo+x
    ·rw[ei,ex]
    ·exact he i (by lia) (by lia)
 ·rintro c st' ⟨q,rfl,h0,h4,hq,he⟩;rw[show max n BM=BM by lia] at h4 hq he⊢;exact h BM q st' h0 hnn (Ad _) h4 hq he
def X7(hc:C7 prog w A s κ rk a0){n BM:Nat}{Q:Option Nat->qw->Prop}(hn:lo+BM<=a0.size)(hnn:n+1<=BM)(hB:Ok κ a0 lo P st)(hs:Dn rk (dy st) lo (lo+(n+1)))
 (h:∀m st',Ok κ a0 lo P st'->1<=m->m<=BM->Up rk (dy st') lo (lo+m)->Q (some m) st'):wpS (ax prog w) A E s (P2 lo n BM) Q st:=by
 unfold P2;refine Ak (Lb (IH ⟨rfl,?_⟩));refine Ak (oW hc hn (by lia) hnn hB hs fun m q st' h0 a b h1 hq he=>?_);have hz:lo+m<=(dy st').size:=by rw[h0.size];lia
 show wpS _ _ _ _ (if q>0 then _ else _) Q st';by_cases h2:q>0
 ·rw[AH h2];refine Ak (P5 (Zt hc hn (by show 1<=m;lia) b (h0.QT (by dsimp only;lia) (by dsimp only;lia)) (fun i j c d e=>?_) h));show kv rk (tj (dy st') _ _ _) j<=kv rk (tj (dy st') _ _ _) i;rw[Pa rk hz he,Pa rk hz he];exact h1 i j c d e
 ·rw[AG h2];exact Zt hc hn (by show 1<=m;lia) b h0 h1 h
def jm(hc:C7 prog w A s κ rk a0){BM:Nat}{Q:Option Nat->qw->Prop}(hn:lo+BM<=a0.size)(h1:1<=BM)(hB:Ok κ a0 lo P st)
 (h:∀m st',Ok κ a0 lo P st'->1<=m->m<=BM->Up rk (dy st') lo (lo+m)->Q (some m) st'):wpS (ax prog w) A E s (countRun' lo BM) Q st:=by
 rw[count_eq];refine Ak (Zi hc hn (Ad _) h1 hB (Up.one rk _ _) fun n a b hs ho=>?_);show wpS _ _ _ _ (if(n==BM)=true then _ else _) Q st;by_cases e:n=BM
 ·rw[AH (by simpa using e)];exact As (h n st hB a b hs)
 ·rw[AG (by simpa using e)];have hl:=ho.resolve_left e;by_cases g:n>1
  ·show wpS _ _ _ _ (if n>1 then _ else _) Q st;rw[AH g];refine Ak (Nb hc hB (by lia) (by dsimp only;lia) ?_);by_cases hr:kv rk (dy st) lo<kv rk (dy st) (lo+n-1)
   ·simp only[hr,LS,CO];exact As (h n st hB a b hs)
   ·simp only[hr,LP,CQ,Bs];have hz:lo+n<=(dy st).size:=by rw[hB.size];lia
    have h0:Ev rk (dy st) lo (lo+n):=fun k x y=>by
     have a1:=hs lo k (Ad _) x y;have a2:=hs k (lo+n-1) x (by lia) (by lia)
     lia
    refine Ak (P5 (X7 hc hn (by lia) (hB.QT (Ad _) (by lia)) (Dn.step rk (xs:=dy st) (by lia) (Pa rk hz h0) (fun i j x y z=>?_) (F5 hl)) h));rw[h0 i x (by lia),h0 j (by lia) z];exact Ad _
  ·show wpS _ _ _ _ (if n>1 then _ else _) Q st;rw[AG g];have e1:n=1:=by lia
   subst e1;refine X7 hc hn (by lia) hB (Dn.step rk (xs:=dy st) (Ad _) (fun _=>rfl) (fun i j x y z=>?_) (F5 hl)) h;have:i=j:=by lia
   rw[this];exact Ad _
end
abbrev G3:=Option (Option Nat)×Nat×Nat
noncomputable def past(left:Bool)(key:dA)(arr:Array dA)(base i:Nat):SM (Option Bool):=
 rY arr (base+i)>>=fun x=>if left=true then lt' x key else lt' key x>>=fun t=>pure (t.map (!·))
noncomputable def Nl(f:Nat->SM (Option Bool))(n lo hi:Nat):SM G3:=
 forIn [0:n] ((none,lo,hi):G3) fun _ z=>if z.2.1>=z.2.2 then pure (.done (none,z.2.1,z.2.2)) else f (z.2.1+(z.2.2-z.2.1)/2)>>=fun t=>
  match t with
  |some c=>if c=true then pure (.yield (none,z.2.1+(z.2.2-z.2.1)/2+1,z.2.2)) else pure (.yield (none,z.2.1,z.2.1+(z.2.2-z.2.1)/2))
  |none=>pure (.done (some none,z.2.1,z.2.2))
noncomputable def UN(z:G3):SM (Option Nat):=
 match z.1 with
 |some r=>pure r
 |none=>pure (some z.2.2)
noncomputable def Ls(f:Nat->SM (Option Bool))(n most:Nat)(go:Nat->Nat)(stop:Bool->Bool):SM G3:=
 forIn [0:n] ((none,0,1):G3) fun _ z=>if z.2.2>=most then pure (.done (none,z.2.1,z.2.2)) else f (go z.2.2)>>=fun t=>
  match t with
  |some c=>if stop c=true then pure (.done (none,z.2.1,z.2.2)) else pure (.yield (none,z.2.2,2*z.2.2+1))
  |none=>pure (.done (some none,z.2.1,z.2.2))
def Z6(f:Nat->SM (Option Bool))(n:Nat)(lo hi:Nat->Nat->Nat)(z:G3):SM (Option Nat):=
 match z.1 with
 |some r=>pure r
 |none=>Nl f n (lo z.2.1 z.2.2) (hi z.2.1 z.2.2)>>=UN
def Uo(f:Nat->SM (Option Bool))(n hint:Nat):SM (Option Nat):=f hint>>=fun t=>
 match t with
 |some c=>if c=true then Ls f n (n-hint) (fun o=>hint+o) (fun c=> !c)>>=Z6 f n (fun l _=>hint+l+1) (fun _ o=>hint+min o (n-hint))
  else Ls f n (hint+1) (fun o=>hint-o) (fun c=>c)>>=Z6 f n (fun _ o=>hint+1-min o (hint+1)) (fun l _=>hint-l)
 |none=>pure none
noncomputable def JV:Bool->dA->Array dA->Nat->Nat->Nat->SM (Option Nat):=sortPriv%PySem.Builtin.gallop
def fV(left:Bool)(key:dA)(arr:Array dA)(base n hint:Nat):JV left key arr base n hint=Uo (past left key arr base) n hint:=by
 refine BH rfl fun x=>?_
 cases x with
 |none=>rfl
 |some c=>
  refine DU rfl (fun _=>?_) fun _=>?_;all_goals
   refine BH (Hn fun i z=>DU rfl (fun _=>rfl) fun _=>BH rfl fun x=>?_) fun z=>?_
   ·cases x<;>rfl
   ·obtain⟨r,l,h⟩:=z
    match r with
    |some r=>rfl
    |none=>
     refine BH (Hn fun i z=>DU rfl (fun _=>rfl) fun _=>BH rfl fun x=>?_) fun z=>?_
     ·cases x<;>rfl
     ·obtain⟨r,l,h⟩:=z;cases r<;>rfl
section
variable{f:Nat->SM (Option Bool)}{B:Nat->Bool}{n:Nat}
def Za{hi:Nat}{Q:G3->qw->Prop}(hf:∀i,i<n->∀R:Option Bool->qw->Prop,R (some (B i)) st->wpS M A E s (f i) R st)(hm:∀i j,i<=j->j<n->B j=true->B i=true)
 (h1:lo<=hi)(h2:hi<=n)(h3:∀i,i<lo->B i=true)(h4:∀i,hi<=i->i<n->B i=false)
 (h:∀l k,k<=n->(∀i,i<k->B i=true)->(∀i,k<=i->i<n->B i=false)->Q (none,l,k) st):wpS M A E s (Nl f n lo hi) Q st:=by
 unfold Nl;refine Fe (I:=fun x c h0=>h0=st/\∃l r,c=(none,l,r)/\l<=r/\r<=n/\r-l<=n-x/\(∀i,i<l->B i=true)/\∀i,r<=i->i<n->B i=false) ?_ ?_ ⟨rfl,lo,hi,rfl,h1,h2,by lia,h3,h4⟩
 ·rintro x c h0 _ hx ⟨rfl,l,r,rfl,a1,a2,a3,a4,a5⟩;dsimp only;by_cases hg:l>=r
  ·rw[AH hg];have e:l=r:=by lia
   subst e;exact As (h l l a2 a4 a5)
  ·rw[AG hg];refine Ak (hf _ (by lia) _ ?_)
   cases e:B (l+(r-l)/2) with
   |true=>refine As ⟨rfl,_,_,rfl,by lia,a2,by lia,fun i hi=>hm i (l+(r-l)/2) (by lia) (by lia) e,a5⟩
   |false=>
    refine As ⟨rfl,_,_,rfl,by lia,by lia,by lia,a4,fun i hi hn=>?_⟩
    cases e2:B i with
    |false=>rfl
    |true=>rw[hm _ i hi hn e2] at e;cases e
 ·rintro c h0 ⟨rfl,l,r,rfl,a1,a2,a3,a4,a5⟩;have e:l=r:=by lia
  subst e;exact h l l a2 a4 a5
def YY{most:Nat}{go:Nat->Nat}{stop:Bool->Bool}{Q:G3->qw->Prop}(J:Nat->Prop)(hf:∀i,i<n->∀R:Option Bool->qw->Prop,R (some (B i)) st->wpS M A E s (f i) R st)(hmost:0<most)(hmn:most<=n)(hgo:∀o,o<most->go o<n)
 (h0:J 0)(hJ:∀o,o<most->stop (B (go o))=false->J o)
 (h:∀l o,l<o->l<most->J l->(o>=most\/(o<most/\stop (B (go o))=true))->Q (none,l,o) st):wpS M A E s (Ls f n most go stop) Q st:=by
 unfold Ls;refine Fe (I:=fun x c h1=>h1=st/\∃l o,c=(none,l,o)/\l<o/\l<most/\J l/\x+1<=o) ?_ ?_ ⟨rfl,0,1,rfl,by lia,hmost,h0,by lia⟩
 ·rintro x c h1 _ hx ⟨rfl,l,o,rfl,a1,a2,a3,a4⟩;dsimp only;by_cases hg:o>=most
  ·rw[AH hg];exact As (h l o a1 a2 a3 (.inl hg))
  ·rw[AG hg];refine Ak (hf _ (hgo o (by lia)) _ ?_);dsimp only
   cases e:stop (B (go o)) with
   |true=>rw[AH rfl];exact As (h l o a1 a2 a3 (.inr ⟨by lia,e⟩))
   |false=>rw[AG (by simp)];exact As ⟨rfl,o,2*o+1,rfl,by lia,by lia,hJ o (by lia) e,by lia⟩
 ·rintro c h1 ⟨rfl,l,o,rfl,a1,a2,a3,a4⟩;exact h l o a1 a2 a3 (.inl (by lia))
def nR{hint:Nat}{Q:Option Nat->qw->Prop}(hf:∀i,i<n->∀R:Option Bool->qw->Prop,R (some (B i)) st->wpS M A E s (f i) R st)(hm:∀i j,i<=j->j<n->B j=true->B i=true)(hh:hint<n)
 (h:∀k,k<=n->(∀i,i<k->B i=true)->(∀i,k<=i->i<n->B i=false)->Q (some k) st):wpS M A E s (Uo f n hint) Q st:=by
 have h0:∀i j,i<=j->j<n->B i=false->B j=false:=fun i j a b c=>by
  cases e:B j with
  |false=>rfl
  |true=>rw[hm i j a b e] at c;cases c
 unfold Uo;refine Ak (hf _ hh _ ?_)
 cases e:B hint with
 |true=>
  show wpS _ _ _ _ (Ls f n (n-hint) _ _>>=_) Q st;refine Ak (YY (B:=B) (fun l=>B (hint+l)=true) hf (by lia) (by lia) (fun o ho=>by lia) e (fun o ho hs=>by simpa using hs) fun l o a1 a2 a3 a4=>?_);show wpS _ _ _ _ (Nl f n (hint+l+1) (hint+min o (n-hint))>>=UN) Q st;refine Ak (Za hf hm (by lia) (by lia) (fun i hi=>hm i (hint+l) (by lia) (by lia) a3) (fun i hi hn=>?_) fun l k b1 b2 b3=>As (h k b1 b2 b3));rcases a4 with c|⟨c1,c2⟩
  ·lia
  ·exact h0 (hint+o) i (by lia) hn (by simpa using c2)
 |false=>
  show wpS _ _ _ _ (Ls f n (hint+1) _ _>>=_) Q st;refine Ak (YY (B:=B) (fun l=>B (hint-l)=false) hf (by lia) (by lia) (fun o ho=>by lia) e (fun o ho hs=>hs) fun l o a1 a2 a3 a4=>?_);show wpS _ _ _ _ (Nl f n (hint+1-min o (hint+1)) (hint-l)>>=UN) Q st;refine Ak (Za hf hm (by lia) (by lia) (fun i hi=>?_) (fun i hi hn=>h0 (hint-l) i (by lia) hn a3) fun l k b1 b2 b3=>As (h k b1 b2 b3));rcases a4 with c|⟨c1,c2⟩
  ·lia
  ·exact hm i (hint-o) (by lia) (by lia) c2
end
end
variable{arr:Array dA}
section
open PySem.W
def DX{Q:dA->qw->Prop}(hi:i<arr.size)(h:Q (arr.getD i dK) st):wpS M A E s (rY arr i) Q st:=by
 have e:arr[i]? =some (arr.getD i dK):=by rw[HW,Gd _ i hi];rfl
 rw[elem'_eq,e];exact As h
def getD_mem(hi:i<arr.size):arr.getD i dK∈arr.toList:=by rw[HW,Gd _ i hi];simp
def LY(hc:C7 prog w A s κ rk a0){left:Bool}{key:dA}{base n hint:Nat}{Q:Option Nat->qw->Prop}(hk:kindOf st=κ)(hkey:key∈a0.toList)(ha:∀x∈arr.toList,x∈a0.toList)
 (hn:base+n<=arr.size)(hh:hint<n)(hs:Up rk arr base (base+n))
 (h:∀k,k<=n->(∀i,i<k->(kv rk arr (base+i)<rk key\/(left=false/\kv rk arr (base+i)=rk key)))->(∀i,k<=i->i<n->(rk key<kv rk arr (base+i)\/(left=true/\kv rk arr (base+i)=rk key)))->Q (some k) st):
 wpS (ax prog w) A E s (JV left key arr base n hint) Q st:=by
 rw[fV];refine nR (B:=fun i=>if left=true then decide (kv rk arr (base+i)<rk key) else !decide (rk key<kv rk arr (base+i))) (fun i hi R hR=>?_) (fun i j a b c=>?_) hh fun k a b c=>h k a (fun i hi=>?_) fun i hi h0=>?_
 ·unfold past;have hz:base+i<arr.size:=by lia
  refine Ak (DX hz ?_)
  cases left with
  |true=>exact Nj hc hk (ha _ (getD_mem hz)) hkey hR
  |false=>exact Ak (Nj hc hk hkey (ha _ (getD_mem hz)) (As hR))
 ·have:=hs (base+i) (base+j) (by lia) (by lia) (by lia)
  cases left with
  |true=>simp only[CO,OT] at c⊢;lia
  |false=>simp only[CQ,Bs,Bool.not_eq_true',VF] at c⊢;lia
 ·have:=b i hi
  cases left with
  |true=>simp only[CO,OT] at this;exact .inl this
  |false=>simp only[CQ,Bs,Bool.not_eq_true',VF] at this;simp;lia
 ·have:=c i hi h0
  cases left with
  |true=>simp only[CO,VF] at this;simp;lia
  |false=>simp only[CQ,Bs,Bool.not_eq_false',OT] at this;exact .inl this
def SL(rk:dA->Nat)(l:List dA):Prop:=l.Pairwise fun x y=>rk x<=rk y
def SL.app{l m:List dA}:SL rk (l++m)↔SL rk l/\SL rk m/\∀x∈l,∀y∈m,rk x<=rk y:=List.pairwise_append
structure Mi(rk:dA->Nat)(out p q:List dA):Prop where
 l:SL rk (out++p)
 r:SL rk (out++q)
def Mi.swap{out p q:List dA}(h:Mi rk out p q):Mi rk out q p:=⟨h.r,h.l⟩
def Mi.UA{out p u q:List dA}(h:Mi rk out p (u++q))(hu:∀x∈u,∀y∈p,rk x<=rk y):Mi rk (out++u) p q:=by
 refine⟨?_,by rw[Bl];exact h.r⟩;obtain⟨a,b,c⟩:=SL.app.mp h.l;obtain⟨a',b',c'⟩:=SL.app.mp h.r;refine SL.app.mpr ⟨SL.app.mpr ⟨a,(SL.app.mp b').1,fun x hx y hy=>c' x hx y (Ig _ hy)⟩,b,fun x hx y hy=>?_⟩;rcases Bp.mp hx with z|z
 ·exact c x z y hy
 ·exact hu x z y hy
def NC(h:i<xs.size):kv rk xs i=rk (xs.toList[i]'(by simpa using h)):=by unfold kv;rw[HW,Gd _ i h];simp
def Le(h:Up rk xs 0 xs.size):∀y∈xs.toList.drop i,kv rk xs i<=rk y:=by
 intro y hy;obtain⟨j,hj,e⟩:=Ie.mp hy;rw[EX] at hj;have hl:xs.toList.length=xs.size:=by simp
 rw[List.getElem_drop] at e;rw[<-e,<-NC (rk:=rk) (i:=i+j) (by lia)];exact h _ _ (CN _) (by lia) (by lia)
def PM(h:i<xs.size):xs.toList.drop i=xs.getD i dK::xs.toList.drop (i+1):=by
 have hl:xs.toList.length=xs.size:=by simp
 rw[K6 (by lia)];congr 1;rw[HW,Gd _ i h];simp
def Py(h:Up rk xs 0 xs.size):SL rk xs.toList:=by
 refine OF.mpr fun i j hi hj h0=>?_;have hl:xs.toList.length=xs.size:=by simp
 rw[<-NC (rk:=rk) (by lia),<-NC (rk:=rk) (by lia)];exact h _ _ (CN _) (by lia) (by lia)
def jK(hk:i+k<=xs.size){y:dA}(h:y∈(xs.toList.drop i).take k):∃j,j<k/\y=xs.getD (i+j) dK:=by
 obtain⟨j,hj,e⟩:=Ie.mp h;rw[Bm] at hj;have hl:xs.toList.length=xs.size:=by simp
 refine⟨j,by lia,?_⟩;rw[List.getElem_take,List.getElem_drop] at e;rw[<-e,HW,Gd _ (i+j) (by lia)];simp
def M4(xs:Array dA)(i j:Nat):(xs.extract i j).toList=(xs.toList.drop i).take (j-i):=by rw[VT]
def LX(xs:Array dA)(i:Nat):(xs.extract i xs.size).toList=xs.toList.drop i:=by rw[M4,F0 (by simp)]
structure Mg(rk:dA->Nat)(a b out:Array dA)(ia ib:Nat):Prop where
 mi:Mi rk out.toList (a.toList.drop ia) (b.toList.drop ib)
 pm:out.toList.Perm (a.toList.take ia++b.toList.take ib)
 ha:ia+1<a.size
 hb:ib<b.size
end
variable{out:Array dA}
section
open PySem.W
section
variable{a b:Array dA}
structure Me(rk:dA->Nat)(a b out:Array dA):Prop where
 sl:SL rk out.toList
 pm:out.toList.Perm (a.toList++b.toList)
end
end
variable{ia ib:Nat}
section
open PySem.W
section
variable{a b:Array dA}
noncomputable def Fs(a b out:Array dA)(ia ib:Nat):Array dA:=out++a.extract ia a.size++b.extract ib b.size
noncomputable def Kr(a b out:Array dA)(ia ib:Nat):Array dA:=out++b.extract ib b.size++a.extract ia a.size
def R8{o a b:List dA}(h:o.Perm (a.take i++b.take j)):(o++(a.drop i++b.drop j)).Perm (a++b):=by
 have e:a++b=(a.take i++a.drop i)++(b.take j++b.drop j):=by rw[ET,ET]
 rw[e];refine(h.append_right _).trans ?_;rw[Bl,Bl];refine Qq _ ?_;rw[<-Bl,<-Bl];exact VM _ JE
def QI(mi:Mi rk out.toList (a.toList.drop ia) (b.toList.drop ib))(pm:out.toList.Perm (a.toList.take ia++b.toList.take ib))(hb:ib=b.size):Me rk a b (Fs a b out ia ib):=by
 have e:b.toList.drop ib=[]:=by rw[hb];simp
 have e2:(Fs a b out ia ib).toList=out.toList++(a.toList.drop ia++b.toList.drop ib):=by unfold Fs;rw[GZ,GZ,LX,LX,Bl]
 refine⟨?_,by rw[e2];exact R8 pm⟩;rw[e2,e,CF];exact mi.l
def pT(mi:Mi rk out.toList (a.toList.drop ia) (b.toList.drop ib))(pm:out.toList.Perm (a.toList.take ia++b.toList.take ib))(ha:ia=a.size):Me rk a b (Fs a b out ia ib):=by
 have e:a.toList.drop ia=[]:=by rw[ha];simp
 have e2:(Fs a b out ia ib).toList=out.toList++(a.toList.drop ia++b.toList.drop ib):=by unfold Fs;rw[GZ,GZ,LX,LX,Bl]
 refine⟨?_,by rw[e2];exact R8 pm⟩;rw[e2,e,RO];exact mi.r
def QG(mi:Mi rk out.toList (a.toList.drop ia) (b.toList.drop ib))(pm:out.toList.Perm (a.toList.take ia++b.toList.take ib))(ha:ia+1=a.size)(hl:∀y∈b.toList,rk y<=kv rk a (a.size-1)):Me rk a b (Kr a b out ia ib):=by
 have e:a.toList.drop ia=[a.getD ia dK]:=by rw[PM (by lia),ha];simp
 have e2:(Kr a b out ia ib).toList=out.toList++(b.toList.drop ib++a.toList.drop ia):=by unfold Kr;rw[GZ,GZ,LX,LX,Bl]
 refine⟨?_,by rw[e2];exact(Qq _ JE).trans (R8 pm)⟩;rw[e2,e,<-Bl];refine SL.app.mpr ⟨mi.r,VH _ _,fun x hx y hy=>?_⟩;rw[Bk] at hy;rcases Bp.mp hx with z|z
 ·exact(SL.app.mp mi.l).2.2 x z y (by rw[e,hy];exact Bk.mpr rfl)
 ·have:=hl x (K9 z);rw[hy];unfold kv at this
  rwa [show a.size-1=ia by lia] at this
end
end
variable{out':Array dA}
section
open PySem.W
section
variable{a b:Array dA}
def N1(mi:Mi rk out.toList (a.toList.drop ia) (b.toList.drop ib))(pm:out.toList.Perm (a.toList.take ia++b.toList.take ib))(k:Nat)(hk:ib+k<=b.size)(e:out'.toList=out.toList++(b.toList.drop ib).take k)(hle:∀i,i<k->∀y∈a.toList.drop ia,kv rk b (ib+i)<=rk y):
 Mi rk out'.toList (a.toList.drop ia) (b.toList.drop (ib+k))/\out'.toList.Perm (a.toList.take ia++b.toList.take (ib+k)):=by
 rw[e];constructor
 ·have e3:b.toList.drop ib=(b.toList.drop ib).take k++b.toList.drop (ib+k):=by rw[<-List.drop_drop,ET]
  rw[e3] at mi;refine mi.UA fun x hx y hy=>?_;obtain⟨j,hj,rfl⟩:=jK hk hx;exact hle j hj y hy
 ·have e3:b.toList.take (ib+k)=b.toList.take ib++(b.toList.drop ib).take k:=List.take_add;rw[e3,<-Bl];exact pm.append_right _
def UT(mi:Mi rk out.toList (a.toList.drop ia) (b.toList.drop ib))(pm:out.toList.Perm (a.toList.take ia++b.toList.take ib))(k:Nat)(hk:ia+k<=a.size)(e:out'.toList=out.toList++(a.toList.drop ia).take k)(hle:∀i,i<k->∀y∈b.toList.drop ib,kv rk a (ia+i)<=rk y):
 Mi rk out'.toList (a.toList.drop (ia+k)) (b.toList.drop ib)/\out'.toList.Perm (a.toList.take (ia+k)++b.toList.take ib):=by
 have:=N1 (a:=b) (b:=a) mi.swap (pm.trans JE) k hk e hle;exact⟨this.1.swap,this.2.trans JE⟩
def M8(h:i<xs.size)(out:Array dA):(out.push (xs.getD i dK)).toList=out.toList++(xs.toList.drop i).take 1:=by rw[Ma,PM h];rfl
def X4(i k:Nat)(out:Array dA):(out++xs.extract i (i+k)).toList=out.toList++(xs.toList.drop i).take k:=by rw[GZ,M4,Nat.add_sub_cancel_left]
end
abbrev A4:=Option (Array dA)×Array dA×Nat×Nat×Nat
abbrev A5:=Option (Array dA)×Array dA×Nat×Nat×Nat×Nat
abbrev A6:=Option (Array dA)×Array dA×Nat×Nat×Nat×Nat×Nat
noncomputable def NG:Nat->SM Unit:=sortPriv%PySem.Builtin.setMinGallop
def lo1(a b:Array dA)(mg:Nat)(out:Array dA)(ia ib:Nat):SM A5:=
 forIn [0:a.size+b.size] ((none,out,ia,ib,0,0):A5) fun _ z=>rY b z.2.2.2.1>>=fun y=>rY a z.2.2.1>>=fun x=>lt' y x>>=fun t=>
  match t with
  |some c=>
   if c=true then(rY b z.2.2.2.1>>=fun y=>
    if(z.2.2.2.1+1==b.size)=true then pure (.done (some (Fs a b (z.2.1.push y) z.2.2.1 (z.2.2.2.1+1)),z.2.1.push y,z.2.2.1,z.2.2.2.1+1,0,z.2.2.2.2.2+1))
    else if z.2.2.2.2.2+1>=mg then pure (.done (none,z.2.1.push y,z.2.2.1,z.2.2.2.1+1,0,z.2.2.2.2.2+1))
    else pure (.yield (none,z.2.1.push y,z.2.2.1,z.2.2.2.1+1,0,z.2.2.2.2.2+1)))
   else(rY a z.2.2.1>>=fun x=>
    if(z.2.2.1+1+1==a.size)=true then pure (.done (some (Kr a b (z.2.1.push x) (z.2.2.1+1) z.2.2.2.1),z.2.1.push x,z.2.2.1+1,z.2.2.2.1,z.2.2.2.2.1+1,0))
    else if z.2.2.2.2.1+1>=mg then pure (.done (none,z.2.1.push x,z.2.2.1+1,z.2.2.2.1,z.2.2.2.2.1+1,0))
    else pure (.yield (none,z.2.1.push x,z.2.2.1+1,z.2.2.2.1,z.2.2.2.2.1+1,0)))
  |none=>pure (.done (some (Fs a b z.2.1 z.2.2.1 z.2.2.2.1),z.2.1,z.2.2.1,z.2.2.2.1,z.2.2.2.2.1,z.2.2.2.2.2))
def QV(a b:Array dA)(mg ac bc:Nat)(out:Array dA)(ia ib:Nat):SM (ForInStep A6):=
 rY a ia>>=fun x=>
  if(ia+1+1==a.size)=true then pure (.done (some (Kr a b (out.push x) (ia+1) ib),out.push x,ia+1,ib,mg,ac,bc))
  else if(decide (ac<7)&&decide (bc<7))=true then pure (.done (none,out.push x,ia+1,ib,mg,ac,bc))
  else pure (.yield (none,out.push x,ia+1,ib,mg,ac,bc))
def QQ(a b:Array dA)(mg ac bc:Nat)(out:Array dA)(ia ib:Nat):SM (ForInStep A6):=
 rY b ib>>=fun y=>
  if(ib+1==b.size)=true then pure (.done (some (Fs a b (out.push y) ia (ib+1)),out.push y,ia,ib+1,mg,ac,bc))
  else rY a ia>>=fun x=>JV true x b (ib+1) (b.size-(ib+1)) 0>>=fun t=>
   match t with
   |some k=>
    if k>0 then
     (if(ib+1+k==b.size)=true then pure (.done (some (Fs a b (out.push y++b.extract (ib+1) (ib+1+k)) ia (ib+1+k)),out.push y++b.extract (ib+1) (ib+1+k),ia,ib+1+k,mg,ac,k))
     else QV a b mg ac k (out.push y++b.extract (ib+1) (ib+1+k)) ia (ib+1+k))
    else QV a b mg ac k (out.push y) ia (ib+1)
   |none=>pure (.done (some (Fs a b (out.push y) ia (ib+1)),out.push y,ia,ib+1,mg,ac,bc))
def HN(a b:Array dA)(mg ac bc:Nat)(out:Array dA)(ia ib:Nat):SM (ForInStep A6):=
 NG mg>>=fun _=>rY b ib>>=fun y=>JV false y a ia (a.size-ia) 0>>=fun t=>
  match t with
  |some k=>
   if k>0 then
    (if(ia+k+1==a.size)=true then pure (.done (some (Kr a b (out++a.extract ia (ia+k)) (ia+k) ib),out++a.extract ia (ia+k),ia+k,ib,mg,k,bc))
    else if(ia+k==a.size)=true then pure (.done (some (Fs a b (out++a.extract ia (ia+k)) (ia+k) ib),out++a.extract ia (ia+k),ia+k,ib,mg,k,bc))
    else QQ a b mg k bc (out++a.extract ia (ia+k)) (ia+k) ib)
   else QQ a b mg k bc out ia ib
  |none=>pure (.done (some (Fs a b out ia ib),out,ia,ib,mg,ac,bc))
def Uj(a b:Array dA)(out:Array dA)(ia ib mg ac bc:Nat):SM A6:=
 forIn [0:a.size+b.size] ((none,out,ia,ib,mg,ac,bc):A6) fun _ z=>if z.2.2.2.2.1>1 then HN a b (z.2.2.2.2.1-1) z.2.2.2.2.2.1 z.2.2.2.2.2.2 z.2.1 z.2.2.1 z.2.2.2.1 else HN a b z.2.2.2.2.1 z.2.2.2.2.2.1 z.2.2.2.2.2.2 z.2.1 z.2.2.1 z.2.2.2.1
def qo(z:A6):SM (ForInStep A4):=
 match z.1 with
 |some r=>pure (.done (some r,z.2.1,z.2.2.1,z.2.2.2.1,z.2.2.2.2.1))
 |none=>NG (z.2.2.2.2.1+1)>>=fun _=>pure (.yield (none,z.2.1,z.2.2.1,z.2.2.2.1,z.2.2.2.2.1+1))
def qT(a b:Array dA)(mg:Nat)(z:A5):SM (ForInStep A4):=
 match z.1 with
 |some r=>pure (.done (some r,z.2.1,z.2.2.1,z.2.2.2.1,mg))
 |none=>(liftM (rule "list.sort.gallop"):SM Unit)>>=fun _=>Uj a b z.2.1 z.2.2.1 z.2.2.2.1 (mg+1) z.2.2.2.2.1 z.2.2.2.2.2>>=qo
def cD(a b:Array dA)(out:Array dA)(ia ib mg:Nat):SM A4:=
 forIn [0:a.size+b.size] ((none,out,ia,ib,mg):A4) fun _ z=>lo1 a b z.2.2.2.2 z.2.1 z.2.2.1 z.2.2.2.1>>=qT a b z.2.2.2.2
noncomputable def qb(z:A4):SM (Array dA):=
 match z.1 with
 |some r=>pure r
 |none=>liftM (rg "internal:list.sort.merge-bound" :Sem (Array dA))
def low(a b:Array dA):SM (Array dA):=
 (liftM (rule "list.sort.merge-lo"):SM Unit)>>=fun _=>rY b 0>>=fun y=>
  if(1==b.size)=true then pure (Fs a b #[y] 0 1)
  else if(0+1==a.size)=true then pure (Kr a b #[y] 0 1)
  else get>>=fun st=>cD a b #[y] 0 1 (gallopOf st)>>=qb
noncomputable def SN:Array dA->Array dA->SM (Array dA):=sortPriv%PySem.Builtin.mergeLo
def mE(a b:Array dA):SN a b=low a b:=by
 refine BH rfl fun _=>BH rfl fun y=>DU rfl (fun _=>rfl) fun _=>DU rfl (fun _=>rfl) fun _=>BH rfl fun st=>BH (Hn fun i z=>BH (Hn fun i z=>?_) fun z'=>?_) fun z=>?_
 ·refine BH rfl fun y=>BH rfl fun x=>BH rfl fun t=>?_;cases t<;>rfl
 ·obtain⟨r,o,ia,ib,ac,bc⟩:=z'
  match r with
  |some r=>rfl
  |none=>
   refine BH rfl fun _=>BH (Hn fun i z=>?_) fun z=>?_
   ·refine DU rfl (fun _=>?_) fun _=>?_;all_goals
     refine BH rfl fun _=>BH rfl fun y=>BH rfl fun t=>?_
     cases t with
     |none=>rfl
     |some k=>
      refine DU rfl (fun _=>DU rfl (fun _=>rfl) fun _=>DU rfl (fun _=>rfl) fun _=>?_) fun _=>?_;all_goals
       refine BH rfl fun y=>DU rfl (fun _=>rfl) fun _=>BH rfl fun x=>BH rfl fun t=>?_;cases t<;>rfl
   ·obtain⟨r,o,ia,ib,mg,ac,bc⟩:=z;cases r<;>rfl
 ·obtain⟨r,z⟩:=z;cases r<;>rfl
structure Sm(st st':qw):Prop where
 k:kindOf st'=kindOf st
 a:dy st'=dy st
 p:dq st'=dq st
 f:rM st'=rM st
def Sm.Jn(st:qw):Sm st st:=⟨rfl,rfl,rfl,rfl⟩
def Sm.trans{x y z:qw}(h:Sm x y)(g:Sm y z):Sm x z:=⟨g.k.trans h.k,g.a.trans h.a,g.p.trans h.p,g.f.trans h.f⟩
def O8{m:Nat}{Q:Unit->qw->Prop}(h:∀st',Sm st st'->Q () st'):wpS M A E s (NG m) Q st:=
 KG (f:=fun z=>SortSt.mk' (kindOf z) (dy z) (dq z) m (rM z)) (h _ ⟨rfl,rfl,rfl,rfl⟩)
def U0(rk:dA->Nat)(a b:Array dA)(N:Nat)(z:A6):Prop:=z.1=none/\Mg rk a b z.2.1 z.2.2.1 z.2.2.2.1/\N<=z.2.2.1+z.2.2.2.1
def bh(rk:dA->Nat)(a b:Array dA)(N:Nat)(z:A6):Prop:=(∃r,z.1=some r/\Me rk a b r)\/U0 rk a b N z
def Ur(rk:dA->Nat)(a b:Array dA)(N:Nat):ForInStep A6->Prop
 |.done z=>bh rk a b N z
 |.yield z=>U0 rk a b N z
section
variable{a b:Array dA}
structure GX(rk:dA->Nat)(a0 a b:Array dA):Prop where
 MF:∀x∈a.toList,x∈a0.toList
 MC:∀x∈b.toList,x∈a0.toList
 ua:Up rk a 0 a.size
 ub:Up rk b 0 b.size
 na:0<a.size
 nb:0<b.size
 first:∀y∈a.toList,kv rk b 0<=rk y
 last:∀y∈b.toList,rk y<=kv rk a (a.size-1)
def Up.part(h:Up rk xs 0 xs.size){n:Nat}(hn:i+n<=xs.size):Up rk xs i (i+n):=fun x y a b c=>h x y (CN _) b (by lia)
def oV(hc:C7 prog w A s κ rk a0)(T:GX rk a0 a b)(hk:kindOf st=κ){mg:Nat}{N:Nat}(g:Mg rk a b out ia ib)(hN:N<=ia+ib){Q:A5->qw->Prop}
 (h1:∀r z,Me rk a b r->Q (some r,z) st)(h2:∀out ia ib ac bc,Mg rk a b out ia ib->N+1<=ia+ib->Q (none,out,ia,ib,ac,bc) st):wpS (ax prog w) A E s (lo1 a b mg out ia ib) Q st:=by
 unfold lo1;refine Fe (I:=fun x c h0=>h0=st/\∃out ia ib ac bc,c=(none,out,ia,ib,ac,bc)/\Mg rk a b out ia ib/\N+x<=ia+ib) ?_ ?_ ⟨rfl,out,ia,ib,0,0,rfl,g,hN⟩
 ·rintro x c h0 _ hx ⟨rfl,out,ia,ib,ac,bc,rfl,g,h3⟩;have ha:ia<a.size:=by have:=g.ha;lia
  refine Ak (DX g.hb (Ak (DX ha (Ak (Nj hc hk (T.MC _ (getD_mem g.hb)) (T.MF _ (getD_mem ha)) ?_)))));by_cases hl:rk (b.getD ib dK)<rk (a.getD ia dK)
  ·simp only[hl,LS,CO];refine Ak (DX g.hb ?_);obtain⟨m1,m2⟩:=N1 g.mi g.pm 1 (by have:=g.hb;lia) (M8 g.hb out) (fun i hi y hy=>by
    have e:i=0:=by lia
    subst e;exact BJ (F5 hl) (Le T.ua y hy));by_cases e:ib+1=b.size
   ·rw[AH (by simpa using e)];exact As (h1 _ _ (QI m1 m2 e))
   ·rw[AG (by simpa using e)];have g2:Mg rk a b (out.push (b.getD ib dK)) ia (ib+1):=⟨m1,m2,g.ha,by have:=g.hb;lia⟩;by_cases e2:bc+1>=mg
    ·rw[AH e2];exact As (h2 _ _ _ _ _ g2 (by lia))
    ·rw[AG e2];exact As ⟨rfl,_,_,_,_,_,rfl,g2,by lia⟩
  ·simp only[hl,LP,CQ,Bs];refine Ak (DX ha ?_);obtain⟨m1,m2⟩:=UT g.mi g.pm 1 (by lia) (M8 ha out) (fun i hi y hy=>by
    have e:i=0:=by lia
    subst e;exact BJ (OW hl) (Le T.ub y hy));by_cases e:ia+1+1=a.size
   ·rw[AH (by simpa using e)];exact As (h1 _ _ (QG m1 m2 e T.last))
   ·rw[AG (by simpa using e)];have g2:Mg rk a b (out.push (a.getD ia dK)) (ia+1) ib:=⟨m1,m2,by have:=g.ha;lia,g.hb⟩;by_cases e2:ac+1>=mg
    ·rw[AH e2];exact As (h2 _ _ _ _ _ g2 (by lia))
    ·rw[AG e2];exact As ⟨rfl,_,_,_,_,_,rfl,g2,by lia⟩
 ·rintro c h0 ⟨rfl,out,ia,ib,ac,bc,rfl,g,h3⟩;refine h2 _ _ _ _ _ g ?_;have:=T.na
  lia
end
end
variable{ac bc:Nat}
section
open PySem.W
section
variable{a b:Array dA}
def ZZ(T:GX rk a0 a b){mg:Nat}{N:Nat}(g:Mg rk a b out ia ib)(hN:N<=ia+ib)(hle:∀y∈b.toList.drop ib,kv rk a ia<=rk y){Q:ForInStep A6->qw->Prop}
 (h:∀z,Ur rk a b N z->Q z st):wpS (ax prog w) A E s (QV a b mg ac bc out ia ib) Q st:=by
 have ha:ia<a.size:=by have:=g.ha;lia
 unfold QV;refine Ak (DX ha ?_);obtain⟨m1,m2⟩:=UT g.mi g.pm 1 (by lia) (M8 ha out) (fun i hi y hy=>by
  have e:i=0:=by lia
  subst e;exact hle y hy);by_cases e:ia+1+1=a.size
 ·rw[AH (by simpa using e)];exact As (h _ (.inl ⟨_,rfl,QG m1 m2 e T.last⟩))
 ·rw[AG (by simpa using e)];have g2:Mg rk a b (out.push (a.getD ia dK)) (ia+1) ib:=⟨m1,m2,by have:=g.ha;lia,g.hb⟩;by_cases e3:(decide (ac<7)&&decide (bc<7))=true
  ·rw[AH e3];exact As (h _ (.inr ⟨rfl,g2,by show N<=ia+1+ib;lia⟩))
  ·rw[AG e3];exact As (h _ ⟨rfl,g2,by show N<=ia+1+ib;lia⟩)
def Zk(hc:C7 prog w A s κ rk a0)(T:GX rk a0 a b)(hk:kindOf st=κ){mg:Nat}{N:Nat}(g:Mg rk a b out ia ib)(hN:N<=ia+ib)(hle:∀y∈a.toList.drop ia,kv rk b ib<=rk y){Q:ForInStep A6->qw->Prop}
 (h:∀z,Ur rk a b N z->Q z st):wpS (ax prog w) A E s (QQ a b mg ac bc out ia ib) Q st:=by
 have ha:ia<a.size:=by have:=g.ha;lia
 unfold QQ;refine Ak (DX g.hb ?_);obtain⟨m1,m2⟩:=N1 g.mi g.pm 1 (by have:=g.hb;lia) (M8 g.hb out) (fun i hi y hy=>by
  have e:i=0:=by lia
  subst e;exact hle y hy);by_cases e:ib+1=b.size
 ·rw[AH (by simpa using e)];exact As (h _ (.inl ⟨_,rfl,QI m1 m2 e⟩))
 ·rw[AG (by simpa using e)];have hb:=g.hb;have g2:Mg rk a b (out.push (b.getD ib dK)) ia (ib+1):=⟨m1,m2,g.ha,by lia⟩;refine Ak (DX ha (Ak (LY hc hk (T.MF _ (getD_mem ha)) T.MC (by lia) (by lia) (T.ub.part (by lia)) fun k k1 k2 k3=>?_)));dsimp only;have rest:∀y∈b.toList.drop (ib+1+k),kv rk a ia<=rk y:=fun y hy=>by
   by_cases hz:ib+1+k<b.size
   ·have h1:=k3 k (Ad _) (by lia);have h2:=Le T.ub y hy;have h3:rk (a.getD ia dK)<=kv rk b (ib+1+k):=by rcases h1 with z|⟨_,z⟩<;>lia
    exact BJ h3 h2
   ·rw[K8 (by simp;lia)] at hy;cases hy
  by_cases k0:k>0
  ·rw[AH k0];obtain⟨n1,n2⟩:=N1 m1 m2 k (by lia) (X4 (xs:=b) (ib+1) k (out.push (b.getD ib dK))) (fun i hi y hy=>by
    have h1:=k2 i hi;have h2:=Le T.ua y hy;have h3:kv rk b (ib+1+i)<=rk (a.getD ia dK):=by rcases h1 with z|⟨_,z⟩<;>lia
    exact BJ h3 h2);by_cases e2:ib+1+k=b.size
   ·rw[AH (by simpa using e2)];exact As (h _ (.inl ⟨_,rfl,QI n1 n2 e2⟩))
   ·rw[AG (by simpa using e2)];exact ZZ T ⟨n1,n2,g.ha,by lia⟩ (by lia) rest h
  ·rw[AG k0];have h0:k=0:=by lia
   subst h0;exact ZZ T g2 (by lia) rest h
def Zo(hc:C7 prog w A s κ rk a0)(T:GX rk a0 a b)(hk:kindOf st=κ){mg:Nat}{N:Nat}(g:Mg rk a b out ia ib)(hN:N<=ia+ib){Q:ForInStep A6->qw->Prop}
 (h:∀z st',Sm st st'->Ur rk a b N z->Q z st'):wpS (ax prog w) A E s (HN a b mg ac bc out ia ib) Q st:=by
 have ha:=g.ha;have hb:=g.hb;unfold HN;refine Ak (O8 fun st' sm=>Ak (DX g.hb (Ak (LY hc (sm.k.trans hk) (T.MC _ (getD_mem g.hb)) T.MF (by lia) (by lia) (T.ua.part (by lia)) fun k k1 k2 k3=>?_))));dsimp only;have rest:∀y∈a.toList.drop (ia+k),kv rk b ib<=rk y:=fun y hy=>by
  by_cases hz:ia+k<a.size
  ·have h1:=k3 k (Ad _) (by lia);have h2:=Le T.ua y hy;have h3:rk (b.getD ib dK)<=kv rk a (ia+k):=by rcases h1 with z|⟨_,z⟩<;>lia
   exact BJ h3 h2
  ·rw[K8 (by simp;lia)] at hy;cases hy
 by_cases k0:k>0
 ·rw[AH k0];obtain⟨n1,n2⟩:=UT g.mi g.pm k (by lia) (X4 (xs:=a) ia k out) (fun i hi y hy=>by
   have h1:=k2 i hi;have h2:=Le T.ub y hy;have h3:kv rk a (ia+i)<=rk (b.getD ib dK):=by rcases h1 with z|⟨_,z⟩<;>lia
   exact BJ h3 h2);by_cases e1:ia+k+1=a.size
  ·rw[AH (by simpa using e1)];exact As (h _ _ sm (.inl ⟨_,rfl,QG n1 n2 e1 T.last⟩))
  ·rw[AG (by simpa using e1)];by_cases e2:ia+k=a.size
   ·rw[AH (by simpa using e2)];exact As (h _ _ sm (.inl ⟨_,rfl,pT n1 n2 e2⟩))
   ·rw[AG (by simpa using e2)];exact Zk hc T (sm.k.trans hk) ⟨n1,n2,by lia,g.hb⟩ (by lia) rest fun z hz=>h z _ sm hz
 ·rw[AG k0];have h0:k=0:=by lia
  subst h0;exact Zk hc T (sm.k.trans hk) g hN rest fun z hz=>h z _ sm hz
def o7(hc:C7 prog w A s κ rk a0)(T:GX rk a0 a b)(hk:kindOf st=κ){mg:Nat}{N:Nat}(g:Mg rk a b out ia ib)(hN:N<=ia+ib){Q:A6->qw->Prop}
 (h:∀z st',Sm st st'->bh rk a b N z->Q z st'):wpS (ax prog w) A E s (Uj a b out ia ib mg ac bc) Q st:=by
 unfold Uj;refine Fe (I:=fun x c st'=>Sm st st'/\U0 rk a b N c) ?_ ?_ ⟨Sm.Jn _,rfl,g,hN⟩
 ·rintro x c st' _ hx ⟨sm,c1,c2,c3⟩;by_cases e3:c.2.2.2.2.1>1
  ·rw[AH e3];refine Zo hc T (sm.k.trans hk) c2 c3 fun z h0 s2 hz=>?_
   cases z with
   |done z=>exact h z _ (sm.trans s2) hz
   |yield z=>exact⟨sm.trans s2,hz⟩
  ·rw[AG e3];refine Zo hc T (sm.k.trans hk) c2 c3 fun z h0 s2 hz=>?_
   cases z with
   |done z=>exact h z _ (sm.trans s2) hz
   |yield z=>exact⟨sm.trans s2,hz⟩
 ·rintro c st' ⟨sm,hz⟩;exact h c st' sm (.inr hz)
def nG(hc:C7 prog w A s κ rk a0)(T:GX rk a0 a b)(hk:kindOf st=κ){Q:Array dA->qw->Prop}(h:∀r st',Sm st st'->Me rk a b r->Q r st'):wpS (ax prog w) A E s (SN a b) Q st:=by
 rw[mE];unfold low;have nb:=T.nb;have na:=T.na;refine Ak (Lb (IH ⟨rfl,?_⟩));refine Ak (DX nb ?_);obtain⟨m1,m2⟩:=N1 (rk:=rk) (a:=a) (b:=b) (out:= #[]) (ia:=0) (ib:=0) ⟨Py T.ua,Py T.ub⟩ (Of _) 1 (by lia) (M8 nb #[]) (fun i hi y hy=>by
  have e:i=0:=by lia
  subst e;exact T.first y hy);by_cases e1:1=b.size
 ·rw[AH (by simpa using e1)];exact As (h _ _ (Sm.Jn _) (QI m1 m2 e1))
 ·rw[AG (by simpa using e1)];by_cases e2:0+1=a.size
  ·rw[AH (by simpa using e2)];exact As (h _ _ (Sm.Jn _) (QG m1 m2 e2 T.last))
  ·rw[AG (by simpa using e2)];refine Ak (IL (Ak ?_));unfold cD;refine Fe (I:=fun x c st'=>Sm st st'/\∃out ia ib mg,c=(none,out,ia,ib,mg)/\Mg rk a b out ia ib/\x+1<=ia+ib) ?_ ?_ ⟨Sm.Jn _,_,0,1,_,rfl,⟨m1,m2,by lia,by lia⟩,by lia⟩
   ·rintro x c st' _ hx ⟨sm,out,ia,ib,mg,rfl,g,h0⟩;refine Ak (oV hc T (sm.k.trans hk) g h0 (fun r z hr=>As ?_) fun out ia ib ac bc g2 h4=>?_)
    ·exact As (h r _ sm hr)
    ·refine Ak (Lb (IH ⟨rfl,?_⟩));refine Ak (o7 hc T (sm.k.trans hk) g2 h4 fun z h6 s2 hz=>?_);obtain⟨r,o,h2,h1,h7,h9,h8⟩:=z;rcases hz with⟨r',rfl,hr⟩|⟨rfl,g3,h3⟩
     ·exact As (As (h r' _ (sm.trans s2) hr))
     ·exact Ak (O8 fun h5 s3=>As ⟨(sm.trans s2).trans s3,o,h2,h1,_,rfl,g3,h3⟩)
   ·rintro c st' ⟨sm,out,ia,ib,mg,rfl,g,h0⟩;exfalso;have:=g.ha;have:=g.hb
    lia
end
structure Mj(rk:dA->Nat)(p q o:List dA):Prop where
 l:SL rk (p++o)
 r:SL rk (q++o)
def Mj.swap{p q o:List dA}(h:Mj rk p q o):Mj rk q p o:=⟨h.r,h.l⟩
def Mj.UA{p q u o:List dA}(h:Mj rk p (q++u) o)(hu:∀x∈p,∀y∈u,rk x<=rk y):Mj rk p q (u++o):=by
 refine⟨?_,by rw[<-Bl];exact h.r⟩;obtain⟨a,b,c⟩:=SL.app.mp h.l;obtain⟨a',b',c'⟩:=SL.app.mp h.r;refine SL.app.mpr ⟨a,SL.app.mpr ⟨(SL.app.mp a').2.1,b,fun x hx y hy=>c' x (EU _ hx) y hy⟩,fun x hx y hy=>?_⟩;rcases Bp.mp hy with z|z
 ·exact hu x hx y z
 ·exact c x hx y z
def Pd(h:Up rk xs 0 xs.size){n:Nat}(hn:n<=i+1)(hi:i<xs.size):∀y∈xs.toList.take n,rk y<=kv rk xs i:=by
 intro y hy;obtain⟨j,hj,e⟩:=Ie.mp hy;rw[Bm] at hj;have hl:xs.toList.length=xs.size:=by simp
 rw[List.getElem_take] at e;rw[<-e,<-NC (rk:=rk) (i:=j) (by lia)];exact h _ _ (CN _) (by lia) (by lia)
def Ip{m n:Nat}(hn:n<=xs.size){y:dA}(h:y∈(xs.toList.take n).drop m):∃j,m<=j/\j<n/\y=xs.getD j dK:=by
 obtain⟨j,hj,e⟩:=Ie.mp h;rw[EX,Bm] at hj;have hl:xs.toList.length=xs.size:=by simp
 refine⟨m+j,by lia,by lia,?_⟩;rw[List.getElem_drop,List.getElem_take] at e;rw[<-e,HW,Gd _ (m+j) (by lia)];simp
def Mt{n:Nat}(h:n<xs.size)(out:Array dA):(out.push (xs.getD n dK)).toList.reverse=(xs.toList.take (n+1)).drop n++out.toList.reverse:=by
 have hl:xs.toList.length=xs.size:=by simp
 have e:(xs.toList.take (n+1)).drop n=[xs.getD n dK]:=by rw[List.drop_take,PM h];simp
 rw[e,Ma,List.reverse_append];rfl
def Wt(m n:Nat)(out:Array dA):(out++(xs.extract m n).reverse).toList.reverse=(xs.toList.take n).drop m++out.toList.reverse:=by rw[GZ,List.reverse_append,VS,List.reverse_reverse,M4,List.drop_take]
structure Mh(rk:dA->Nat)(a b out:Array dA)(na nb:Nat):Prop where
 mi:Mj rk (a.toList.take na) (b.toList.take nb) out.toList.reverse
 pm:out.toList.reverse.Perm (a.toList.drop na++b.toList.drop nb)
 ha:0<na
 la:na<=a.size
 hb:1<nb
 lb:nb<=b.size
end
variable{na nb:Nat}
section
open PySem.W
section
variable{a b:Array dA}
noncomputable def Gy(a b out:Array dA)(na nb:Nat):Array dA:=a.extract 0 na++b.extract 0 nb++out.reverse
noncomputable def Km(a b out:Array dA)(na nb:Nat):Array dA:=b.extract 0 nb++a.extract 0 na++out.reverse
def Oz(xs:Array dA)(i:Nat):(xs.extract 0 i).toList=xs.toList.take i:=by rw[M4];simp
def Ru{o a b:List dA}(h:o.Perm (a.drop i++b.drop j)):(a.take i++b.take j++o).Perm (a++b):=by
 have e:a++b=(a.take i++a.drop i)++(b.take j++b.drop j):=by rw[ET,ET]
 rw[e];refine(h.append_left _).trans ?_;rw[Bl,Bl];refine Qq _ ?_;rw[<-Bl,<-Bl];exact VM _ JE
def O3:(Gy a b out na nb).toList=a.toList.take na++b.toList.take nb++out.toList.reverse:=by unfold Gy;rw[GZ,GZ,Oz,Oz,VS]
def Wh:(Km a b out na nb).toList=b.toList.take nb++a.toList.take na++out.toList.reverse:=by unfold Km;rw[GZ,GZ,Oz,Oz,VS]
def QM(mi:Mj rk (a.toList.take na) (b.toList.take nb) out.toList.reverse)(pm:out.toList.reverse.Perm (a.toList.drop na++b.toList.drop nb))(ha:na=0):Me rk a b (Gy a b out na nb):=by refine⟨?_,by rw[O3];exact Ru pm⟩;rw[O3,ha,J9,RO];exact mi.r
def pL(mi:Mj rk (a.toList.take na) (b.toList.take nb) out.toList.reverse)(pm:out.toList.reverse.Perm (a.toList.drop na++b.toList.drop nb))(hb:nb=0):Me rk a b (Gy a b out na nb):=by refine⟨?_,by rw[O3];exact Ru pm⟩;rw[O3,hb,J9,CF];exact mi.l
def QC(mi:Mj rk (a.toList.take na) (b.toList.take nb) out.toList.reverse)(pm:out.toList.reverse.Perm (a.toList.drop na++b.toList.drop nb))(hb:nb=1)(hz:0<b.size)(hl:∀y∈a.toList,kv rk b 0<=rk y):Me rk a b (Km a b out na nb):=by
 have e:b.toList.take nb=[b.getD 0 dK]:=by have:=PM (xs:=b) (i:=0) hz;rw[Oe] at this;rw[hb,this];rfl
 refine⟨?_,?_⟩
 ·rw[Wh,e,Bl];refine SL.app.mpr ⟨VH _ _,mi.l,fun x hx y hy=>?_⟩;rw[Bk] at hx;rw[hx];rcases Bp.mp hy with z|z
  ·exact hl y (Ic z)
  ·exact(SL.app.mp mi.r).2.2 _ (by rw[e];exact Bk.mpr rfl) y z
 ·rw[Wh];exact(JE.append_right _).trans (Ru pm)
def QB(mi:Mj rk (a.toList.take na) (b.toList.take nb) out.toList.reverse)(pm:out.toList.reverse.Perm (a.toList.drop na++b.toList.drop nb))(m:Nat)(hm:m<=nb)(hnb:nb<=b.size)(e:out'.toList.reverse=(b.toList.take nb).drop m++out.toList.reverse)(hle:∀i,m<=i->i<nb->∀y∈a.toList.take na,rk y<=kv rk b i):
 Mj rk (a.toList.take na) (b.toList.take m) out'.toList.reverse/\out'.toList.reverse.Perm (a.toList.drop na++b.toList.drop m):=by
 have e3:b.toList.take nb=b.toList.take m++(b.toList.take nb).drop m:=by
  have:=(ET m (b.toList.take nb)).symm
  rwa [RV,LH hm] at this
 rw[e];constructor
 ·rw[e3] at mi;refine mi.UA fun x hx y hy=>?_;obtain⟨j,h1,h2,rfl⟩:=Ip hnb hy;exact hle j h1 h2 x hx
 ·have e4:b.toList.drop m=(b.toList.take nb).drop m++b.toList.drop nb:=by
   have e5:b.toList=b.toList.take nb++b.toList.drop nb:=(ET _ _).symm;have hl:m<=(b.toList.take nb).length:=by rw[Bm];simp;lia
   conv=>lhs;rw[e5]
   rw[Ql hl]
  rw[e4];refine(pm.append_left _).trans ?_;rw[<-Bl,<-Bl];exact VM _ JE
def QE(mi:Mj rk (a.toList.take na) (b.toList.take nb) out.toList.reverse)(pm:out.toList.reverse.Perm (a.toList.drop na++b.toList.drop nb))(m:Nat)(hm:m<=na)(hna:na<=a.size)(e:out'.toList.reverse=(a.toList.take na).drop m++out.toList.reverse)(hle:∀i,m<=i->i<na->∀y∈b.toList.take nb,rk y<=kv rk a i):
 Mj rk (a.toList.take m) (b.toList.take nb) out'.toList.reverse/\out'.toList.reverse.Perm (a.toList.drop m++b.toList.drop nb):=by
 have:=QB (a:=b) (b:=a) mi.swap (pm.trans JE) m hm hna e hle;exact⟨this.1.swap,this.2.trans JE⟩
end
abbrev B4:=Option (Array dA)×Nat×Nat×Array dA×Nat
abbrev B5:=Option (Array dA)×Nat×Nat×Array dA×Nat×Nat
abbrev B6:=Option (Array dA)×Nat×Nat×Array dA×Nat×Nat×Nat
def DD(a b:Array dA)(mg na nb:Nat)(out:Array dA):SM B5:=
 forIn [0:a.size+b.size] ((none,na,nb,out,0,0):B5) fun _ z=>rY b (z.2.2.1-1)>>=fun y=>rY a (z.2.1-1)>>=fun x=>lt' y x>>=fun t=>
  match t with
  |some c=>
   if c=true then(rY a (z.2.1-1)>>=fun x=>
    if(z.2.1-1==0)=true then pure (.done (some (Gy a b (z.2.2.2.1.push x) (z.2.1-1) z.2.2.1),z.2.1-1,z.2.2.1,z.2.2.2.1.push x,z.2.2.2.2.1+1,0))
    else if z.2.2.2.2.1+1>=mg then pure (.done (none,z.2.1-1,z.2.2.1,z.2.2.2.1.push x,z.2.2.2.2.1+1,0))
    else pure (.yield (none,z.2.1-1,z.2.2.1,z.2.2.2.1.push x,z.2.2.2.2.1+1,0)))
   else(rY b (z.2.2.1-1)>>=fun y=>
    if(z.2.2.1-1==1)=true then pure (.done (some (Km a b (z.2.2.2.1.push y) z.2.1 (z.2.2.1-1)),z.2.1,z.2.2.1-1,z.2.2.2.1.push y,0,z.2.2.2.2.2+1))
    else if z.2.2.2.2.2+1>=mg then pure (.done (none,z.2.1,z.2.2.1-1,z.2.2.2.1.push y,0,z.2.2.2.2.2+1))
    else pure (.yield (none,z.2.1,z.2.2.1-1,z.2.2.2.1.push y,0,z.2.2.2.2.2+1)))
  |none=>pure (.done (some (Gy a b z.2.2.2.1 z.2.1 z.2.2.1),z.2.1,z.2.2.1,z.2.2.2.1,z.2.2.2.2.1,z.2.2.2.2.2))
def IW(a b:Array dA)(mg ac bc na nb:Nat)(out:Array dA):SM (ForInStep B6):=
 rY a (na-1)>>=fun x=>
  if(na-1==0)=true then pure (.done (some (Gy a b (out.push x) (na-1) nb),na-1,nb,out.push x,mg,ac,bc))
  else if(decide (ac<7)&&decide (bc<7))=true then pure (.done (none,na-1,nb,out.push x,mg,ac,bc))
  else pure (.yield (none,na-1,nb,out.push x,mg,ac,bc))
def E4(a b:Array dA)(mg ac bc na nb:Nat)(out:Array dA):SM (ForInStep B6):=
 rY b (nb-1)>>=fun y=>
  if(nb-1==1)=true then pure (.done (some (Km a b (out.push y) na (nb-1)),na,nb-1,out.push y,mg,ac,bc))
  else rY a (na-1)>>=fun x=>JV true x b 0 (nb-1) (nb-1-1)>>=fun t=>
   match t with
   |some k=>
    if nb-1-k>0 then
     (if(k==1)=true then pure (.done (some (Km a b (out.push y++(b.extract k (nb-1)).reverse) na k),na,k,out.push y++(b.extract k (nb-1)).reverse,mg,ac,nb-1-k))
     else if(k==0)=true then pure (.done (some (Gy a b (out.push y++(b.extract k (nb-1)).reverse) na k),na,k,out.push y++(b.extract k (nb-1)).reverse,mg,ac,nb-1-k))
     else IW a b mg ac (nb-1-k) na k (out.push y++(b.extract k (nb-1)).reverse))
    else IW a b mg ac (nb-1-k) na (nb-1) (out.push y)
   |none=>pure (.done (some (Gy a b (out.push y) na (nb-1)),na,nb-1,out.push y,mg,ac,bc))
def EM(a b:Array dA)(mg ac bc na nb:Nat)(out:Array dA):SM (ForInStep B6):=
 NG mg>>=fun _=>rY b (nb-1)>>=fun y=>JV false y a 0 na (na-1)>>=fun t=>
  match t with
  |some k=>
   if na-k>0 then
    (if(k==0)=true then pure (.done (some (Gy a b (out++(a.extract k na).reverse) k nb),k,nb,out++(a.extract k na).reverse,mg,na-k,bc))
    else E4 a b mg (na-k) bc k nb (out++(a.extract k na).reverse))
   else E4 a b mg (na-k) bc na nb out
  |none=>pure (.done (some (Gy a b out na nb),na,nb,out,mg,ac,bc))
def K2(a b:Array dA)(na nb:Nat)(out:Array dA)(mg ac bc:Nat):SM B6:=
 forIn [0:a.size+b.size] ((none,na,nb,out,mg,ac,bc):B6) fun _ z=>if z.2.2.2.2.1>1 then EM a b (z.2.2.2.2.1-1) z.2.2.2.2.2.1 z.2.2.2.2.2.2 z.2.1 z.2.2.1 z.2.2.2.1 else EM a b z.2.2.2.2.1 z.2.2.2.2.2.1 z.2.2.2.2.2.2 z.2.1 z.2.2.1 z.2.2.2.1
def qU(z:B6):SM (ForInStep B4):=
 match z.1 with
 |some r=>pure (.done (some r,z.2.1,z.2.2.1,z.2.2.2.1,z.2.2.2.2.1))
 |none=>NG (z.2.2.2.2.1+1)>>=fun _=>pure (.yield (none,z.2.1,z.2.2.1,z.2.2.2.1,z.2.2.2.2.1+1))
def Ux(a b:Array dA)(mg:Nat)(z:B5):SM (ForInStep B4):=
 match z.1 with
 |some r=>pure (.done (some r,z.2.1,z.2.2.1,z.2.2.2.1,mg))
 |none=>(liftM (rule "list.sort.gallop"):SM Unit)>>=fun _=>K2 a b z.2.1 z.2.2.1 z.2.2.2.1 (mg+1) z.2.2.2.2.1 z.2.2.2.2.2>>=qU
def Qi(a b:Array dA)(na nb:Nat)(out:Array dA)(mg:Nat):SM B4:=
 forIn [0:a.size+b.size] ((none,na,nb,out,mg):B4) fun _ z=>DD a b z.2.2.2.2 z.2.1 z.2.2.1 z.2.2.2.1>>=Ux a b z.2.2.2.2
noncomputable def N6(z:B4):SM (Array dA):=
 match z.1 with
 |some r=>pure r
 |none=>liftM (rg "internal:list.sort.merge-bound" :Sem (Array dA))
def high(a b:Array dA):SM (Array dA):=
 (liftM (rule "list.sort.merge-hi"):SM Unit)>>=fun _=>rY a (a.size-1)>>=fun x=>
  if(a.size-1==0)=true then pure (Gy a b #[x] (a.size-1) b.size)
  else if(b.size==1)=true then pure (Km a b #[x] (a.size-1) b.size)
  else get>>=fun st=>Qi a b (a.size-1) b.size #[x] (gallopOf st)>>=N6
noncomputable def SR:Array dA->Array dA->SM (Array dA):=sortPriv%PySem.Builtin.mergeHi
def j3(a b:Array dA):SR a b=high a b:=by
 refine BH rfl fun _=>BH rfl fun y=>DU rfl (fun _=>rfl) fun _=>DU rfl (fun _=>rfl) fun _=>BH rfl fun st=>BH (Hn fun i z=>BH (Hn fun i z=>?_) fun z'=>?_) fun z=>?_
 ·refine BH rfl fun y=>BH rfl fun x=>BH rfl fun t=>?_;cases t<;>rfl
 ·obtain⟨r,na,nb,o,ac,bc⟩:=z'
  match r with
  |some r=>rfl
  |none=>
   refine BH rfl fun _=>BH (Hn fun i z=>?_) fun z=>?_
   ·refine DU rfl (fun _=>?_) fun _=>?_;all_goals
     refine BH rfl fun _=>BH rfl fun y=>BH rfl fun t=>?_
     cases t with
     |none=>rfl
     |some k=>
      refine DU rfl (fun _=>DU rfl (fun _=>rfl) fun _=>?_) fun _=>?_;all_goals
       refine BH rfl fun y=>DU rfl (fun _=>rfl) fun _=>BH rfl fun x=>BH rfl fun t=>?_;cases t<;>rfl
   ·obtain⟨r,z⟩:=z;cases r<;>rfl
 ·obtain⟨r,z⟩:=z;cases r<;>rfl
def U3(rk:dA->Nat)(a b:Array dA)(N:Nat)(z:B6):Prop:=z.1=none/\Mh rk a b z.2.2.2.1 z.2.1 z.2.2.1/\z.2.1+z.2.2.1<=N
def bp(rk:dA->Nat)(a b:Array dA)(N:Nat)(z:B6):Prop:=(∃r,z.1=some r/\Me rk a b r)\/U3 rk a b N z
def U8(rk:dA->Nat)(a b:Array dA)(N:Nat):ForInStep B6->Prop
 |.done z=>bp rk a b N z
 |.yield z=>U3 rk a b N z
section
variable{a b:Array dA}
def oq(hc:C7 prog w A s κ rk a0)(T:GX rk a0 a b)(hk:kindOf st=κ){mg:Nat}{N:Nat}(g:Mh rk a b out na nb)(hN:na+nb<=N){Q:B5->qw->Prop}
 (h1:∀r z,Me rk a b r->Q (some r,z) st)(h2:∀out na nb ac bc,Mh rk a b out na nb->na+nb+1<=N->Q (none,na,nb,out,ac,bc) st):wpS (ax prog w) A E s (DD a b mg na nb out) Q st:=by
 unfold DD;refine Fe (I:=fun x c h0=>h0=st/\∃out na nb ac bc,c=(none,na,nb,out,ac,bc)/\Mh rk a b out na nb/\na+nb+x<=N) ?_ ?_ ⟨rfl,out,na,nb,0,0,rfl,g,hN⟩
 ·rintro x c h0 _ hx ⟨rfl,out,na,nb,ac,bc,rfl,g,h3⟩;obtain⟨gm,gp,g1,g2,g3,g4⟩:=g;have ha:na-1<a.size:=by lia
  have hb:nb-1<b.size:=by lia
  refine Ak (DX hb (Ak (DX ha (Ak (Nj hc hk (T.MC _ (getD_mem hb)) (T.MF _ (getD_mem ha)) ?_)))));have pa:=Mt ha out;have pb:=Mt hb out;rw[show na-1+1=na by lia] at pa;rw[show nb-1+1=nb by lia] at pb;by_cases hl:rk (b.getD (nb-1) dK)<rk (a.getD (na-1) dK)
  ·simp only[hl,LS,CO];refine Ak (DX ha ?_);obtain⟨m1,m2⟩:=QE gm gp (na-1) (by lia) g2 pa (fun i h1 h2 y hy=>by
    have e:i=na-1:=by lia
    subst e;exact BJ (Pd T.ub (by lia) hb y hy) (F5 hl));by_cases e:na-1=0
   ·rw[AH (by simpa using e)];exact As (h1 _ _ (QM m1 m2 e))
   ·rw[AG (by simpa using e)];have g':Mh rk a b (out.push (a.getD (na-1) dK)) (na-1) nb:=⟨m1,m2,by lia,by lia,g3,g4⟩;by_cases e2:ac+1>=mg
    ·rw[AH e2];exact As (h2 _ _ _ _ _ g' (by lia))
    ·rw[AG e2];exact As ⟨rfl,_,_,_,_,_,rfl,g',by lia⟩
  ·simp only[hl,LP,CQ,Bs];refine Ak (DX hb ?_);obtain⟨m1,m2⟩:=QB gm gp (nb-1) (by lia) g4 pb (fun i h1 h2 y hy=>by
    have e:i=nb-1:=by lia
    subst e;exact BJ (Pd T.ua (by lia) ha y hy) (OW hl));by_cases e:nb-1=1
   ·rw[AH (by simpa using e)];exact As (h1 _ _ (QC m1 m2 e T.nb T.first))
   ·rw[AG (by simpa using e)];have g':Mh rk a b (out.push (b.getD (nb-1) dK)) na (nb-1):=⟨m1,m2,g1,g2,by lia,by lia⟩;by_cases e2:bc+1>=mg
    ·rw[AH e2];exact As (h2 _ _ _ _ _ g' (by lia))
    ·rw[AG e2];exact As ⟨rfl,_,_,_,_,_,rfl,g',by lia⟩
 ·rintro c h0 ⟨rfl,out,na,nb,ac,bc,rfl,g,h3⟩;refine h2 _ _ _ _ _ g ?_;have:=T.na
  lia
def Zj(T:GX rk a0 a b){mg:Nat}{N:Nat}(g:Mh rk a b out na nb)(hN:na+nb<=N)(hle:∀y∈b.toList.take nb,rk y<=kv rk a (na-1)){Q:ForInStep B6->qw->Prop}
 (h:∀z,U8 rk a b N z->Q z st):wpS (ax prog w) A E s (IW a b mg ac bc na nb out) Q st:=by
 obtain⟨gm,gp,g1,g2,g3,g4⟩:=g;have ha:na-1<a.size:=by lia
 have pa:=Mt ha out;rw[show na-1+1=na by lia] at pa;unfold IW;refine Ak (DX ha ?_);obtain⟨m1,m2⟩:=QE gm gp (na-1) (by lia) g2 pa (fun i h1 h2 y hy=>by
  have e:i=na-1:=by lia
  subst e;exact hle y hy);by_cases e:na-1=0
 ·rw[AH (by simpa using e)];exact As (h _ (.inl ⟨_,rfl,QM m1 m2 e⟩))
 ·rw[AG (by simpa using e)];have g':Mh rk a b (out.push (a.getD (na-1) dK)) (na-1) nb:=⟨m1,m2,by lia,by lia,g3,g4⟩;by_cases e3:(decide (ac<7)&&decide (bc<7))=true
  ·rw[AH e3];exact As (h _ (.inr ⟨rfl,g',by show na-1+nb<=N;lia⟩))
  ·rw[AG e3];exact As (h _ ⟨rfl,g',by show na-1+nb<=N;lia⟩)
def Zy(hc:C7 prog w A s κ rk a0)(T:GX rk a0 a b)(hk:kindOf st=κ){mg:Nat}{N:Nat}(g:Mh rk a b out na nb)(hN:na+nb<=N)(hle:∀y∈a.toList.take na,rk y<=kv rk b (nb-1)){Q:ForInStep B6->qw->Prop}
 (h:∀z,U8 rk a b N z->Q z st):wpS (ax prog w) A E s (E4 a b mg ac bc na nb out) Q st:=by
 obtain⟨gm,gp,g1,g2,g3,g4⟩:=g;have ha:na-1<a.size:=by lia
 have hb:nb-1<b.size:=by lia
 have pb:=Mt hb out;rw[show nb-1+1=nb by lia] at pb;unfold E4;refine Ak (DX hb ?_);obtain⟨m1,m2⟩:=QB gm gp (nb-1) (by lia) g4 pb (fun i h1 h2 y hy=>by
  have e:i=nb-1:=by lia
  subst e;exact hle y hy);by_cases e:nb-1=1
 ·rw[AH (by simpa using e)];exact As (h _ (.inl ⟨_,rfl,QC m1 m2 e T.nb T.first⟩))
 ·rw[AG (by simpa using e)];have g':Mh rk a b (out.push (b.getD (nb-1) dK)) na (nb-1):=⟨m1,m2,g1,g2,by lia,by lia⟩;refine Ak (DX ha (Ak (LY hc hk (T.MF _ (getD_mem ha)) T.MC (by lia) (by lia) (T.ub.part (by lia)) fun k k1 k2 k3=>?_)));simp only[Nat.zero_add] at k2 k3;dsimp only;have rest:∀y∈b.toList.take k,rk y<=kv rk a (na-1):=fun y hy=>by obtain⟨j,_,j2,rfl⟩:=Ip (xs:=b) (m:=0) (n:=k) (by lia) hy;have h1:=k2 j j2;show kv rk b j<=rk (a.getD (na-1) dK);rcases h1 with z|⟨_,z⟩<;>lia
  by_cases k0:nb-1-k>0
  ·rw[AH k0];obtain⟨n1,n2⟩:=QB m1 m2 k k1 (by lia) (Wt (xs:=b) k (nb-1) (out.push (b.getD (nb-1) dK))) (fun i h1 h2 y hy=>by
    have h3:=k3 i h1 h2;have h4:=Pd T.ua (i:=na-1) (by lia) ha y hy;have h5:rk (a.getD (na-1) dK)<=kv rk b i:=by rcases h3 with z|⟨_,z⟩<;>lia
    exact BJ h4 h5);by_cases e1:k=1
   ·rw[AH (by simpa using e1)];exact As (h _ (.inl ⟨_,rfl,QC n1 n2 e1 T.nb T.first⟩))
   ·rw[AG (by simpa using e1)];by_cases e2:k=0
    ·rw[AH (by simpa using e2)];exact As (h _ (.inl ⟨_,rfl,pL n1 n2 e2⟩))
    ·rw[AG (by simpa using e2)];exact Zj T ⟨n1,n2,g1,g2,by lia,by lia⟩ (by lia) rest h
  ·rw[AG k0];have h0:k=nb-1:=by lia
   subst h0;exact Zj T g' (by lia) rest h
def Zq(hc:C7 prog w A s κ rk a0)(T:GX rk a0 a b)(hk:kindOf st=κ){mg:Nat}{N:Nat}(g:Mh rk a b out na nb)(hN:na+nb<=N){Q:ForInStep B6->qw->Prop}
 (h:∀z st',Sm st st'->U8 rk a b N z->Q z st'):wpS (ax prog w) A E s (EM a b mg ac bc na nb out) Q st:=by
 obtain⟨gm,gp,g1,g2,g3,g4⟩:=id g;have ha:na-1<a.size:=by lia
 have hb:nb-1<b.size:=by lia
 unfold EM;refine Ak (O8 fun st' sm=>Ak (DX hb (Ak (LY hc (sm.k.trans hk) (T.MC _ (getD_mem hb)) T.MF (by lia) (by lia) (T.ua.part (by lia)) fun k k1 k2 k3=>?_))));simp only[Nat.zero_add] at k2 k3;dsimp only;have rest:∀y∈a.toList.take k,rk y<=kv rk b (nb-1):=fun y hy=>by obtain⟨j,_,j2,rfl⟩:=Ip (xs:=a) (m:=0) (n:=k) (by lia) hy;have h1:=k2 j j2;show kv rk a j<=rk (b.getD (nb-1) dK);rcases h1 with z|⟨_,z⟩<;>lia
 by_cases k0:na-k>0
 ·rw[AH k0];obtain⟨n1,n2⟩:=QE gm gp k k1 g2 (Wt (xs:=a) k na out) (fun i h1 h2 y hy=>by
   have h3:=k3 i h1 h2;have h4:=Pd T.ub (i:=nb-1) (by lia) hb y hy;have h5:rk (b.getD (nb-1) dK)<=kv rk a i:=by rcases h3 with z|⟨_,z⟩<;>lia
   exact BJ h4 h5);by_cases e2:k=0
  ·rw[AH (by simpa using e2)];exact As (h _ _ sm (.inl ⟨_,rfl,QM n1 n2 e2⟩))
  ·rw[AG (by simpa using e2)];exact Zy hc T (sm.k.trans hk) ⟨n1,n2,by lia,by lia,g3,g4⟩ (by lia) rest fun z hz=>h z _ sm hz
 ·rw[AG k0];have h0:k=na:=by lia
  subst h0;exact Zy hc T (sm.k.trans hk) g hN rest fun z hz=>h z _ sm hz
def oK(hc:C7 prog w A s κ rk a0)(T:GX rk a0 a b)(hk:kindOf st=κ){mg:Nat}{N:Nat}(g:Mh rk a b out na nb)(hN:na+nb<=N){Q:B6->qw->Prop}
 (h:∀z st',Sm st st'->bp rk a b N z->Q z st'):wpS (ax prog w) A E s (K2 a b na nb out mg ac bc) Q st:=by
 unfold K2;refine Fe (I:=fun x c st'=>Sm st st'/\U3 rk a b N c) ?_ ?_ ⟨Sm.Jn _,rfl,g,hN⟩
 ·rintro x c st' _ hx ⟨sm,c1,c2,c3⟩;by_cases e3:c.2.2.2.2.1>1
  ·rw[AH e3];refine Zq hc T (sm.k.trans hk) c2 c3 fun z h0 s2 hz=>?_
   cases z with
   |done z=>exact h z _ (sm.trans s2) hz
   |yield z=>exact⟨sm.trans s2,hz⟩
  ·rw[AG e3];refine Zq hc T (sm.k.trans hk) c2 c3 fun z h0 s2 hz=>?_
   cases z with
   |done z=>exact h z _ (sm.trans s2) hz
   |yield z=>exact⟨sm.trans s2,hz⟩
 ·rintro c st' ⟨sm,hz⟩;exact h c st' sm (.inr hz)
def mh(hc:C7 prog w A s κ rk a0)(T:GX rk a0 a b)(hk:kindOf st=κ){Q:Array dA->qw->Prop}(h:∀r st',Sm st st'->Me rk a b r->Q r st'):wpS (ax prog w) A E s (SR a b) Q st:=by
 rw[j3];unfold high;have nb:=T.nb;have na:=T.na;have ha:a.size-1<a.size:=by lia
 refine Ak (Lb (IH ⟨rfl,?_⟩));refine Ak (DX ha ?_);have pa:=Mt ha #[];rw[show a.size-1+1=a.size by lia] at pa;have ta:a.toList.take a.size=a.toList:=F0 (by simp);have tb:b.toList.take b.size=b.toList:=F0 (by simp);obtain⟨m1,m2⟩:=QE (rk:=rk) (a:=a) (b:=b) (out:= #[]) (na:=a.size) (nb:=b.size) ⟨by rw[ta];show SL rk (a.toList++[]);rw[CF];exact Py T.ua,by rw[tb];show SL rk (b.toList++[]);rw[CF];exact Py T.ub⟩
  (by rw[K8 (by simp),K8 (by simp)];exact Of _) (a.size-1) (by lia) (Ad _) pa (fun i h1 h2 y hy=>by
  have e:i=a.size-1:=by lia
  subst e;exact T.last y (Ic hy));by_cases e1:a.size-1=0
 ·rw[AH (by simpa using e1)];exact As (h _ _ (Sm.Jn _) (QM m1 m2 e1))
 ·rw[AG (by simpa using e1)];by_cases e2:b.size=1
  ·rw[AH (by simpa using e2)];exact As (h _ _ (Sm.Jn _) (QC m1 m2 e2 T.nb T.first))
  ·rw[AG (by simpa using e2)];refine Ak (IL (Ak ?_));unfold Qi;refine Fe (I:=fun x c st'=>Sm st st'/\∃out na nb mg,c=(none,na,nb,out,mg)/\Mh rk a b out na nb/\na+nb+x+1<=a.size+b.size) ?_ ?_ ⟨Sm.Jn _,_,_,_,_,rfl,⟨m1,m2,by lia,by lia,by lia,Ad _⟩,by lia⟩
   ·rintro x c st' _ hx ⟨sm,out,na,nb,mg,rfl,g,h5⟩;refine Ak (oq (N:=a.size+b.size-x-1) hc T (sm.k.trans hk) g (by lia) (fun r z hr=>As ?_) fun out na nb ac bc g2 e0=>?_)
    ·exact As (h r _ sm hr)
    ·refine Ak (Lb (IH ⟨rfl,?_⟩));refine Ak (oK (N:=a.size+b.size-x-2) hc T (sm.k.trans hk) g2 (by lia) fun z h7 s2 hz=>?_);obtain⟨r,h0,h3,o,h8,e4,e3⟩:=z;rcases hz with⟨r',rfl,hr⟩|⟨rfl,g3,h4⟩
     ·exact As (As (h r' _ (sm.trans s2) hr))
     ·have g5:0<h0:=g3.ha;have h9:h0+h3<=a.size+b.size-x-2:=h4;exact Ak (O8 fun h6 s3=>As ⟨(sm.trans s2).trans s3,o,h0,h3,_,rfl,g3,by lia⟩)
   ·rintro c st' ⟨sm,out,na,nb,mg,rfl,g,h5⟩;exfalso
    lia
end
section
variable(rk:dA->Nat)
def ZR{src d:Nat}(hs:src<xs.size)(hd:d<=src)(k:Nat):kv rk (bubble xs src d) k=if k=src-d then kv rk xs src else if src-d<k/\k<=src then kv rk xs (k-1) else kv rk xs k:=by
 have e:=getElem?_bubble hs d hd k;by_cases h1:k=src-d
 ·rw[AH h1] at e⊢;exact IS rk e
 ·rw[AG h1] at e⊢;by_cases h2:src-d<k/\k<=src
  ·rw[AH h2] at e⊢;exact IS rk e
  ·rw[AG h2] at e⊢;exact IS rk e
end
section
variable{P:Array (Nat×Nat×Nat)}
def ij(hc:C7 prog w A s κ rk a0){n ok:Nat}{Q:Bool->qw->Prop}(hn:lo+n<=a0.size)(h1:1<=ok)(hok:ok<=n)(hB:Ok κ a0 lo P st)(hs:Up rk (dy st) lo (lo+ok))
 (h:∀st',Ok κ a0 lo P st'->Up rk (dy st') lo (lo+n)->Q true st'):wpS (ax prog w) A E s (binarySort' lo n ok) Q st:=by
 rw[binarySort'_eq];refine Ak (tP (Fe (I:=fun k c st'=>c=(none,())/\Ok κ a0 lo P st'/\Up rk (dy st') lo (lo+min k n))
  (Q:=fun c st'=>c=(none,())/\Ok κ a0 lo P st'/\Up rk (dy st') lo (lo+n)) ?_ ?_ ⟨rfl,hB,by rw[show min (max ok 1) n=ok by lia];exact hs⟩) ?_)
 ·rintro k c st' e7 e6 ⟨rfl,h4,h3⟩;rw[show min k n=k by lia] at h3;have hk:lo+k<a0.size:=by lia
  refine Ak (tP (Fe (I:=fun x c h0=>h0=st'/\∃l r,c=(none,l,r)/\l<=r/\r<=k/\r-l<=k-x/\
   (∀i,i<l->kv rk (dy st') (lo+i)<=kv rk (dy st') (lo+k))/\(∀i,r<=i->i<k->kv rk (dy st') (lo+k)<kv rk (dy st') (lo+i)))
   (Q:=fun c h0=>h0=st'/\∃l r,c=(none,l,r)/\l<=k/\
    (∀i,i<l->kv rk (dy st') (lo+i)<=kv rk (dy st') (lo+k))/\(∀i,l<=i->i<k->kv rk (dy st') (lo+k)<kv rk (dy st') (lo+i))) ?_ ?_ ⟨rfl,0,k,rfl,by lia,by lia,by lia,fun i hi=>by lia,fun i h1 h2=>by lia⟩) ?_)
  ·rintro x c h0 _ e4 ⟨rfl,l,r,rfl,e1,h7,hm,h5,h6⟩;dsimp only;by_cases h9:l>=r
   ·rw[AH h9];have:l=r:=by lia
    subst this;exact As ⟨rfl,l,l,rfl,h7,h5,h6⟩
   ·rw[AG h9];refine Ak (Nb hc h4 hk (by lia) ?_);by_cases hl:kv rk (dy h0) (lo+k)<kv rk (dy h0) (lo+(l+r)/2)
    ·simp only[hl,LS,CO];refine As ⟨rfl,l,(l+r)/2,rfl,by lia,by lia,by lia,h5,fun i a b=>?_⟩;exact C8 hl (h3 _ _ (by lia) (by lia) (by lia))
    ·simp only[hl,LP,CQ,Bs];refine As ⟨rfl,(l+r)/2+1,r,rfl,by lia,by lia,by lia,fun i a=>?_,h6⟩;exact BJ (h3 (lo+i) (lo+(l+r)/2) (by lia) (by lia) (by lia)) (OW hl)
  ·rintro c h0 ⟨rfl,l,r,rfl,e1,h7,hm,h5,h6⟩;have:l=r:=by lia
   subst this;exact⟨rfl,l,l,rfl,h7,h5,h6⟩
  ·rintro c h0 ⟨rfl,l,r,rfl,e5,h5,h6⟩;show wpS _ _ _ _ (moveDown' (lo+k) (lo+l)>>=fun _=>pure (ForInStep.yield (none,()))) _ _;rw[moveDown'_eq];have h8:lo+k<(dy h0).size:=by rw[h4.size];exact hk
   refine Ak (KG (As ⟨rfl,h4.set (bubble_perm _ _ _) (fun j hj=>?_),?_⟩))
   ·rw[getElem?_bubble h8 _ (by lia),AG (by lia),AG (by lia)]
   ·rw[show min (k+1) n=k+1 by lia];intro i j a b c;show kv rk (bubble (dy h0) (lo+k) (lo+k-(lo+l))) i<=kv rk (bubble (dy h0) (lo+k) (lo+k-(lo+l))) j;rw[ZR rk h8 (by lia),ZR rk h8 (by lia),show lo+k-(lo+k-(lo+l))=lo+l by lia];have e0:∀i,lo<=i->i<lo+l->kv rk (dy h0) i<=kv rk (dy h0) (lo+k):=fun i x y=>by
     have:=h5 (i-lo) (by lia)
     rwa [show lo+(i-lo)=i by lia] at this
    have e2:∀i,lo+l<=i->i<lo+k->kv rk (dy h0) (lo+k)<kv rk (dy h0) i:=fun i x y=>by
     have:=h6 (i-lo) (by lia) (by lia)
     rwa [show lo+(i-lo)=i by lia] at this
    repeat' split
    all_goals first
     |(exfalso;lia)
     |exact Ad _
     |exact e0 _ (by lia) (by lia)
     |exact F5 (e2 _ (by lia) (by lia))
     |exact h3 _ _ (by lia) (by lia) (by lia)
 ·rintro c st' ⟨e3,h4,h3⟩;refine⟨e3,h4,?_⟩
  rwa [show min (max (max ok 1) n) n=n by lia] at h3
 ·rintro c st' ⟨rfl,h4,h3⟩;exact As (h st' h4 h3)
end
noncomputable def wr(sa:Nat)(xs:Array dA)(l:List (dA×Nat)):Array dA:=l.foldl (fun a x=>match x with|(p,j)=>a.setIfInBounds (sa+j) p) xs
def YM:∀(l:List dA)(n sa:Nat)(xs:Array dA)(p m q:List dA),xs.toList=p++m++q->p.length=sa+n->m.length=l.length->(wr sa xs (l.zipIdx n)).toList=p++l++q
 |[],n,sa,xs,p,m,q,e,hp,hm=>by have:m=[]:=Qn.mp hm;subst this;exact e
 |x::l,n,sa,xs,p,m,q,e,hp,hm=>by
  match m,hm with
  |y::m,hm=>
   have h0:m.length=l.length:=by simpa using hm
   have:=YM l (n+1) sa (xs.setIfInBounds (sa+n) x) (p++[x]) m q (by rw[Array.toList_setIfInBounds,e,<-hp];simp) (by simp;lia) h0;rw[List.zipIdx_cons];show(wr sa (xs.setIfInBounds (sa+n) x) (l.zipIdx (n+1))).toList=_;rw[this];simp
def S8(i sa na pw sb nb:Nat)(st:qw):SM Bool:=
 set (sN st (((dq st).setIfInBounds i (sa,na+nb,pw)).eraseIdxIfInBounds (i+1)))>>=fun _=>rY (dy st) sb>>=fun y=>JV false y (dy st) sa na 0>>=fun t=>
  match t with
  |some k=>
   if(na-k==0)=true then pure true
   else rY (dy st) (sa+k+(na-k)-1)>>=fun x=>JV true x (dy st) sb nb (nb-1)>>=fun t=>
    match t with
    |some m=>
     if(m==0)=true then pure true
     else if na-k<=m then(SN ((dy st).extract (sa+k) sb) ((dy st).extract sb (sb+m))>>=fun r=>modify (fun z=>setArr z (wr (sa+k) (dy z) r.toList.zipIdx))>>=fun _=>get>>=fun z=>pure (rM z).isNone)
      else(SR ((dy st).extract (sa+k) sb) ((dy st).extract sb (sb+m))>>=fun r=>modify (fun z=>setArr z (wr (sa+k) (dy z) r.toList.zipIdx))>>=fun _=>get>>=fun z=>pure (rM z).isNone)
    |none=>pure false
  |none=>pure false
def eB{Q:Bool->qw->Prop}{sa pw sb pb:Nat}(h1:(dq st)[i]? =some (sa,na,pw))(h2:(dq st)[i+1]? =some (sb,nb,pb))
 (h:wpS M A E s (S8 i sa na pw sb nb st) Q st):wpS M A E s (uI i) Q st:=by
 have e:uI i=(get>>=fun st:qw=>(match((dq st)[i]?,(dq st)[i+1]?) with
  |(some (sa,na,pw),some (sb,nb,_))=>S8 i sa na pw sb nb st
  |_=>liftM (rg "internal:list.sort.pending" :Sem Bool):SM Bool)):=by
  refine BH rfl fun st=>?_
  cases(dq st)[i]?with
  |none=>rfl
  |some x=>
   cases(dq st)[i+1]?with
   |none=>rfl
   |some y=>
    refine BH rfl fun _=>BH rfl fun _=>BH rfl fun t=>?_
    cases t with
    |none=>rfl
    |some k=>refine DU rfl (fun _=>rfl) fun _=>BH rfl fun _=>BH rfl fun t=>?_;cases t<;>rfl
 rw[e];refine Ak (IL ?_);rw[h1,h2];exact h
noncomputable def seg(xs:Array dA)(lo hi:Nat):List dA:=(xs.toList.take hi).drop lo
def Tt{hi:Nat}(hh:hi<=xs.size):Up rk xs lo hi↔SL rk (seg xs lo hi):=by
 have hl:xs.toList.length=xs.size:=by simp
 have h0:∀i (h:i<(seg xs lo hi).length),rk (seg xs lo hi)[i]=kv rk xs (lo+i):=fun i h=>by have h':=h;unfold seg at h';rw[EX,Bm] at h';rw[NC (by lia)];congr 1;refine Af ?_;rw[<-Ar,<-Ar];unfold seg;rw[LB,Q2,AH (by lia)]
 have h3:(seg xs lo hi).length=hi-lo:=by unfold seg;rw[EX,Bm];lia
 constructor
 ·intro h;refine OF.mpr fun i j h2 h1 h4=>?_;rw[h0 i h2,h0 j h1];exact h _ _ (by lia) (by lia) (by lia)
 ·intro h i j a b c;by_cases e:i=j
  ·subst e;exact Ad _
  ·have:=OF.mp h (i-lo) (j-lo) (by lia) (by lia) (by lia);rw[h0 _ (by lia),h0 _ (by lia)] at this
   rwa [show lo+(i-lo)=i by lia,show lo+(j-lo)=j by lia] at this
def PK(xs:Array dA){a b c:Nat}(h1:a<=b)(h2:b<=c)(h3:c<=xs.size):seg xs a c=seg xs a b++seg xs b c:=by
 have hl:xs.toList.length=xs.size:=by simp
 unfold seg;have e:xs.toList.take c=xs.toList.take b++(xs.toList.take c).drop b:=by
  have:=(ET b (xs.toList.take c)).symm
  rwa [RV,LH h2] at this
 conv=>lhs;rw[e]
 rw[Ql (by rw[Bm];lia)]
def S7(xs:Array dA){a b:Nat}(h:b<=xs.size):(seg xs a b).length=b-a:=by
 have hl:xs.toList.length=xs.size:=by simp
 unfold seg;rw[EX,Bm]
 lia
def Lc(xs:Array dA)(a b:Nat):(xs.extract a b).toList=seg xs a b:=by rw[M4];unfold seg;rw[List.drop_take]
def ZM{a b:Nat}(hb:b<=xs.size)(hi:i<b-a):kv rk (xs.extract a b) i=kv rk xs (a+i):=by refine IS rk ?_;rw[Array.getElem?_extract,AH (by lia)]
structure N9(rk:dA->Nat)(xs ys:Array dA)(lo hi:Nat):Prop where
 pm:ys.Perm xs
 up:Up rk ys lo hi
 out:∀k,k<lo\/hi<=k->ys[k]? =xs[k]?
def ko{ys:Array dA}{p q hi:Nat}{r:List dA}(h1:lo<=p)(h2:p<=q)(h3:q<=hi)(h4:hi<=xs.size)(hr:r.Perm (seg xs p q))(hs:SL rk (seg xs lo p++r++seg xs q hi))(e:ys.toList=xs.toList.take p++r++xs.toList.drop q):
 N9 rk xs ys lo hi:=by
 have hl:xs.toList.length=xs.size:=by simp
 have ep:xs.toList.take p=xs.toList.take lo++seg xs lo p:=by
  have:=(ET lo (xs.toList.take p)).symm
  rwa [RV,LH h1] at this
 have h5:xs.toList.drop q=seg xs q hi++xs.toList.drop hi:=by
  have e5:xs.toList=xs.toList.take hi++xs.toList.drop hi:=(ET _ _).symm;have h0:q<=(xs.toList.take hi).length:=by rw[Bm];lia
  conv=>lhs;rw[e5]
  rw[Ql h0];rfl
 have rl:r.length=q-p:=by rw[hr.length_eq,S7 xs (by lia)]
 have pm:ys.Perm xs:=by
  refine MM.mpr ?_;rw[e];have e6:xs.toList=xs.toList.take p++seg xs p q++xs.toList.drop q:=by
   have e7:xs.toList.drop p=seg xs p q++xs.toList.drop q:=by
    have e5:xs.toList=xs.toList.take q++xs.toList.drop q:=(ET _ _).symm;have h0:p<=(xs.toList.take q).length:=by rw[Bm];lia
    conv=>lhs;rw[e5]
    rw[Ql h0];rfl
   rw[Bl,<-e7,ET]
  conv=>rhs;rw[e6]
  exact(hr.append_left _).append_right _
 have sz:ys.size=xs.size:=pm.size_eq;have el:ys.toList=xs.toList.take lo++(seg xs lo p++r++seg xs q hi)++xs.toList.drop hi:=by rw[e,ep,h5];simp only[Bl]
 have ml:(seg xs lo p++r++seg xs q hi).length=hi-lo:=by
  rw[Au,Au,rl,S7 xs (by lia),S7 xs h4]
  lia
 have tl:(xs.toList.take lo).length=lo:=by rw[Bm];lia
 refine⟨pm,(Tt (by lia)).mpr ?_,fun k hk=>?_⟩
 ·have:seg ys lo hi=seg xs lo p++r++seg xs q hi:=by unfold seg;rw[el,Bl,List.take_append,F0 (by lia),List.drop_append,K8 (by lia),RO,tl,El,Oe];rw[List.take_append,F0 (by lia),ml,El,J9,CF];rfl
  rw[this];exact hs
 ·rw[<-GY,<-GY,el];rcases hk with hk|hk
  ·rw[Bl,C3 (by lia),Q2,AH hk]
  ·rw[Cn (by rw[Au];lia),Au,tl,ml,LB];congr 1
   lia
def eZ(hc:C7 prog w A s κ rk a0){sa pw pb:Nat}{Q:Bool->qw->Prop}(hk:kindOf st=κ)(hf:rM st=none)(hp:(dy st).Perm a0)
 (h1:(dq st)[i]? =some (sa,na,pw))(h2:(dq st)[i+1]? =some (sa+na,nb,pb))(na0:0<na)(nb0:0<nb)(hz:sa+na+nb<=(dy st).size)(ua:Up rk (dy st) sa (sa+na))(ub:Up rk (dy st) (sa+na) (sa+na+nb))
 (h:∀st':qw,kindOf st'=κ->rM st'=none->dq st'=((dq st).setIfInBounds i (sa,na+nb,pw)).eraseIdxIfInBounds (i+1)->N9 rk (dy st) (dy st') sa (sa+na+nb)->Q true st'):
 wpS (ax prog w) A E s (uI i) Q st:=by
 refine eB h1 h2 ?_;unfold S8;generalize eP:((dq st).setIfInBounds i (sa,na+nb,pw)).eraseIdxIfInBounds (i+1)=P';rw[eP] at h;have h4:∀x∈(dy st).toList,x∈a0.toList:=fun x hx=>(MM.mp hp).mem_iff.mp hx;generalize eX:dy st=xs at*;have hb:sa+na<xs.size:=by lia
 refine Ak (show wpS _ _ _ _ (set (sN st P'):SM PUnit) _ _ from ?_);unfold wpS;rw[StateT.run_set];refine Ae ⟨rfl,?_⟩;show wpS _ _ _ _ _ _ (sN st P');have k1:kindOf (sN st P')=κ:=hk;refine Ak (DX hb (Ak (LY hc k1 (h4 _ (getD_mem hb)) h4 (by lia) na0 ua fun k a1 a2 a3=>?_)));dsimp only;have Eu:N9 rk xs xs sa (sa+na+nb)->Q true (sN st P'):=fun g=>h _ k1 hf rfl (by rw[show dy (sN st P')=xs from eX];exact g);have e4:(kv rk xs (sa+na-1)<=kv rk xs (sa+na))->N9 rk xs xs sa (sa+na+nb):=fun e5=>⟨Array.Perm.refl _,fun x y b1 b2 b3=>by
  by_cases c1:y<sa+na
  ·exact ua x y b1 b2 c1
  ·by_cases c2:sa+na<=x
   ·exact ub x y c2 b2 b3
   ·exact BJ (ua x (sa+na-1) b1 (by lia) (by lia)) (BJ e5 (ub (sa+na) y (Ad _) (by lia) b3)),fun _ _=>rfl⟩;by_cases e1:na-k=0
 ·rw[AH (by simpa using e1)];refine As (Eu (e4 ?_));have:=a2 (na-1) (by lia);rw[show sa+(na-1)=sa+na-1 by lia] at this;show kv rk xs (sa+na-1)<=rk (xs.getD (sa+na) dK);rcases this with z|⟨_,z⟩<;>lia
 ·rw[AG (by simpa using e1)];rw[show sa+k+(na-k)-1=sa+na-1 by lia];have hl:sa+na-1<xs.size:=by lia
  refine Ak (DX hl (Ak (LY hc k1 (h4 _ (getD_mem hl)) h4 hz (by lia) ub fun m b1 b2 b3=>?_)));dsimp only;by_cases e2:m=0
  ·rw[AH (by simpa using e2)];refine As (Eu (e4 ?_));have:=b3 0 (by lia) nb0;rw[Nat.add_zero] at this;show rk (xs.getD (sa+na-1) dK)<=_;rcases this with z|⟨_,z⟩<;>lia
  ·rw[AG (by simpa using e2)];have sx:(xs.extract (sa+k) (sa+na)).size=na-k:=by rw[Array.size_extract];lia
   have sy:(xs.extract (sa+na) (sa+na+m)).size=m:=by rw[Array.size_extract];lia
   have kx:∀j,j<na-k->kv rk (xs.extract (sa+k) (sa+na)) j=kv rk xs (sa+k+j):=fun j hj=>ZM (by lia) (by lia);have ky:∀j,j<m->kv rk (xs.extract (sa+na) (sa+na+m)) j=kv rk xs (sa+na+j):=fun j hj=>ZM (by lia) (by lia);have T:GX rk a0 (xs.extract (sa+k) (sa+na)) (xs.extract (sa+na) (sa+na+m)):=by
    refine⟨fun x hx=>h4 x ?_,fun x hx=>h4 x ?_,fun x y _ c2 c3=>?_,fun x y _ c2 c3=>?_,by lia,by lia,fun y hy=>?_,fun y hy=>?_⟩
    ·rw[Lc] at hx;exact Ic (K9 hx)
    ·rw[Lc] at hx;exact Ic (K9 hx)
    ·rw[kx x (by lia),kx y (by lia)];exact ua _ _ (by lia) (by lia) (by lia)
    ·rw[ky x (by lia),ky y (by lia)];exact ub _ _ (by lia) (by lia) (by lia)
    ·rw[Lc] at hy;obtain⟨j,j1,j2,rfl⟩:=Ip (by lia) hy;rw[ky 0 (by lia),Nat.add_zero];have:=a3 (j-sa) (by lia) (by lia);rw[show sa+(j-sa)=j by lia] at this;show rk (xs.getD (sa+na) dK)<=kv rk xs j;rcases this with z|⟨_,z⟩<;>lia
    ·rw[Lc] at hy;obtain⟨j,j1,j2,rfl⟩:=Ip (by lia) hy;rw[sx,kx (na-k-1) (by lia),show sa+k+(na-k-1)=sa+na-1 by lia];have:=b2 (j-(sa+na)) (by lia);rw[show sa+na+(j-(sa+na))=j by lia] at this;show kv rk xs j<=rk (xs.getD (sa+na-1) dK);rcases this with z|⟨_,z⟩<;>lia
   have e0:∀r st',Sm (sN st P') st'->Me rk (xs.extract (sa+k) (sa+na)) (xs.extract (sa+na) (sa+na+m)) r->N9 rk xs (wr (sa+k) (dy st') r.toList.zipIdx) sa (sa+na+nb):=fun r st' sm me=>by
    have ea:dy st'=xs:=sm.a.trans eX;have pr:=me.pm;rw[Lc,Lc,<-PK xs (by lia) (by lia) (by lia)] at pr;have hL:xs.toList.length=xs.size:=by simp
    refine ko (r:=r.toList) (p:=sa+k) (q:=sa+na+m) (by lia) (by lia) (by lia) hz pr ?_ ?_
    ·have h0:∀x∈seg xs sa (sa+k),∀y∈seg xs (sa+na) (sa+na+nb),rk x<=rk y:=fun x hx y hy=>by
      obtain⟨i1,c1,c2,rfl⟩:=Ip (by lia) hx;obtain⟨j1,d1,d2,rfl⟩:=Ip hz hy;have f1:=a2 (i1-sa) (by lia);rw[show sa+(i1-sa)=i1 by lia] at f1;have f2:=ub (sa+na) j1 (Ad _) d1 d2;have f3:kv rk xs i1<=kv rk xs (sa+na):=by show kv rk xs i1<=rk (xs.getD (sa+na) dK);rcases f1 with z|⟨_,z⟩<;>lia
      exact BJ f3 f2
     have h3:∀x∈seg xs sa (sa+na),∀y∈seg xs (sa+na+m) (sa+na+nb),rk x<=rk y:=fun x hx y hy=>by
      obtain⟨i1,c1,c2,rfl⟩:=Ip (by lia) hx;obtain⟨j1,d1,d2,rfl⟩:=Ip hz hy;have f1:=b3 (j1-(sa+na)) (by lia) (by lia);rw[show sa+na+(j1-(sa+na))=j1 by lia] at f1;have f2:=ua i1 (sa+na-1) c1 (by lia) (by lia);have f3:kv rk xs (sa+na-1)<=kv rk xs j1:=by show rk (xs.getD (sa+na-1) dK)<=kv rk xs j1;rcases f1 with z|⟨_,z⟩<;>lia
      exact BJ f2 f3
     have sA:=(Tt (rk:=rk) (lo:=sa) (hi:=sa+na) (by lia)).mp ua;have sB:=(Tt (rk:=rk) (lo:=sa+na) (hi:=sa+na+nb) hz).mp ub;have h7:seg xs sa (sa+na)=seg xs sa (sa+k)++seg xs (sa+k) (sa+na):=PK xs (by lia) (by lia) (by lia);have h5:seg xs (sa+na) (sa+na+nb)=seg xs (sa+na) (sa+na+m)++seg xs (sa+na+m) (sa+na+nb):=PK xs (by lia) (by lia) hz;have h6:seg xs (sa+k) (sa+na+m)=seg xs (sa+k) (sa+na)++seg xs (sa+na) (sa+na+m):=PK xs (by lia) (by lia) (by lia);rw[h7] at sA;rw[h5] at sB;obtain⟨u1,u2,u3⟩:=SL.app.mp sA;obtain⟨v1,v2,v3⟩:=SL.app.mp sB;refine SL.app.mpr ⟨SL.app.mpr ⟨u1,me.sl,fun x hx y hy=>?_⟩,v2,fun x hx y hy=>?_⟩
     ·have h8:=pr.mem_iff.mp hy;rw[h6] at h8;rcases Bp.mp h8 with z|z
      ·exact u3 x hx y z
      ·exact h0 x hx y (by rw[h5];exact Ig _ z)
     ·rcases Bp.mp hx with z|z
      ·exact h0 x z y (by rw[h5];exact EU _ hy)
      ·have h9:=pr.mem_iff.mp z;rw[h6] at h9;rcases Bp.mp h9 with z|z
       ·exact h3 x (by rw[h7];exact EU _ z) y hy
       ·exact v3 x z y hy
    ·rw[ea];refine YM r.toList 0 (sa+k) xs (xs.toList.take (sa+k)) (seg xs (sa+k) (sa+na+m)) (xs.toList.drop (sa+na+m)) ?_ ?_ pr.length_eq.symm
     ·have e7:xs.toList.take (sa+na+m)=xs.toList.take (sa+k)++seg xs (sa+k) (sa+na+m):=by
       have:=(ET (sa+k) (xs.toList.take (sa+na+m))).symm
       rwa [RV,LH (by lia)] at this
      rw[<-e7,ET]
     ·rw[Bm];lia
   by_cases e3:na-k<=m
   ·rw[AH e3];refine Ak (nG hc T k1 fun r st' sm me=>Ak (KG (Ak (IL (As ?_)))));have ff:rM st'=none:=sm.f.trans hf;show Q (rM st').isNone _;rw[ff];exact h _ (sm.k.trans k1) ff sm.p (e0 r st' sm me)
   ·rw[AG e3];refine Ak (mh hc T k1 fun r st' sm me=>Ak (KG (Ak (IL (As ?_)))));have ff:rM st'=none:=sm.f.trans hf;show Q (rM st').isNone _;rw[ff];exact h _ (sm.k.trans k1) ff sm.p (e0 r st' sm me)
section
variable(rk:dA->Nat)
def Chain(xs:Array dA):Nat->List (Nat×Nat×Nat)->Nat->Prop
 |b,[],e=>b=e
 |b,(s,n,_)::r,e=>s=b/\0<n/\Up rk xs s (s+n)/\Chain xs (s+n) r e
end
def Chain.le{xs:Array dA}:∀{b e:Nat}{p:List (Nat×Nat×Nat)},Chain rk xs b p e->b+p.length<=e
 |b,e,[],h=>by have h':b=e:=h;simp;lia
 |b,e,(s,n,_)::r,⟨h1,h2,_,h3⟩=>by
  have:=Chain.le h3;simp only[CD]
  lia
def Chain.app{xs:Array dA}{e:Nat}{q:List (Nat×Nat×Nat)}:∀{b:Nat}{p:List (Nat×Nat×Nat)},Chain rk xs b (p++q) e↔∃m,Chain rk xs b p m/\Chain rk xs m q e
 |b,[]=>⟨fun h=>⟨b,rfl,h⟩,fun⟨m,h1,h2⟩=>by have h0:b=m:=h1;subst h0;exact h2⟩
 |b,(s,n,_)::r=>⟨fun⟨h1,h2,h3,h4⟩=>by obtain⟨m,a,c⟩:=Chain.app.mp h4;exact⟨m,⟨h1,h2,h3,a⟩,c⟩,fun⟨m,⟨h1,h2,h3,a⟩,c⟩=>⟨h1,h2,h3,Chain.app.mpr ⟨m,a,c⟩⟩⟩
def Chain.same{xs ys:Array dA}:∀{b e:Nat}{p:List (Nat×Nat×Nat)},(∀k,b<=k->k<e->ys[k]? =xs[k]?)->Chain rk xs b p e->Chain rk ys b p e
 |b,e,[],_,h=>h
 |b,e,(s,n,_)::r,hk,⟨h1,h2,h3,h4⟩=>by have hl:=Chain.le h4;refine⟨h1,h2,fun i j a c d=>?_,Chain.same (fun k a c=>hk k (by lia) c) h4⟩;rw[IS rk (hk i (by lia) (by lia)),IS rk (hk j (by lia) (by lia))];exact h3 i j a c d
def Chain.pw{xs:Array dA}{f:Nat×Nat×Nat->Nat×Nat×Nat}(hf:∀x,(f x).1=x.1/\(f x).2.1=x.2.1):∀{b e:Nat}{p:List (Nat×Nat×Nat)}{i:Nat},Chain rk xs b p e->Chain rk xs b (p.modify i f) e
 |b,e,[],i,h=>by cases i<;>exact h
 |b,e,x::r,0,h=>by obtain⟨s,n,q⟩:=x;obtain⟨e1,e2⟩:=hf (s,n,q);show Chain rk xs b (f (s,n,q)::r) e;generalize f (s,n,q)=y at e1 e2;obtain⟨s',n',q'⟩:=y;dsimp only at e1 e2;subst e1;subst e2;exact h
 |b,e,(s,n,q)::r,i+1,⟨h1,h2,h3,h4⟩=>⟨h1,h2,h3,Chain.pw hf h4⟩
structure RS(κ:SortKind)(rk:dA->Nat)(a0:Array dA)(lo:Nat)(st:qw):Prop where
 kind:kindOf st=κ
 failed:rM st=none
 perm:(dy st).Perm a0
 chain:Chain rk (dy st) 0 (dq st).toList lo
def Z4(hc:C7 prog w A s κ rk a0){Q:Bool->qw->Prop}(R:RS κ rk a0 lo st)(hlo:lo<=a0.size)(hi:i+1<(dq st).size)
 (h:∀st',RS κ rk a0 lo st'->(dq st').size+1=(dq st).size->(∀k,lo<=k->(dy st')[k]? =(dy st)[k]?)->Q true st'):wpS (ax prog w) A E s (uI i) Q st:=by
 have hL:(dq st).toList.length=(dq st).size:=by simp
 have h0:(dy st).size=a0.size:=R.perm.size_eq;have e1:(dq st).toList=(dq st).toList.take i++((dq st).toList[i]'(by lia)::(dq st).toList[i+1]'(by lia)::(dq st).toList.drop (i+2)):=by rw[<-K6,<-K6,ET]
 generalize ex:(dq st).toList[i]'(by lia)=x at e1;generalize ey:(dq st).toList[i+1]'(by lia)=y at e1;generalize ep:(dq st).toList.take i=p at e1;generalize h3:(dq st).toList.drop (i+2)=q at e1;obtain⟨sa,na,pw⟩:=x;obtain⟨sb,nb,pb⟩:=y;have ch:=R.chain;rw[e1] at ch;obtain⟨m,c1,c2,c3,c4,c5,c6,c7,c8⟩:=Chain.app.mp ch;subst c2;subst c5;have l1:=c1.le;have l2:=c8.le;have g1:(dq st)[i]? =some (sa,na,pw):=by rw[<-GY,Ar (by lia),ex]
 have g2:(dq st)[i+1]? =some (sa+na,nb,pb):=by rw[<-GY,Ar (by lia),ey]
 refine eZ hc R.kind R.failed R.perm g1 g2 c3 c6 (by lia) c4 c7 fun st' k1 k2 k3 k4=>?_;have pl:p.length=i:=by rw[<-ep,Bm];lia
 have e2:(dq st').toList=p++((sa,na+nb,pw)::q):=by
  rw[k3,Array.toList_eraseIdxIfInBounds,Array.toList_setIfInBounds,e1,<-pl];simp[List.eraseIdx_append];intro z
  lia
 refine h st' ⟨k1,k2,k4.pm.trans R.perm,?_⟩ ?_ fun k hk=>k4.out k (.inr (by lia))
 ·rw[e2];refine Chain.app.mpr ⟨sa,c1.same fun k _ b=>k4.out k (.inl b),rfl,by lia,?_,?_⟩
  ·rw[show sa+(na+nb)=sa+na+nb by lia];exact k4.up
  ·rw[show sa+(na+nb)=sa+na+nb by lia];exact c8.same fun k a _=>k4.out k (.inr a)
 ·have h1:=BL List.length e1;have h2:=BL List.length e2;simp only[Au,CD,E7] at h1 h2
  lia
def lz(hc:C7 prog w A s κ rk a0){Q:Unit->qw->Prop}(hk:kindOf st=κ)(hf:rM st=none)(ha:dy st=a0)(hp:dq st= #[])(h2:2<=a0.size)
 (h:∀st':qw,(dy st').Perm a0->rM st'=none->Up rk (dy st') 0 a0.size->Q () st'):wpS (ax prog w) A E s sortRuns' Q st:=by
 rw[sortRuns'_eq];refine Ak (IL ?_);dsimp only;rw[ha];generalize minRun' a0.size a0.size 0=mr;refine Ak (tP (Fe
  (I:=fun x c st'=>∃lo,c=(none,lo)/\x<=lo/\lo<=a0.size/\RS κ rk a0 lo st')
  (Q:=fun c st'=>c=(none,a0.size)/\RS κ rk a0 a0.size st') ?step ?fin ⟨0,rfl,Ad _,CN _,hk,hf,by rw[ha],by rw[hp];rfl⟩) ?post);case fin=>
  rintro c st' ⟨lo,rfl,x1,x2,R⟩;have:lo=a0.size:=by lia
  subst this;exact⟨rfl,R⟩
 case step=>
  rintro x c st' _ hx ⟨lo,rfl,x1,x2,R⟩;dsimp only;by_cases hl:lo>=a0.size
  ·rw[AH hl];have:lo=a0.size:=by lia
   subst this;exact As ⟨rfl,R⟩
  ·rw[AG hl];have hsz:(dy st').size=a0.size:=R.perm.size_eq;have hc':C7 prog w A s κ rk (dy st'):=fun x y hx hy C hC=>hc x y ((MM.mp R.perm).mem_iff.mp hx) ((MM.mp R.perm).mem_iff.mp hy) C hC;have B0:Ok κ (dy st') lo (dq st') st':=⟨Array.Perm.refl _,fun _ _=>rfl,R.kind,R.failed,rfl⟩;have rest:∀n st2,Ok κ (dy st') lo (dq st') st2->1<=n->lo+n<=a0.size->Up rk (dy st2) lo (lo+n)->RS κ rk a0 lo st2:=fun n st2 B n1 n2 u=>
    ⟨B.kind,B.failed,B.perm.trans R.perm,by rw[B.pend];exact R.chain.same fun k _ b=>B.fix k b⟩;have tail:∀n (st2:qw),RS κ rk a0 lo st2->1<=n->lo+n<=a0.size->Up rk (dy st2) lo (lo+n)->RS κ rk a0 (lo+n) (sN st2 ((dq st2).push (lo,n,0))):=fun n st2 R2 n1 n2 u=>
    ⟨R2.kind,R2.failed,R2.perm,by show Chain rk (dy st2) 0 ((dq st2).push (lo,n,0)).toList (lo+n);rw[Ma];exact Chain.app.mpr ⟨lo,R2.chain,rfl,by lia,u,rfl⟩⟩;refine Ak (jm (P:=dq st') hc' (by lia) (by lia) B0 fun m st2 B2 m1 m2 u2=>?_);dsimp only;rcases Decidable.em (m<mr) with hm|hm;rw[AH hm];refine Ak (Lb (IH ⟨rfl,?_⟩));refine Ak (ij (P:=dq st') hc' (by lia) m1 (by lia) B2 u2 fun st3 B3 u3=>?_);simp only[JM,CQ,Bs];have n2:lo+min (a0.size-lo) mr<=a0.size:=by lia
   have n1:1<=min (a0.size-lo) mr:=by lia
   generalize min (a0.size-lo) mr=n at n1 n2 u3⊢
   rotate_left
   rw[AG hm];have n2:lo+m<=a0.size:=by lia
   have n1:=m1;have B3:=B2;have u3:=u2;generalize st2=st3 at B3 u3⊢;generalize m=n at n1 n2 u3⊢;all_goals
    refine Ak (IL ?_);have R3:=rest n st3 B3 n1 n2 u3
    cases eb:(dq st3).back? with
    |none=>exact Ak (KG (As ⟨_,rfl,by lia,n2,tail n st3 R3 n1 n2 u3⟩))
    |some t=>
     obtain⟨s1,m1',pw1⟩:=t;dsimp only;generalize power' _ _ _ _=pw;refine Ak (tP (Fe (I:=fun _ c st4=>c=(none,())/\RS κ rk a0 lo st4/\Up rk (dy st4) lo (lo+n)) (Q:=fun c st4=>c=(none,())/\RS κ rk a0 lo st4/\Up rk (dy st4) lo (lo+n)) ?_ (fun _ _ hh=>hh) ⟨rfl,R3,u3⟩) ?_)
     ·rintro y c st4 _ _ ⟨rfl,R4,u4⟩;refine Ak (IL ?_);by_cases e:(dq st4).size>1
      ·rw[AH e];have hidx:(dq st4)[(dq st4).size-2]? =some ((dq st4)[(dq st4).size-2]'(by lia)):=Gd ..;rw[hidx];generalize(dq st4)[(dq st4).size-2]'(by lia)=o;obtain⟨o1,o2,o3⟩:=o;dsimp only;by_cases eo:o3<=pw
       ·rw[AH eo];exact As ⟨rfl,R4,u4⟩
       ·rw[AG eo];refine Ak (Z4 hc R4 x2 (by lia) fun st5 R5 s5 k5=>?_);exact As ⟨rfl,R5,fun i j a b c=>by rw[IS rk (k5 i a),IS rk (k5 j (by lia))];exact u4 i j a b c⟩
      ·rw[AG e];exact As ⟨rfl,R4,u4⟩
     ·rintro c st4 ⟨rfl,R4,u4⟩;refine Ak (KG (Ak (KG (As ⟨_,rfl,by lia,n2,tail n _ ⟨R4.kind,R4.failed,R4.perm,?_⟩ n1 n2 u4⟩))));show Chain rk (dy st4) 0 ((dq st4).modify _ _).toList lo;rw[Array.toList_modify];exact Chain.pw (f:=fun x=>(x.1,x.2.1,pw)) (fun _=>⟨rfl,rfl⟩) R4.chain
 case post=>
  rintro c st' ⟨rfl,R⟩;dsimp only;have fin:∀st2:qw,RS κ rk a0 a0.size st2->(dq st2).size<=1->Q () st2:=fun st2 R2 hs=>by
   refine h st2 R2.perm R2.failed ?_;have ch:=R2.chain;have hL:(dq st2).toList.length=(dq st2).size:=by simp
   generalize(dq st2).toList=p at ch hL
   match p,ch with
   |[],ch=>have z:0=a0.size:=ch;lia
   |[(a,n,_)],ch=>obtain⟨z1,z2,z3,z4⟩:=ch;have z5:a+n=a0.size:=z4;subst z1;rw[<-z5];exact z3
   |_::_::_,ch=>simp at hL;lia
  refine Ak (tP (Fe (I:=fun x c st2=>c=(none,())/\RS κ rk a0 a0.size st2/\(dq st2).size<=max 1 (a0.size-x)) (Q:=fun c st2=>c=(none,())/\RS κ rk a0 a0.size st2/\(dq st2).size<=1) ?_ ?_ ⟨rfl,R,?_⟩) ?_)
  ·rintro x c st2 _ hx ⟨rfl,R2,hs⟩;refine Ak (IL ?_);by_cases e:(dq st2).size<=1
   ·rw[AH e];exact As ⟨rfl,R2,e⟩
   ·rw[AG e];have go:∀i,i+1<(dq st2).size->wpS (ax prog w) A E s (uI i) (fun b st3=>b=true/\RS κ rk a0 a0.size st3/\(dq st3).size<=max 1 (a0.size-(x+1))) st2:=fun i hi=>Z4 hc R2 (Ad _) hi fun st3 R3 s3 _=>⟨rfl,R3,by lia⟩;refine Ak (tP (go _ ?_) fun b st3 hb=>?_)
    ·repeat' split
     all_goals lia
    ·obtain⟨rfl,R3,s3⟩:=hb;exact As ⟨rfl,R3,s3⟩
  ·rintro c st2 ⟨rfl,R2,hs⟩;exact⟨rfl,R2,by lia⟩
  ·have:=R.chain.le;simp only[E7] at this
   lia
  ·rintro c st2 ⟨rfl,R2,hs⟩;exact As (fin st2 R2 hs)
end
section
open PySem.Calls PySem.W
noncomputable def DZ(w:rH):Bool:=w.params.followText "set-order"
noncomputable def tx:AA->Str
 |.str z _=>z
 |_=>""
def E2(prog:qy)(w:rH)(h:rE)(a:Ya)(zs:List Str):Prop:=
 ∃o es ep t,h.get? a=some o/\o.ExactSet/\o.data=.set es ep t/\ElemsOf (strKind prog w) es.toList/\(es.toList.map fun e=>tx e.2).Perm zs/\zs.Nodup/\zs.length<rj/\t.fits es.size=true/\t.led= !DZ w/\(es.size=0\/t.plain=false)
def Tv{v:AA}(h:(strKind prog w).is z v=true):∃t,v=.str z t:=Value.isStrOf_shape h
def S5(prog:qy)(w:rH)(z:Str)(t:Tok):(strKind prog w).is z (.str z t)=true:=strKind_is _ _ _ _
def dF(t:SetTable)(es:Array (Int×AA))(h:Int)(x:AA):(layNew t es h x).2.1.led=t.led:=by
 unfold layNew;split
 ·dsimp only;unfold SetTable.orStandIn;split<;>rfl
 ·rfl
end
variable{t:SetTable}
section
open PySem.Calls PySem.W
def iQ{m f v:Nat}{l p:Bool}{hs:Array Int}{o:Array Nat}(h:SetTable.laid m f v l p hs=some (t,o)):t.led=l/\t.plain=p:=by
 unfold SetTable.laid at h
 cases e:SetTable.layClean m hs with
 |none=>rw[e] at h;cases h
 |some ow=>rw[e] at h;cases Af h;exact⟨rfl,rfl⟩
def fh(t:SetTable)(es:Array (Int×AA))(n:Nat):(relayAll t es n).2.1.led=t.led/\(t.plain=false->(relayAll t es n).2.1.plain=false):=by
 unfold relayAll;split
 ·rename_i t' order e;have:=iQ e;dsimp only;split
  ·exact⟨this.1,fun hp=>by rw[this.2,hp]⟩
  ·exact⟨rfl,fun _=>rfl⟩
 ·exact⟨rfl,fun _=>rfl⟩
def ZX{es:List (Int×AA)}(hel:ElemsOf (strKind prog w) es)(z:Str):(∃e∈es,(strKind prog w).is z e.2=true)↔z∈es.map fun e=>tx e.2:=by
 constructor
 ·rintro⟨e,he,h⟩;obtain⟨t,ht⟩:=Tv h;exact BZ.mpr ⟨e,he,by rw[ht];rfl⟩
 ·intro h;obtain⟨e,he,rfl⟩:=BZ.mp h;obtain⟨⟨k,hk,_⟩,_⟩:=hel e he;obtain⟨t,ht⟩:=Tv hk;refine⟨e,he,?_⟩;rw[ht];exact S5 prog w k t
end
variable{es:Array (Int×AA)}
section
open PySem.Calls PySem.W
def WU(ho:h.get? a=some o)(hd:o.data=.set es ep t)(es':Array (Int×AA))(t':SetTable):
 (h.update a (Obj.putSet es' t')).get? a=some {o with data:=.set es' (ep+1) t'}:=by
 have:=JF (Obj.putSet es' t') ho (by rw[putSet_of es' t' hd];rfl);rw[putSet_of es' t' hd] at this;exact this
def Xd{g:Bool->Sem Unit}(hg:∀(b:Bool)(s₁:Yf)(Q':Unit->Yf->Prop),Q' () s₁->cm (ax prog w) A (g b) Q' E s₁)
 (ho:s.heap.get? a=some o)(hex:o.ExactSet)(hd:o.data=.set es ep t)
 {es1:Array (Int×AA)}{t2:SetTable}(hel:ElemsOf (strKind prog w) es1.toList)(hm:(es1.toList.map fun e=>tx e.2).Perm zs)(hnd:zs.Nodup)(hb:zs.length<rj)(hf:t2.fits es1.size=true)(hl:t2.led= !DZ w)(hp:t2.plain=false){dm:Bool}{R:Option Bool->Yf->Prop}
 (h:∀h',Heap.SameBut a s.heap h'->E2 prog w h' a zs->R (some true) {s with heap:=h'}):
 cm (ax prog w) A (do
  storeSet a es1 t2
  if(!dm&&t2.tooFull)=true then do
     g (relayAll t2 es1 (SetTable.grown es1.size)).2.2
     storeSet a (relayAll t2 es1 (SetTable.grown es1.size)).1 (relayAll t2 es1 (SetTable.grown es1.size)).2.1
     pure (some true)
   else pure (some true)) R E s:=by
 have h5:es1.size=zs.length:=by rw[<-hm.length_eq,AL,E7]
 refine AJ (wpAny_storeSet_of ho hd ?_ (fits_of_scanBound (by lia)));have h1:=WU ho hd es1 t2;have h0:=VY s.heap a (Obj.putSet es1 t2);split
 ·have rp:=relayAll_perm t2 es1 (SetTable.grown es1.size);have rf:=relayAll_fits t2 es1 (SetTable.grown es1.size);have rl:=fh t2 es1 (SetTable.grown es1.size);generalize relayAll t2 es1 (SetTable.grown es1.size)=Rl at rp rf rl⊢;obtain⟨h2,t3,gv⟩:=Rl;dsimp only at rp rf rl⊢;have h4:h2.size=es1.size:=by rw[<-E7,rp.length_eq,E7]
  refine AJ (hg _ _ _ (AJ (wpAny_storeSet_of h1 rfl ?_ (fits_of_scanBound (by lia)))));have h3:=WU h1 rfl h2 t3;refine Ae (h _ (h0.trans (VY _ a _)) ⟨_,h2,_,t3,h3,hex,rfl,hel.perm rp,(rp.map _).trans hm,hnd,hb,rf,rl.1.trans hl,.inr (rl.2 hp)⟩)
 ·exact Ae (h _ h0 ⟨_,es1,_,t2,h1,hex,rfl,hel,hm,hnd,hb,hf,hl,.inr hp⟩)
noncomputable def FR(zs:List Str)(z:Str):List Str:=if z∈zs then zs else zs++[z]
def nV{tk:Tok}{Q:Bool->Yf->Prop}(hS:E2 prog w s.heap a zs)(hroom:zs.length+1<rj)
 (h:∀b h',Heap.SameBut a s.heap h'->E2 prog w h' a (FR zs z)->Q b {s with heap:=h'}):cm (ax prog w) A (setAddHashed a (.str z tk) ((strKind prog w).hash z)) Q E s:=by
 obtain⟨o,es,ep,t,ho,h5,hd,h0,hm,h7,hb,hf,hl,hp⟩:=hS;have e4:es.size=zs.length:=by rw[<-hm.length_eq,AL,E7]
 have h2:=S5 prog w z tk;unfold setAddHashed setAddHashedIn;refine Gb (AJ (MZ ho hd hf ?_));dsimp only;rw[byScan_of (knd:=strKind prog w) rfl (by lia) h0];simp only[↓reduceIte];unfold setAddByScan;refine AJ (AJ (IH (AJ (wpAny_setScan_of h2 ho hd hf h0 ?_))))
 cases hr:List.findIdx? (fun e=>(strKind prog w).is z e.2) es.toList with
 |some j=>
  dsimp only;obtain⟨hj,e1,_⟩:=List.findIdx?_eq_some_iff_getElem.mp hr;have hz:z∈zs:=hm.mem_iff.mp ((ZX h0 z).mp ⟨_,F1 hj,e1⟩);have e:s={s with heap:=s.heap}:=by cases s;rfl
  refine Ae (Ae ?_);rw[e];refine h _ s.heap (Heap.SameBut.refl a s.heap) ?_;unfold FR;rw[AH hz];exact⟨o,es,ep,t,ho,h5,hd,h0,hm,h7,hb,hf,hl,hp⟩
 |none=>
  dsimp only;have hz:z∉zs:=fun hz=>by obtain⟨e,he,e2⟩:=(ZX h0 z).mpr (hm.mem_iff.mpr hz);have:=List.findIdx?_eq_none_iff.mp hr e he;rw[e2] at this;cases this
  have e3:∀(b:Bool){s₁:Yf}{Q':Unit->Yf->Prop},Q' () s₁->cm (ax prog w) A (match b with|true=>rule "set.scan.the-table-gave-way" |false=>pure ()) Q' E s₁:=
   fun b s₁ Q' hq=>by cases b<;>first|exact Ae hq|exact IH hq
  have lp:=layNew_perm t es ((strKind prog w).hash z) (.str z tk);have lf:=layNew_fits t es ((strKind prog w).hash z) (.str z tk);have ll:=dF t es ((strKind prog w).hash z) (.str z tk);generalize layNew t es ((strKind prog w).hash z) (.str z tk)=L at lp lf ll⊢;obtain⟨e0,t1,dm,gv⟩:=L;dsimp only at lp lf ll⊢;rw[Ma] at lp;have h3:ElemsOf (strKind prog w) e0.toList:=(h0.push h2 rfl).perm lp;have h8:(e0.toList.map fun e=>tx e.2).Perm (FR zs z):=by unfold FR;rw[AG hz];refine(lp.map _).trans ?_;rw[BG];exact hm.append_right _
  have h1:(FR zs z).Nodup:=by unfold FR;rw[AG hz];refine OV.mpr ⟨h7,by simp,fun x hx y hy=>?_⟩;rw[Bk] at hy;intro e;rw[<-hy,<-e] at hz;exact hz hx
  have h9:(FR zs z).length<rj:=by unfold FR;rw[AG hz,Au];exact hroom
  refine AJ (e3 _ ?_);split
  ·refine AJ ?_;rw[hashByValue_scannable 8 rfl];refine Ae ?_;refine Xd (zs:=FR zs z) ?_ ho h5 hd h3 h8 h1 h9 (SetTable.fits_plain_off lf) (ll.trans hl) rfl ?_
   ·intro b s₁ Q' hq;cases b<;>first|exact Ae hq|exact IH hq
   ·intro h' h4 h6;dsimp only;exact Ae (h _ h' h4 h6)
  ·rename_i np;refine AJ (Ae ?_);simp only[↓reduceIte];refine Xd (zs:=FR zs z) ?_ ho h5 hd h3 h8 h1 h9 lf (ll.trans hl) (by simpa using np) ?_
   ·intro b s₁ Q' hq;cases b<;>first|exact Ae hq|exact IH hq
   ·intro h' h4 h6;dsimp only;exact Ae (h _ h' h4 h6)
def Ft:List Str->List Str->List Str
 |σ,[]=>σ
 |σ,z::r=>Ft (FR σ z) r
def Xr(σ:List Str)(z:Str):(FR σ z).length<=σ.length+1:=by
 unfold FR;split
 ·lia
 ·simp
def E2.at(x:E2 prog w h a zs)(e:∀o,h.get? a=some o->h'.get? a=some o):E2 prog w h' a zs:=by obtain⟨o,es,ep,t,ho,r⟩:=x;exact⟨o,es,ep,t,e _ ho,r⟩
end
variable{I:Ya}
section
open PySem.Calls PySem.W
def iS{wr:List Ya}{G:Array sj->Array sj->Prop}{n:Nat}{P:Nat->AA->Prop}{St:Nat->Yf->Prop}
 (W:WalksS prog w A.in1 I fp wr G n P St)(S:Ya)(hSf:S∉fp)(ys:List Str)(hy:ys.length=n)(hval:∀i v z,P i v->ys[i]? =some z->∃t,v=.str z t):
 ∀(k i:Nat)(s:Yf)(σ:List Str),n-i=k->i<=n->St i s->σ.length+(n-i)+1<rj->E2 prog w s.heap S σ->
  (∀s',Moved (S::wr) G s s'->E2 prog w s'.heap S (Ft σ (ys.drop i))->R (.ok (.ret .none)) s')->
  rq (ax prog w) A (.builtin "set.update.loop" ⟨[.ref S,.ref I],[]⟩) R s:=by
 have h7:S∉wr:=fun h=>hSf (W.sub _ h);have h0:∀b∈wr,b∈S::wr:=fun b hb=>DG _ hb;intro k
 induction k with
 |zero=>
  intro i s σ hk hi h2 hb hS hR;have h9:i=n:=by lia
  subst h9;refine Ij F.entry_set_update_loop ?_;rw[MR VJ _];show cm _ A.in1 (rS (.ref I)>>=_) _ _ s;refine AJ (W.done s _ _ h2 fun s' hm=>?_);show cm _ A.in1 (ret Value.none) _ _ s';rw[K8 (by lia)] at hR;exact Ae (hR s' (hm.mono h0) (hS.at fun o e=>hm.heap S o h7 e))
 |succ k ih=>
  intro i s σ hk hi h2 hb hS hR;have h6:i<n:=by lia
  refine Ij F.entry_set_update_loop ?_;rw[MR VJ _];show cm _ A.in1 (rS (.ref I)>>=_) _ _ s;refine AJ (W.item i s _ _ h6 h2 fun v s' hP h1 hm=>?_);obtain⟨t,rfl⟩:=hval i v (ys[i]'(by lia)) hP (Ar _);have hd:ys.drop i=ys[i]'(by lia)::ys.drop (i+1):=K6 (by lia);rw[hd] at hR;generalize ys[i]'(by lia)=z at hR⊢;have e1:E2 prog w s'.heap S σ:=hS.at fun o e=>hm.heap S o h7 e;show cm _ A.in1 (sk [Value.str z t] (setAdd S (.str z t))>>=_) _ _ s';refine AJ (Gb ?_);unfold setAdd;refine Gb (AJ ((strKind prog w).pyHash (k:=z) (S5 prog w z t) ?_));refine nV (s:={s' with toks:=s'.toks+1}) e1 (by lia) fun b h' h5 e0=>?_;refine Ae ⟨Oh VJ _,ih (i+1) _ (FR σ z) (by lia) h6 (W.frame _ s' _ _ h1 (E9 _) fun b hb o e=>?_) (by have:=Xr σ z;lia) e0 fun h8 h3 h4=>?_⟩
  ·rw[h5.2 b (fun h:b=S=>hSf (by rw[<-h];exact hb))];exact e
  ·refine hR h8 (Moved.trans W.gtrans ((hm.mono h0).then_heap (E9 _) fun b o hb e=>?_) h3) h4;rw[h5.2 b (fun h:b=S=>hb (by rw[h];exact EB))];exact e
def sub_tuple_set:isSubtype (.type "tuple") (.type "set")=pure false:=by rw[uJ];kernel_rfl
def sub_tuple_frozenset:isSubtype (.type "tuple") (.type "frozenset")=pure false:=by rw[uJ];kernel_rfl
def fz(a:AA){Q₁:AA->Yf->Prop}
 (h:Q₁ (.ref s.heap.objs.size) {s with heap:=s.heap.push {cls:=.type "set",dict:=none,data:=.set #[] 0 (.fresh 0 0 (!DZ w))}}):
 rq (ax prog w) A (.call (.builtin "set.__new__") ⟨[.type "set",a],[]⟩) (wants Q₁ E) s:=by
 refine uC ?_;show cm _ A.in1 (do checkBuiltinCall "set.__new__" ⟨[.type "set",a],[]⟩;again (.builtin "set.__new__" ⟨[.type "set",a],[]⟩)) _ _ s;refine AJ (wpAny_of_eq (PySem.F.newCall_set_1 a) (Ae ⟨Oh uh _,Ij PySem.F.entry_set_new ?_⟩));rw[MR uh _];unfold Builtin.«set.__new__» Builtin.Frozenset.newClass;have hsub:=sub_set_self;obtain⟨hp,g,d,tk,os⟩:=s;dsimp only
 wp_walk
 refine tX (Ae ?_);dsimp only;simp only[newObj];refine AJ (wpAny_alloc (Ae ?_));exact Ae h
set_option maxRecDepth 100000 in
def cX{l:Ya}{items:Array AA}{ys:List Str}(hh:A.handled=none)(hl:s.heap.IsTuple l items)(hy:ys.length=items.size)(hi:∀(i:Nat)(v:AA) z,items[i]? =some v->ys[i]? =some z->∃t,v=.str z t)(hb:items.size+1<rj)
 (h:∀(h':rE)(tk:Nat),E2 prog w h' s.heap.objs.size (Ft [] ys)->(∀b o,s.heap.get? b=some o->h'.get? b=some o)->Q (.ref s.heap.objs.size) {s with heap:=h',toks:=tk}):
 cm (ax prog w) A (call (.type "set") [.ref l]) Q E s:=by
 obtain⟨c,tl,s4⟩:=J1.mro;have e3:=J1.made;have s1:=J1.sub;refine Mr (uC ?_);show cm _ _ (callAny (.type "set") _) _ _ _;refine Ae ⟨OS _ (by left),Ij PySem.F.entry_type_call ?_⟩;rw[Around.under_plain (weight_type_call_type "set" [.ref l] []) rfl];have h1:=J1.notType;have h2:=J1.canCreate;have r3:=PySem.F.typeCall_set_1 (.ref l);repeat (any_goals (first|assumption|wp_step))
 generalize eO:({cls:=.type "set",dict:=none,data:=.set #[] 0 (.fresh 0 0 (!DZ w))}:Obj)=o0;refine LQ (fz (.ref l) (E:=E) (Q₁:=fun e1 s₁=>e1=.ref s.heap.objs.size/\s₁={s with heap:=s.heap.push o0}) ⟨rfl,by rw[eO]⟩) fun r s₁ hr=>?_
 cases r with
 |error e=>exact hr
 |ok fl=>
  cases fl with
  |ret e1=>
   obtain⟨rfl,rfl⟩:=hr;have h7:o0.cls=.type "set" :=by rw[<-eO]
   have hS:(s.heap.push o0).get? s.heap.objs.size=some o0:=CC _ (by rw[<-eO];rfl);have hT:Shared.TypeIs {s with heap:=s.heap.push o0} (.ref s.heap.objs.size) "set" :=⟨_,hS,h7⟩;have r2:=J1.init.lookup;have r4:=J1.init.bind (.ref s.heap.objs.size);repeat (any_goals (first|assumption|wp_step))
   refine LQ (VQ (R:=wants (fun r s₂=>r=.none/\∃h' tk,s₂={s with heap:=h',toks:=tk}/\E2 prog w h' s.heap.objs.size (Ft [] ys)/\(∀b o,s.heap.get? b=some o->h'.get? b=some o)) E) J1.init.plain PySem.F.entry_set_init (check_set_init_1 hT ?_)) fun r₂ s₂ h0=>?_
   ·subst eO;obtain⟨ol,e2,e7,nl,e6⟩:=hl;obtain⟨s0,h9,e0,h4⟩:=ol;simp only at e7 e6;subst e7;subst e6;have h5:=BB {cls:=.type "set",dict:=none,data:=.set #[] 0 (.fresh 0 0 (!DZ w))} e2;have s2:=sub_tuple_set;have s3:=sub_tuple_frozenset;have r1:(Value.type "tuple" ==Value.type "dict")=false:=by decide
    have e5:(s.heap.push {cls:=.type "set",dict:=none,data:=.set #[] 0 (.fresh 0 0 (!DZ w))}).IsTuple l items:=⟨_,h5,rfl,nl,rfl⟩;unfold Builtin.«set.__init__» noKeywords Builtin.Frozenset.updateFrom;generalize r0:pyIter=PI
    wp_walk
    subst r0;refine wpAny_pyIter_tuple e5 ?_;refine AJ (wpAny_runValue ?_);have e4:l<s.heap.objs.size:=A7 e2;have s6:A.in1.in1.in1.handled=none:=by simp[hh]
    have h6:l≠(s.heap.push {cls:=.type "set",dict:=none,data:=.set #[] 0 (.fresh 0 0 (!DZ w))}).objs.size:=by rw[Ha];exact BN (OU e4)
    have s9:s.heap.objs.size∉[(s.heap.push {cls:=.type "set",dict:=none,data:=.set #[] 0 (.fresh 0 0 (!DZ w))}).objs.size,l]:=by rw[Ha];simp only[Bn,Bk,JJ,KP,not_or];exact⟨BN (Mc _),E8 e4⟩
    refine iS ((Walks.tuple s6 _ l h6 items).toS) s.heap.objs.size s9 ys hy hi (items.size-0) 0 _ [] (by lia) (CN _) ⟨⟨_,CC _ rfl,rfl,rfl⟩,(e5.push _)⟩ (by simpa using hb) ?hS0 ?hR;case hS0=>exact⟨_,#[],0,_,BB _ hS,⟨rfl,rfl,rfl⟩,rfl,fun e he=>by simp at he,Of _,Mf,by unfold rj;simp,rfl,rfl,.inl rfl⟩
    case hR=>
     intro s' hm h8;obtain⟨h',g',d',e8,e9⟩:=s';have eg:g'=s.gens:=hm.gens;have ed:d'=s.drawn:=hm.drawn;have eo:e9=s.os:=hm.os;subst eg;subst ed;subst eo;refine Ae ?_;refine Ae ⟨rfl,h',e8,rfl,h8,fun b o e=>?_⟩;have hb:=A7 e;have s8:b≠s.heap.objs.size:=BN hb;have s7:b≠(s.heap.push {cls:=.type "set",dict:=none,data:=.set #[] 0 (.fresh 0 0 (!DZ w))}).objs.size:=by rw[Ha];exact BN (OU hb)
     exact hm.heap b o (by simp only[Bn,Bk,JJ,KP,not_or];exact⟨s8,s7⟩) (BB _ (BB _ e))
   ·cases r₂ with
    |error e=>exact h0
    |ok h3=>
     cases h3 with
     |ret r=>
      obtain⟨rfl,h',tk,rfl,h8,s5⟩:=h0;repeat (any_goals (first|assumption|wp_step))
      exact h _ _ h8 s5
     |_=>exact h0.elim
  |_=>exact hr.elim
def Fd:Slot "set_iterator" "__next__" "set_iterator.__next__" :=
 .of (owner:="set_iterator") (n:="__next__") (by rw[typeLookup_type,builtinLookup_eq_fast];kernel_rfl) (by left) (by left)
  (by left) (by first|exact .inl (by left)|exact .inr (by left)) (by rw[uJ];kernel_rfl)
def LL:entryFor table "set_iterator.__next__" =some Builtin.«set_iterator.__next__»:=entryFor_of_tree (by kernel_rfl)
def gk:Manifest.owners.lookup (String.ofList ['r','o','t','a','r','e','t','i','_','t','e','s'].reverse)=some Manifest.sig_set_iterator:=by kernel_rfl
def LO(a:AA):argsOk "set_iterator.__next__" ⟨[a],[]⟩:=by
 unfold argsOk;rw[signature?_of (id:="set_iterator.__next__") (n:=['_','_','t','x','e','n','_','_']) (o:=['r','o','t','a','r','e','t','i','_','t','e','s']) (by kernel_rfl) gk]
 kernel_rfl
def cT:entryFor table "set.__iter__" =some Builtin.«frozenset.__iter__»:=entryFor_alias (id':="frozenset.__iter__") (by kernel_rfl) rfl (by left) (by kernel_rfl)
def Pe{Q:Bool->Yf->Prop}(h:Q (DZ w) s):cm (ax prog w) A setsByText Q E s:=AJ (tX (Ae h))
def dZ{src:Source}{n:Nat}{Q:Nat->Yf->Prop}(hn:n≠0)(h:∀i d,i<n->Q i {s with drawn:=d}):cm (ax prog w) A (choose src n) Q E s:=fun Γ p _=>by show Sem.wp _ Γ (.choose src n .pure) _ _ p s;rw[Sem.wp_choose];refine⟨hn,?_⟩;rw[Sem.wp_pure];exact h _ _ (Nat.mod_lt _ (Nat.pos_of_ne_zero hn))
def Rr{α:Type}:∀(xs:List α)(i:Nat)(h:i<xs.length),(xs[i]::xs.eraseIdx i).Perm xs
 |x::xs,0,_=>Of _
 |x::xs,i+1,h=>by have ih:=Rr xs i (by simpa using h);show(xs[i]'(by simpa using h)::x::xs.eraseIdx i).Perm (x::xs);exact(List.Perm.swap _ _ _).trans (ih.cons x)
def WO:∀(n:Nat)(xs:List Nat)(s:Yf)(Q:List Nat->Yf->Prop),n=xs.length->(∀ys d,ys.Perm xs->Q ys {s with drawn:=d})->cm (ax prog w) A (drawOrder n xs) Q E s
 |0,xs,s,Q,hn,h=>by have:xs=[]:=Qn.mp hn.symm;subst this;exact Ae (h [] s.drawn (Of _))
 |n+1,[],s,Q,hn,h=>by cases hn
 |n+1,x::xs,s,Q,hn,h=>by unfold drawOrder;refine AJ (dZ (by simp) fun i d hi=>?_);have e:(x::xs)[i]? =some ((x::xs)[i]'hi):=Ar hi;rw[e];refine AJ (WO n _ _ _ (by rw[List.length_eraseIdx_of_lt hi];simp at hn⊢;exact hn) fun ys d hp=>Ae (h _ d ?_));exact(hp.cons _).trans (Rr _ i hi)
def DC(h:rE)(I:Ya)(first:AA)(i n ep:Nat)(a:Ya):Prop:=h.get? I=some {cls:=.type "set_iterator",dict:=none,data:=.fields #[first,.int i 0,.ref a,.int n 0,.int ep 0],slots:= #[]}
def Fv(h:rE)(a:Ya)(o:Obj)(es:Array (Int×AA))(ep:Nat)(t:SetTable):Prop:=h.get? a=some o/\o.ExactSet/\o.data=.set es ep t/\t.fits es.size=true
def DC.typeIs{first:AA}{n:Nat}(it:DC s.heap I first i n ep a):s.TypeIs (.ref I) "set_iterator" :=⟨_,it,rfl⟩
set_option hygiene false in
def WG{slot given:Nat}{Q:Option (AA×Nat)->Yf->Prop}(hb:DZ w=true)(sa:Fv s.heap a o es ep t)
 (h:Q (((pickOrder (w.params.setOrder a ep) es)[given]?).map fun e=>(e.2,slot)) s):cm (ax prog w) A (setNext a slot given ep) Q E s:=by
 obtain⟨ho,h0,hd,hf⟩:=sa;unfold setNext;refine AJ (MZ ho hd hf ?_);dsimp only;refine AJ (Pe ?_);rw[hb];simp only[CO,EW,CQ,Bs];refine AJ ?_;unfold setWalk;refine AJ (MZ ho hd hf ?_);dsimp only;refine AJ (Pe ?_);rw[hb];simp only[CO];exact AJ (tX (Ae (Ae h)))
def Ws{slot given:Nat}{Q:Option (AA×Nat)->Yf->Prop}(hb:DZ w=false)(sa:Fv s.heap a o es ep t)(hn:es.size<=1)(hl:t.led=true)
 (h:Q (match es[SetTable.below t.place slot]?,t.place[SetTable.below t.place slot]?with|some (_,x),some j=>some (x,j+1)|_,_=>none) s):cm (ax prog w) A (setNext a slot given ep) Q E s:=by
 obtain⟨ho,h0,hd,hf⟩:=sa;unfold setNext;refine AJ (MZ ho hd hf ?_);dsimp only;refine AJ (Pe ?_);rw[hb];simp only[CQ,Bs];show cm _ _ (if(!t.plain&&decide (es.size>1))=true then _ else _) _ _ _;rw[AG (by simp;lia)];refine AJ (show cm _ _ (if(!t.led&& !es.isEmpty)=true then _ else pure ()) _ _ _ from ?_);rw[hl];simp only[JM,Ml,CQ,Bs];refine Ae (Ae ?_);exact h
def Sh{first:AA}{n:Nat}{Q:Option AA->Yf->Prop}(hh:A.handled=none)(it:DC s.heap I first i n ep a)(hQ:∀h',Heap.ExtBut I s.heap h'->Q none {s with heap:=h'}):
 cm (ax prog w) A.in1 (do
  setField (.ref I) 2 Value.none
  let __do_lift<-newExc (Value.type "StopIteration") []
  raiseNew __do_lift)
 (fun fin s'=>∃v,fin=Fin.done (Flow.ret v)/\cm (ax prog w) A (pure (some v)) Q E s')
 (fun e s'=>cm (ax prog w) A (do
  let __do_lift<-uK e (Value.type "StopIteration")
  if __do_lift=true then pure none else throw e) Q E s') s:=by
 refine AJ (Od it rfl (by simp) ?_);refine AJ ?_;simp only[newExc,newTuple];refine AJ (Ih ?_ (by size_fits));refine AJ (m:=firstArgMember _ _) (wpAny_of_eq (a:=Value.none) (by first|rfl|(simp only[firstArgMember];rfl)) ?_);refine Ih ?_ (by size_fits);simp only[raiseNew];refine AJ (wpAny_handled ?_);first|rw[show A.in1.handled=none from hh]|rw[hh]
 refine AJ (Ae (wpAny_throw ?_));refine AJ (wpAny_isInstance (T:="StopIteration") (b:=true) ⟨_,CC _ rfl,rfl⟩ isSubtype_stop ?_);exact Ae (hQ _ (((VY ..).extBut.push _).push _))
def ja{Q:Option AA->Yf->Prop}{x:Int×AA}(hb:DZ w=true)(it:DC s.heap I (.int 0 0) i es.size ep a)(sa:Fv s.heap a o es ep t)
 (hx:(pickOrder (w.params.setOrder a ep) es)[i]? =some x)(h:∀h',DC h' I (.int 0 0) (i+1) es.size ep a->Heap.SameBut I s.heap h'->Q (some x.2) {s with heap:=h'}):cm (ax prog w) A (rS (.ref I)) Q E s:=by
 have h0:=sa;unfold rS;refine AJ (KA (K7 (name:=Str.ofString "__next__") it.typeIs Fd (Ii Fd it.typeIs LL ?_ (LO _))));obtain⟨ho,h3,hd,hf⟩:=sa;unfold Builtin.«set_iterator.__next__» sr;simp only[LC,JM,CQ,↓reduceIte,bind_assoc,HZ,EW];refine AJ (Ae ?_);refine AJ (Md it rfl ?_);dsimp only;refine AJ (LA ho hd hf ?_);simp only[EW,CQ,↓reduceIte];refine AJ (WG hb h0 ?_);rw[show(i:Int).toNat=i from IC i,show(ep:Int).toNat=ep from IC ep,hx];dsimp only[Option.map];refine AJ (MU it (by simp) fun h1 i1 b1=>AJ (MU i1 (by simp) fun h2 i2 b2=>Ae ⟨_,rfl,Ae (h h2 ?_ (b1.trans b2))⟩));simpa[DC,rm] using i2
def gr{Q:Option AA->Yf->Prop}(hh:A.handled=none)(hb:DZ w=true)(it:DC s.heap I (.int 0 0) i es.size ep a)(sa:Fv s.heap a o es ep t)
 (hx:(pickOrder (w.params.setOrder a ep) es)[i]? =none)(h:∀h',Heap.ExtBut I s.heap h'->Q none {s with heap:=h'}):cm (ax prog w) A (rS (.ref I)) Q E s:=by
 have h0:=sa;unfold rS;refine AJ (KA (K7 (name:=Str.ofString "__next__") it.typeIs Fd (Ii Fd it.typeIs LL ?_ (LO _))));obtain⟨ho,h1,hd,hf⟩:=sa;unfold Builtin.«set_iterator.__next__» sr;simp only[LC,JM,CQ,↓reduceIte,bind_assoc,HZ,EW];refine AJ (Ae ?_);refine AJ (Md it rfl ?_);dsimp only;refine AJ (LA ho hd hf ?_);simp only[EW,CQ,↓reduceIte];refine AJ (WG hb h0 ?_);rw[show(i:Int).toNat=i from IC i,show(ep:Int).toNat=ep from IC ep,hx];exact Sh hh it h
def kz{sl:Nat}{Q:Option AA->Yf->Prop}{x:Int×AA}(hb:DZ w=false)(it:DC s.heap I (.int sl 0) i es.size ep a)(sa:Fv s.heap a o es ep t)(hn:es.size<=1)(hl:t.led=true)
 (hx:es[SetTable.below t.place sl]? =some x)(hj:t.place[SetTable.below t.place sl]? =some j)(h:∀h',DC h' I (.int (j+1:Nat) 0) (i+1) es.size ep a->Heap.SameBut I s.heap h'->Q (some x.2) {s with heap:=h'}):cm (ax prog w) A (rS (.ref I)) Q E s:=by
 have h0:=sa;unfold rS;refine AJ (KA (K7 (name:=Str.ofString "__next__") it.typeIs Fd (Ii Fd it.typeIs LL ?_ (LO _))));obtain⟨ho,h3,hd,hf⟩:=sa;unfold Builtin.«set_iterator.__next__» sr;simp only[LC,JM,CQ,↓reduceIte,bind_assoc,HZ,EW];refine AJ (Ae ?_);refine AJ (Md it rfl ?_);dsimp only;refine AJ (LA ho hd hf ?_);simp only[EW,CQ,↓reduceIte];refine AJ (Ws hb h0 hn hl ?_);rw[show(sl:Int).toNat=sl from IC sl,hx,hj];dsimp only;refine AJ (MU it (by simp) fun h1 i1 b1=>AJ (MU i1 (by simp) fun h2 i2 b2=>Ae ⟨_,rfl,Ae (h h2 ?_ (b1.trans b2))⟩));simpa[DC,rm] using i2
def jY{sl:Nat}{Q:Option AA->Yf->Prop}(hh:A.handled=none)(hb:DZ w=false)(it:DC s.heap I (.int sl 0) i es.size ep a)(sa:Fv s.heap a o es ep t)(hn:es.size<=1)(hl:t.led=true)
 (hx:es[SetTable.below t.place sl]? =none)(h:∀h',Heap.ExtBut I s.heap h'->Q none {s with heap:=h'}):cm (ax prog w) A (rS (.ref I)) Q E s:=by
 have h0:=sa;unfold rS;refine AJ (KA (K7 (name:=Str.ofString "__next__") it.typeIs Fd (Ii Fd it.typeIs LL ?_ (LO _))));obtain⟨ho,h1,hd,hf⟩:=sa;unfold Builtin.«set_iterator.__next__» sr;simp only[LC,JM,CQ,↓reduceIte,bind_assoc,HZ,EW];refine AJ (Ae ?_);refine AJ (Md it rfl ?_);dsimp only;refine AJ (LA ho hd hf ?_);simp only[EW,CQ,↓reduceIte];refine AJ (Ws hb h0 hn hl ?_);rw[show(sl:Int).toNat=sl from IC sl,hx];exact Sh hh it h
def kO{T:Ya}{ps:List Nat}{Q:Option AA->Yf->Prop}{x:Int×AA}{p:Nat}(it:DC s.heap I (.ref T) i es.size ep a)(sa:Fv s.heap a o es ep t)(hT:s.heap.IsTuple T (ps.map fun p:Nat=>rm p).toArray)
 (hp:ps[i]? =some p)(hx:es[p]? =some x)(h:∀h',DC h' I (.ref T) (i+1) es.size ep a->Heap.SameBut I s.heap h'->Q (some x.2) {s with heap:=h'}):cm (ax prog w) A (rS (.ref I)) Q E s:=by
 have h3:=sa;unfold rS;refine AJ (KA (K7 (name:=Str.ofString "__next__") it.typeIs Fd (Ii Fd it.typeIs LL ?_ (LO _))));obtain⟨ho,h4,hd,hf⟩:=sa;unfold Builtin.«set_iterator.__next__» sr;simp only[LC,JM,CQ,↓reduceIte,bind_assoc,HZ,EW];refine AJ (Ae ?_);refine AJ (Md it rfl ?_);dsimp only;refine AJ (LA ho hd hf ?_);simp only[EW,CQ,↓reduceIte];obtain⟨oT,h0,_,nT,h2⟩:=hT;refine AJ (wpAny_seqItems h0 h2 ?_);have e:((ps.map fun p:Nat=>rm p).toArray)[(i:Int).toNat]? =some (.int p 0):=by rw[IC,VP,Az,hp];rfl
 dsimp only;rw[e];dsimp only;refine AJ ?_;unfold setNextDrawn;refine AJ (MZ ho hd hf ?_);dsimp only;simp only[IC,EW,CQ,Bs];rw[hx];refine Ae ?_;refine AJ (MU it (by simp) fun h1 i1 b1=>Ae ⟨_,rfl,Ae (h h1 ?_ b1)⟩);simpa[DC,rm] using i1
def gX{T:Ya}{ps:List Nat}{Q:Option AA->Yf->Prop}(hh:A.handled=none)(it:DC s.heap I (.ref T) i es.size ep a)(sa:Fv s.heap a o es ep t)(hT:s.heap.IsTuple T (ps.map fun p:Nat=>rm p).toArray)
 (hp:ps[i]? =none)(h:∀h',Heap.ExtBut I s.heap h'->Q none {s with heap:=h'}):cm (ax prog w) A (rS (.ref I)) Q E s:=by
 have h4:=sa;unfold rS;refine AJ (KA (K7 (name:=Str.ofString "__next__") it.typeIs Fd (Ii Fd it.typeIs LL ?_ (LO _))));obtain⟨ho,h5,hd,hf⟩:=sa;unfold Builtin.«set_iterator.__next__» sr;simp only[LC,JM,CQ,↓reduceIte,bind_assoc,HZ,EW];refine AJ (Ae ?_);refine AJ (Md it rfl ?_);dsimp only;refine AJ (LA ho hd hf ?_);simp only[EW,CQ,↓reduceIte];obtain⟨oT,h2,_,nT,h3⟩:=hT;refine AJ (wpAny_seqItems h2 h3 ?_);have e:((ps.map fun p:Nat=>rm p).toArray)[(i:Int).toNat]? =none:=by rw[IC,VP,Az,hp];rfl
 dsimp only;rw[e];dsimp only;refine AJ (MU it (by simp) fun h1 i1 b1=>?_);have h0:DC h1 I (.int 0 0) i es.size ep a:=by simpa[DC,rm] using i1
 exact Sh (s:={s with heap:=h1}) hh h0 fun h' e'=>h h' (b1.extBut.trans e')
def WC{α:Type}(next:Nat->Nat):∀(f k:Nat)(l:List α)(out:Array α),f=l.length->(pickOrder.go next f k l out).toList.Perm (out.toList++l)
 |0,k,l,out,h=>by have:l=[]:=Qn.mp h.symm;subst this;unfold pickOrder.go;simp
 |f+1,k,l,out,h=>by
  have hi:next k%l.length<l.length:=Nat.mod_lt _ (by lia)
  unfold pickOrder.go;rw[Ar hi];dsimp only;refine(WC next f (k+1) _ _ (by rw[List.length_eraseIdx_of_lt hi];lia)).trans ?_;rw[Ma,Bl];exact Qq _ (Rr l _ hi)
def SH(next:Nat->Nat)(xs:Array α):(pickOrder next xs).toList.Perm xs.toList:=by
 have:=WC next xs.size 0 xs.toList #[] (by simp)
 simpa[pickOrder] using this
def TM(j:Nat):SetTable.below #[j] 0=0/\SetTable.below #[j] (j+1)=1:=by
 constructor
 ·simp[SetTable.below,SetTable.below.go]
 ·simp[SetTable.below,SetTable.below.go]
def DC.keep{f:AA}{n:Nat}(x:DC h I f i n ep a)(e:∀o,h.get? I=some o->h'.get? I=some o):DC h' I f i n ep a:=e _ x
def Fv.keep(x:Fv h a o es ep t)(e:∀o,h.get? a=some o->h'.get? a=some o):Fv h' a o es ep t:=⟨e _ x.1,x.2⟩
structure Nd(prog:qy)(w:rH)(A:sJ)(I:Ya)(fp:List Ya)(vs:List AA)(St:Nat->rE->Prop):Prop where
 Qa:I∈fp
 frame:∀i h h',St i h->(∀b∈fp,∀o,h.get? b=some o->h'.get? b=some o)->St i h'
 item:∀i (s:Yf)(Q:Option AA->Yf->Prop)(E:AA->Yf->Prop) v,vs[i]? =some v->St i s.heap->(∀h',St (i+1) h'->(∀b o,b≠I->s.heap.get? b=some o->h'.get? b=some o)->Q (some v) {s with heap:=h'})->cm (ax prog w) A (rS (.ref I)) Q E s
 done:∀(s:Yf)(Q:Option AA->Yf->Prop)(E:AA->Yf->Prop),St vs.length s.heap->(∀h',(∀b o,b≠I->s.heap.get? b=some o->h'.get? b=some o)->Q none {s with heap:=h'})->cm (ax prog w) A (rS (.ref I)) Q E s
def fb(hh:A.handled=none)(hb:DZ w=true)(I a:Ya)(hne:a≠I)(o:Obj)(es:Array (Int×AA))(ep:Nat)(t:SetTable):
 Nd prog w A I [I,a] ((pickOrder (w.params.setOrder a ep) es).toList.map (·.2)) (fun i h=>DC h I (.int 0 0) i es.size ep a/\Fv h a o es ep t) where
 Qa:=by simp
 frame:=fun i h h' st hk=>⟨st.1.keep fun o e=>hk I (by simp) o e,st.2.keep fun o e=>hk a (by simp) o e⟩
 item:=fun i s Q E v hv st hQ=>by
  rw[Az,GY] at hv
  cases e:(pickOrder (w.params.setOrder a ep) es)[i]?with
  |none=>rw[e] at hv;cases hv
  |some x=>rw[e] at hv;cases Af hv;exact ja hb st.1 st.2 e fun h' i' b'=>hQ h' ⟨i',st.2.keep fun o e=>b'.extBut a o hne e⟩ fun b o hn e=>b'.extBut b o hn e
 done:=fun s Q E st hQ=>by
  have hl:((pickOrder (w.params.setOrder a ep) es).toList.map (·.2)).length=es.size:=by rw[AL,(SH _ es).length_eq,E7]
  rw[hl] at st;refine gr hh hb st.1 st.2 ?_ fun h' e'=>hQ h' fun b o hn e=>e' b o hn e;rw[<-GY];exact E6 (by rw[(SH _ es).length_eq,E7];exact Ad _)
def iu(hh:A.handled=none)(hb:DZ w=false)(I a:Ya)(hne:a≠I)(o:Obj)(es:Array (Int×AA))(ep:Nat)(t:SetTable)(hn:es.size<=1)(hl:t.led=true)(hf:t.fits es.size=true):
 Nd prog w A I [I,a] (es.toList.map (·.2)) (fun i h=>DC h I (.int (if i=0 then 0 else t.place.getD 0 0+1:Nat) 0) i es.size ep a/\Fv h a o es ep t) where
 Qa:=by simp
 frame:=fun i h h' st hk=>⟨st.1.keep fun o e=>hk I (by simp) o e,st.2.keep fun o e=>hk a (by simp) o e⟩
 item:=fun i s Q E v hv st hQ=>by
  have h4:t.place.size=es.size:=by simp only[SetTable.fits,F2,Gg] at hf;exact hf.1
  have hi:i=0/\es.size=1:=by
   have:=(BX.mp hv).1;simp at this
   lia
  obtain⟨rfl,h1⟩:=hi;obtain⟨j,hj⟩:∃j,t.place= #[j]:=by obtain⟨j,hj⟩:=List.length_eq_one_iff.mp (show t.place.toList.length=1 by simp;lia);exact⟨j,J7.mp (by rw[hj])⟩
  have hx:es[0]? =some (es[0]'(by lia)):=Gd .. ;have h3:v=(es[0]'(by lia)).2:=by rw[Az,GY,hx] at hv;exact(Af hv).symm
  subst h3;have h2:=st.1;rw[AH rfl] at h2;refine kz (sl:=0) (j:=j) hb h2 st.2 hn hl (by rw[hj,(TM j).1];exact hx) (by rw[hj,(TM j).1];rfl) fun h' i' b'=>hQ h' ⟨?_,st.2.keep fun o e=>b'.extBut a o hne e⟩ fun b o hn e=>b'.extBut b o hn e;rw[AG (by lia),hj];exact i'
 done:=fun s Q E st hQ=>by
  have h4:t.place.size=es.size:=by simp only[SetTable.fits,F2,Gg] at hf;exact hf.1
  rw[AL,E7] at st;refine jY hh hb st.1 st.2 hn hl ?_ fun h' e'=>hQ h' fun b o hn e=>e' b o hn e;by_cases h0:es.size=0
  ·exact getElem?_neg es _ (by lia)
  ·obtain⟨j,hj⟩:∃j,t.place= #[j]:=by obtain⟨j,hj⟩:=List.length_eq_one_iff.mp (show t.place.toList.length=1 by simp;lia);exact⟨j,J7.mp (by rw[hj])⟩
   rw[AG h0,hj];show es[SetTable.below #[j] (j+1)]? =none;rw[(TM j).2];exact getElem?_neg es _ (by lia)
def fm(hh:A.handled=none)(I a T:Ya)(hne:a≠I)(hnT:T≠I)(o:Obj)(es:Array (Int×AA))(ep:Nat)(t:SetTable)(ps:List Nat)(hp:ps.Perm (List.range es.size)):
 Nd prog w A I [I,a,T] (ps.map fun p=>(es.getD p (0,Value.none)).2) (fun i h=>DC h I (.ref T) i es.size ep a/\Fv h a o es ep t/\h.IsTuple T (ps.map fun p:Nat=>rm p).toArray) where
 Qa:=by simp
 frame:=fun i h h' st hk=>⟨st.1.keep fun o e=>hk I (by simp) o e,st.2.1.keep fun o e=>hk a (by simp) o e,by obtain⟨oT,x,r⟩:=st.2.2;exact⟨oT,hk T (by simp) _ x,r⟩⟩
 item:=fun i s Q E v hv st hQ=>by
  rw[Az] at hv
  cases e:ps[i]?with
  |none=>rw[e] at hv;cases hv
  |some p=>
   rw[e] at hv;cases Af hv;have h0:p<es.size:=LJ.mp (hp.mem_iff.mp (Br e));have ex:es[p]? =some (es.getD p (0,Value.none)):=by rw[HW,Gd es p h0];rfl
   refine kO st.1 st.2.1 st.2.2 e ex fun h' i' b'=>hQ h' ⟨i',st.2.1.keep fun o e=>b'.extBut a o hne e,?_⟩ fun b o hn e=>b'.extBut b o hn e;exact st.2.2.extBut b'.extBut hnT
 done:=fun s Q E st hQ=>by rw[AL] at st;exact gX hh st.1 st.2.1 st.2.2 (E6 (Ad _)) fun h' e'=>hQ h' fun b o hn e=>e' b o hn e
def kb(hh:A.handled=none)(hS:E2 prog w s.heap a zs)
 (h:∀(I:Ya)(fp:List Ya)(vs:List AA)(St:Nat->rE->Prop) h' d,(∀(B:sJ),B.handled=none->Nd prog w B I fp vs St)->St 0 h'->(∀b o,s.heap.get? b=some o->h'.get? b=some o)->(∀b∈fp,b=a\/s.heap.objs.size<=b)->(∀v∈vs,∃z t,v=.str z t)->(vs.map tx).Perm zs->vs.length<=4096->
  s.heap.objs.size<=I->Q (.ref I) {s with heap:=h',drawn:=d}):cm (ax prog w) A (pyIter (.ref a)) Q E s:=by
 obtain⟨o,es,ep,t,ho,h0,hd,h6,hm,h9,hb,hf,hl,hp⟩:=hS;have hT:s.TypeIs (.ref a) "set" :=⟨o,ho,h0.1⟩;have h3:=A7 ho;have h8:es.size=zs.length:=by rw[<-hm.length_eq,AL,E7]
 have h1:∀e∈es.toList,∃z t,e.2=.str z t:=fun e he=>by obtain⟨⟨k,hk,_⟩,_⟩:=h6 e he;obtain⟨t,ht⟩:=Tv hk;exact⟨k,t,ht⟩
 refine wpAny_pyIter_slot hT um (Ii um hT cT ?_ (PySem.F.args_set_iter_1 _));unfold Builtin.«frozenset.__iter__» Builtin.Frozenset.slot0 sr;simp only[LC,JM,CQ,↓reduceIte,bind_assoc,HZ,EW];unfold Builtin.Frozenset.addrOf Builtin.Frozenset.sizeOf;refine AJ (Ae ?_);try dsimp only
 refine AJ (Ae ?_);refine AJ (AJ (LA ho hd hf (Ae ?_)));unfold setDrawn;refine AJ (AJ (MZ ho hd hf ?_));dsimp only;refine AJ (Pe (Ae ?_));show cm _ _ (if(!DZ w&&(!t.plain&&decide (es.size>1)))=true then _ else _) _ _ _;have h4:es.size<=4096:=by have:rj=4096:=rfl;lia
 by_cases c:(!DZ w&&(!t.plain&&decide (es.size>1)))=true
 ·rw[AH c];refine AJ (WO _ _ _ _ (by simp) fun ps d pp=>?_);have lp:ps.length=es.size:=by rw[pp.length_eq,RC]
  refine AJ (wpAny_newTuple ?_ (by rw[AL,A9];lia));have h2:=BB {cls:=.type "tuple",data:=.seq (List.map (fun i:Nat=>rm i) ps).toArray} ho;refine AJ (wpAny_setEpoch_of (s:={s with heap:=s.heap.push _,drawn:=d}) h2 hd hf ?_);have z1:(s.heap.push {cls:=.type "tuple",data:=.seq (List.map (fun i:Nat=>rm i) ps).toArray}).objs.size=s.heap.objs.size+1:=by rw[Ha]
  refine AJ (Ih (Ae ⟨_,rfl,"set_iterator",_,⟨_,CC _ rfl,rfl⟩,Fd.lookup,?_⟩));have ev:(es.toList.map (·.2))=(List.range es.size).map fun p=>(es.getD p (0,Value.none)).2:=by
   apply J2;intro k;rw[Az,Az,GY];by_cases hk:k<es.size
   ·rw[VX hk,Gd es k hk];simp[HW,hk]
   ·rw[getElem?_neg es k hk,E6 (by simp;lia)];rfl
  have pv:(ps.map fun p=>(es.getD p (0,Value.none)).2).Perm (es.toList.map (·.2)):=by rw[ev];exact pp.map _
  refine h _ [_,a,s.heap.objs.size] (ps.map fun p=>(es.getD p (0,Value.none)).2) _ _ d (fun B hB=>fm hB _ a s.heap.objs.size (by rw[z1];exact BN (OU h3)) (by rw[z1];exact BN (Mc _)) o es ep t ps pp)
   ⟨CC _ rfl,⟨BB _ h2,h0,hd,hf⟩,⟨_,BB _ (CC _ rfl),rfl,0,rfl⟩⟩
   (fun b o e=>BB _ (BB _ e)) (fun b hb=>?_) (fun v hv=>?_) ?_ (by rw[AL];lia) (by rw[z1];exact E9 _)
  ·rcases Bn.mp hb with e|hb
   ·exact .inr (by rw[e,z1];exact E9 _)
   ·rcases Bn.mp hb with e|hb
    ·exact .inl e
    ·exact .inr (by rw[Bk.mp hb];exact Ad _)
  ·obtain⟨e,he,rfl⟩:=BZ.mp (pv.mem_iff.mp hv);exact h1 e he
  ·refine(pv.map tx).trans ?_;rw[Ba];exact hm
 ·rw[AG c];refine AJ (Ae (AJ (wpAny_setEpoch_of ho hd hf ?_)));refine AJ (Ih (Ae ⟨_,rfl,"set_iterator",_,⟨_,CC _ rfl,rfl⟩,Fd.lookup,?_⟩));have ne:a≠s.heap.objs.size:=BN h3;have h5:∀b∈[s.heap.objs.size,a],b=a\/s.heap.objs.size<=b:=fun b hb=>by
   rcases Bn.mp hb with e|hb
   ·exact .inr (by rw[e];exact Ad _)
   ·exact .inl (Bk.mp hb)
  have e0:s={s with heap:=s.heap}:=by cases s;rfl
  cases eb:DZ w with
  |true=>
   have pv:((pickOrder (w.params.setOrder a ep) es).toList.map (·.2)).Perm (es.toList.map (·.2)):=(SH _ es).map _;refine h _ [s.heap.objs.size,a] _ _ _ s.drawn (fun B hB=>fb hB eb _ a ne o es ep t) ⟨CC _ rfl,BB _ ho,h0,hd,hf⟩ (fun b o e=>BB _ e) h5 (fun v hv=>?_) ?_ (by rw[pv.length_eq,AL];simp;exact h4) (Ad _)
   ·obtain⟨e,he,rfl⟩:=BZ.mp (pv.mem_iff.mp hv);exact h1 e he
   ·refine(pv.map tx).trans ?_;rw[Ba];exact hm
  |false=>
   have h7:es.size<=1:=by
    rw[eb] at c;rcases hp with z|z
    ·lia
    ·rw[z] at c;simp at c
     lia
   rw[eb] at hl;refine h _ [s.heap.objs.size,a] _ _ _ s.drawn (fun B hB=>iu hB eb _ a ne o es ep t h7 hl hf) ⟨CC _ rfl,BB _ ho,h0,hd,hf⟩ (fun b o e=>BB _ e) h5 (fun v hv=>?_) ?_ (by rw[AL];simp;exact h4) (Ad _)
   ·obtain⟨e,he,rfl⟩:=BZ.mp hv;exact h1 e he
   ·rw[Ba];exact hm
def gW{vs:List AA}{St:Nat->rE->Prop}(W:Nd prog w A.in1 I fp vs St)(hn:vs.length<=sizeLine)(S:Ya)(hSf:S∉fp)(res:AA):
 ∀(k i:Nat)(s:Yf)(acc:Array AA)(c:Nat),vs.length-i=k->i<=vs.length->St i s.heap->s.heap.get? S=some {cls:=.type "list",dict:=none,data:=.seq acc c,slots:= #[]}->acc.toList=vs.take i->
 (∀h' c',(∀b o,b≠S->b≠I->s.heap.get? b=some o->h'.get? b=some o)->h'.get? S=some {cls:=.type "list",dict:=none,data:=.seq vs.toArray c',slots:= #[]}->R (.ok (.ret res)) {s with heap:=h'})->
 rq (ax prog w) A (.builtin "list.extend.loop" ⟨[.ref S,.ref I,res],[]⟩) R s:=by
 have e0:S≠I:=fun e=>hSf (e▸W.Qa);intro k
 induction k with
 |zero=>
  intro i s acc c hk hi h4 hS h0 hR;have e2:i=vs.length:=by lia
  subst e2;refine Ij uo ?_;rw[MR OE _];show cm _ A.in1 (rS (.ref I)>>=_) _ _ s;refine AJ (W.done s _ _ h4 fun h' hm=>?_);have ea:acc=vs.toArray:=J7.mp (by rw[h0,CL]);exact Ae (hR h' c (fun b o _ hb e=>hm b o hb e) (by rw[<-ea];exact hm S _ e0 hS))
 |succ k ih=>
  intro i s acc c hk hi h4 hS h0 hR;have h1:i<vs.length:=by lia
  have h7:acc.size=i:=by rw[<-E7,h0,Bm];lia
  refine Ij uo ?_;rw[MR OE _];show cm _ A.in1 (rS (.ref I)>>=_) _ _ s;refine AJ (W.item i s _ _ _ (Ar h1) h4 fun h' h3 hm=>?_);have e1:=hm S _ e0 hS;show cm _ A.in1 (updateSeq S (·.push (vs[i]'h1))>>=_) _ _ _;refine AJ ?_;refine tw (s:={s with heap:=h'}) e1 rfl (Ae ⟨Oh OE _,ih (i+1) _ (acc.push (vs[i]'h1)) _ (by lia) h1 (W.frame _ h' _ h3 fun b hb o e=>?_) (JF _ e1 rfl) ?_ fun h2 c' h5 h6=>?_⟩)
   (by rw[h7];lia) (by show(acc.push (vs[i]'h1)).size<=sizeLine+1;rw[Array.size_push,h7];lia)
  ·exact(ES _ _ (fun h:S=b=>hSf (by rw[h];exact hb))).trans e
  ·rw[Ma,h0,List.take_succ,Ar h1];rfl
  ·exact hR h2 c' (fun b o h9 h8 e=>h5 b o h9 h8 ((ES _ _ (DK h9)).trans (hm b o h8 e))) h6
def gh{r:Ya}{Q:Bool->Yf->Prop}(hT:s.TypeIs (.ref r) "set")(h:Q false s):cm (ax prog w) A (Builtin.List.listLengthHint (.ref r)) Q E s:=by
 unfold Builtin.List.listLengthHint;refine AJ (wpAny_specialOf hT PySem.F.slot_set_len.lookup ?_);generalize h1:("set.__len__" :String)=h2
 wp_delta
 rw[show splitId h2=some ("set","__len__") from by subst h1;decide+kernel];subst h1;refine AJ (wpAny_isInstance (T:="set") (b:=true) hT sub_set_self ?_);refine uA (fun h0=>absurd h0 (by decide)) (fun _=>?_);refine uA (fun _=>?_) (fun h0=>absurd (by left) h0);refine AJ (tR hT ?_);exact Ae h
def gI{Q:List AA->Yf->Prop}(hh:A.handled=none)(hS:E2 prog w s.heap a zs)
 (h:∀vs h' d,(∀v∈vs,∃z t,v=.str z t)->(vs.map tx).Perm zs->(∀b o,s.heap.get? b=some o->h'.get? b=some o)->s.heap.objs.size<h'.objs.size->Q vs {s with heap:=h',drawn:=d}):cm (ax prog w) A (uF (.ref a)) Q E s:=by
 have hT:∀(x:Yf),(∀b o,s.heap.get? b=some o->x.heap.get? b=some o)->x.TypeIs (.ref a) "set" :=fun x e=>by obtain⟨o,es,ep,t,ho,e5,_⟩:=hS;exact⟨o,e _ _ ho,e5.1⟩
 have h7:a<s.heap.objs.size:=by obtain⟨o,es,ep,t,ho,_⟩:=hS;exact A7 ho
 unfold uF;refine AJ (wpAny_runValue (Ij entry_proto_collect' ?_));show cm _ _ (do again (.builtin "list.__iadd__" ⟨[<-newList [],.ref a],[]⟩)) _ _ s;refine AJ (Ra (Ae ⟨OS _ (by left),Ij entry_list_iadd' ?_⟩));show cm _ _ (Builtin.List.listExtendWith (.ref s.heap.objs.size) (.ref a) (.ref s.heap.objs.size)) _ _ {s with heap:=s.heap.push (rP "list" #[] 0)};generalize e0:s.heap.push (rP "list" #[] 0)=h0;have e1:h0.get? s.heap.objs.size=some (rP "list" #[] 0):=by rw[<-e0];exact CC _ rfl
 have k0:∀b o,s.heap.get? b=some o->h0.get? b=some o:=fun b o e=>by rw[<-e0];exact BB _ e
 have z0:s.heap.objs.size<h0.objs.size:=A7 e1;unfold Builtin.List.listExtendWith;refine AJ (tR (T:="set") (hT {s with heap:=h0} k0) ?_);have h1:Builtin.List.listSameRef (.ref s.heap.objs.size) (.ref a)=false:=by simp[Builtin.List.listSameRef,E8 h7]
 have t1:(Value.type "set" ==Value.type "list")=false:=by decide
 have t2:(Value.type "set" ==Value.type "tuple")=false:=by decide
 simp only[h1,t1,t2,Bool.or_false,CQ,Bs];refine AJ (kb (s:={s with heap:=h0}) (zs:=zs) hh (hS.at fun o e=>k0 a o e) fun I fp vs St h' d W st keep e4 e2 pm h4 hI=>?_);have h9:s.heap.objs.size∉fp:=fun hm=>by
  rcases e4 _ hm with e|e
  ·exact absurd e (E8 h7)
  ·exact absurd z0 (Ox.mpr e)
 have h5:=keep _ _ e1;have done:∀h2 c',(∀b o,b≠s.heap.objs.size->b≠I->h'.get? b=some o->h2.get? b=some o)->h2.get? s.heap.objs.size=some {cls:=.type "list",dict:=none,data:=.seq vs.toArray c',slots:= #[]}->
  cm (ax prog w) A (do
   let o<-load s.heap.objs.size
   match o.data with
   |.seq xs _=>pure xs.toList
   |_=>rg "internal:collect") Q E {s with heap:=h2,drawn:=d}:=fun h2 c' k2 h3=>by
  refine AJ (wpAny_load h3 (Ae ?_));refine h _ h2 d (by simpa using e2) (by simpa using pm) (fun b o e=>?_) (A7 h3);have hb:=A7 e;exact k2 b o (BN hb) (fun z=>absurd (z▸hb) (Ox.mpr (F5 (C8 z0 hI)))) (keep b o (k0 b o e))
 have n4:vs.length<=sizeLine:=by rw[A9];lia
 refine AJ (Gb (gh (hT {s with heap:=h',drawn:=d} fun b o e=>keep b o (k0 b o e)) ?_));have h6:∀(h1:rE)(c1:Nat),St 0 h1->(∀b o,b≠s.heap.objs.size->h'.get? b=some o->h1.get? b=some o)->h1.get? s.heap.objs.size=some {cls:=.type "list",data:=.seq #[] c1}->
  rq (ax prog w) A (.builtin "list.extend.loop" ⟨[.ref s.heap.objs.size,.ref I,.ref s.heap.objs.size],[]⟩) (wants (fun v s'=>cm (ax prog w) A (match v with
   |.ref a=>do
    let o<-load a
    match o.data with
    |.seq xs _=>pure xs.toList
    |_=>rg "internal:collect"
   |_=>rg "internal:collect") Q E s') E) {s with heap:=h1,drawn:=d}:=fun h1 c1 e3 k1 h5=>
  gW (W A.in1 hh) n4 _ h9 _ vs.length 0 _ #[] c1 (by lia) (CN _) e3 h5 (by simp) fun h2 c' k2 h3=>done h2 c' (fun b o b1 b2 e=>k2 b o b1 b2 (k1 b o b1 e)) h3;refine uA (fun _=>?_) (fun _=>Ae ⟨Oh OE _,h6 _ 0 st (fun b o _ e=>e) h5⟩);refine AJ (IH ?_);refine AJ ?_;show cm _ _ (updateSeq s.heap.objs.size (·.push .none)>>=fun _=>updateSeq s.heap.objs.size (·.pop)) _ _ _;refine AJ (tw (s:={s with heap:=h',drawn:=d}) h5 rfl ?_);have h3:=JF (Obj.mapSeq (·.push Value.none)) h5 rfl;refine tw (hz:=by seq_fits) h3 rfl ?_;have e6:=JF (Obj.mapSeq (·.pop)) h3 rfl;refine Ae ⟨Oh OE _,h6 _ _ ?_ (fun b o hb e=>?_) e6⟩
 ·refine(W A hh).frame 0 _ _ st fun b hb o e=>?_;have h8:b≠s.heap.objs.size:=fun h=>h9 (h▸hb);exact(ES _ _ (DK h8)).trans ((ES _ _ (DK h8)).trans e)
 ·exact(ES _ _ (DK hb)).trans ((ES _ _ (DK hb)).trans e)
end
section
open PySem.W
def ik{f:α->β}{a b:List β}(h:a.Perm b):∀l:List α,b=l.map f->∃l':List α,l'.Perm l/\a=l'.map f:=by
 induction h with
 |nil=>intro l e;exact⟨[],by rw[List.map_eq_nil_iff.mp e.symm],rfl⟩
 |cons x _ ih=>
  intro l e
  match l,e with
  |y::l,e=>obtain⟨e1,e2⟩:=IF e;obtain⟨l',p,q⟩:=ih l e2;exact⟨y::l',p.cons y,by rw[Av,<-q,<-e1]⟩
 |swap x y t=>
  intro l e
  match l,e with
  |u::v::l,e=>obtain⟨e1,e2⟩:=IF e;obtain⟨e3,e4⟩:=IF e2;exact⟨v::u::l,List.Perm.swap ..,by rw[Av,Av,<-e1,<-e3,<-e4]⟩
 |trans _ _ ih1 ih2=>intro l e;obtain⟨l1,p1,q1⟩:=ih2 l e;obtain⟨l2,p2,q2⟩:=ih1 l1 q1;exact⟨l2,p2.trans p1,q2⟩
def iy(vs:List AA):vs=(List.range vs.length).map fun i=>vs.getD i Value.none:=by
 apply J2;intro k;rw[Az];by_cases hk:k<vs.length
 ·rw[VX hk,Ar hk];simp[hk]
 ·rw[E6 (by lia),E6 (by simp;lia)];rfl
open Classical in
noncomputable def Nz(vs:List AA)(r:Nat->Nat)(x:dA):Nat:=if h:∃i,i<vs.length/\vs.getD i Value.none=x.1 then r (Classical.choose h) else 0
def Se{vs:List AA}{r:Nat->Nat}(hr:∀i j,i<vs.length->j<vs.length->vs.getD i Value.none=vs.getD j Value.none->r i=r j){x:dA}(hi:i<vs.length)(e:vs.getD i Value.none=x.1):Nz vs r x=r i:=by have h:∃i,i<vs.length/\vs.getD i Value.none=x.1:=⟨i,hi,e⟩;unfold Nz;rw[dif_pos h];have:=Classical.choose_spec h;exact hr _ _ this.1 hi (this.2.trans e.symm)
def SG{vs:List AA}{x:dA}(h:x∈(vs.toArray.zip vs.toArray).toList):∃i,i<vs.length/\vs.getD i Value.none=x.1/\x.1=x.2:=by
 have h':x∈vs.zip vs:=by simpa using h
 obtain⟨i,hi,e⟩:=Ie.mp h';have hl:i<vs.length:=by simpa using hi
 rw[List.getElem_zip] at e;refine⟨i,hl,?_,by rw[<-e]⟩;rw[Cu,Ar hl,<-e];rfl
def jI{vs:List AA}{n:Nat}{P:PySem.Fin->Yf->Prop}(r:Nat->Nat)(ho:s.heap.get? a=some (rP "list" vs.toArray n))(hle:vs.length<=sizeLine)
 (hr:∀i j,i<vs.length->j<vs.length->vs.getD i Value.none=vs.getD j Value.none->r i=r j)
 (hk:2<=vs.length->N0 prog w A vs r {s with heap:=Lg s.heap a vs})
 (h:∀p:List Nat,p.Perm (List.range vs.length)->(∀i j,i<=j->j<vs.length->r (p.getD i 0)<=r (p.getD j 0))->P (.done (.ret .none)) {s with heap:=sortedHeap s.heap a vs (GJ vs p).toArray}):
 cm (ax prog w) A (Builtin.«list.sort» ⟨[.ref a],[]⟩) P E s:=by
 have lta:a<s.heap.objs.size:=A7 ho;rw[list_sort_plain];refine AJ (listItems_at ho rfl (AJ (uR ho rfl ?_ (by rw[Cg];lia) (CN _))));obtain⟨e1,h1⟩:∃e1,(s.heap.update a (Obj.mapSeq fun _=>(#[]:Array AA))).get? a=some (rP "list" #[] e1):=⟨_,uB ho fun _=> #[]⟩;refine AJ (seqEpoch_at h1 rfl (AJ (wpAny_newTuple (AJ (Ra (Gb ?_) (CN _))) (by show vs.length<=_;lia))));have h6:(Lg s.heap a vs).get? a=some (rP "list" #[] e1):=by unfold Lg;rw[Heap.get?_push_ne _ _ _ (by rw[uH,RK];exact BN (OU lta)),Heap.get?_push_ne _ _ _ (by rw[RK];exact BN lta)];exact h1
 show cm (ax prog w) A _ P E {s with heap:=Lg s.heap a vs};dsimp only;by_cases h2:vs.toArray.size<2
 ·rw[AH h2,AH h2];refine AJ (Ae ?_);rw[StateT.run_pure];refine AJ (Ae ?_);dsimp only;have hn:vs.length<2:=by simpa using h2
  have e0:Array.map (·.2) (dy (SortSt.mk' general' (vs.toArray.zip vs.toArray) #[] 7 none))=(GJ vs (List.range vs.length)).toArray:=by show Array.map (·.2) (vs.toArray.zip vs.toArray)=_;exact nL (C:=fun vs:List AA=>Array.map (·.2) (vs.toArray.zip vs.toArray)=(GJ vs (List.range vs.length)).toArray) (by simp[GJ]) (fun _=>by apply J7.mp;simp[GJ]) hn
  rw[e0];refine AJ (seqEpoch_at h6 rfl (AJ (uR h6 rfl ?_ (CN _) (by unfold GJ;simp;lia))));simp only[EW,CQ,Bs];exact Ae (h (List.range vs.length) (.refl _) fun i j hij hj=>by
   have e:i=j:=by lia
   rw[e];exact Ad _)
 ·have h2':2<=vs.length:=by
   have:¬vs.length<2:=by simpa using h2
   lia
  rw[AG h2,AG h2];refine AJ (DA (hk h2') (fun κ s' hκ=>?_) fun _ _ x=>x.elim);obtain⟨es,ask⟩:=hκ;subst es;have hzz:(vs.toArray.zip vs.toArray).size=vs.length:=by simp
  have hc:C7 prog w A {s with heap:=Lg s.heap a vs} κ (Nz vs r) (vs.toArray.zip vs.toArray):=fun x y hx hy C hC=>by
   obtain⟨i,hi,ei,_⟩:=SG hx;obtain⟨j,hj,ej,_⟩:=SG hy;have:=ask i j C hi hj (by unfold QY;rw[<-Se hr hi ei,<-Se hr hj ej];exact hC);unfold kas_ask at this;rw[ei,ej] at this;exact this
  refine AJ (DA (lz (st:=SortSt.mk' κ (vs.toArray.zip vs.toArray) #[] 7 none) (Q:=fun _ st'=>(dy st').Perm (vs.toArray.zip vs.toArray)/\rM st'=none/\Up (Nz vs r) (dy st') 0 (vs.toArray.zip vs.toArray).size) hc rfl rfl rfl rfl (by lia) fun st' a1 a2 a3=>⟨a1,a2,a3⟩) ?_ fun _ _ e=>e);rintro⟨⟨⟩,st'⟩ s' ⟨rfl,pm,hf,up⟩;dsimp only at pm hf up⊢;have pl:=MM.mp pm;have inx:∀x∈(dy st').toList,∃i,i<vs.length/\vs.getD i Value.none=x.1/\x.1=x.2:=fun x hx=>SG (pl.mem_iff.mp hx);have po:((dy st').toList.map (·.2)).Perm vs:=by
   refine(pl.map _).trans ?_;have e:((vs.toArray.zip vs.toArray).toList.map (·.2))=vs:=by
    have e1:(vs.toArray.zip vs.toArray).toList=vs.zip vs:=by simp
    rw[e1];exact List.map_snd_zip (Ad _)
   rw[e]
  obtain⟨p,pp,ep⟩:=ik po (List.range vs.length) (iy vs);have eo:(dy st').map (·.2)=(GJ vs p).toArray:=by apply J7.mp;rw[Array.toList_map,ep];rfl
  have plen:p.length=vs.length:=by rw[pp.length_eq,RC]
  rw[eo];refine AJ (seqEpoch_at h6 rfl (AJ (uR h6 rfl ?_ (CN _) (by unfold GJ;simp;lia))));rw[hf];simp only[EW,CQ,Bs];refine Ae (h p pp fun i j hij hj=>?_);have sz:(dy st').size=vs.length:=by rw[pm.size_eq,hzz]
  have at_:∀k,k<vs.length->kv (Nz vs r) (dy st') k=r (p.getD k 0):=fun k hk'=>by
   have hk1:k<(dy st').size:=by lia
   have hm:=getD_mem (arr:=dy st') hk1;obtain⟨i0,hi0,ei0,e12⟩:=inx _ hm;have hpk:p.getD k 0<vs.length:=by rw[Cu,Ar (by lia)];exact LJ.mp (pp.mem_iff.mp (F1 _))
   refine Se hr hpk ?_;have:((dy st').toList.map (·.2))[k]? =some ((dy st').getD k dK).2:=by rw[Az,GY,Gd _ k hk1,HW,Gd _ k hk1];rfl
   rw[ep,Az] at this;rw[Ar (by lia)] at this;have t2:=Af this;rw[e12,<-t2,Cu (l:=p),Ar (by lia)];rfl
  have:=up i j (CN _) hij (by lia);rw[at_ i (by lia),at_ j hj] at this;exact this
def Vo{x:AA}
 (hcol:cm (ax prog w) A.in1 (uF x) (fun vs s1=>vs.length<=1000000/\∃r:Nat->Nat,(∀i j,i<vs.length->j<vs.length->vs.getD i Value.none=vs.getD j Value.none->r i=r j)/\
  (2<=vs.length->∀h':rE,(∀b o,s1.heap.get? b=some o->h'.get? b=some o)->N0 prog w A.in1.in1 vs r {s1 with heap:=h'})/\
  ∀(p:List Nat) h2 e,p.Perm (List.range vs.length)->(∀i j,i<=j->j<vs.length->r (p.getD i 0)<=r (p.getD j 0))->(∀b o,s1.heap.get? b=some o->h2.get? b=some o)->h2.get? s1.heap.objs.size=some (rP "list" (GJ vs p).toArray e)->Q (.ref s1.heap.objs.size) {s1 with heap:=h2}) E s):
 cm (ax prog w) A (call (.builtin "sorted") [x]) Q E s:=by
 refine Calls.call_function_entry kind_sorted plain_sorted entry_sorted (args_sorted1 _) ?_;unfold Builtin.«sorted»;refine AJ (m:=checkCount "sorted" 1 1 _) (Ae (AJ (DA hcol (fun vs s1 hs=>?_) fun _ _ z=>z)));obtain⟨hl,r,hr,hk,h⟩:=hs;have hle:vs.length<=sizeLine:=by rw[A9];lia
 refine AJ (Ra ?_ hle);have ho:(s1.heap.push (rP "list" vs.toArray 0)).get? s1.heap.objs.size=some (rP "list" vs.toArray 0):=CC _ rfl;have z:(s1.heap.push (rP "list" vs.toArray 0)).objs.size=s1.heap.objs.size+1:=uH ..;show cm _ _ _ _ _ {s1 with heap:=s1.heap.push (rP "list" vs.toArray 0)};refine AJ (Gb (Ii slot_list_sort ⟨_,ho,rfl⟩ entry_list_sort (jI r ho hle hr (fun h2=>?_) fun p a1 a2=>⟨_,rfl,?_⟩) (args_list_sort _)))
 ·refine hk h2 _ fun b o q=>?_;have lt:=A7 q;unfold Lg;refine BB _ (BB _ ?_);rw[MT _ _ _ _ (BN lt)];exact BB _ q
 ·unfold sortedHeap;obtain⟨e1,h1⟩:∃e1,((s1.heap.push (rP "list" vs.toArray 0)).update s1.heap.objs.size (Obj.mapSeq fun _=>(#[]:Array AA))).get? s1.heap.objs.size=some (rP "list" #[] e1):=⟨_,uB ho fun _=> #[]⟩;have h2:=BB (rP "list" #[] 0) (BB (rP "tuple" vs.toArray 0) h1);refine Ae ⟨_,rfl,h p _ _ a1 a2 (fun b o q=>?_) (uB h2 fun _=>_)⟩;have lt:=A7 q;rw[MT _ _ _ _ (BN lt)];refine BB _ (BB _ ?_);rw[MT _ _ _ _ (BN lt)];exact BB _ q
def fJ{r:Ya}{n:Nat}{P:Nat->AA->Prop}{OK:rE->Prop}{Q:List AA->Yf->Prop}(K:KdlSrc prog w T r d n P OK)(hh:A.handled=none)(hok:OK s.heap)(hn:n<=sizeLine)
 (h:∀vs h' tk,vs.length=n->(∀(j:Nat) v,vs[j]? =some v->P j v)->(∀b o,s.heap.get? b=some o->h'.get? b=some o)->s.heap.objs.size<h'.objs.size->Q vs {s with heap:=h',toks:=tk}):cm (ax prog w) A (uF (.ref r)) Q E s:=by
 have hlt:=K.there _ hok;unfold uF;refine AJ (wpAny_runValue (Ij entry_proto_collect' ?_));show cm _ _ (do again (.builtin "list.__iadd__" ⟨[<-newList [],.ref r],[]⟩)) _ _ s;refine AJ (Ra (Ae ⟨OS _ (by left),Ij entry_list_iadd' ?_⟩));rw[MR (show plainId "list.__iadd__" =true from by left) _];refine kdl_extend (A:=A) (R:=wants (fun v s'=>cm (ax prog w) A (match v with
  |.ref a=>do
   let o<-load a
   match o.data with
   |.seq xs _=>pure xs.toList
   |_=>rg "internal:collect"
  |_=>rg "internal:collect") Q E s') E) (s:={s with heap:=s.heap.push (rP "list" #[] 0)}) K hh (K.keep _ _ hok fun b _ o e=>BB _ e) s.heap.objs.size (E8 hlt.1) (E8 hlt.2) (.ref s.heap.objs.size) 0 (CC _ rfl) (fun h' tk acc' c' keep hS hacc=>?_) hn;refine AJ (wpAny_load hS (Ae (h _ h' tk (by rw[E7];exact hacc.1) (fun j v e=>hacc.2 j v (by rw[<-GY];exact e)) (fun b o e=>keep b o (BN (A7 e)) (BB _ e)) (A7 hS))))
def fc(I:Inv X pins σ H s)(d:Drawn):Inv X pins σ H {s with drawn:=d}:=
 ⟨I.ok,I.os,I.bare,I.base,I.loc,I.cell,I.free,I.DP,I.pin,I.hok,I.len⟩
def Z8(zs:List α)(d:α):(List.range zs.length).map (fun i=>zs.getD i d)=zs:=by
 apply J2;intro k;rw[Az];by_cases hk:k<zs.length
 ·rw[VX hk,Ar hk];simp[hk]
 ·rw[E6 (by simp;lia),E6 (by lia)];rfl
def sorted_strs{Q:VK}{x:AA}{zs0:List Str}(I:Inv X pins σ H s)(hz:zs0.length<=1000000)
 (hcol:∀Q':List AA->Yf->Prop,(∀(vs:List AA)(zs:List Str) h' tk d,Vals (zs.map V.str) vs->zs.Perm zs0->(∀b o,s.heap.get? b=some o->h'.get? b=some o)->s.heap.objs.size<=h'.objs.size->Q' vs {s with heap:=h',toks:=tk,drawn:=d})->cm (ax X.prog X.w) X.A.in1 (uF x) Q' X.xe s)
 (q:∀(D:Ya)(ys:List Str),H D=none->ys.Perm zs0->ys.Pairwise (fun a b=>L9 b a=false)->Q (.ref D) (upd H D (.lst (ys.map V.str)))):
 cm (ax X.prog X.w) X.A (call (.builtin "sorted") [x]) (EP X pins σ Q) X.xe s:=by
 refine Vo (hcol _ fun vs zs h' tk d rv pz kp sz=>?_);have hl:zs.length=vs.length:=by rw[<-rv.length,AL]
 have h7:zs.length=zs0.length:=pz.length_eq;refine⟨by lia,MG zs,fun i j hi hj e=>?_,fun h2 h9 h5=>iX rv h2,fun p h2 e pp h6 h5 hD=>?_⟩
 ·obtain⟨t1,e1⟩:=Lj rv (k:=i) (by lia);obtain⟨t2,e2⟩:=Lj rv (k:=j) (by lia);rw[e1,e2] at e;unfold MG;rw[(Value.str.inj e).1]
 ·rw[<-hl] at pp h6;have h4:∀i∈p,i<zs.length:=fun i hi=>LJ.mp (pp.mem_iff.mp hi);have h3:p.length=zs.length:=by rw[pp.length_eq,RC]
  have h0:Vals ((p.map fun i=>zs.getD i "").map V.str) (GJ vs p):=by
   unfold GJ;refine NF (by simp) fun i x u h1 h2=>?_;rw[Ba,Az] at h1;rw[Az] at h2
   cases e:p[i]?with
   |none=>rw[e] at h1;cases h1
   |some k=>
   rw[e] at h1 h2;cases Af h1;cases Af h2;obtain⟨t,et⟩:=Lj rv (h4 k (Br e));exact⟨t,et⟩
  have I1:=I.laid (t':=tk) (h':=h2) (a:=h'.objs.size) (o:=.lst ((p.map fun i=>zs.getD i "").map V.str)) (fun b ob z=>h5 b ob (kp b ob z)) sz
   ⟨by rw[AL,AL,h3,A9];lia,_,e,h0,hD⟩;refine⟨.ref h'.objs.size,_,fc I1 d,rfl,q _ _ (I.hok.fresh sz) ?_ ?_⟩
  ·have:=pp.map fun i=>zs.getD i "";rw[Z8] at this;exact this.trans pz
  ·rw[RB,OF];intro i j hi hj h8;have h1:=h6 i j (by lia) (by lia);rw[Cu,Ar hi,Cu,Ar hj] at h1;have e3:=PH DB zs (a:=zs.getD p[j] "") (b:=zs.getD p[i] "") (Xf (h4 _ (F1 hj)));have e5:L9 (zs.getD p[j] "") (zs.getD p[i] "")=decide (MG zs p[j]<MG zs p[i]):=e3;rw[e5];exact BK (by simpa using h1)
def Ro:DO X (.builtin "sorted") (mQ X.K):=by
 intro h1 s σ H xs us Q I r h;obtain⟨l,zs,rfl,hq,h2,q⟩:=h;obtain⟨u,rfl,rx⟩:=vals1 r;cases rx;obtain⟨h0,rv,pl,hz⟩:=I.list hq;have hl:zs.length=h0.length:=by rw[<-rv.length,AL]
 refine sorted_strs I (zs0:=zs) (by lia) (fun Q' hQ=>collect_list (A:=X.A.in1) pl.isList (hQ h0 zs _ s.toks s.drawn rv (.refl _) (fun b ob z=>?_) ?_) (by rw[A9];lia)) q
 ·show((s.heap.push (rP "list" #[] 0)).update s.heap.objs.size _).get? b=some ob;rw[MT _ _ _ _ (BN (A7 z))];exact BB _ z
 ·rw[RK,uH];exact E9 _
def mG:List V->Hp->VK->Prop:=fun xs H Q=>∃(d:Ya)(h0:List (Key×V))(zs:List Str),xs=[.ref d]/\H d=some (.dK h0)/\h0.map (·.1)=zs.map Sum.inr/\zs.length<=1000000/\
 ∀(D:Ya)(ys:List Str),H D=none->ys.Perm zs->ys.Pairwise (fun a b=>L9 b a=false)->Q (.ref D) (upd H D (.lst (ys.map V.str)))
def V3(hc:X.calm=true):DO X (.builtin "sorted") mG:=by
 intro h5 s σ H xs us Q I r h;obtain⟨d,h4,zs,rfl,hd,hk,hz,q⟩:=h;obtain⟨u,rfl,rx⟩:=vals1 r;cases rx;obtain⟨z,hm,ws,h3,dd⟩:=Jc I.hok hd;obtain⟨ep,da⟩:=dd.dictAt;have hh:X.A.handled=none:=I.ok.hd hc;have h7:=h3.length;have h8:h4.length=zs.length:=by have:=BL List.length hk;simpa using this
 refine sorted_strs I hz (fun Q' hQ=>fJ (A:=X.A.in1) (kdl_dict hm) hh da (by lia) fun vs h' tk hl hi kp sz=>hQ vs zs h' tk s.drawn (NF (by rw[AL];lia) fun i x u h1 h2=>?_) (.refl _) kp ?_) q
 ·obtain⟨k,y,ek,is⟩:=hi i u h2;have h0:(h4.map (·.1))[i]? =some k:=by rw[h3.keys,Az,ek];rfl
  rw[hk,Az] at h0;rw[Az] at h1
  cases e:zs[i]?with
  |none=>rw[e] at h1;cases h1
  |some zz=>
   rw[e] at h1 h0;cases Af h1;cases Af h0;have h6:Jf (Sum.inr zz) u=true:=is;rcases Ge h6 with⟨i,t,e1,_⟩|⟨z,t,e1,rfl⟩
   ·cases e1
   ·cases e1;exact⟨t,rfl⟩
 ·exact F5 sz
noncomputable def MB(P:qy)(w:rH)(D:Ya)(zs:List Str):HO:=.ext fun h=>E2 P w h D zs
def nE(P:qy)(w:rH)(K:uT):List V->Hp->VK->Prop:=fun xs H Q=>∃(a:Ya)(ys:List Str),xs=[.ref a]/\AU K H a (ys.map V.str)/\ys.length<=1000/\∀D,H D=none->Q (.ref D) (upd H D (MB P w D (Ft [] ys)))
def fC(hP:X.prog=P)(hw:X.w=w)(hK:X.K=K)(hc:X.calm=true):DO X (.type "set") (nE P w K):=by
 subst hP;subst hw;subst hK;intro h3 s σ H xs us Q I r h;obtain⟨a,ys,rfl,ha,hz,q⟩:=h;obtain⟨u,rfl,rx⟩:=vals1 r;cases rx;obtain⟨h0,rv,pl,_⟩:=I.tuple ha;have hh:X.A.handled=none:=I.ok.hd hc;have hl:ys.length=h0.length:=by rw[<-rv.length,AL]
 refine cX (items:=h0.toArray) (ys:=ys) hh pl (by simpa using hl) (fun i v z h1 h2=>?_) (by unfold rj;simp;lia) fun h' tk hS kp=>?_
 ·have e:(ys.map V.str)[i]? =some (V.str z):=by rw[Az,h2];rfl
  obtain⟨u,hu,t,ht⟩:=rv.get e;rw[VP,hu] at h1;cases Af h1;exact⟨t,ht⟩
 ·have h4:=hS;obtain⟨o,es,ep,t,ho,_⟩:=hS;have I1:=I.laid (t':=tk) (h':=h') (a:=s.heap.objs.size) (o:=.ext fun h=>E2 X.prog X.w h s.heap.objs.size (Ft [] ys)) kp (Ad _)
   ⟨h4,⟨o,ho⟩,fun h1 h2 x e=>x.at e⟩;exact⟨.ref s.heap.objs.size,_,I1,rfl,q _ (I.hok.fresh (Ad _))⟩
def lE(P:qy)(w:rH):List V->Hp->VK->Prop:=fun xs H Q=>∃(a:Ya)(zs:List Str),xs=[.ref a]/\H a=some (MB P w a zs)/\
 ∀(D:Ya)(ys:List Str),H D=none->ys.Perm zs->ys.Pairwise (fun a b=>L9 b a=false)->Q (.ref D) (upd H D (.lst (ys.map V.str)))
def dH(hP:X.prog=P)(hw:X.w=w)(hc:X.calm=true):DO X (.builtin "sorted") (lE P w):=by
 subst hP;subst hw;intro h0 s σ H xs us Q I r h;obtain⟨a,zs,rfl,ha,q⟩:=h;obtain⟨u,rfl,rx⟩:=vals1 r;cases rx;have hh:X.A.handled=none:=I.ok.hd hc;have hS:E2 X.prog X.w s.heap a zs:=(I.hok a _ ha).1;have hz:zs.length<=1000000:=by
  obtain⟨o,es,ep,t,_,_,_,_,_,_,hb,_⟩:=hS;have:rj=4096:=rfl
  lia
 refine sorted_strs I hz (fun Q' hQ=>gI (A:=X.A.in1) hh hS fun vs h' d tv pm kp sz=>hQ vs (vs.map L2.tx) h' s.toks d (NF (by simp) fun i x u h1 h2=>?_) pm kp (F5 sz)) q;rw[Ba,Az,h2] at h1;cases Af h1;obtain⟨z,t,rfl⟩:=tv u (Br h2);exact⟨t,rfl⟩
def lZ(K:uT):List V->Hp->VK->Prop:=fun xs H Q=>∃(l:Ya)(ps:List (Ya×List Key))(sh:List Bool),xs=[.ref l]/\AK K H l (ps.map fun p=>V.ref p.1)/\sh≠[]/\(∀p∈ps,H p.1=some (.tup (p.2.map kV))/\p.2.map kd=sh)/\ps.length<=1000000/\
 ∀(D:Ya)(qs:List (Ya×List Key)),H D=none->qs.Perm ps->qs.Pairwise (fun a b=>Dc b.2 a.2=false)->Q (.ref D) (upd H D (.lst (qs.map fun p=>V.ref p.1)))
def Rn:DO X (.builtin "sorted") (lZ X.K):=by
 intro h4 s σ H xs us Q I r h;obtain⟨l,ps,sh,rfl,hq,h8,hp,hz,q⟩:=h;obtain⟨u,rfl,rx⟩:=vals1 r;cases rx;obtain⟨h9,rv,pl,_⟩:=I.list hq;have ei:=WJ rv;subst ei;have hl:(ps.map fun p=>Value.ref p.1).length=ps.length:=AL ..;have gi:∀k,k<ps.length->(ps.map fun p=>Value.ref p.1).getD k Value.none=Value.ref (ps.getD k (0,[])).1:=fun k hk=>by rw[Cu,Az,Ar hk,Cu,Ar hk];rfl
 have mi:∀k,k<ps.length->ps.getD k (0,[])∈ps:=fun k hk=>by rw[Cu,Ar hk];exact F1 hk
 refine Vo (collect_list (A:=X.A.in1) pl.isList ⟨by lia,Kv ps,fun i j hi hj e=>?_,fun h2 h' kp=>?_,fun p h2 e pp h6 h7 hD=>?_⟩ (by rw[A9];lia))
 ·rw[hl] at hi hj;rw[gi i hi,gi j hj] at e;have e1:=(hp _ (mi i hi)).1;rw[Value.ref.inj e,(hp _ (mi j hj)).1] at e1;have e2:=X1 (HO.tup.inj (Af e1));unfold Kv Fn;rw[e2]
 ·refine iB (sh:=sh) (fun x hx=>?_) (fun x hx=>(hp x hx).2) h8 (by lia);obtain⟨_,us,ru,o,h1,h2,n,h3⟩:=(show BP X.prog X.w H s.heap x.1 (.tup (x.2.map kV)) from I.hok x.1 _ (hp x hx).1);refine⟨us,ru,o,kp _ _ ?_,h2,n,h3⟩;show((s.heap.push (rP "list" #[] 0)).update s.heap.objs.size _).get? x.1=some o;rw[MT _ _ _ _ (BN (A7 h1))];exact BB _ h1
 ·rw[hl] at pp h6;have h5:∀i∈p,i<ps.length:=fun i hi=>LJ.mp (pp.mem_iff.mp hi);have h0:p.length=ps.length:=by rw[pp.length_eq,RC]
  have eo:GJ (ps.map fun p=>Value.ref p.1) p=(p.map fun i=>ps.getD i (0,[])).map fun p=>Value.ref p.1:=by unfold GJ;rw[Ba];exact Ek fun i hi=>gi i (h5 i hi)
  rw[eo] at hD;have z:((s.heap.push (rP "list" #[] 0)).update s.heap.objs.size (Obj.mapSeq (·++(ps.map fun p=>Value.ref p.1).toArray))).objs.size=s.heap.objs.size+1:=by rw[RK,uH]
  have I1:=I.laid (t':=s.toks) (h':=h2) (a:=s.heap.objs.size+1) (o:=.lst ((p.map fun i=>ps.getD i (0,[])).map fun p=>V.ref p.1)) (fun b ob q=>h7 b ob (by show((s.heap.push (rP "list" #[] 0)).update s.heap.objs.size _).get? b=some ob;rw[MT _ _ _ _ (BN (A7 q))];exact BB _ q)) (E9 _)
   ⟨by rw[AL,AL,h0,A9];lia,_,e,Vv _,by rw[<-z];exact hD⟩;show EP X h4 σ Q _ _;dsimp only;rw[z];refine⟨.ref (s.heap.objs.size+1),_,I1,rfl,q _ _ (I.hok.fresh (E9 _)) ?_ ?_⟩
  ·have:=pp.map fun i=>ps.getD i (0,[]);rw[Z8] at this;exact this
  ·rw[RB,OF];intro i j hi hj e0;have h1:=h6 i j (by lia) (by lia);rw[Cu,Ar hi,Cu,Ar hj] at h1;have e3:=PH lexOrd (ps.map (·.2)) (a:=Fn ps p[j]) (b:=Fn ps p[i]) (WW (h5 _ (F1 hj)));have e5:Dc (Fn ps p[j]) (Fn ps p[i])=decide (Kv ps p[j]<Kv ps p[i]):=e3;show Dc (Fn ps p[j]) (Fn ps p[i])=false;rw[e5];exact BK (by simpa using h1)
end
abbrev N2:qu:=WM
abbrev bV:qu:=Vm
abbrev bH:qu:=Vz
noncomputable def FT(c:Nat):Bool:=(!decide (([c]:List Nat)<("a" :Str).cps.toList))&&(!decide (("z" :Str).cps.toList<[c]))
def isNm(w:Str):Bool:=(!decide (w=""))&&w.cps.toList.all FT
noncomputable def ML(w:Str):Str:=Txt.slice w (some 1) (some (-1))
def IV(w:Str):Bool:=Txt.startswith w "[" &&(Txt.endswith w "]" &&isNm (ML w))
def EN(w:Str):Str×Str:=if IV w=true then("to",ML w) else("word",w)
noncomputable def Cc(t:Str):List Str:=(Txt.split t " ").filter fun p=> !decide (p="")
def Ul(w:Str):Dt:=.tup [.str (EN w).1,.str (EN w).2]
def QK:Sp:=fun vs H Q _=>∃w:Str,vs=[.str w]/\w.length<=100000/\∀H',AO H H'->Q (.bl (isNm w)) H'
def ae:Sp:=fun vs H Q _=>∃w:Str,vs=[.str w]/\w.length<=100000/\∀p H',AO H H'->H p=none->H' p=some (.tup [.str (EN w).1,.str (EN w).2])->Q (.ref p) H'
def aq:Sp:=fun vs H Q _=>∃t:Str,vs=[.str t]/\t.length<=10000/\∀D H',AO H H'->Rep H' (.lst ((Cc t).map Ul)) (.ref D)->Q (.ref D) H'
def pd:A0 ["word"] ["word"] (Ao N2):=by left
def UC(F:Ai K "is_name" "is_name" N2 f fd)(hall:mg "all" =none):AW P w K mg base Ag 1 f fd ["word"] QK:=by
 refine F.ok pd ?_ ?_
 ·rintro _ _ _ _ ⟨_,rfl,_⟩;rfl
 ·rintro _ A _ s H _ Q E hr ⟨x,rfl,hx,k⟩;refine⟨_,AR (Al (Pr (Hj Er (pv 0) AZ (Ap _))
   (Pk (BV (jD rfl) rfl hall boot_all (AE (EF (ts:=["sign"]) (cap:=[]) (ix:=[]) (cl:=[]) (KJ rfl rfl (by left) (by left)) (ZU (pv 0))
    (fun _ _ _ _ _=>BY (i:=0) N4 rfl (Aa rfl) (CP rfl)) (fun _ _ _ _ _=>GC) (fun _ _ _ _ _=>iM WV WV AZ (pv 0) AZ (by with_unfolding_all rfl))) AI))))),?_⟩;refine⟨_,rfl,rfl,_,rfl,?_⟩;by_cases e:x=""
  ·refine D7 (by rw[e]) ?_;have:isNm x=false:=by unfold isNm;rw[BW e];rfl
   have q:=k H (AO.refl H);rw[this] at q;exact q
  ·refine Fp (fun z=>e (V.str.inj z)) ?_;have en:isNm x=x.cps.toList.all FT:=by unfold isNm;rw[BK e];rfl
   have el:x.cps.toList.length<=100000:=by simpa[Str.length] using hx
   refine⟨_,rfl,x,rfl,fun D hD=>Wv (fun i H'=>i<=x.cps.toList.length/\H'=upd H D (.lst ((x.cps.toList.take i).map fun c=>.bl (FT c)))) ⟨CN _,rfl⟩ ?_ ?_⟩
   ·rintro i c H' hc ⟨hi,rfl⟩;have h2:i<x.cps.toList.length:=(BX.mp hc).1;refine⟨E1,_,rfl,_,_,rfl,rfl,_,rfl,?_⟩;have h0:∀b:Bool,b=FT c->∃ys,(upd H D (.lst ((x.cps.toList.take i).map fun c=>.bl (FT c)))) D=some (.lst ys)/\ys.length<sizeLine/\
     i+1<=x.cps.toList.length/\upd (upd H D (.lst ((x.cps.toList.take i).map fun c=>.bl (FT c)))) D (.lst (ys++[V.bl b]))=upd H D (.lst ((x.cps.toList.take (i+1)).map fun c=>.bl (FT c))):=by
     rintro b rfl;refine⟨_,AM,?_,h2,?_⟩
     ·rw[AL,Bm,A9]
      lia
     ·rw[KY,Di,hc,BG];rfl
    by_cases h1:([c]:List Nat)<("a" :Str).cps.toList
    ·refine D7 h1 ?_;exact h0 false (by unfold FT;rw[BW h1];rfl)
    ·refine Fp h1 ?_;refine⟨_,_,rfl,rfl,?_⟩;exact h0 _ (by unfold FT;rw[BK h1];rfl)
   ·rintro H' ⟨_,rfl⟩;refine⟨D,x.cps.toList.map FT,rfl,AK.of ?_,?_⟩
    ·rw[AM,CL,Ba];rfl
    ·have q:=k _ (AY (o:=.lst ((x.cps.toList.take x.cps.toList.length).map fun c=>.bl (FT c))) hD);rw[en] at q;have ea:(x.cps.toList.map FT).all id=x.cps.toList.all FT:=by rw[List.all_map];rfl
     rw[ea];exact q
def ao:A0 ["word","inner"] ["word"] (Ao bV):=by left
variable{fdI:rA}
def oP(F:Ai K "read_word" "read_word" bV f fd)(FI:Ai K "is_name" "is_name" N2 fI fdI)(bI:Binds K fdI ["word"] [])(mI:mg "is_name" =some (.ref fI))(hall:mg "all" =none):
 AW P w K mg base Ag 2 f fd ["word"] ae:=by
 have GI:AW P w K mg base Ag 1 fI fdI ["word"] QK:=UC FI hall;refine F.ok ao ?_ ?_
 ·rintro _ _ _ _ ⟨_,rfl,_⟩;rfl
 ·rintro _ A _ s H _ Q E hr ⟨x,rfl,hx,k⟩;have h1:x.length<=sizeLine:=by rw[A9];lia
  have h2:(ML x).length<=100000:=BJ (Om x _ _) hx;refine⟨_,AS (Ax (i:=1) ao.nd rfl (Aa rfl) (Ff Kc (pv 0) (DV Ac) (DV (EI EH Ac))))
   (AS (A1 (PW.pt (FH (D5 (Iy MO PySem.F.slot_str_startswith PySem.F.type_str_startswith fX (pv 0) (AE AZ AI)))
    (FH (D5 (Iy MO PySem.F.slot_str_endswith PySem.F.type_str_endswith j5 (pv 0) (AE AZ AI)))
    (Gm (D5 (Cp GI hr rfl mI FI.kp bI .nil A3 (AE (pv 1) AI)))))))
    (AR (Al (CA (AE AZ (AE (pv 1) AI))))) BD)
   (AR (Al (CA (AE AZ (AE (pv 0) AI)))))),?_⟩;refine⟨_,rfl,_,rfl,_,rfl,_,rfl,x,rfl,h1,?_⟩;have h0:IV x=false->∀H1,AO H H1->∀p,H1 p=none->Q (.ref p) (upd H1 p (.tup [.str "word",.str x])):=fun e H1 s1 p hp=>by
   have er:EN x=(("word" :Str),x):=by unfold EN;rw[e];rfl
   refine k p _ (s1.upd (s1.free hp)) (s1.free hp) ?_;rw[AM,er]
  refine⟨_,rfl,rfl,_,_,rfl,rfl,_,rfl,?_⟩
  cases e1:Txt.startswith x "[" with
  |false=>refine BF (BF ⟨_,rfl,by exact zw,h0 (by unfold IV;rw[e1];rfl) H (AO.refl H)⟩)
  |true=>
   refine Bi ⟨_,rfl,rfl,_,_,rfl,rfl,_,rfl,?_⟩
   cases e2:Txt.endswith x "]" with
   |false=>refine BF (BF ⟨_,rfl,by exact zw,h0 (by unfold IV;rw[e1,e2];rfl) H (AO.refl H)⟩)
   |true=>
    refine Bi ⟨_,rfl,ML x,rfl,h2,fun H1 s1=>⟨_,rfl,?_⟩⟩
    cases e3:isNm (ML x) with
    |false=>refine BF ⟨_,rfl,by exact zw,h0 (by unfold IV;rw[e1,e2,e3];rfl) H1 s1⟩
    |true=>
     refine Bi ⟨_,rfl,by exact zw,fun p hp=>?_⟩;have er:EN x=(("to" :Str),ML x):=by unfold EN IV;rw[e1,e2,e3];rfl
     refine k p _ (s1.upd (s1.free hp)) (s1.free hp) ?_;rw[AM,er];rfl
def Vf(t p:Str)(h:p∈Txt.split t " "):p.length<=t.length:=by
 have hw:=Mo t " " (by decide);have h2:p.length<=((Txt.split t " ").map (·.length)).sum:=by
  generalize Txt.split t " " =L at h
  induction L with
  |nil=>cases h
  |cons a r ih=>
   rw[Av,CM];rcases Bn.mp h with e|e
   ·subst e;lia
   ·have:=ih e;lia
 have h3:1<=(Txt.split t " ").length:=VL h
 lia
def qC:A0 ["text"] ["text"] (Ao bH):=by left
def oO(F:Ai K "split_up" "split_up" bH f fd)(HR:Hv P w K mg base "read_word" 2 ["word"] ae):
 AW P w K mg base Ag 3 f fd ["text"] aq:=by
 refine F.ok qC ?_ ?_
 ·rintro _ _ _ _ ⟨_,rfl,_⟩;rfl
 ·rintro _ A _ s H _ Q E hr ⟨x,rfl,hx,k⟩;refine⟨_,AR (Al (EF (ts:=["piece"]) (cap:=[]) (ix:=[]) (cl:=[]) (KJ rfl rfl (by left) (by left))
   (FF (Iy MO uc ud XN (pv 0) (AE AZ AI)))
   (fun _ _ _ _ _=>BY (i:=0) N4 rfl (Aa rfl) (CP rfl)) (fun _ _ _ _ _=>KR (Aw Er (pv 0) AZ (Ap _)))
   (fun _ _ _ _ _=>Bz HR hr rfl A3 (AE (pv 0) AI)))),?_⟩;have h8:(Txt.split x " ").length<=10001:=by
   have:=Mo x " " (by decide)
   lia
  refine⟨_,rfl,rfl,x,_,rfl,rfl,by left,by rw[A9];lia,fun D0 h3=>?_⟩;refine⟨D0,rfl,⟨_,AK.of AM⟩,fun D hD=>?_⟩;have h1:D0≠D:=A2 AM hD;have h2:H D=none:=(AY h3).free hD;refine FA (xs:=(Txt.split x " ").map V.str) (fun i H'=>AO H H'/\H' D0=some (.lst ((Txt.split x " ").map V.str))/\∃ys,H' D=some (.lst ys)/\ys.length<=i/\
   Ab (Ex H' D) ((((Txt.split x " ").take i).filter fun p:Str=> !decide (p="")).map Ul) ys) ?_ ?_ ?_ ?_
  ·refine⟨((AO.refl H).upd h3).upd h2,?_,[],AM,Ad _,Ab.nil⟩;rw[AQ h1,AM]
  ·rintro i H' _ ⟨_,h0,_⟩;exact AK.of h0
  ·rintro i v H' hv ⟨sm,h0,ys,hy,h9,rp⟩;rw[Az] at hv
   cases ep:(Txt.split x " ")[i]?with
   |none=>rw[ep] at hv;cases hv
   |some pc=>
    rw[ep] at hv;obtain rfl:V.str pc=v:=Af hv;have hi:i<(Txt.split x " ").length:=(BX.mp ep).1;have h5:pc.length<=100000:=by
     have:=Vf x pc (Br ep)
     lia
    refine⟨E1,⟨_,rfl,rfl,_,rfl,?_⟩⟩;by_cases e:pc=""
    ·refine D7 (by rw[e]) ⟨sm,h0,ys,hy,by lia,?_⟩;rw[Di,ep,MW];have:(Option.toList (some pc)).filter (fun p:Str=> !decide (p=""))=[]:=by rw[e];rfl
     rw[this,CF];exact rp
    ·refine Fp (fun z=>e (V.str.inj z)) ⟨_,rfl,pc,rfl,h5,fun p H2 s2 hp h7=>?_⟩;have h6:p≠D:=(A2 hy hp).symm;have h4:H2 D=some (.lst ys):=s2 _ _ hy;refine⟨ys,h4,by rw[A9];lia,(sm.trans s2).upd h2,by rw[AQ h1];exact s2 _ _ h0,ys++[.ref p],AM,by rw[Au,Cf];lia,?_⟩;rw[Di,ep,MW];have:(Option.toList (some pc)).filter (fun p:Str=> !decide (p=""))=[pc]:=by show List.filter (fun p:Str=> !decide (p="")) [pc]=[pc];rw[Ej (by simpa using e)];rfl
     rw[this,BG,Ex.upd];refine(rp.same (Ex.mono s2)).snoc ?_;refine Rep.Jo (Ex.at h7 h6) ?_;exact(Ab.snoc (Ab.snoc Ab.nil (Rep.str _)) (Rep.str _))
  ·rintro H' ⟨sm,_,ys,hy,_,rp⟩;rw[AL,CL] at rp;exact k D H' sm (Rep.FY hy (rp.same Ex.sub))
structure I0(K:uT)(mg:Str->Option AA)(cR fR:Ya):Prop where
 mR:mg "Refusal" =some (.ref cR)
 rd:readsIn K cR (.type "type")=true
 fi:findCls K (.ref cR) (.type "type") "__init__" =some (.val (.ref fR))
 sp:tY K (.ref cR) "__getattribute__" =some (some (.builtin "type.__getattribute__"))
 kp:rZ K (.ref fR)=true
 cat:UJ K cR
def Iw(K:uT):Sp:=fun vs H Q _=>∃e C ws h0,vs=[.ref e,.str h0]/\H e=some (xO e C none ws)/\Dl K C "answer" /\∀D,H D=none->D≠e->Q .BA (upd (upd H D (.xd [("answer",.str h0)])) e (xO e C (some D) ws))
def oQ:A0 ["self","answer"] ["self","answer"] (Ao J8):=by left
def mf(F:Ai K "__init__" "Refusal.__init__" J8 f fd):AW P w K mg base Ag 1 f fd ["self","answer"] (Iw K):=by
 refine F.ok oQ ?_ ?_
 ·rintro _ _ _ _ ⟨_,_,_,_,rfl,_⟩;rfl
 ·rintro _ A _ s H _ Q E hr ⟨e,C,ws,h0,rfl,he,xa,q⟩;refine⟨_,(AR (kN (pv 0) (pv 1) rfl)),?_⟩;exact⟨_,rfl,_,rfl,e,C,ws,rfl,he,xa,fun d hd ne=>q d hd ne⟩
variable{fR cR:Ya}{fdR:rA}
def Lm{st:qu}{p1 p2 p3 p4 p5 p6:Pos}(F:Ai K "__init__" qual st f fd)(S:A0 ["self"] ["self"] (Ao st))
 (hb:F6 st=[.Expr (.Call (.Attribute (.Name "Refusal" p1) "__init__" p2) [.Name "self" p3,.Constant (.str msg) k p4] [] p5) p6])(hg:(Ao st).names.lookup ("Refusal" :Str)=some .globalImplicit)(hs:(Ao st).names.lookup ("self" :Str)=some .local)
 (T:I0 K mg cR fR)(G:AW P w K mg base Ag 1 fR fdR ["self","answer"] (Iw K))(bR:Binds K fdR ["self","answer"] [])(xa:Dl K C "answer")
 (ht:∀env:Env,∃pl:Sem Bool,rC (.Call (.Attribute (.Name "Refusal" p1) "__init__" p2) [.Name "self" p3,.Constant (.str msg) k p4] [] p5) env=(do
  let ov<-rC (.Name "Refusal" p1) env
  uD p2.atName
  let(f,first)<-sk [ov] (tM ov "__init__" pl)
  callWith p5 f first (rN p5 (hX [.Name "self" p3,.Constant (.str msg) k p4] env)) (sY p5 (rW [] env)))):AW P w K mg base Ag 2 f fd ["self"] (GG C "answer" msg):=by
 refine F.ok S (fun vs H Q E h=>?_) (fun h2 A h0 s H vs Q E hr h=>?_)
 ·obtain⟨e,ws,rfl,_⟩:=h;rfl
 ·obtain⟨e,ws,rfl,he,q⟩:=h;rw[hb];obtain⟨pl,h1⟩:=ht (Jl Ag P w K mg base ["self"] qual (Ao st) f h2 A h0 s H E).env;refine⟨_,(AR (Bc (i5 (pl:=pl) hg T.mR T.rd T.fi T.sp T.kp G hr bR .nil A3 (AE (pv 0 (hv:=Aa hs)) (AE AZ AI)) (ht:=h1)))),?_⟩;exact⟨_,rfl,e,C,ws,msg,rfl,he,xa,fun D hD ne=>q D hD ne⟩
structure Rz(P:qy)(w:rH)(K:uT)(mg:Str->Option AA)(base:rE)(cR:Ya)(x msg:Str):Prop where
 ex:∃C fI fd bm,mg x=some (.ref C)/\U2 K C fI bm/\AW P w K mg base Ag 2 fI fd ["self"] (GG C "answer" msg)/\Binds K fd ["self"] []/\UU K C cR/\Dl K C "answer"
def Xw(K:uT)(cR:Ya)(E:XK)(H:Hp)(msg:Str):Prop:=∀C D H',UU K C cR->Dl K C "answer" ->AO H H'->H' D=some (.xd [("answer",.str msg)])->E (.ref C) (some D) H'
def Xw.mono{E:XK}(h:Xw K cR E H msg)(s:AO H H1):Xw K cR E H1 msg:=fun C D H' a b c d=>h C D H' a b (s.trans c) d
def Kj{E:XK}{np:Pos}(R:Rz P w K mg base cR x msg)
 (hr:Bj (k+3) (HL P w K mg base N qual scope f cd A outer s H E).A)(hg:Gl (HL P w K mg base N qual scope f cd A outer s H E) x)(hdb:(x==("__debug__" :Str))=false:=by decide):
 PS (HL P w K mg base N qual scope f cd A outer s H E) (.Raise (some (.Call (.Name x np) [] [] cpos)) none pos) (fun _ _ H=>Xw K cR E H msg):=by
 obtain⟨C,fI,fd,bm,hm,M,F,hb,xs,xa⟩:=R.ex;have h1:Bj (2+1) (HL P w K mg base N qual scope f cd A outer s H E).A:=hr.mono (by lia);intro h0 s1 σ H1 D I h;refine iE M F h1 hg hm hb hdb h0 s1 σ H1 D I fun e D' ws he hD ne=>h C D' _ xs xa ?_ ?_
 ·exact AO.trans (AY hD) (AY (by rw[AQ (DK ne)];exact he))
 ·rw[AQ ne,AM]
def gy:A0 ["self"] ["self"] (Ao RY):=by left
def gL(F:Ai K "__init__" "NoPage.__init__" RY f fd)(T:I0 K mg cR fR)(G:AW P w K mg base Ag 1 fR fdR ["self","answer"] (Iw K))(bR:Binds K fdR ["self","answer"] [])(xa:Dl K C "answer"):
 AW P w K mg base Ag 2 f fd ["self"] (GG C "answer" "no page"):=Lm F gy rfl rfl rfl T G bR xa (fun _=>⟨_,rfl⟩)
def iI:A0 ["self"] ["self"] (Ao RZ):=by left
def eN(F:Ai K "__init__" "NoName.__init__" RZ f fd)(T:I0 K mg cR fR)(G:AW P w K mg base Ag 1 fR fdR ["self","answer"] (Iw K))(bR:Binds K fdR ["self","answer"] [])(xa:Dl K C "answer"):
 AW P w K mg base Ag 2 f fd ["self"] (GG C "answer" "no name"):=Lm F iI rfl rfl rfl T G bR xa (fun _=>⟨_,rfl⟩)
def dP:A0 ["self"] ["self"] (Ao RL):=by left
def cz(F:Ai K "__init__" "SamePage.__init__" RL f fd)(T:I0 K mg cR fR)(G:AW P w K mg base Ag 1 fR fdR ["self","answer"] (Iw K))(bR:Binds K fdR ["self","answer"] [])(xa:Dl K C "answer"):
 AW P w K mg base Ag 2 f fd ["self"] (GG C "answer" "same page"):=Lm F dP rfl rfl rfl T G bR xa (fun _=>⟨_,rfl⟩)
def jh:A0 ["self"] ["self"] (Ao Rg):=by left
def iG(F:Ai K "__init__" "Taken.__init__" Rg f fd)(T:I0 K mg cR fR)(G:AW P w K mg base Ag 1 fR fdR ["self","answer"] (Iw K))(bR:Binds K fdR ["self","answer"] [])(xa:Dl K C "answer"):
 AW P w K mg base Ag 2 f fd ["self"] (GG C "answer" "taken"):=Lm F jh rfl rfl rfl T G bR xa (fun _=>⟨_,rfl⟩)
def fE:A0 ["self"] ["self"] (Ao RR):=by left
def dM(F:Ai K "__init__" "NoPlace.__init__" RR f fd)(T:I0 K mg cR fR)(G:AW P w K mg base Ag 1 fR fdR ["self","answer"] (Iw K))(bR:Binds K fdR ["self","answer"] [])(xa:Dl K C "answer"):
 AW P w K mg base Ag 2 f fd ["self"] (GG C "answer" "no place"):=Lm F fE rfl rfl rfl T G bR xa (fun _=>⟨_,rfl⟩)
def fq:A0 ["self"] ["self"] (Ao RT):=by left
def du(F:Ai K "__init__" "NoWords.__init__" RT f fd)(T:I0 K mg cR fR)(G:AW P w K mg base Ag 1 fR fdR ["self","answer"] (Iw K))(bR:Binds K fdR ["self","answer"] [])(xa:Dl K C "answer"):
 AW P w K mg base Ag 2 f fd ["self"] (GG C "answer" "no words"):=Lm F fq rfl rfl rfl T G bR xa (fun _=>⟨_,rfl⟩)
def DQ(ws:List PR):Dt:=.lst (ws.map Dm)
noncomputable def C1(ws:List PR):List Str:=(ws.filter fun p=>decide (p.1=("to" :Str))).map (·.2)
def oG:((["kind","inner"]:List Str)++([]:List Str)).Nodup:=by left
def Zw:Sp:=fun vs H Q _=>∃v ws,vs=[v]/\Rep H (DQ ws) v/\ws.length<=100000/\∀u H',AO H H'->Rep H' (.lst ((C1 ws).map Dt.str)) u->Q u H'
noncomputable def C6(ws:List PR)(a b:Str):List PR:=ws.map fun p=>if p=(("to" :Str),a) then(("to" :Str),b) else p
def ak:Sp:=fun vs H Q _=>∃v ws a b,vs=[v,.str a,.str b]/\Rep H (DQ ws) v/\ws.length<=100000/\∀u H',AO H H'->Rep H' (DQ (C6 ws a b)) u->Q u H'
def nh:A0 ["words"] ["words"] (Ao Qy):=by left
def lC(F:Ai K "names_pointed_to" "names_pointed_to" Qy f fd):AW P w K mg base Ag 1 f fd ["words"] Zw:=by
 refine F.ok nh ?_ ?_
 ·rintro _ _ _ _ ⟨_,_,rfl,_⟩;rfl
 ·rintro _ A _ s H _ Q E hr ⟨v,ws,rfl,rp,hz,q⟩;refine⟨_,(AR (Al (EF (ts:=["kind","inner"]) (cap:=[]) (ix:=[]) (KJ rfl rfl (by left) (by left)) (FF (pv 0))
   (fun _ _ _ _ _=>Sk (K:=K) (i:=0) (j:=1) rfl rfl oG rfl (Aa rfl) (CP rfl) rfl (Aa rfl) (CP rfl))
   (fun _ _ _ _ _=>KR (Aw BQ (pv 0) AZ (Ap _))) (fun _ _ _ _ _=>pv 1)))),?_⟩;obtain⟨l,xs,rfl,hl,rr⟩:=EG rp;refine⟨_,rfl,l,rfl,⟨_,AK.of hl⟩,fun D hD=>FA (xs:=xs) (fun i H'=>CI H D ((((ws.take i).filter fun p=>decide (p.1=("to" :Str))).map (·.2)).map Dt.str) H') ?_ (fun i H' _ c=>AK.of (c.same _ _ hl)) (fun i x H' ex c=>?_) fun H' c=>?_⟩
  ·exact CI.start hD
  ·obtain⟨p,ep,rx⟩:=F9 rr ex;obtain⟨a,rfl,ha⟩:=Lp rx;refine⟨a,_,rfl,AU.of (c.same _ _ ha),rfl,_,_,rfl,_,_,rfl,rfl,UY,_,rfl,rfl,_,rfl,?_⟩;rw[take_succ_filter ep];by_cases z:p.1="to"
   ·rw[BW (show V.str p.1=V.str "to" by rw[z])];refine Bi ⟨_,rfl,?_⟩;rw[AH (BW z),BG,BG];refine c.push (.str _) ?_;have h1:=EA (fun p:PR=>decide (p.1=("to" :Str))) (ws.take i);have h2:=EV i ws;rw[AL,AL]
    lia
   ·rw[BK (show V.str p.1≠V.str "to" from fun y=>z (V.str.inj y))];refine BF ?_;rw[AG (by simpa using z),CF];exact c
  ·have e:xs.length=ws.length:=by have:=rr.1;rw[AL] at this;lia
   rw[e,CL] at c;exact q _ _ c.same c.done
def qQ:A0 ["words","name","fresh"] ["words","name","fresh"] (Ao Mq):=by left
def nN(F:Ai K "point_on" "point_on" Mq f fd):AW P w K mg base Ag 1 f fd ["words","name","fresh"] ak:=by
 refine F.ok qQ ?_ ?_
 ·rintro _ _ _ _ ⟨_,_,_,_,rfl,_⟩;rfl
 ·rintro h5 A _ s H _ Q E hr ⟨v,ws,a,b,rfl,rp,hz,q⟩;have h6:=CZ hr;have hu:(A.deeper (sX "point_on" (Ao Mq) s.heap.objs.size f h5)).units<rR:=by lia
  refine⟨_,(AR (Al (EF (ts:=["word"]) (cap:=["name","fresh"]) (ix:=[1,2]) (Xi rfl rfl (by left) (by left) rfl (by left) rfl rfl rfl rfl rfl rfl rfl rfl) (FF (pv 0))
   (fun _ _ _ _ _=>BY (i:=0) (bw (by left) (by left) (by left)) rfl (Aa rfl) (CP rfl)) (fun _ _ _ _ _=>GC)
   (fun _ _ _ _ _=>hU (Aw (W8 hu) (pv 0) (CA (AE AZ (AE (pv 1) AI))) (Ap _)) (CA (AE AZ (AE (pv 2) AI))) (pv 0))))),?_⟩;obtain⟨l,xs,rfl,hl,rr⟩:=EG rp;refine⟨_,rfl,l,rfl,⟨_,AK.of hl⟩,fun D hD=>FA (xs:=xs) (fun i H'=>CI H D ((C6 (ws.take i) a b).map Dm) H') ?_ (fun i H' _ c=>AK.of (c.same _ _ hl)) (fun i x H' ex c=>?_) fun H' c=>?_⟩
  ·exact CI.start hD
  ·obtain⟨p,ep,rx⟩:=F9 rr ex;obtain⟨ad,rfl,ha⟩:=Lp rx;have h1:=c.same _ _ ha;refine⟨E1,_,rfl,_,rfl,(by exact zw),fun t ht=>?_⟩;have c2:=c.ext (AY (o:=.tup [.str "to",.str a]) ht);refine⟨ad,t,p,(("to" :Str),a),rfl,rfl,by rw[AQ (A2 h1 ht)];exact h1,AM,_,rfl,?_⟩;have h0:((C6 (ws.take i) a b).map Dm).length<=200000:=by
    have h2:=EV i ws;unfold C6;rw[AL,AL]
    lia
   have es:C6 (ws.take (i+1)) a b=C6 (ws.take i) a b++[if p=(("to" :Str),a) then(("to" :Str),b) else p]:=JK ep;rw[es,BG];by_cases z:p=(("to" :Str),a)
   ·rw[BW z,AH z];refine Bi ⟨_,rfl,(by exact zw),fun t2 h3=>?_⟩;have c3:=c2.ext (AY (o:=.tup [.str "to",.str b]) h3);obtain⟨ys,h4,_⟩:=c2.lst;refine c3.push (Tu (Ex.at AM ?_)) h0;intro zz;rw[zz,h4] at h3;cases h3
   ·rw[BK z,AG z];refine BF ⟨_,rfl,?_⟩;refine c2.push (Tu (Ex.at ?_ ?_)) h0
    ·rw[AQ (A2 h1 ht)];exact h1
    ·intro zz;rw[zz,hD] at ha;cases ha
  ·have e:xs.length=ws.length:=by have:=rr.1;rw[AL] at this;lia
   rw[e,CL] at c;exact q _ _ c.same c.done
structure Gw(mg:Str->Option AA):Prop where
 sum:mg "sum" =none
 so:mg "sorted" =none
 set:mg "set" =none
 len:mg "len" =none
 en:mg "enumerate" =none
 lst:mg "list" =none
 all:mg "all" =none
 mn:mg "min" =none
abbrev Pg:=Str×List PR
def Aq(AD:List (Str×V)):List (Key×V):=Hw Sum.inr id AD
structure Df(H:Hp)(AD:List (Str×V))(AB:List Pg):Prop where
 len:AD.length=AB.length
 row:∀(i:Nat) kv p,AD[i]? =some kv->AB[i]? =some p->kv.1=p.1/\Rep H (DQ p.2) kv.2
def Df.same{H H':Hp}{AD:List (Str×V)}{AB:List Pg}(g:Df H AD AB)(s:AO H H'):Df H' AD AB:=⟨g.len,fun i kv p a b=>⟨(g.row i kv p a b).1,(g.row i kv p a b).2.same s⟩⟩
variable{AB:List Pg}{kk:List (Key×V)}
def Df.ex{AD:List (Str×V)}(g:Df H AD AB)(hd:H d=some (.dK kk)):Df (Ex H d) AD AB:=⟨g.len,fun i kv p a b=>⟨(g.row i kv p a b).1,Mp hd (g.row i kv p a b).2⟩⟩
structure Jz(AB:List Pg):Prop where
 Dg:AB.length<=1000
 short:∀p∈AB,p.2.length<=100000
def Lh{o:HO}:AO (Ex H d) (upd H d o):=fun b u e=>by
 unfold Ex at e;by_cases z:b=d
 ·rw[AH z] at e;cases e
 ·rw[AG z] at e;rw[AQ z];exact e
def Wf{o:HO}(hd:H d=some (.dK kk))(s:AO (upd H d o) H2):AO H (upd H2 d (.dK kk)):=fun b u e=>by
 by_cases z:b=d
 ·subst z;rw[hd] at e;cases e;exact AM
 ·rw[AQ z];exact s b u (by rw[AQ z];exact e)
def Pn{AD:List (Str×V)}{k:Key}{x:V}(h:(Aq AD)[i]? =some (k,x)):∃n,AD[i]? =some (n,x)/\k=Sum.inr n:=by
 have h':(AD.map fun p=>((Sum.inr p.1:Key),p.2))[i]? =some (k,x):=h;rw[Az] at h'
 cases e:AD[i]?with
 |none=>rw[e] at h';cases h'
 |some kv=>rw[e] at h';have:=Af h';cases this;exact⟨kv.1,rfl,rfl⟩
noncomputable def Kz(ws:List PR)(a:Str):Int:=((ws.countP fun q=>decide (q=(("to" :Str),a)):Nat):Int)
def cnt(AB:List Pg)(a:Str):Int:=(AB.map fun p=>Kz p.2 a).sum
def Zp:Sp:=fun vs H Q _=>∃d a h1 h0,vs=[.ref d,.str a]/\H d=some (.dK (Aq h1))/\Df H h1 h0/\Jz h0/\∀H',AO H H'->Q (.int (cnt h0 a)) H'
noncomputable def IA(AB:List Pg)(a:Str):List Str:=(AB.filter fun p=>p.2.any fun q=>decide (q=(("to" :Str),a))).map (·.1)
def oE:A0 ["pages","name"] ["pages","name"] (Ao RE):=by left
def R9(r:Ab H (ns.map Dt.int) ys):ys=ns.map V.int:=by
 apply J2;intro i;rw[Az]
 cases e:ys[i]?with
 |none=>have h1:=OG.mp e;have h2:=r.1;rw[AL] at h2;rw[E6 (by lia)];rfl
 |some y=>obtain⟨n,hn,rn⟩:=F9 r e;rw[hn];cases rn;rfl
def lD(F:Ai K "count_pointers" "count_pointers" RE f fd)(O:Gw mg):AW P w K mg base Ag 1 f fd ["pages","name"] Zp:=by
 refine F.ok oE ?_ ?_
 ·rintro _ _ _ _ ⟨_,_,_,_,rfl,_⟩;rfl
 ·rintro _ A _ s H _ Q E hr ⟨d,a,h0,h3,rfl,hd,g,sm,q⟩;have h8:=CZ hr;refine⟨_,(AR (Al (BV (Wi rfl) rfl O.sum uq (AE (Yp (EF (ts:=["words"]) (cap:=["name"]) (ix:=[1]) (Hg rfl rfl (by left) (by left) rfl rfl rfl rfl rfl)
   (jO (NS MN VE ur WA (pv 0))) (fun _ _ _ _ _=>BY (i:=0) (FV (by left)) rfl (Aa rfl) (CP rfl)) (fun _ _ _ _ _=>GC)
   (fun _ _ _ _ _=>mj K rfl Dh PySem.F.slot_list_count PySem.F.type_list_count (ck h8) (pv 0) (AE (CA (AE AZ (AE (pv 1) AI))) AI)))) AI)))),?_⟩;refine⟨d,Aq h0,hd,_,rfl,.inr (.inr (.inl ⟨rfl,.inl ⟨_,hd⟩⟩)),d,_,rfl,rfl,hd,fun p hp=>⟨p,d,Aq h0,rfl,AM,by rw[AQ (A2 hd hp)];exact hd,fun o D hD=>?_⟩⟩;have s1:AO H (upd H p (Hq p d)):=AY hp;have h4:(upd H p (Hq p d)) d=some (.dK (Aq h0)):=s1 _ _ hd;have g1:=(g.same s1).ex h4;generalize upd H p (Hq p d)=H1 at s1 h4 g1 hD;have g2:=g1.same (Lh (o:=.BR o (.dK (Aq h0))));have h5:(upd H1 d (.BR o (.dK (Aq h0)))) d=some (.BR o (.dK (Aq h0))):=AM;refine gQ (fun i H'=>CI (upd H1 d (.BR o (.dK (Aq h0)))) D (((h3.take i).map fun p=>Kz p.2 a).map Dt.int) H') (CI.start hD) (fun i H' c=>c.same _ _ h5) (fun i k x H' ex c=>?_) fun H' c=>?_
  ·obtain⟨n,h6,rfl⟩:=Pn ex;have hi:i<h3.length:=by rw[<-g.len];exact(BX.mp h6).1
   have ep:h3[i]? =some h3[i]:=Ar hi;obtain⟨_,h7⟩:=g2.row i _ _ h6 ep;obtain⟨l,xs,rfl,hl,rr⟩:=EG (h7.same c.same);refine⟨E1,_,rfl,.inl ⟨rfl,_,AK.of hl⟩,_,rfl,(by exact zw),fun t ht=>?_⟩;have st:=AY (o:=.tup [.str "to",.str a]) ht;have c2:=c.ext st;refine⟨t,l,(("to" :Str),a),h3[i].2,xs,rfl,rfl,AM,st _ _ hl,rr.same st,?_⟩;rw[JK (f:=fun p:Pg=>Kz p.2 a) ep,BG];refine c2.push (.int _) ?_;have h1:=EV i h3;have h2:=sm.Dg;rw[AL,AL]
   lia
  ·have e:(Aq h0).length=h3.length:=by show(h0.map _).length=_;rw[AL];exact g.len
   rw[e,CL] at c;obtain⟨ys,hy,ry⟩:=c.lst;have nd:D≠d:=fun z=>by rw[z,AM] at hD;cases hD
   refine⟨o,c.same _ _ h5,D,(h3.map fun p:Pg=>Kz p.2 a),rfl,AK.of ?_,q _ (s1.trans (Wf h4 c.same))⟩;rw[AQ nd,hy,R9 ry]
def lj:((["page","words"]:List Str)++(["name"]:List Str)).Nodup:=by left
def Zz:Sp:=fun vs H Q _=>∃d a h1 h0,vs=[.ref d,.str a]/\H d=some (.dK (Aq h1))/\Df H h1 h0/\Jz h0/\h0.length<64/\∀u H',AO H H'->Rep H' (.lst ((Dv (IA h0 a)).map Dt.str)) u->Q u H'
def LW{ns:List Str}(r:Ab H (ns.map Dt.str) ys):ys=ns.map V.str:=by
 apply J2;intro i;rw[Az]
 cases e:ys[i]?with
 |none=>have h1:=OG.mp e;have h2:=r.1;rw[AL] at h2;rw[E6 (by lia)];rfl
 |some y=>obtain⟨n,hn,rn⟩:=F9 r e;rw[hn];cases rn;rfl
def og:A0 ["pages","name"] ["pages","name"] (Ao RH):=by left
def lB(F:Ai K "pages_pointing" "pages_pointing" RH f fd)(O:Gw mg):AW P w K mg base Ag 1 f fd ["pages","name"] Zz:=by
 refine F.ok og ?_ ?_
 ·rintro _ _ _ _ ⟨_,_,_,_,rfl,_⟩;rfl
 ·rintro _ A _ s H _ Q E hr ⟨d,a,h4,h0,rfl,hd,g,sm,e8,q⟩;have e1:=CZ hr;refine⟨_,(AR (Al (BV Ro rfl O.so JN (AE (Yp (EF (ts:=["page","words"]) (cap:=["name"]) (ix:=[1]) (Hg rfl rfl (by left) (by left) rfl rfl rfl rfl rfl)
   (Xp (NS MN VG uu XU (pv 0))) (fun _ _ _ _ _=>Sk (K:=K) (i:=0) (j:=1) rfl rfl lj rfl (Aa rfl) (CP rfl) rfl (Aa rfl) (CP rfl))
   (fun _ _ _ _ _=>KR (Aw (i3 e1) (CA (AE AZ (AE (pv 2) AI))) (pv 1) rfl)) (fun _ _ _ _ _=>pv 0))) AI)))),?_⟩;refine⟨d,Aq h4,hd,_,rfl,.inr (.inr (.inl ⟨rfl,.inl ⟨_,hd⟩⟩)),d,_,rfl,rfl,hd,fun p hp=>⟨p,d,Aq h4,rfl,AM,by rw[AQ (A2 hd hp)];exact hd,fun o D hD=>?_⟩⟩;have s1:AO H (upd H p (IM p d)):=AY hp;have h5:(upd H p (IM p d)) d=some (.dK (Aq h4)):=s1 _ _ hd;have g1:=(g.same s1).ex h5;generalize upd H p (IM p d)=H1 at s1 h5 g1 hD;have g2:=g1.same (Lh (o:=.BR o (.dK (Aq h4))));have h6:(upd H1 d (.BR o (.dK (Aq h4)))) d=some (.BR o (.dK (Aq h4))):=AM;refine dr (fun i H'=>CI (upd H1 d (.BR o (.dK (Aq h4)))) D ((IA (h0.take i) a).map Dt.str) H') (CI.start hD) (fun i H' c=>c.same _ _ h6) (fun i k x pr H' ex e4 c=>?_) fun H' c=>?_
  ·obtain⟨n,h7,rfl⟩:=Pn ex;have hi:i<h0.length:=by rw[<-g.len];exact(BX.mp h7).1
   have ep:h0[i]? =some h0[i]:=Ar hi;obtain⟨en,h9⟩:=g2.row i _ _ h7 ep;have en:n=h0[i].1:=en;obtain⟨l,xs,rfl,hl,rr⟩:=EG (h9.same c.same);have s2:=AY (o:=.tup [kV (Sum.inr n),.ref l]) e4;have c2:=c.ext s2;have e6:=s2 _ _ hl;have e0:=rr.same s2;refine⟨pr,_,rfl,AU.of AM,rfl,_,_,rfl,_,_,rfl,rfl,UY,_,rfl,(by exact zw),fun t ht=>?_⟩;have st:=AY (o:=.tup [.str "to",.str a]) ht;have c3:=c2.ext st;refine⟨_,rfl,t,l,(("to" :Str),a),h0[i].2,xs,rfl,rfl,AM,st _ _ e6,e0.same st,_,rfl,?_⟩;have es:IA (h0.take (i+1)) a=IA (h0.take i) a++(if(h0[i].2.any fun q=>decide (q=(("to" :Str),a)))=true then[h0[i].1] else[]):=by unfold IA;rw[take_succ_filter ep,BG];congr 1;split<;>rfl
   rw[es,BG];by_cases z:(h0[i].2.any fun q=>decide (q=(("to" :Str),a)))=true
   ·rw[z,AH rfl];refine Bi ⟨_,rfl,?_⟩;have e2:kV (Sum.inr n)=V.str h0[i].1:=by rw[<-en];rfl
    refine c3.push (d:=.str h0[i].1) (y:=kV (Sum.inr n)) (by rw[e2];exact .str _) ?_;have h1:=EV i h0;have h2:=sm.Dg;have h3:=EA (fun p:Pg=>p.2.any fun q=>decide (q=(("to" :Str),a))) (h0.take i);unfold IA;rw[AL,AL]
    lia
   ·have z':(h0[i].2.any fun q=>decide (q=(("to" :Str),a)))=false:=(Bool.not_eq_true _).mp z;rw[z',AG Cd,LR,CF];exact BF c3
  ·have e:(Aq h4).length=h0.length:=by show(h4.map _).length=_;rw[AL];exact g.len
   rw[e,CL] at c;obtain⟨ys,hy,ry⟩:=c.lst;have nd:D≠d:=fun z=>by rw[z,AM] at hD;cases hD
   have s3:=s1.trans (Wf h5 c.same);refine⟨o,c.same _ _ h6,D,IA h0 a,rfl,AK.of (by rw[AQ nd,hy,LW ry]),?_,fun D2 h8 e7 e5 e3=>?_⟩
   ·have h3:=EA (fun p:Pg=>p.2.any fun q=>decide (q=(("to" :Str),a))) h0;unfold IA;rw[AL]
    lia
   ·refine q _ _ (s3.trans (AY e7)) ?_;show Rep _ (.lst ((Iz DB (IA h0 a)).map Dt.str)) _;rw[<-Kb DB e5 e3];exact Rep.FY AM (XE h8)
def lO:((["place","word"]:List Str)++(["plain"]:List Str)).Nodup:=by left
noncomputable def Et(z:Str):Nat->List PR->List Int
 |_,[]=>[]
 |k,p::ws=>(if p=(("word" :Str),z) then[(k:Int)] else[])++Et z (k+1) ws
def WI(z:Str)(p:PR):∀(ws:List PR)(k:Nat),Et z k (ws++[p])=Et z k ws++(if p=(("word" :Str),z) then[((k+ws.length:Nat):Int)] else[])
 |[],k=>by simp[Et]
 |q::ws,k=>by rw[OY,Et,Et,WI z p ws (k+1),Bl,CD];rw[show k+1+ws.length=k+(ws.length+1) by lia]
def Sb(z:Str):∀(ws:List PR)(k:Nat),(Et z k ws).length<=ws.length
 |[],k=>by simp[Et]
 |q::ws,k=>by have:=Sb z ws (k+1);rw[Et,Au,CD];split<;>simp<;>lia
def Zs:Sp:=fun vs H Q _=>∃v ws z,vs=[v,.str z]/\Rep H (DQ ws) v/\ws.length<=100000/\∀u H',AO H H'->Rep H' (.lst ((Et z 0 ws).map Dt.int)) u->Q u H'
noncomputable def Cv(p:PR):Str:=if p.1=("to" :Str) then "[" ++p.2++ "]" else p.2
def Gu(ws:List PR):Str:=QX " " (ws.map Cv)
def bA:Sp:=fun vs H Q _=>∃v p,vs=[v]/\Rep H (Dm p) v/\p.2.length<=4000000/\Q (.str (Cv p)) H
def oa:A0 ["words","plain"] ["words","plain"] (Ao Ou):=by left
def mJ(F:Ai K "places_of" "places_of" Ou f fd)(O:Gw mg):AW P w K mg base Ag 1 f fd ["words","plain"] Zs:=by
 refine F.ok oa ?_ ?_
 ·rintro _ _ _ _ ⟨_,_,_,rfl,_⟩;rfl
 ·rintro h4 A _ s H _ Q E hr ⟨v,ws,z,rfl,rp,hz,q⟩;have h5:=CZ hr;have hu:(A.deeper (sX "places_of" (Ao Ou) s.heap.objs.size f h4)).units<rR:=by lia
  refine⟨_,(AR (Al (EF (ts:=["place","word"]) (cap:=["plain"]) (ix:=[1]) (Hg rfl rfl (by left) (by left) rfl rfl rfl rfl rfl) (YD rfl O.en (AE (pv 0) AI))
   (fun _ _ _ _ _=>Sk (K:=K) (i:=0) (j:=1) rfl rfl lO rfl (Aa rfl) (CP rfl) rfl (Aa rfl) (CP rfl))
   (fun _ _ _ _ _=>KR (Aw (W8 hu) (pv 1) (CA (AE AZ (AE (pv 2) AI))) (Ap _))) (fun _ _ _ _ _=>pv 0)))),?_⟩;obtain⟨l,xs,rfl,hl,rr⟩:=EG rp;refine⟨_,rfl,l,rfl,⟨_,AK.of hl⟩,fun D hD=>fQ (xs:=xs) (fun i H'=>CI H D ((Et z 0 (ws.take i)).map Dt.int) H') (CI.start hD) (fun i H' _ c=>AK.of (c.same _ _ hl)) (fun i x pr H' ex h0 c=>?_) fun H' c=>?_⟩
  ·obtain⟨p,ep,rx⟩:=F9 rr ex;obtain⟨ad,rfl,ha⟩:=Lp rx;have s2:=AY (o:=.tup [.int i,.ref ad]) h0;have c2:=c.ext s2;have h3:=c2.same _ _ ha;refine⟨pr,_,rfl,AU.of AM,rfl,_,_,rfl,_,_,rfl,rfl,UY,_,rfl,_,rfl,(by exact zw),fun t ht=>?_⟩;have st:=AY (o:=.tup [.str "word",.str z]) ht;have c3:=c2.ext st;refine⟨ad,t,p,(("word" :Str),z),rfl,rfl,st _ _ h3,AM,_,rfl,?_⟩;have hi:i<ws.length:=(BX.mp ep).1;have es:Et z 0 (ws.take (i+1))=Et z 0 (ws.take i)++(if p=(("word" :Str),z) then[(i:Int)] else[]):=by rw[Di,ep];show Et z 0 (ws.take i++[p])=_;rw[WI,Bm,LH (by lia),Nat.zero_add]
   rw[es,BG];by_cases y:p=(("word" :Str),z)
   ·rw[BW y,AH y];refine Bi ⟨_,rfl,?_⟩;refine c3.push (.int _) ?_;have h1:=Sb z (ws.take i) 0;have h2:=EV i ws;rw[AL]
    lia
   ·rw[BK y,AG y,LR,CF];exact BF c3
  ·have e:xs.length=ws.length:=by have:=rr.1;rw[AL] at this;lia
   rw[e,CL] at c;exact q _ _ c.same c.done
def aY:A0 ["word","inner"] ["word"] (Ao Oq):=by left
def pE(F:Ai K "tell_word" "tell_word" Oq f fd):AW P w K mg base Ag 1 f fd ["word"] bA:=by
 refine F.ok aY ?_ ?_
 ·rintro _ _ _ _ ⟨_,_,rfl,_⟩;rfl
 ·rintro _ A _ s H _ Q E hr ⟨v,p,rfl,rp,hz,q⟩;refine⟨_,(AS (Ax (i:=1) aY.nd rfl (Aa rfl) (A8 (pv 0))) (AS (A1 (Aw BQ (A8 (pv 0)) AZ (Ap _)) (AR (Al (jM (pv 1) (by left) (by left)))) BD) (AR (Al (pv 1))))),?_⟩;obtain⟨a,rfl,ha⟩:=Lp rp;refine⟨_,rfl,a,_,_,_,rfl,rfl,AU.of ha,B1 (j:=1) rfl,?_⟩;refine⟨_,rfl,a,_,_,_,rfl,rfl,AU.of ha,B1 (j:=0) rfl,rfl,_,rfl,?_⟩;unfold Cv at q;by_cases y:p.1=("to" :Str)
  ·rw[AH y] at q;refine GK (fun _=>⟨_,rfl,p.2,rfl,hz,q⟩) (fun n=>absurd (BW (show V.str p.1=V.str "to" by rw[y])) n)
  ·rw[AG y] at q;refine GK (fun n=>absurd (V.str.inj (HX n)) y) (fun _=>⟨_,rfl,q⟩)
noncomputable def wt(p:PR):Nat:=max 40 p.2.length+3
def wsum(ws:List PR):Nat:=(ws.map wt).sum
def KO:∀ws:List PR,ws.length*43<=wsum ws
 |[]=>by simp[wsum]
 |p::ws=>by
  have h:=KO ws;unfold wsum at h⊢;rw[Av,CM,CD,Nat.succ_mul];have:43<=wt p:=by unfold wt;lia
  lia
def O7(a b:List PR):wsum (a++b)=wsum a+wsum b:=by unfold wsum;rw[BG,List.sum_append]
def Xq:∀{ws:List PR}{p:PR},p∈ws->wt p<=wsum ws
 |q::ws,p,h=>by
  unfold wsum;rw[Av,CM];rcases Bn.mp h with e|e
  ·rw[e];lia
  ·have:=Xq e;unfold wsum at this
   lia
def O1(p:PR):(Cv p).length<=p.2.length+2:=by
 unfold Cv;split
 ·rw[Fc,Fc];have e1:("[" :Str).length=1:=by left
  have e2:("]" :Str).length=1:=by left
  lia
 ·lia
def SO(k:Nat)(hk:k<=1):∀(ws:List PR)(acc:Nat),(ws.map Cv).foldl (·+·.length+k) acc<=acc+wsum ws
 |[],acc=>by simp[wsum]
 |p::ws,acc=>by
  rw[Av,List.foldl_cons];have h1:=SO k hk ws (acc+(Cv p).length+k);have h2:=O1 p;unfold wsum at h1⊢;rw[Av,CM];have:p.2.length+3<=wt p:=by unfold wt;lia
  lia
def XJ(g:Str)(hg:g.length<=1):∀(ws:List PR)(acc:Array Nat),((ws.map Cv).foldl (fun acc p=>acc++g.cps++p.cps) acc).size<=acc.size+wsum ws
 |[],acc=>by simp[wsum]
 |p::ws,acc=>by
  rw[Av,List.foldl_cons];have h1:=XJ g hg ws (acc++g.cps++(Cv p).cps);rw[Array.size_append,Array.size_append] at h1;have h2:=O1 p;have h3:g.cps.size=g.length:=rfl;have h4:(Cv p).cps.size=(Cv p).length:=rfl;unfold wsum at h1⊢;rw[Av,CM];have:p.2.length+3<=wt p:=by unfold wt;lia
  lia
def YE{g:Str}(hg:g.length<=1):∀ws:List PR,(QX g (ws.map Cv)).length<=wsum ws
 |[]=>CN _
 |[p]=>by
  have:=O1 p;have h:p.2.length+3<=wt p:=by unfold wt;lia
  show(Cv p).length<=(List.map wt [p]).sum;rw[Av,CM]
  lia
 |p::q::r=>by
  have h1:=XJ g hg (q::r) (Cv p).cps;have h2:=O1 p;have h:p.2.length+3<=wt p:=by unfold wt;lia
  have h4:(Cv p).cps.size=(Cv p).length:=rfl;show(((q::r).map Cv).foldl (fun h0 p=>h0++g.cps++p.cps) (Cv p).cps).size<=_;unfold wsum at h1⊢;rw[show List.map wt (p::q::r)=wt p::List.map wt (q::r) from rfl,CM]
  lia
def bE:Sp:=fun vs H Q _=>∃v ws,vs=[v]/\Rep H (DQ ws) v/\wsum ws<=4000000/\∀H',AO H H'->Q (.str (Gu ws)) H'
def qD:A0 ["words"] ["words"] (Ao Rk):=by left
def aA{fW:Ya}{fdW:rA}(F:Ai K "tell_text" "tell_text" Rk f fd)(FW:Ai K "tell_word" "tell_word" Oq fW fdW)(bW:Binds K fdW ["word"] [])(mW:mg "tell_word" =some (.ref fW)):AW P w K mg base Ag 2 f fd ["words"] bE:=by
 have GW:AW P w K mg base Ag 1 fW fdW ["word"] bA:=pE FW;refine F.ok qD ?_ ?_
 ·rintro _ _ _ _ ⟨_,_,rfl,_⟩;rfl
 ·rintro _ A _ s H _ Q E hr ⟨v,ws,rfl,rp,tl,q⟩;refine⟨_,(AR (Al (Iy MO uv uw YF AZ (AE (EF (ts:=["word"]) (cap:=[]) (ix:=[]) (KJ rfl rfl (by left) (by left)) (FF (pv 0))
   (fun _ _ _ _ _=>BY (i:=0) N4 rfl (Aa rfl) (CP rfl)) (fun _ _ _ _ _=>GC) (fun _ _ _ _ _=>Cp GW hr rfl mW FW.kp bW .nil A3 (AE (pv 0) AI))) AI)))),?_⟩;obtain⟨l,xs,rfl,hl,rr⟩:=EG rp;refine⟨rfl,_,rfl,l,rfl,⟨_,AK.of hl⟩,fun D hD=>FA (xs:=xs) (fun i H'=>CI H D (((ws.take i).map Cv).map Dt.str) H') (CI.start hD) (fun i H' _ c=>AK.of (c.same _ _ hl)) (fun i x H' ex c=>?_) fun H' c=>?_⟩
  ·obtain⟨p,ep,rx⟩:=F9 rr ex;refine⟨E1,_,rfl,x,p,rfl,rx.same c.same,?_,?_⟩
   ·have:=Xq (Br ep);have h:p.2.length+3<=wt p:=by unfold wt;lia
    lia
   rw[JK ep,BG];refine c.push (.str _) ?_;have h2:=EV i ws;have h3:=KO ws;rw[AL,AL]
   lia
  ·have e:xs.length=ws.length:=by have:=rr.1;rw[AL] at this;lia
   rw[e,CL] at c;obtain⟨ys,hy,ry⟩:=c.lst;have lb:(" " :Str).length=1:=by left
   refine⟨" ",D,ws.map Cv,rfl,rfl,AK.of (by rw[hy,LW ry]),?_,?_,q _ c.same⟩
   ·have:=SO (" " :Str).length (by lia) ws 0;rw[A9]
    lia
   ·have:=YE (g:=" ") (by lia) ws;rw[A9]
    lia
def kr{α γ:Type}[DecidableEq α]{R:(α×β)->(α×γ)->Prop}(hR:∀t p,R t p->t.1=p.1){k:α}{u:β}{v:γ}(hn:R (k,u) (k,v))(l:List (α×β))(m:List (α×γ))(hl:l.length=m.length)(h:∀(i:Nat) t p,l[i]? =some t->m[i]? =some p->R t p):
 (AV l k u).length=(AV m k v).length/\∀(i:Nat) t p,(AV l k u)[i]? =some t->(AV m k v)[i]? =some p->R t p:=by
 have ek:∀(l:List (α×β))(m:List (α×γ)),l.length=m.length->(∀(i:Nat) t p,l[i]? =some t->m[i]? =some p->R t p)->(l.any fun p=>decide (p.1=k))=(m.any fun p=>decide (p.1=k)):=by
  intro l
  induction l with
  |nil=>intro m hl _;cases m with|nil=>rfl|cons _ _=>cases hl
  |cons t l ih=>
   intro m hl h
   cases m with
   |nil=>cases hl
   |cons p m=>rw[Im,Im,ih m (by simpa using hl) fun i t p a b=>h (i+1) t p (by simpa using a) (by simpa using b),hR t p (h 0 t p rfl rfl)]
 have e:=ek l m hl h;unfold AV;rw[<-e];by_cases c:(l.any fun p=>decide (p.1=k))=true
 ·rw[AH c,AH c];refine⟨by rw[AL,AL,hl],fun i t p a b=>?_⟩;rw[Az] at a b
  cases e1:l[i]?with
  |none=>rw[e1] at a;cases a
  |some t0=>
   cases e2:m[i]?with
   |none=>rw[e2] at b;cases b
   |some p0=>
    rw[e1] at a;rw[e2] at b;have h0:=h i t0 p0 e1 e2;have hk:=hR _ _ h0;have a':(if t0.1=k then(t0.1,u) else t0)=t:=Af a;have b':(if p0.1=k then(p0.1,v) else p0)=p:=Af b;by_cases z:t0.1=k
    ·rw[AH z] at a';rw[AH (hk▸z)] at b';rw[<-a',<-b',<-hk,z];exact hn
    ·rw[AG z] at a';rw[AG (hk▸z)] at b';rw[<-a',<-b'];exact h0
 ·rw[AG c,AG c];refine⟨by rw[Au,Au,hl];rfl,fun i t p a b=>?_⟩;by_cases hi:i<l.length
  ·rw[C3 hi] at a;rw[C3 (by lia)] at b;exact h i t p a b
  ·rw[Cn (by lia)] at a;rw[Cn (by lia),<-hl] at b
   cases ez:i-l.length with
   |zero=>
    rw[ez] at a b;have a':(k,u)=t:=by simpa using a
    have b':(k,v)=p:=by simpa using b
    rw[<-a',<-b'];exact hn
   |succ j=>rw[ez] at a;simp at a
def Yy{α β γ:Type}[DecidableEq α]{R:(α×β)->(α×γ)->Prop}(hR:∀t p,R t p->t.1=p.1)(k:α):∀(l:List (α×β))(m:List (α×γ)),l.length=m.length->(∀(i:Nat) t p,l[i]? =some t->m[i]? =some p->R t p)->
 (AF l k=none/\AF m k=none)\/∃u v,AF l k=some u/\AF m k=some v/\R (k,u) (k,v)
 |[],[],_,_=>.inl ⟨rfl,rfl⟩
 |t::l,p::m,hl,h=>by
  have h0:=h 0 t p rfl rfl;have hk:=hR _ _ h0;unfold AF;rw[C9,C9,<-hk];by_cases z:t.1=k
  ·rw[BW z];refine .inr ⟨t.2,p.2,rfl,rfl,?_⟩;rw[<-z];have e:(t.1,p.2)=p:=by rw[hk]
   rw[e];exact h0
  ·rw[BK z];exact Yy hR k l m (by simpa using hl) fun i t p a b=>h (i+1) t p (by simpa using a) (by simpa using b)
 |[],_::_,hl,_=>by cases hl
 |_::_,[],hl,_=>by cases hl
def Df.get{AD:List (Str×V)}(g:Df H AD AB)(n:Str):(AF AD n=none/\AF AB n=none)\/∃v ws,AF AD n=some v/\AF AB n=some ws/\Rep H (DQ ws) v:=by
 rcases Yy (R:=fun t p=>t.1=p.1/\Rep H (DQ p.2) t.2) (fun _ _ r=>r.1) n AD AB g.len g.row with z|⟨u,v,a,b,c⟩
 ·exact .inl z
 ·exact .inr ⟨u,v,a,b,c.2⟩
variable{ws:List PR}
def Df.put{AD:List (Str×V)}(g:Df H AD AB)(n:Str)(r:Rep H (DQ ws) v):Df H (AV AD n v) (AV AB n ws):=
 let⟨a,b⟩:=kr (R:=fun t p=>t.1=p.1/\Rep H (DQ p.2) t.2) (fun _ _ r=>r.1) (k:=n) (u:=v) (v:=ws) ⟨rfl,r⟩ AD AB g.len g.row
 ⟨a,b⟩
def Df.drop{AD:List (Str×V)}(g:Df H AD AB)(n:Str):Df H (AN AD n) (AN AB n):=
 let⟨a,b⟩:=Su (R:=fun t p=>t.1=p.1/\Rep H (DQ p.2) t.2) (fun _ _ r=>r.1) n AD AB g.len g.row
 ⟨a,b⟩
def GF(AD:List (Str×V))(n:Str):Bf (Aq AD) (.inr n)=AF AD n:=by unfold Aq;rw[Em F7];cases AF AD n<;>rfl
def Li(AD:List (Str×V))(n:Str)(v:V):putK (Aq AD) (.inr n) v=Aq (AV AD n v):=KL (g:=id) F7 n v AD
def Sn(AD:List (Str×V))(n:Str):Jd (Aq AD) (.inr n)=Aq (AN AD n):=LV (g:=id) F7 n AD
structure CU(cN:Ya)(H:Hp)(a d:Ya)(AD:List (Str×V))(AB:List Pg):Prop where
 ins:∃dx,H a=some (.ins cN dx [("pages",.ref d)])
 Bg:H d=some (.dK (Aq AD))
 AB:Df H AD AB
def CU.same{cN:Ya}{H H':Hp}{a d:Ya}{AD:List (Str×V)}{AB:List Pg}(g:CU cN H a d AD AB)(s:AO H H'):CU cN H' a d AD AB:=
 let⟨dx,h⟩:=g.ins
 ⟨⟨dx,s _ _ h⟩,s _ _ g.Bg,g.AB.same s⟩
variable{cN:Ya}
def CU.upd{AD kvs':List (Str×V)}{pgs':List Pg}(g:CU cN H a d AD AB)(g':Df H kvs' pgs'):CU cN (upd H d (.dK (Aq kvs'))) a d kvs' pgs':=by
 obtain⟨dx,h⟩:=g.ins;refine⟨⟨dx,?_⟩,AM,?_⟩
 ·rw[AQ (Ca h g.Bg (by intro z;cases z))];exact h
 ·exact(g'.ex g.Bg).same Lh
structure ER(K:uT)(cN:Ya):Prop where
 cl:Hy K cN
 nf:Ka K cN "pages"
noncomputable def keys(AB:List Pg):List Str:=AB.map (·.1)
def Y3(K:uT)(cN cR:Ya):Sp:=fun vs H Q E=>∃a d n h1 h0,vs=[.ref a,.str n]/\CU cN H a d h1 h0/\(∀ws,AF h0 n=some ws->∀H',AO H H'->Q .BA H')/\(AF h0 n=none->Xw K cR E H "no page")
def ZF(K:uT)(cN cR:Ya):Sp:=fun vs H Q E=>∃a d n h1 h0,vs=[.ref a,.str n]/\CU cN H a d h1 h0/\n.length<=100000/\(isNm n=false->Xw K cR E H "no name")/\(∀ws,isNm n=true->AF h0 n=some ws->Xw K cR E H "taken")/\(isNm n=true->AF h0 n=none->∀H',AO H H'->Q .BA H')
def lA:A0 ["self","name"] ["self","name"] (Ao RF):=by left
def je(F:Ai K "need_page" "Nook.need_page" RF f fd)(C:ER K cN)(R:Rz P w K mg base cR "NoPage" "no page"):AW P w K mg base (Ck P w) 4 f fd ["self","name"] (Y3 K cN cR):=by
 refine IZ F lA ?_ ?_
 ·rintro _ _ _ _ ⟨_,_,_,_,_,rfl,_⟩;rfl
 ·rintro _ A _ s H _ Q E hr ⟨a,d,n,h1,AB,rfl,g,q1,q2⟩;have h0:=CZ hr;refine⟨_,(AR (A1 (JZ (Oy h0 (pv 1) (Cq (pv 0) rfl))) (AR (Kj (k:=0) R hr rfl)) BD)),?_⟩;obtain⟨dx,hi⟩:=g.ins;refine⟨_,rfl,_,rfl,a,cN,dx,_,_,rfl,hi,C.cl,C.nf,rfl,d,_,rfl,BI.kq (k:=.inr n) g.Bg,_,rfl,?_⟩;rw[GF];rcases g.AB.get n with⟨e1,e2⟩|⟨v,ws,e1,e2,_⟩
  ·rw[e1];exact Bi (q2 e2)
  ·rw[e1];exact BF (q1 ws e2 H (AO.refl H))
def kf:A0 ["self","name"] ["self","name"] (Ao Qp):=by left
def ji(F:Ai K "need_free_name" "Nook.need_free_name" Qp f fd)(C:ER K cN)(R1:Rz P w K mg base cR "NoName" "no name")(R2:Rz P w K mg base cR "Taken" "taken")
 (FI:Ai K "is_name" "is_name" N2 fI fdI)(bI:Binds K fdI ["word"] [])(mI:mg "is_name" =some (.ref fI))(O:Gw mg):AW P w K mg base (Ck P w) 4 f fd ["self","name"] (ZF K cN cR):=by
 have GI:AW P w K mg base Ag 1 fI fdI ["word"] QK:=UC FI O.all;refine IZ F kf ?_ ?_
 ·rintro _ _ _ _ ⟨_,_,_,_,_,rfl,_⟩;rfl
 ·rintro _ A _ s H _ Q E hr ⟨a,d,n,h1,AB,rfl,g,hz,q1,q2,q3⟩;have h0:=CZ hr;refine⟨_,(AS (A1 (Gq (D5 (Cp GI hr.mn rfl mI FI.kp bI .nil A3 (AE (pv 1) AI)))) (AR (Kj (k:=0) R1 hr rfl)) BD) (AR (A1 (JZ (TK h0 (pv 1) (Cq (pv 0) rfl))) (AR (Kj (k:=0) R2 hr rfl)) BD))),?_⟩;refine⟨_,rfl,n,rfl,hz,fun H1 s1=>⟨_,rfl,?_⟩⟩
  cases en:isNm n with
  |false=>exact Bi ((q1 en).mono s1)
  |true=>
   refine BF ?_;have g1:=g.same s1;obtain⟨dx,hi⟩:=g1.ins;refine⟨_,rfl,_,rfl,a,cN,dx,_,_,rfl,hi,C.cl,C.nf,rfl,d,_,rfl,BI.kq (k:=.inr n) g1.Bg,_,rfl,?_⟩;rw[GF];rcases g1.AB.get n with⟨e1,e2⟩|⟨v,ws,e1,e2,_⟩
   ·rw[e1];exact BF (q3 en e2 H1 s1)
   ·rw[e1];exact Bi ((q2 ws en e2).mono s1)
def La{α β:Type}[DecidableEq α]{k:α}{v w:β}:∀{l:List (α×β)}{i:Nat},(l.map (·.1)).Nodup->l[i]? =some (k,w)->AV l k v=l.set i (k,v)
 |[],i,_,h=>by simp at h
 |p::l,0,nd,h=>by
  have e:p=(k,w):=by simpa using h
  subst e;have h0:=Ik.mp nd;have h1:l.map (fun p=>if p.1=k then(p.1,v) else p)=l:=by
   conv=>rhs;rw[<-Ov l]
   refine Ek fun q hq=>?_;have:q.1≠k:=fun z=>h0.1 (by rw[<-z];exact BZ.mpr ⟨q,hq,rfl⟩);rw[AG this];rfl
  unfold AV;rw[AH (by rw[Im];simp),Av,h1];simp
 |p::l,i+1,nd,h=>by
  have h':l[i]? =some (k,w):=by simpa using h
  have h0:=Ik.mp nd;have ih:=La (v:=v) h0.2 h';have ne:p.1≠k:=fun z=>h0.1 (by show p.1∈_;rw[z];exact BZ.mpr ⟨_,Br h',rfl⟩);have any:(l.any fun q=>decide (q.1=k))=true:=LD.mpr ⟨_,Br h',BW rfl⟩;unfold AV at ih⊢;rw[AH any] at ih;rw[AH (by rw[Im,any,Bool.or_true]),Av,ih,AG ne];rfl
def C4(AB:List Pg)(n m:Str):List Pg:=AB.map fun p=>(p.1,C6 p.2 n m)
def Fl(AB:List Pg)(n m:Str)(i:Nat):List Pg:=C4 (AB.take i) n m++AB.drop i
def Vn(AB:List Pg)(n m:Str)(i:Nat):(Fl AB n m i).map (·.1)=AB.map (·.1):=by unfold Fl C4;rw[BG,Ba];show(AB.take i).map (·.1)++_=_;rw[<-BG,ET]
def eV{n m:Str}{p:Pg}(h:AB[i]? =some p):(Fl AB n m i)[i]? =some p:=by have hi:=(BX.mp h).1;unfold Fl C4;rw[Cn (by rw[AL,Bm];lia),AL,Bm,LH (by lia),El,LB,Nat.add_zero];exact h
def cf{n m:Str}{p:Pg}(h:AB[i]? =some p):(Fl AB n m i).set i (p.1,C6 p.2 n m)=Fl AB n m (i+1):=by
 have hi:=(BX.mp h).1;unfold Fl C4;have hl:((AB.take i).map fun p:Pg=>(p.1,C6 p.2 n m)).length=i:=by rw[AL,Bm];lia
 rw[List.set_append_right _ _ (by lia),hl,El,Di,h,BG,Bl];congr 1;rw[K6 hi,List.set_cons_zero];rfl
def BE(AB:List Pg):Nat:=(AB.map fun p=>wsum p.2).sum
def Ld:∀{AB:List Pg}{p:Pg},p∈AB->wsum p.2<=BE AB
 |q::AB,p,h=>by
  unfold BE;rw[Av,CM];rcases Bn.mp h with e|e
  ·rw[e];lia
  ·have:=Ld e;unfold BE at this
   lia
structure C5(AB:List Pg):Prop where
 nd:(AB.map (·.1)).Nodup
 Dg:AB.length<=900
 BE:BE AB<=3900000
def C5.DF(n:C5 AB):Jz AB:=⟨BJ n.Dg (by lia),fun p hp=>by
 have h1:=Ld hp;have h2:=KO p.2;have h3:=n.BE
 lia⟩
def XA(ws:List PR)(n m:Str):(C6 ws n m).length=ws.length:=by unfold C6;rw[AL]
def Yd(cN:Ya):Sp:=fun vs H Q _=>∃a d n m h2 h0,vs=[.ref a,.str n,.str m]/\CU cN H a d h2 h0/\C5 h0/\∀H' h1,AO (Ex H d) H'->CU cN H' a d h1 (C4 h0 n m)->Q .BA H'
def YZ:A0 ["self","name","fresh","page"] ["self","name","fresh"] (Ao Qs):=by left
def jH{fP:Ya}{fdP:rA}(F:Ai K "point_all_on" "Nook.point_all_on" Qs f fd)(C:ER K cN)(O:Gw mg)(FP:Ai K "point_on" "point_on" Mq fP fdP)(bP:Binds K fdP ["words","name","fresh"] [])(mP:mg "point_on" =some (.ref fP)):
 AW P w K mg base Ag 2 f fd ["self","name","fresh"] (Yd cN):=by
 have GP:AW P w K mg base Ag 1 fP fdP ["words","name","fresh"] ak:=nN FP;refine F.ok YZ ?_ ?_
 ·rintro _ _ _ _ ⟨_,_,_,_,_,_,rfl,_⟩;rfl
 ·rintro _ A _ s H _ Q E hr ⟨a,d,n,m,h0,AB,rfl,g,nc,q⟩;have h5:=CZ hr;refine⟨_,(AR (DW DR rfl (FF (ED (KD rfl) rfl O.lst En (AE (Cq (pv 0) rfl) AI))) (BY (i:=3) YZ.nd rfl (Aa rfl))
   (AR (Fj h5 (Cq (pv 0) rfl) (pv 3) (Cp GP hr rfl mP FP.kp bP .nil A3 (AE (DJ h5 (Cq (pv 0) rfl) (pv 3) (fun _ _=>rfl)) (AE (pv 1) (AE (pv 2) AI)))) rfl)))),?_⟩;obtain⟨dx,hi⟩:=g.ins;refine⟨_,rfl,a,cN,dx,_,_,rfl,hi,C.cl,C.nf,rfl,d,_,rfl,g.Bg,fun L hL=>⟨L,rfl,⟨_,AK.of AM⟩,?_⟩⟩;have s1:=AY (o:=.lst ((Aq h0).map fun kv=>kV kv.1)) hL;have g1:=g.same s1;have h6:(upd H L (.lst ((Aq h0).map fun kv=>kV kv.1))) L=some (.lst ((Aq h0).map fun kv=>kV kv.1)):=AM;have e7:=g.Bg;generalize upd H L (.lst ((Aq h0).map fun kv=>kV kv.1))=H1 at s1 g1 h6;have h2:(Aq h0).length=AB.length:=by show(h0.map _).length=_;rw[AL];exact g.AB.len
  refine He (xs:=(Aq h0).map fun kv=>kV kv.1) (fun i σ H'=>σ[0]? =some (some (.ref a))/\σ[1]? =some (some (.str n))/\σ[2]? =some (some (.str m))/\3<σ.length/\AO (Ex H1 d) H'/\H' L=some (.lst ((Aq h0).map fun kv=>kV kv.1))/\∃h1,CU cN H' a d h1 (Fl AB n m i))
   ⟨rfl,rfl,rfl,by show 3<4;decide,Ex.sub,h6,h0,g1⟩ (fun i σ H' _ c=>AK.of c.2.2.2.2.2.1) (fun i x σ H' ex c=>?_) (fun σ H' c=>?_)
  ·obtain⟨e0,e1,e2,e3,sm,e9,h1,g'⟩:=c;have ek:x=kV (Sum.inr (h0.map (·.1))[i]!):=by
    rw[Az] at ex
    cases e:(Aq h0)[i]?with
    |none=>rw[e] at ex;cases ex
    |some kv=>rw[e] at ex;obtain⟨nm,e5,e6⟩:=Pn (k:=kv.1) (x:=kv.2) e;have:kV kv.1=x:=Af ex;rw[<-this,e6];congr 2;rw[List.getElem!_eq_getElem?_getD,Az,e5];rfl
   have h3:i<AB.length:=by have:=(BX.mp ex).1;rw[AL,h2] at this;exact this
   have ep:AB[i]? =some AB[i]:=Ar h3;have hk:i<h0.length:=by rw[g.AB.len];exact h3
   have en:(h0.map (·.1))[i]! =AB[i].1:=by rw[List.getElem!_eq_getElem?_getD,Az,Ar hk];exact(g.AB.row i _ _ (Ar hk) ep).1
   rw[en] at ek;subst ek;have h4:((Fl AB n m i).map (·.1)).Nodup:=by rw[Vn];exact nc.nd
   have h7:=eV (n:=n) (m:=m) ep;have gt:AF (Fl AB n m i) AB[i].1=some AB[i].2:=JS h4 h7;obtain⟨s3,EM⟩:=g'.ins;rcases g'.AB.get AB[i].1 with⟨_,z⟩|⟨v,ws,v1,v2,h8⟩
   ·rw[gt] at z;cases z
   ·rw[gt] at v2;cases v2;have p0:(σ.set 3 (some (kV (Sum.inr AB[i].1))))[0]? =some (some (.ref a)):=by rw[OM (by decide)];exact e0
    have p1:(σ.set 3 (some (kV (Sum.inr AB[i].1))))[1]? =some (some (.str n)):=by rw[OM (by decide)];exact e1
    have p2:(σ.set 3 (some (kV (Sum.inr AB[i].1))))[2]? =some (some (.str m)):=by rw[OM (by decide)];exact e2
    have p3:(σ.set 3 (some (kV (Sum.inr AB[i].1))))[3]? =some (some (kV (Sum.inr AB[i].1))):=OI e3;have dg:BI H' d (kV (Sum.inr AB[i].1)) (some v):=by have:=BI.kq (k:=.inr AB[i].1) g'.Bg;rw[GF,v1] at this;exact this
    have h9:AB[i].2.length<=100000:=nc.DF.short _ (F1 h3);refine⟨_,p0,a,cN,s3,_,_,rfl,EM,C.cl,C.nf,rfl,_,p3,d,_,rfl,dg,_,p1,_,p2,v,_,n,m,rfl,h8,h9,fun u H2 s2 ru=>?_⟩;have g2:=g'.same s2;obtain⟨s0,E4⟩:=g2.ins;have e4:(Aq h1).length<sizeLine:=by
     show(h1.map _).length<_;rw[AL,g'.AB.len,A9];have:=BL List.length (Vn AB n m i);rw[AL,AL] at this;have:=nc.Dg
     lia
    have dp:=Dr.kq (k:=.inr AB[i].1) (v:=u) g2.Bg e4;rw[Li] at dp;refine⟨_,p0,a,cN,s0,_,_,rfl,E4,C.cl,C.nf,rfl,_,p3,d,_,rfl,dp,?_⟩;have g3:=g2.upd (g2.AB.put AB[i].1 ru);have es:AV (Fl AB n m i) AB[i].1 (C6 AB[i].2 n m)=Fl AB n m (i+1):=(La (k:=AB[i].1) (w:=AB[i].2) h4 h7).trans (cf ep);rw[es] at g3;have e8:L≠d:=fun z=>by rw[z,e7] at hL;cases hL
    refine⟨p0,p1,p2,by rw[List.length_set];exact e3,?_,by rw[AQ e8];exact s2 _ _ e9,_,g3⟩;have n1:(Ex H1 d) d=none:=by unfold Ex;rw[AH rfl]
    exact(sm.trans s2).upd n1
  ·obtain⟨_,_,_,_,sm,_,h1,g'⟩:=c;have e:Fl AB n m ((Aq h0).map fun kv=>kV kv.1).length=C4 AB n m:=by rw[AL,h2];unfold Fl;rw[CL,List.drop_length,CF]
   rw[e] at g';exact q H' h1 ((Ex.mono s1).trans sm) g'
def Co{α:Type}[DecidableEq α]{k j:α}{v:β}:∀l:List (α×β),AF (AV l k v) j=if j=k then some v else AF l j:=fun l=>by
 have hm:∀l:List (α×β),AF (l.map fun p=>if p.1=k then(p.1,v) else p) j=if j=k then(if(l.any fun p=>decide (p.1=k))=true then some v else none) else AF l j:=by
  intro l
  induction l with
  |nil=>simp[AF]
  |cons p l ih=>
   unfold AF at ih⊢;rw[Av,C9,C9,Im];by_cases z:p.1=k
   ·rw[AH z];by_cases y:j=k
    ·rw[AH y,BW (show(p.1,v).1=j by rw[y];exact z),BW z,Bool.true_or,AH rfl];rfl
    ·rw[AG y,BK (show¬(p.1,v).1=j from fun x=>y (x.symm.trans z))];rw[AG y] at ih;exact ih
   ·rw[AG z];by_cases y:j=k
    ·rw[AH y,BK z,Rb,BK (show¬p.1=j from fun x=>z (x.trans y))];rw[AH y] at ih;exact ih
    ·rw[AG y];rw[AG y] at ih
     cases decide (p.1=j) with
     |true=>rfl
     |false=>exact ih
 unfold AV;by_cases c:(l.any fun p=>decide (p.1=k))=true
 ·rw[AH c,hm l];by_cases y:j=k
  ·rw[AH y,AH y,AH c]
  ·rw[AG y,AG y]
 ·rw[AG c];have hn:∀p∈l,¬p.1=k:=fun p hp z=>c (LD.mpr ⟨p,hp,BW z⟩);unfold AF;rw[RD];by_cases y:j=k
  ·rw[AH y,Vb.mpr (fun p hp=>by rw[y];simp[hn p hp])];rw[C9,BW (show(k,v).1=j from y.symm)];rfl
  ·rw[AG y,C9,BK (show¬(k,v).1=j from fun x=>y x.symm)];cases List.find? (fun p=>decide (p.1=j)) l<;>rfl
inductive Rs where
 |no (msg:Str)|ok (r:Dt) (AB:List Pg)|un (AB:List Pg)
def Out(K:uT)(cN cR:Ya)(H:Hp)(a d:Ya)(Q:VK)(E:XK):Rs->Prop
 |.no msg=>Xw K cR E H msg
 |.ok r pgs'=>∀H' h0 u,AO (Ex H d) H'->CU cN H' a d h0 pgs'->Rep H' r u->Q u H'
 |.un pgs'=>∀H' h0 u,AO (Ex H d) H'->CU cN H' a d h0 pgs'->Q u H'
def DM(t:Str):List PR:=(Cc t).map EN
def FE(AB:List Pg)(n t:Str):Rs:=if isNm n=true then .ok (.int (DM t).length) (AV AB n (DM t)) else .no "no name"
def renamed(AB:List Pg)(n m:Str)(ws:List PR):List Pg:=C4 (AV (AN AB n) m ws) n m
def Hh(AB:List Pg)(n m:Str):Rs:=match AF AB n with
 |none=>.no "no page"
 |some ws=>if isNm m=true then(match AF AB m with
  |some _=>.no "taken"
  |none=>.ok (.int (cnt (renamed AB n m ws) m)) (renamed AB n m ws)) else .no "no name"
def joined(AB:List Pg)(n o:Str)(w1 w2:List PR):List Pg:=C4 (AV (AN AB o) n (w1++w2)) o n
def Fm(AB:List Pg)(n o:Str):Rs:=match AF AB n with
 |none=>.no "no page"
 |some w1=>match AF AB o with
  |none=>.no "no page"
  |some w2=>if n=o then .no "same page" else .ok (.int (cnt (joined AB n o w1 w2) n)) (joined AB n o w1 w2)
def cutAt(AB:List Pg)(n m:Str)(ws:List PR)(k:Nat):List Pg:=AV (AV AB m (ws.drop k)) n (ws.take k++[(("to" :Str),m)])
def Ho(AB:List Pg)(n:Str)(pl:Int)(m:Str):Rs:=match AF AB n with
 |none=>.no "no page"
 |some ws=>if isNm m=true then(match AF AB m with
  |some _=>.no "taken"
  |none=>if pl<0\/(ws.length:Int)<pl then .no "no place" else .ok (.int ((ws.drop pl.toNat).length:Nat)) (cutAt AB n m ws pl.toNat)) else .no "no name"
def FG(AB:List Pg)(n:Str):Rs:=match AF AB n with
 |none=>.no "no page"
 |some _=>.ok (.int (cnt AB n)) (AN AB n)
def Gr(AB:List Pg)(n:Str):Rs:=match AF AB n with
 |none=>.no "no page"
 |some ws=>.ok (.str (Gu ws)) AB
def Y0(AB:List Pg)(n:Str):Rs:=.ok (.lst ((Dv (IA AB n)).map Dt.str)) AB
def Gn:(Ex H d) d=none:=by unfold Ex;rw[AH rfl]
def Ms{AD:List (Str×V)}(g:Df H AD AB)(h:AB.length<=1000):(Aq AD).length<sizeLine:=by
 show(AD.map _).length<_;rw[AL,g.len,A9]
 lia
def Yc(K:uT)(cN cR:Ya):Sp:=fun vs H Q E=>∃a d n t h1 h0,vs=[.ref a,.str n,.str t]/\CU cN H a d h1 h0/\C5 h0/\n.length<=100000/\t.length<=10000/\Out K cN cR H a d Q E (FE h0 n t)
def jc:A0 ["self","name","text"] ["self","name","text"] (Ao Q8):=by left
def gY(F:Ai K "write_page" "Nook.write_page" Q8 f fd)(C:ER K cN)(O:Gw mg)(R1:Rz P w K mg base cR "NoName" "no name")
 (FI:Ai K "is_name" "is_name" N2 fI fdI)(bI:Binds K fdI ["word"] [])(mI:mg "is_name" =some (.ref fI))(HS:Hv P w K mg base "split_up" 3 ["text"] aq):
 AW P w K mg base (Ck P w) 4 f fd ["self","name","text"] (Yc K cN cR):=by
 have GI:AW P w K mg base Ag 1 fI fdI ["word"] QK:=UC FI O.all;refine IZ F jc ?_ ?_
 ·rintro _ _ _ _ ⟨_,_,_,_,_,_,rfl,_⟩;rfl
 ·rintro _ A _ s H _ Q E hr ⟨a,d,n,t,h0,AB,rfl,g,nc,hz,h4,q⟩;have h1:=CZ hr;refine⟨_,(AS (A1 (Gq (D5 (Cp GI hr.mn rfl mI FI.kp bI .nil A3 (AE (pv 1) AI)))) (AR (Kj (k:=0) R1 hr rfl)) BD)
   (AS (Fj h1 (Cq (pv 0) rfl) (pv 1) (Bz HS hr rfl A3 (AE (pv 2) AI)) rfl)
   (AR (Al (BV Io rfl O.len DH (AE (DJ h1 (Cq (pv 0) rfl) (pv 1) (fun _ _=>rfl)) AI)))))),?_⟩;refine⟨_,rfl,n,rfl,hz,fun H1 s1=>⟨_,rfl,?_⟩⟩;unfold FE at q
  cases en:isNm n with
  |false=>rw[en,AG Cd] at q;exact Bi (Xw.mono q s1)
  |true=>
   rw[en,AH rfl] at q;refine BF ?_;refine⟨_,rfl,t,rfl,h4,fun D H2 s2 rD=>?_⟩;have g2:=(g.same s1).same s2;obtain⟨dx,hi⟩:=g2.ins;have h3:Rep H2 (DQ (DM t)) (.ref D):=by
    have e:DQ (DM t)=.lst ((Cc t).map Ul):=by unfold DQ DM;rw[Ba];rfl
    rw[e];exact rD
   have dp:=Dr.kq (k:=.inr n) (v:=.ref D) g2.Bg (Ms g2.AB (BJ nc.Dg (by lia)));rw[Li] at dp;refine⟨_,rfl,a,cN,dx,_,_,rfl,hi,C.cl,C.nf,rfl,_,rfl,d,_,rfl,dp,?_⟩;have g3:=g2.upd (g2.AB.put n h3);have s3:AO (Ex H d) (upd H2 d (.dK (Aq (AV h0 n (.ref D))))):=((Ex.sub.trans s1).trans s2).upd Gn;generalize upd H2 d (.dK (Aq (AV h0 n (.ref D))))=H3 at g3 s3;obtain⟨h5,E4⟩:=g3.ins;rcases g3.AB.get n with⟨_,z⟩|⟨v,ws,v1,v2,h2⟩
   ·rw[Co,AH rfl] at z;cases z
   ·have ev:ws=DM t:=by rw[Co,AH rfl] at v2;exact(Af v2).symm
    subst ev;have dg:BI H3 d (.str n) (some v):=by have:=BI.kq (k:=.inr n) g3.Bg;rw[GF,v1] at this;exact this
    obtain⟨l,xs,rfl,hl,rr⟩:=EG h2;refine⟨_,rfl,a,cN,h5,_,_,rfl,E4,C.cl,C.nf,rfl,_,rfl,d,_,rfl,dg,l,xs,rfl,.inl (AK.of hl),?_⟩;have el:xs.length=(DM t).length:=by have:=rr.1;rw[AL] at this;exact this.symm
    rw[el];exact q _ _ _ s3 g3 (.int _)
def Hk{α:Type}[DecidableEq α](l:List (α×β))(k:α)(v:β):(AV l k v).length<=l.length+1:=by
 unfold AV;split
 ·rw[AL];lia
 ·rw[Au];exact Ad _
def M6{α β:Type}[DecidableEq α]{k:α}{v:β}:∀{l:List (α×β)},AF l k=some v->(AN l k).length+1<=l.length
 |[],h=>by cases h
 |p::l,h=>by
  by_cases c:p.1=k
  ·have d1:AN (p::l) k=AN l k:=by unfold AN;rw[Fb];simp[c]
   rw[d1,CD];have:=EA (fun p:α×β=>decide (p.1≠k)) l;show(l.filter _).length+1<=_
   lia
  ·have d1:AN (p::l) k=p::AN l k:=by unfold AN;rw[Ej];simp[c]
   have h':AF l k=some v:=by unfold AF at h⊢;rw[C9,BK c] at h;exact h
   have:=M6 h';rw[d1,CD,CD]
   lia
def EZ{α:Type}[DecidableEq α]{l:List (α×β)}{k:α}{v:β}(h:(l.map (·.1)).Nodup):((AV l k v).map (·.1)).Nodup:=by
 unfold AV;by_cases c:(l.any fun p=>decide (p.1=k))=true
 ·rw[AH c,Ba];have e:(l.map ((fun x:α×β=>x.1)∘fun p=>if p.1=k then(p.1,v) else p))=l.map (·.1):=Ek fun p _=>by show(if p.1=k then(p.1,v) else p).1=p.1;split<;>rfl
  rw[e];exact h
 ·rw[AG c,BG];refine OV.mpr ⟨h,by simp,fun x hx y hy=>?_⟩;intro z;have h0:y=k:=by simpa using hy
  obtain⟨p,hp,e⟩:=BZ.mp hx;exact c (LD.mpr ⟨p,hp,BW (e.trans (z.trans h0))⟩)
def PJ(AB:List Pg)(n:Str)(ws:List PR)(nd:(AB.map (·.1)).Nodup):BE (AV AB n ws)<=BE AB+wsum ws:=by
 cases h:AF AB n with
 |none=>
  unfold AV;rw[AG (by
   intro c;obtain⟨p,hp,e⟩:=LD.mp c;have e':=HX e;unfold AF at h
   cases f:AB.find? (fun p=>decide (p.1=n)) with
   |none=>exact absurd e' (by simpa using Vb.mp f p hp)
   |some q=>rw[f] at h;cases h)];unfold BE;rw[BG,List.sum_append];simp
 |some w0=>
  obtain⟨i,hi⟩:=Fi h;rw[La nd hi];unfold BE;have hl:=(BX.mp hi).1;have:∀(l:List Nat)(i x:Nat),(l.set i x).sum<=l.sum+x:=by
   intro l
   induction l with
   |nil=>intro i x;simp
   |cons y l ih=>
    intro i x
    cases i with
    |zero=>simp;lia
    |succ i=>rw[Va,CM,CM];have:=ih i x;lia
  rw[List.map_set];exact this _ _ _
def NA{n:Str}{ws:List PR}:∀{AB:List Pg},AF AB n=some ws->BE (AN AB n)+wsum ws<=BE AB
 |[],h=>by cases h
 |p::AB,h=>by
  by_cases c:p.1=n
  ·have d1:AN (p::AB) n=AN AB n:=by unfold AN;rw[Fb];simp[c]
   have e:p.2=ws:=by unfold AF at h;rw[C9,BW c] at h;exact Af h
   have:∀l:List Pg,BE (AN l n)<=BE l:=by
    intro l
    induction l with
    |nil=>exact Ad _
    |cons q l ih=>
     by_cases z:q.1=n
     ·have d2:AN (q::l) n=AN l n:=by unfold AN;rw[Fb];simp[z]
      rw[d2];unfold BE at ih⊢;rw[Av,CM]
      lia
     ·have d2:AN (q::l) n=q::AN l n:=by unfold AN;rw[Ej];simp[z]
      rw[d2];unfold BE at ih⊢;rw[Av,CM,Av,CM]
      lia
   have:=this AB;rw[d1,<-e];unfold BE at this⊢;rw[Av,CM]
   lia
  ·have d1:AN (p::AB) n=p::AN AB n:=by unfold AN;rw[Ej];simp[c]
   have h':AF AB n=some ws:=by unfold AF at h⊢;rw[C9,BK c] at h;exact h
   have:=NA h';rw[d1];unfold BE at this⊢;rw[Av,CM,Av,CM]
   lia
def C5.moved{n m:Str}(nc:C5 AB)(h:AF AB n=some ws):C5 (AV (AN AB n) m ws):=by
 refine⟨EZ (DI nc.nd),?_,?_⟩
 ·have h1:=Hk (AN AB n) m ws;have h2:=M6 h;have h3:=nc.Dg
  lia
 ·have h1:=PJ (AN AB n) m ws (DI nc.nd);have h2:=NA h;have h3:=nc.BE
  lia
def WY{n m:Str}(s:Jz AB):Jz (C4 AB n m):=by refine⟨by unfold C4;rw[AL];exact s.Dg,fun p hp=>?_⟩;obtain⟨q,hq,rfl⟩:=BZ.mp hp;show(C6 q.2 n m).length<=_;rw[XA];exact s.short q hq
def Xj(K:uT)(cN cR:Ya):Sp:=fun vs H Q E=>∃a d n m h1 h0,vs=[.ref a,.str n,.str m]/\CU cN H a d h1 h0/\C5 h0/\m.length<=100000/\Out K cN cR H a d Q E (Hh h0 n m)
structure MK(P:qy)(w:rH)(K:uT)(mg:Str->Option AA)(base:rE)(cN cR:Ya):Prop where
 need:∃f fd,Meth K cN "need_page" f/\AW P w K mg base (Ck P w) 4 f fd ["self","name"] (Y3 K cN cR)/\Binds K fd ["self","name"] []
 free:∃f fd,Meth K cN "need_free_name" f/\AW P w K mg base (Ck P w) 4 f fd ["self","name"] (ZF K cN cR)/\Binds K fd ["self","name"] []
 C4:∃f fd,Meth K cN "point_all_on" f/\AW P w K mg base Ag 2 f fd ["self","name","fresh"] (Yd cN)/\Binds K fd ["self","name","fresh"] []
 cnt:∃f fd,mg "count_pointers" =some (.ref f)/\rZ K (.ref f)=true/\AW P w K mg base Ag 1 f fd ["pages","name"] Zp/\Binds K fd ["pages","name"] []
def iD:A0 ["self","name","fresh"] ["self","name","fresh"] (Ao Qx):=by left
def gD(F:Ai K "rename_page" "Nook.rename_page" Qx f fd)(C:ER K cN)(M:MK P w K mg base cN cR):AW P w K mg base (Ck P w) 5 f fd ["self","name","fresh"] (Xj K cN cR):=by
 obtain⟨f1,e5,m1,G1,b1⟩:=M.need;obtain⟨f2,e4,m2,G2,b2⟩:=M.free;obtain⟨f3,e3,m3,G3,b3⟩:=M.C4;obtain⟨f4,e2,m4,k4,G4,b4⟩:=M.cnt;refine IZ F iD ?_ ?_
 ·rintro _ _ _ _ ⟨_,_,_,_,_,_,rfl,_⟩;rfl
 ·rintro _ A _ s H _ Q E hr ⟨a,d,n,m,h0,AB,rfl,g,nc,hz,q⟩;have h6:=CZ hr;refine⟨_,(AS (Bc (Dy (pv 0) C.cl m1 G1 hr b1 .nil FJ (AE (pv 1) AI))) (AS (Bc (Dy (pv 0) C.cl m2 G2 hr b2 .nil FJ (AE (pv 2) AI)))
   (AS (Fj h6 (Cq (pv 0) rfl) (pv 2) (JP (Cq (pv 0) rfl) (pv 1) ⟨rfl,rfl,rfl,rfl⟩) rfl)
   (AS (Bc (Dy (pv 0) C.cl m3 G3 hr.mn b3 .nil A3 (AE (pv 1) (AE (pv 2) AI))))
   (AR (Al (Cp G4 hr.mn rfl m4 k4 b4 .nil A3 (AE (Cq (pv 0) rfl) (AE (pv 2) AI))))))))),?_⟩;obtain⟨dx,hi⟩:=g.ins;unfold Hh at q;refine⟨_,rfl,a,dx,_,rfl,hi,rfl,_,rfl,a,d,n,h0,AB,rfl,g,fun ws hw H1 s1=>?_,fun hw=>by rw[hw] at q;exact q⟩;rw[hw] at q;have g1:=g.same s1;obtain⟨e1,DD⟩:=g1.ins;refine⟨_,rfl,a,e1,_,rfl,DD,rfl,_,rfl,a,d,m,h0,AB,rfl,g1,hz,fun en=>?_,fun w2 en hm=>?_,fun en hm H2 s2=>?_⟩
  ·dsimp only at q;rw[en,AG Cd] at q;exact Xw.mono q s1
  ·dsimp only at q;rw[en,AH rfl,hm] at q;exact Xw.mono q s1
  ·dsimp only at q;rw[en,AH rfl,hm] at q;have g2:=g1.same s2;obtain⟨e0,EM⟩:=g2.ins;rcases g2.AB.get n with⟨_,z⟩|⟨v,h2,v1,v2,h5⟩
   ·rw[hw] at z;cases z
   have ev:h2=ws:=by rw[hw] at v2;exact(Af v2).symm
   subst ev;have vv:Bf (Aq h0) (.inr n)=some v:=by rw[GF];exact v1
   refine⟨_,rfl,a,cN,e0,_,_,rfl,EM,C.cl,C.nf,rfl,d,rfl,.inl ⟨_,.inl g2.Bg⟩,_,rfl,_,.inr n,_,g2.Bg,rfl,vv,?_⟩;rw[Sn];have g3:=g2.upd (g2.AB.drop n);have r3:Rep (upd H2 d (.dK (Aq (AN h0 n)))) (DQ h2) v:=(Mp g2.Bg h5).same Lh;have s3:AO (Ex H d) (upd H2 d (.dK (Aq (AN h0 n)))):=((Ex.sub.trans s1).trans s2).upd Gn;generalize upd H2 d (.dK (Aq (AN h0 n)))=H3 at g3 s3 r3;obtain⟨h9,E4⟩:=g3.ins;have dp:=Dr.kq (k:=.inr m) (v:=v) g3.Bg (Ms g3.AB (by have:=M6 hw;have:=nc.Dg;lia));rw[Li] at dp;refine⟨_,rfl,a,cN,h9,_,_,rfl,E4,C.cl,C.nf,rfl,_,rfl,d,_,rfl,dp,?_⟩;have g4:=g3.upd (g3.AB.put m r3);have s4:=s3.upd (o:=.dK (Aq (AV (AN h0 n) m v))) Gn;generalize upd H3 d (.dK (Aq (AV (AN h0 n) m v)))=H4 at g4 s4;obtain⟨h8,IW⟩:=g4.ins;have h3:C5 (AV (AN AB n) m h2):=nc.moved hw;refine⟨_,rfl,a,h8,_,rfl,IW,rfl,_,rfl,_,rfl,a,d,n,m,_,_,rfl,g4,h3,fun H5 h1 s5 g5=>?_⟩;obtain⟨h7,K2⟩:=g5.ins;have h4:AO (Ex H d) H5:=by have:AO (Ex H d) (Ex H4 d):=Ex.of_none s4 Gn;exact this.trans s5
   refine⟨_,rfl,a,cN,h7,_,_,rfl,K2,C.cl,C.nf,rfl,_,rfl,d,m,h1,_,rfl,g5.Bg,g5.AB,WY h3.DF,fun H6 s6=>?_⟩;exact q H6 h1 _ (h4.trans s6) (g5.same s6) (.int _)
def YU{l:Ya}{xs:List V}{w1 w2:List PR}(h:H l=some (.lst (xs++ys)))(r1:Ab H (w1.map Dm) xs)(r2:Ab H (w2.map Dm) ys):Rep H (DQ (w1++w2)) (.ref l):=by
 refine Rep.FY h ⟨?_,fun i d x h1 h2=>?_⟩
 ·rw[BG,Au,Au,r1.1,r2.1]
 ·rw[BG] at h1;by_cases hi:i<xs.length
  ·rw[C3 hi] at h2;rw[C3 (by rw[r1.1];exact hi)] at h1;exact r1.2 i d x h1 h2
  ·rw[Cn (by lia)] at h2;rw[Cn (by rw[r1.1];lia),r1.1] at h1;exact r2.2 _ d x h1 h2
def C5.join{n o:Str}{w1 w2:List PR}(nc:C5 AB)(hno:n≠o)(h1:AF AB n=some w1)(h2:AF AB o=some w2):C5 (AV (AN AB o) n (w1++w2)):=by
 have h3:AF (AN AB o) n=some w1:=by rw[DT hno];exact h1
 refine⟨EZ (DI nc.nd),?_,?_⟩
 ·have a1:=Hk (AN AB o) n (w1++w2);have a2:=M6 h2;have a3:=nc.Dg
  lia
 ·
  obtain⟨i,hi⟩:=Fi h3;rw[La (DI nc.nd) hi];have a2:=NA h2;have a3:=nc.BE;have h0:∀(l:List Nat)(i x y:Nat),l[i]? =some y->(l.set i x).sum+y=l.sum+x:=by
   intro l
   induction l with
   |nil=>intro i x y h;simp at h
   |cons z l ih=>
    intro i x y h
    cases i with
    |zero=>
     have:z=y:=by simpa using h
     subst this;simp
     lia
    |succ i=>
     rw[Va,CM,CM];have:=ih i x y (by simpa using h)
     lia
  have k1:=h0 ((AN AB o).map fun p:Pg=>wsum p.2) i (wsum (w1++w2)) (wsum w1) (by rw[Az,hi];rfl);have k2:=O7 w1 w2;have e2:((AN AB o).set i (n,w1++w2)).map (fun p:Pg=>wsum p.2)=((AN AB o).map fun p:Pg=>wsum p.2).set i (wsum (w1++w2)):=by rw[List.map_set]
  unfold L2.BE at a2 a3⊢;rw[e2]
  lia
def Y9(K:uT)(cN cR:Ya):Sp:=fun vs H Q E=>∃a d n m h1 h0,vs=[.ref a,.str n,.str m]/\CU cN H a d h1 h0/\C5 h0/\Out K cN cR H a d Q E (Fm h0 n m)
def Yu(K:uT)(cN cR:Ya):Sp:=fun vs H Q E=>∃a d n h1 h0,vs=[.ref a,.str n]/\CU cN H a d h1 h0/\C5 h0/\Out K cN cR H a d Q E (FG h0 n)
def TU(K:uT)(cN cR:Ya):Sp:=fun vs H Q E=>∃a d n h1 h0,vs=[.ref a,.str n]/\CU cN H a d h1 h0/\C5 h0/\(∀ws,AF h0 n=some ws->∀H',AO H H'->Q (.str (Gu ws)) H')/\(AF h0 n=none->Xw K cR E H "no page")
def ZG(cN:Ya):Sp:=fun vs H Q _=>∃a d n h1 h0,vs=[.ref a,.str n]/\CU cN H a d h1 h0/\C5 h0/\h0.length<64/\∀u H',AO H H'->Rep H' (.lst ((Dv (IA h0 n)).map Dt.str)) u->Q u H'
def ZP:A0 ["self","name","other","behind"] ["self","name","other"] (Ao Q7):=by left
def jQ(F:Ai K "join_pages" "Nook.join_pages" Q7 f fd)(C:ER K cN)(M:MK P w K mg base cN cR)(R:Rz P w K mg base cR "SamePage" "same page"):AW P w K mg base (Ck P w) 5 f fd ["self","name","other"] (Y9 K cN cR):=by
 obtain⟨f1,q0,m1,G1,b1⟩:=M.need;obtain⟨f3,r9,m3,G3,b3⟩:=M.C4;obtain⟨f4,r8,m4,k4,G4,b4⟩:=M.cnt;refine IZ F ZP ?_ ?_
 ·rintro _ _ _ _ ⟨_,_,_,_,_,_,rfl,_⟩;rfl
 ·rintro _ A _ s H _ Q E hr ⟨a,d,n,m,h0,AB,rfl,g,nc,q⟩;have e6:=CZ hr;refine⟨_,(AS (Bc (Dy (pv 0) C.cl m1 G1 hr b1 .nil FJ (AE (pv 1) AI))) (AS (Bc (Dy (pv 0) C.cl m1 G1 hr b1 .nil FJ (AE (pv 2) AI)))
   (AS (A1 (Aw BQ (pv 1) (pv 2) (Ap _)) (AR (Kj (k:=1) R hr rfl)) BD)
   (AS (Ax (i:=3) ZP.nd rfl (Aa rfl) (JP (Cq (pv 0) rfl) (pv 2) ⟨rfl,rfl,rfl,rfl⟩))
   (AS (Fj e6 (Cq (pv 0) rfl) (pv 1) (An Ir (DJ e6 (Cq (pv 0) rfl) (pv 1) (fun _ _=>rfl)) (pv 3)) rfl)
   (AS (Bc (Dy (pv 0) C.cl m3 G3 hr.mn b3 .nil A3 (AE (pv 2) (AE (pv 1) AI))))
   (AR (Al (Cp G4 hr.mn rfl m4 k4 b4 .nil A3 (AE (Cq (pv 0) rfl) (AE (pv 1) AI))))))))))),?_⟩;obtain⟨dx,hi⟩:=g.ins;unfold Fm at q;refine⟨_,rfl,a,dx,_,rfl,hi,rfl,_,rfl,a,d,n,h0,AB,rfl,g,fun w1 e1 H1 s1=>?_,fun hw=>by rw[hw] at q;exact q⟩;rw[e1] at q;have g1:=g.same s1;obtain⟨r6,DD⟩:=g1.ins;refine⟨_,rfl,a,r6,_,rfl,DD,rfl,_,rfl,a,d,m,h0,AB,rfl,g1,fun w2 h4 H2 s2=>?_,fun hw=>by dsimp only at q;rw[hw] at q;exact Xw.mono q s1⟩;dsimp only at q;rw[h4] at q;refine⟨_,rfl,_,rfl,rfl,_,rfl,?_⟩;have r7:(H:Hp)->AO (Ex H d) H:=fun _=>Ex.sub;by_cases h5:n=m
  ·dsimp only at q;rw[AH h5] at q;refine Bu (by rw[h5]) (Xw.mono q (s1.trans s2))
  ·dsimp only at q;rw[AG h5] at q;refine CJ (fun z=>h5 (V.str.inj z)) ?_;have g2:=g1.same s2;obtain⟨r5,EM⟩:=g2.ins;rcases g2.AB.get m with⟨_,z⟩|⟨v,h3,v1,v2,e8⟩
   ·rw[h4] at z;cases z
   have ev:h3=w2:=by rw[h4] at v2;exact(Af v2).symm
   subst ev;have vv:Bf (Aq h0) (.inr m)=some v:=by rw[GF];exact v1
   refine⟨_,rfl,a,cN,r5,_,_,rfl,EM,C.cl,C.nf,rfl,d,rfl,.inl ⟨_,.inl g2.Bg⟩,_,rfl,_,.inr m,_,g2.Bg,rfl,vv,?_⟩;rw[Sn];have g3:=g2.upd (g2.AB.drop m);have r3:Rep (upd H2 d (.dK (Aq (AN h0 m)))) (DQ h3) v:=(Mp g2.Bg e8).same Lh;have s3:AO (Ex H d) (upd H2 d (.dK (Aq (AN h0 m)))):=((Ex.sub.trans s1).trans s2).upd Gn;generalize upd H2 d (.dK (Aq (AN h0 m)))=H3 at g3 s3 r3;obtain⟨r2,E4⟩:=g3.ins;have h8:AF (AN AB m) n=some w1:=by rw[DT h5];exact e1
   rcases g3.AB.get n with⟨_,z⟩|⟨u,h6,u1,u2,ru⟩
   ·rw[h8] at z;cases z
   have s8:h6=w1:=by rw[h8] at u2;exact(Af u2).symm
   subst s8;have dg:BI H3 d (.str n) (some u):=by have:=BI.kq (k:=.inr n) g3.Bg;rw[GF,u1] at this;exact this
   obtain⟨l1,e0,rfl,s0,e4⟩:=EG ru;obtain⟨l2,h9,rfl,e9,e3⟩:=EG r3;have z1:e0.length<=100000:=by have h1:=e4.1;rw[AL] at h1;have h2:h6.length<=100000:=nc.DF.short (n,h6) (by obtain⟨i,hi⟩:=Fi e1;exact Br hi);lia
   have z2:h9.length<=100000:=by have h1:=e3.1;rw[AL] at h1;have h2:h3.length<=100000:=nc.DF.short (m,h3) (by obtain⟨i,hi⟩:=Fi h4;exact Br hi);lia
   refine⟨_,rfl,a,cN,r2,_,_,rfl,E4,C.cl,C.nf,rfl,_,rfl,d,_,rfl,dg,_,rfl,l1,l2,_,_,rfl,rfl,s0,e9,by rw[A9];lia,fun l hl=>?_⟩;have s4:=AY (o:=.lst (e0++h9)) hl;have g4:=g3.same s4;have r4:Rep (upd H3 l (.lst (e0++h9))) (DQ (h6++h3)) (.ref l):=YU AM (e4.same s4) (e3.same s4);have e2:=s3.trans s4;generalize upd H3 l (.lst (e0++h9))=H4 at g4 r4 e2;obtain⟨r1,IW⟩:=g4.ins;have dp:=Dr.kq (k:=.inr n) (v:=.ref l) g4.Bg (Ms g4.AB (by have:=M6 h4;have:=nc.Dg;lia));rw[Li] at dp;refine⟨_,rfl,a,cN,r1,_,_,rfl,IW,C.cl,C.nf,rfl,_,rfl,d,_,rfl,dp,?_⟩;have g5:=g4.upd (g4.AB.put n r4);have s5:=e2.upd (o:=.dK (Aq (AV (AN h0 m) n (.ref l)))) Gn;generalize upd H4 d (.dK (Aq (AV (AN h0 m) n (.ref l))))=H5 at g5 s5;obtain⟨r0,K2⟩:=g5.ins;have e5:C5 (AV (AN AB m) n (h6++h3)):=nc.join h5 e1 h4;refine⟨_,rfl,a,r0,_,rfl,K2,rfl,_,rfl,_,rfl,a,d,m,n,_,_,rfl,g5,e5,fun H6 h7 s6 g6=>?_⟩;obtain⟨s9,Ux⟩:=g6.ins;have e7:AO (Ex H d) H6:=(Ex.of_none s5 Gn).trans s6;refine⟨_,rfl,a,cN,s9,_,_,rfl,Ux,C.cl,C.nf,rfl,_,rfl,d,n,h7,_,rfl,g6.Bg,g6.AB,WY e5.DF,fun H7 s7=>?_⟩;exact q H7 h7 _ (e7.trans s7) (g6.same s7) (.int _)
def ZJ:A0 ["self","name","led"] ["self","name"] (Ao RJ):=by left
def kU(F:Ai K "drop_page" "Nook.drop_page" RJ f fd)(C:ER K cN)(M:MK P w K mg base cN cR):AW P w K mg base (Ck P w) 5 f fd ["self","name"] (Yu K cN cR):=by
 obtain⟨f1,h7,m1,G1,b1⟩:=M.need;obtain⟨f4,h6,m4,k4,G4,b4⟩:=M.cnt;refine IZ F ZJ ?_ ?_
 ·rintro _ _ _ _ ⟨_,_,_,_,_,rfl,_⟩;rfl
 ·rintro _ A _ s H _ Q E hr ⟨a,d,n,h0,AB,rfl,g,nc,q⟩;have h5:=CZ hr;refine⟨_,(AS (Bc (Dy (pv 0) C.cl m1 G1 hr b1 .nil FJ (AE (pv 1) AI))) (AS (Ax (i:=2) ZJ.nd rfl (Aa rfl) (Cp G4 hr.mn rfl m4 k4 b4 .nil A3 (AE (Cq (pv 0) rfl) (AE (pv 1) AI))))
   (AS (Bc (JP (Cq (pv 0) rfl) (pv 1) ⟨rfl,rfl,rfl,rfl⟩)) (AR (Al (pv 2)))))),?_⟩;obtain⟨dx,hi⟩:=g.ins;unfold FG at q;refine⟨_,rfl,a,dx,_,rfl,hi,rfl,_,rfl,a,d,n,h0,AB,rfl,g,fun ws hw H1 s1=>?_,fun hw=>by rw[hw] at q;exact q⟩;rw[hw] at q;have g1:=g.same s1;obtain⟨h2,DD⟩:=g1.ins;refine⟨_,rfl,a,cN,h2,_,_,rfl,DD,C.cl,C.nf,rfl,_,rfl,d,n,h0,_,rfl,g1.Bg,g1.AB,nc.DF,fun H2 s2=>?_⟩;have g2:=g1.same s2;obtain⟨h1,EM⟩:=g2.ins;rcases g2.AB.get n with⟨_,z⟩|⟨v,h3,v1,v2,h4⟩
  ·rw[hw] at z;cases z
  have vv:Bf (Aq h0) (.inr n)=some v:=by rw[GF];exact v1
  refine⟨_,rfl,a,cN,h1,_,_,rfl,EM,C.cl,C.nf,rfl,d,rfl,.inl ⟨_,.inl g2.Bg⟩,_,rfl,_,.inr n,_,g2.Bg,rfl,vv,?_⟩;rw[Sn];have g3:=g2.upd (g2.AB.drop n);have s3:AO (Ex H d) (upd H2 d (.dK (Aq (AN h0 n)))):=((Ex.sub.trans s1).trans s2).upd Gn;exact⟨_,rfl,q _ _ _ s3 g3 (.int _)⟩
def mH:A0 ["self","name"] ["self","name"] (Ao RU):=by left
def Xx(F:Ai K "text_of" "Nook.text_of" RU f fd)(C:ER K cN)(M:MK P w K mg base cN cR)(HT:Hv P w K mg base "tell_text" 2 ["words"] bE):
 AW P w K mg base (Ck P w) 5 f fd ["self","name"] (TU K cN cR):=by
 obtain⟨f1,h8,m1,G1,b1⟩:=M.need;refine IZ F mH ?_ ?_
 ·rintro _ _ _ _ ⟨_,_,_,_,_,rfl,_⟩;rfl
 ·rintro _ A _ s H _ Q E hr ⟨a,d,n,h5,AB,rfl,g,nc,q,qx⟩;have h6:=CZ hr;refine⟨_,(AS (Bc (Dy (pv 0) C.cl m1 G1 hr b1 .nil FJ (AE (pv 1) AI))) (AR (Al (Bz HT hr.mn rfl A3 (AE (DJ h6 (Cq (pv 0) rfl) (pv 1) (fun _ _=>rfl)) AI))))),?_⟩;obtain⟨dx,hi⟩:=g.ins;refine⟨_,rfl,a,dx,_,rfl,hi,rfl,_,rfl,a,d,n,h5,AB,rfl,g,fun ws hw H1 s1=>?_,qx⟩;have g1:=g.same s1;obtain⟨h7,DD⟩:=g1.ins;rcases g1.AB.get n with⟨_,z⟩|⟨v,h0,v1,v2,h4⟩
  ·rw[hw] at z;cases z
  have ev:h0=ws:=by rw[hw] at v2;exact(Af v2).symm
  subst ev;have dg:BI H1 d (.str n) (some v):=by have:=BI.kq (k:=.inr n) g1.Bg;rw[GF,v1] at this;exact this
  refine⟨_,rfl,a,cN,h7,_,_,rfl,DD,C.cl,C.nf,rfl,_,rfl,d,_,rfl,dg,v,h0,rfl,h4,?_,fun H2 s2=>q h0 hw H2 (s1.trans s2)⟩;have h1:=nc.BE;obtain⟨i,hi⟩:=Fi hw;have h2:=Ld (Br hi);show wsum h0<=_;have h3:wsum h0<=BE AB:=h2
  lia
def lG:A0 ["self","name"] ["self","name"] (Ao RI):=by left
def kC(F:Ai K "back_from" "Nook.back_from" RI f fd)(C:ER K cN)(HT:Hv P w K mg base "pages_pointing" 1 ["pages","name"] Zz):
 AW P w K mg base Ag 2 f fd ["self","name"] (ZG cN):=by
 refine F.ok lG ?_ ?_
 ·rintro _ _ _ _ ⟨_,_,_,_,_,rfl,_⟩;rfl
 ·rintro _ A _ s H _ Q E hr ⟨a,d,n,h0,AB,rfl,g,nc,h1,q⟩;refine⟨_,(AR (Al (Bz HT hr rfl A3 (AE (Cq (pv 0) rfl) (AE (pv 1) AI))))),?_⟩;obtain⟨dx,hi⟩:=g.ins;exact⟨_,rfl,a,cN,dx,_,_,rfl,hi,C.cl,C.nf,rfl,_,rfl,d,n,h0,_,rfl,g.Bg,g.AB,nc.DF,h1,fun u H1 s1 r=>q u H1 s1 r⟩
def XS{xs:List V}{pl:Int}(h0:0<=pl)(h1:pl<=xs.length):DY xs (some pl) none=xs.drop pl.toNat:=by
 unfold DY;have e1:BC xs.length 0 (some pl)=pl.toNat:=by
  show(if pl<0 then _ else min pl.toNat xs.length)=_;rw[AG (by lia)]
  lia
 rw[e1];show(xs.drop pl.toNat).take (xs.length-pl.toNat)=_;rw[F0 (by rw[EX];exact Ad _)]
def Y8{xs:List V}{pl:Int}(h0:0<=pl)(h1:pl<=xs.length):DY xs none (some pl)=xs.take pl.toNat:=by
 unfold DY;have e1:BC xs.length xs.length (some pl)=pl.toNat:=by
  show(if pl<0 then _ else min pl.toNat xs.length)=_;rw[AG (by lia)]
  lia
 rw[e1];show(xs.drop 0).take (pl.toNat-0)=_;rw[Oe,Nat.sub_zero]
def gA{xs:List V}(r:Ab H (ws.map Dm) xs)(k:Nat):Ab H ((ws.drop k).map Dm) (xs.drop k):=by
 refine⟨?_,fun i d x h1 h2=>?_⟩
 ·have:=r.1;rw[AL] at this;rw[AL,EX,EX,this]
 ·rw[Oj,LB] at h1;rw[LB] at h2;exact r.2 _ d x h1 h2
def gO{xs:List V}(r:Ab H (ws.map Dm) xs)(k:Nat):Ab H ((ws.take k).map Dm) (xs.take k):=by
 refine⟨?_,fun i d x h1 h2=>?_⟩
 ·have:=r.1;rw[AL] at this;rw[AL,Bm,Bm,this]
 ·rw[Oi] at h1;by_cases hi:i<k
  ·rw[List.getElem?_take_of_lt hi] at h1 h2;exact r.2 _ d x h1 h2
  ·rw[Q2,AG hi] at h2;cases h2
def gc{p:PR}{t:Ya}(h:H t=some (.tup (GQ p))):Ab H ([p].map Dm) [.ref t]:=by
 refine⟨rfl,fun i d x h1 h2=>?_⟩
 match i with
 |0=>cases h1;cases h2;exact Tu h
 |i+1=>simp at h1
def Zv(K:uT)(cN cR:Ya):Sp:=fun vs H Q E=>∃a d n pl m h1 h0,vs=[.ref a,.str n,.int pl,.str m]/\CU cN H a d h1 h0/\C5 h0/\m.length<=100000/\Out K cN cR H a d Q E (Ho h0 n pl m)
def S3(cN:Ya):Sp:=fun vs H Q _=>∃a dx,vs=[.ref a]/\H a=some (.ins cN dx [])/\∀H' d,H d=none->d≠a->AO (Ex H a) H'->CU cN H' a d [] []->Q .BA H'
def aC:A0 ["self","name","place","fresh","words"] ["self","name","place","fresh"] (Ao RM):=by left
def lH(F:Ai K "cut_page" "Nook.cut_page" RM f fd)(C:ER K cN)(M:MK P w K mg base cN cR)(R:Rz P w K mg base cR "NoPlace" "no place")(O:Gw mg):AW P w K mg base (Ck P w) 5 f fd ["self","name","place","fresh"] (Zv K cN cR):=by
 obtain⟨f1,q8,m1,G1,b1⟩:=M.need;obtain⟨f2,q7,m2,G2,b2⟩:=M.free;refine IZ F aC ?_ ?_
 ·rintro _ _ _ _ ⟨_,_,_,_,_,_,_,rfl,_⟩;rfl
 ·rintro _ A _ s H _ Q E hr ⟨a,d,n,pl,m,h3,AB,rfl,g,nc,hz,q⟩;have h4:=CZ hr;refine⟨_,(AS (Bc (Dy (pv 0) C.cl m1 G1 hr b1 .nil FJ (AE (pv 1) AI))) (AS (Bc (Dy (pv 0) C.cl m2 G2 hr b2 .nil FJ (AE (pv 3) AI)))
   (AS (Ax (i:=4) aC.nd rfl (Aa rfl) (DJ h4 (Cq (pv 0) rfl) (pv 1) (fun _ _=>rfl)))
   (AS (A1 (PW.pt (Jh (Aw Jb (pv 2) Ac (Ap _)) (JW (Aw T5 (pv 2) (BV Io rfl O.len DH (AE (pv 4) AI)) (Ap _))))) (AR (Kj (k:=1) R hr rfl)) BD)
   (AS (Fj h4 (Cq (pv 0) rfl) (pv 3) (Ff PY (pv 4) (DV (pv 2)) KU) rfl)
   (AS (Fj h4 (Cq (pv 0) rfl) (pv 1) (An Ir (Ff PY (pv 4) KU (DV (pv 2))) (Bt (AE (CA (AE AZ (AE (pv 3) AI))) AI))) rfl)
   (AR (Al (BV Io rfl O.len DH (AE (DJ h4 (Cq (pv 0) rfl) (pv 3) (fun _ _=>rfl)) AI)))))))))),?_⟩;obtain⟨dx,hi⟩:=g.ins;unfold Ho at q;refine⟨_,rfl,a,dx,_,rfl,hi,rfl,_,rfl,a,d,n,h3,AB,rfl,g,fun ws hw H1 s1=>?_,fun hw=>by rw[hw] at q;exact q⟩;rw[hw] at q;have g1:=g.same s1;obtain⟨q4,DD⟩:=g1.ins;refine⟨_,rfl,a,q4,_,rfl,DD,rfl,_,rfl,a,d,m,h3,AB,rfl,g1,hz,fun en=>?_,fun w2 en hm=>?_,fun en hm H2 s2=>?_⟩
  ·dsimp only at q;rw[en,AG Cd] at q;exact Xw.mono q s1
  ·dsimp only at q;rw[en,AH rfl,hm] at q;exact Xw.mono q s1
  ·dsimp only at q;rw[en,AH rfl,hm] at q;dsimp only at q;have g2:=g1.same s2;obtain⟨q3,EM⟩:=g2.ins;rcases g2.AB.get n with⟨_,z⟩|⟨v,h1,v1,v2,r1⟩
   ·rw[hw] at z;cases z
   have ev:h1=ws:=by rw[hw] at v2;exact(Af v2).symm
   subst ev;have dg:BI H2 d (.str n) (some v):=by have:=BI.kq (k:=.inr n) g2.Bg;rw[GF,v1] at this;exact this
   obtain⟨l,xs,rfl,hl,rr⟩:=EG r1;have el:xs.length=h1.length:=by have:=rr.1;rw[AL] at this;exact this.symm
   have zl:xs.length<=100000:=by have h2:h1.length<=100000:=nc.DF.short (n,h1) (by obtain⟨i,hi⟩:=Fi hw;exact Br hi);lia
   refine⟨_,rfl,a,cN,q3,_,_,rfl,EM,C.cl,C.nf,rfl,_,rfl,d,_,rfl,dg,?_⟩;refine⟨_,rfl,_,_,rfl,rfl,_,rfl,?_⟩;by_cases c1:pl<0
   ·rw[AH (.inl c1)] at q;refine Bu c1 ?_;exact Bi (Xw.mono q (s1.trans s2))
   refine CJ c1 ⟨_,rfl,_,rfl,l,xs,rfl,.inl (AK.of hl),_,_,rfl,rfl,_,rfl,?_⟩;by_cases c2:(xs.length:Int)<pl
   ·rw[AH (.inr (by rw[<-el];exact c2))] at q;exact Bu c2 (Xw.mono q (s1.trans s2))
   refine CJ c2 ?_;rw[AG (by rw[<-el];exact fun z=>z.elim c1 c2)] at q;have p0:0<=pl:=by lia
   have p1:pl<=xs.length:=by lia
   refine⟨_,rfl,_,rfl,_,rfl,l,xs,rfl,AK.of hl,fun l3 r7=>?_⟩;rw[XS p0 p1];have s3:=AY (o:=.lst (xs.drop pl.toNat)) r7;have g3:=g2.same s3;have r3:Rep (upd H2 l3 (.lst (xs.drop pl.toNat))) (DQ (h1.drop pl.toNat)) (.ref l3):=Rep.FY AM ((gA rr _).same s3);have e4:AO (Ex H d) (upd H2 l3 (.lst (xs.drop pl.toNat))):=((Ex.sub.trans s1).trans s2).trans s3;have h8:=s3 _ _ hl;have e7:=rr.same s3;generalize upd H2 l3 (.lst (xs.drop pl.toNat))=H3 at g3 r3 e4 h8 e7;obtain⟨q2,E4⟩:=g3.ins;have dp:=Dr.kq (k:=.inr m) (v:=.ref l3) g3.Bg (Ms g3.AB (BJ nc.Dg (by lia)));rw[Li] at dp;refine⟨_,rfl,a,cN,q2,_,_,rfl,E4,C.cl,C.nf,rfl,_,rfl,d,_,rfl,dp,?_⟩;have g4:=g3.upd (g3.AB.put m r3);have s4:=e4.upd (o:=.dK (Aq (AV h3 m (.ref l3)))) Gn;have e1:(upd H3 d (.dK (Aq (AV h3 m (.ref l3))))) l=some (.lst xs):=by rw[AQ (Ca h8 g3.Bg (by intro z;cases z))];exact h8
   have e6:Ab (upd H3 d (.dK (Aq (AV h3 m (.ref l3))))) (h1.map Dm) xs:=by obtain⟨l0,q6,e0,h0,r0⟩:=EG ((Mp g3.Bg (Rep.FY h8 e7)).same (Lh (o:=.dK (Aq (AV h3 m (.ref l3))))));cases e0;rw[e1] at h0;cases h0;exact r0
   generalize upd H3 d (.dK (Aq (AV h3 m (.ref l3))))=H4 at g4 s4 e1 e6;refine⟨_,rfl,_,rfl,_,rfl,l,xs,rfl,AK.of e1,fun l5 r6=>⟨_,rfl,(by exact zw),fun t ht=>⟨(by exact zx),fun l6 e9=>?_⟩⟩⟩;rw[Y8 p0 p1] at ht e9⊢;have s5:=AY (o:=.lst (xs.take pl.toNat)) r6;have s6:=AY (o:=.tup [.str "to",.str m]) ht;have s7:=AY (o:=.lst [.ref t]) e9;have h9:=s5.trans (s6.trans s7);have h5:=(s6.trans s7) _ _ (AM (H:=H4) (a:=l5) (o:=.lst (xs.take pl.toNat)));have h6:=s7 _ _ (AM (a:=t) (o:=.tup [.str "to",.str m]) (H:=upd H4 l5 (.lst (xs.take pl.toNat))));have h7:=AM (a:=l6) (o:=.lst [V.ref t]) (H:=upd (upd H4 l5 (.lst (xs.take pl.toNat))) t (.tup [.str "to",.str m]));have g7:=g4.same h9;have e5:=e6.same h9;have e3:=s4.trans h9;generalize upd (upd (upd H4 l5 (.lst (xs.take pl.toNat))) t (.tup [.str "to",.str m])) l6 (.lst [V.ref t])=H7 at h5 h6 h7 g7 e5 e3;refine⟨l5,l6,_,_,rfl,rfl,h5,h7,by rw[Bm,A9,Cf];lia,fun l8 r5=>?_⟩;have s8:=AY (o:=.lst (xs.take pl.toNat++[.ref t])) r5;have g8:=g7.same s8;have r8:Rep (upd H7 l8 (.lst (xs.take pl.toNat++[.ref t]))) (DQ (h1.take pl.toNat++[(("to" :Str),m)])) (.ref l8):=YU AM ((gO e5 _).same s8) (gc (s8 _ _ h6));have e2:=e3.trans s8;generalize upd H7 l8 (.lst (xs.take pl.toNat++[.ref t]))=H8 at g8 r8 e2;obtain⟨q1,Qi⟩:=g8.ins;have s0:=Dr.kq (k:=.inr n) (v:=.ref l8) g8.Bg (Ms g8.AB (by have:=Hk AB m (h1.drop pl.toNat);have:=nc.Dg;lia));rw[Li] at s0;refine⟨_,rfl,a,cN,q1,_,_,rfl,Qi,C.cl,C.nf,rfl,_,rfl,d,_,rfl,s0,?_⟩;have g9:=g8.upd (g8.AB.put n r8);have s9:=e2.upd (o:=.dK (Aq (AV (AV h3 m (.ref l3)) n (.ref l8)))) Gn;generalize upd H8 d (.dK (Aq (AV (AV h3 m (.ref l3)) n (.ref l8))))=H9 at g9 s9;obtain⟨q0,N6⟩:=g9.ins;have e8:m≠n:=fun z=>by rw[z,hw] at hm;cases hm
   rcases g9.AB.get m with⟨_,z⟩|⟨u,wu,u1,u2,ru⟩
   ·rw[Co,AG e8,Co,AH rfl] at z;cases z
   have eu:wu=h1.drop pl.toNat:=by rw[Co,AG e8,Co,AH rfl] at u2;exact(Af u2).symm
   subst eu;have q5:BI H9 d (.str m) (some u):=by have:=BI.kq (k:=.inr m) g9.Bg;rw[GF,u1] at this;exact this
   obtain⟨lu,xu,rfl,r4,r2⟩:=EG ru;refine⟨_,rfl,a,cN,q0,_,_,rfl,N6,C.cl,C.nf,rfl,_,rfl,d,_,rfl,q5,lu,xu,rfl,.inl (AK.of r4),?_⟩;have r9:xu.length=(h1.drop pl.toNat).length:=by have:=r2.1;rw[AL] at this;exact this.symm
   rw[r9];exact q _ _ _ s9 g9 (.int _)
def jN:A0 ["self"] ["self"] (Ao Rm):=by left
def XR(F:Ai K "__init__" "Nook.__init__" Rm f fd)(C:ER K cN):AW P w K mg base Ag 1 f fd ["self"] (S3 cN):=by
 refine F.ok jN ?_ ?_
 ·rintro _ _ _ _ ⟨_,_,rfl,_⟩;rfl
 ·rintro _ A _ s H _ Q E hr ⟨a,dx,rfl,hi,q⟩;refine⟨_,(AR (kX (pv 0) O4 rfl)),fun d hd=>?_⟩;have s1:=AY (o:=.dK []) hd;have nd:d≠a:=fun z=>by rw[z,hi] at hd;cases hd
  have DD:=s1 _ _ hi;refine⟨_,rfl,a,cN,dx,_,rfl,DD,C.cl,C.nf,(by show 0<1000;decide),?_⟩;refine q _ d hd nd ?_ ⟨⟨dx,AM⟩,by rw[AQ nd];exact AM,⟨rfl,fun i kv p e=>by simp at e⟩⟩;exact(Ex.sub.trans s1).upd (by unfold Ex;rw[AH rfl])
def D6(AB:List Pg):Am->Rs
 |.write n t=>FE AB n t
 |.rename n m=>Hh AB n m
 |.join n o=>Fm AB n o
 |.cut n p m=>Ho AB n p m
 |.drop n=>FG AB n
 |.text n=>Gr AB n
 |.back n=>Y0 AB n
 |.find ws far=>if ws=[] then .no "no words" else .un AB
def ZH(K:uT)(cN cR:Ya):Sp:=fun vs H Q E=>∃a d v ws h2 h1 h0,vs=[.ref a,v,.int h2]/\CU cN H a d h1 h0/\C5 h0/\h0.length<64/\Rep H (.tup (ws.map Dt.str)) v/\ws.length<=9/\Out K cN cR H a d Q E (if ws=[] then .no "no words" else .un h0)
def UM(K:uT)(cN cR:Ya):Sp:=fun vs H Q E=>∃a d v x h1 h0,vs=[.ref a,v]/\CU cN H a d h1 h0/\C5 h0/\h0.length<64/\Rep H (Am.dt x) v/\x.Good/\Out K cN cR H a d Q E (D6 h0 x)
structure cI(P:qy)(w:rH)(K:uT)(mg:Str->Option AA)(base:rE)(cN cR:Ya):Prop where
 write:∃f fd,Meth K cN "write_page" f/\AW P w K mg base (Ck P w) 4 f fd ["self","name","text"] (Yc K cN cR)/\Binds K fd ["self","name","text"] []
 rename:∃f fd,Meth K cN "rename_page" f/\AW P w K mg base (Ck P w) 5 f fd ["self","name","fresh"] (Xj K cN cR)/\Binds K fd ["self","name","fresh"] []
 join:∃f fd,Meth K cN "join_pages" f/\AW P w K mg base (Ck P w) 5 f fd ["self","name","other"] (Y9 K cN cR)/\Binds K fd ["self","name","other"] []
 cut:∃f fd,Meth K cN "cut_page" f/\AW P w K mg base (Ck P w) 5 f fd ["self","name","place","fresh"] (Zv K cN cR)/\Binds K fd ["self","name","place","fresh"] []
 drop:∃f fd,Meth K cN "drop_page" f/\AW P w K mg base (Ck P w) 5 f fd ["self","name"] (Yu K cN cR)/\Binds K fd ["self","name"] []
 text:∃f fd,Meth K cN "text_of" f/\AW P w K mg base (Ck P w) 5 f fd ["self","name"] (TU K cN cR)/\Binds K fd ["self","name"] []
 back:∃f fd,Meth K cN "back_from" f/\AW P w K mg base Ag 2 f fd ["self","name"] (ZG cN)/\Binds K fd ["self","name"] []
 find:∃f fd,Meth K cN "find_pages" f/\AW P w K mg base (Ck P w) 5 f fd ["self","wanted","near"] (ZH K cN cR)/\Binds K fd ["self","wanted","near"] []
def aZ:A0 ["nook","deed","kind"] ["nook","deed"] (Ao R7):=by left
def nY(F:Ai K "do_deed" "do_deed" R7 f fd)(C:ER K cN)(M:cI P w K mg base cN cR):AW P w K mg base (Ck P w) 6 f fd ["nook","deed"] (UM K cN cR):=by
 obtain⟨f1,e3,m1,G1,b1⟩:=M.write;obtain⟨f2,e2,m2,G2,b2⟩:=M.rename;obtain⟨f3,e1,m3,G3,b3⟩:=M.join;obtain⟨f4,e0,m4,G4,b4⟩:=M.cut;obtain⟨f5,h9,m5,G5,b5⟩:=M.drop;obtain⟨f6,h8,m6,G6,b6⟩:=M.text;obtain⟨f7,h7,m7,G7,b7⟩:=M.back;obtain⟨f8,h6,m8,G8,b8⟩:=M.find;refine IZ F aZ ?_ ?_
 ·rintro _ _ _ _ ⟨_,_,_,_,_,_,rfl,_⟩;rfl
 ·rintro _ A _ s H _ Q E hr ⟨a,d,v,x,h3,h2,rfl,g,nc,h4,rx,h1,q⟩;refine⟨_,(AS (Ax (i:=2) aZ.nd rfl (Aa rfl) (A8 (pv 1)))
   (AS (A1 (Aw BQ (pv 2) AZ (Ap _)) (AR (Al (Dy (pv 0) C.cl m1 G1 hr.mn b1 .nil FJ (AE (A8 (pv 1)) (AE (A8 (pv 1)) AI))))) BD)
   (AS (A1 (Aw BQ (pv 2) AZ (Ap _)) (AR (Al (Dy (pv 0) C.cl m2 G2 hr b2 .nil FJ (AE (A8 (pv 1)) (AE (A8 (pv 1)) AI))))) BD)
   (AS (A1 (Aw BQ (pv 2) AZ (Ap _)) (AR (Al (Dy (pv 0) C.cl m3 G3 hr b3 .nil FJ (AE (A8 (pv 1)) (AE (A8 (pv 1)) AI))))) BD)
   (AS (A1 (Aw BQ (pv 2) AZ (Ap _)) (AR (Al (Dy (pv 0) C.cl m4 G4 hr b4 .nil FJ (AE (A8 (pv 1)) (AE (A8 (pv 1)) (AE (A8 (pv 1)) AI)))))) BD)
   (AS (A1 (Aw BQ (pv 2) AZ (Ap _)) (AR (Al (Dy (pv 0) C.cl m5 G5 hr b5 .nil FJ (AE (A8 (pv 1)) AI)))) BD)
   (AS (A1 (Aw BQ (pv 2) AZ (Ap _)) (AR (Al (Dy (pv 0) C.cl m6 G6 hr b6 .nil FJ (AE (A8 (pv 1)) AI)))) BD)
   (AS (A1 (Aw BQ (pv 2) AZ (Ap _)) (AR (Al (Dy (pv 0) C.cl m7 G7 hr.mn b7 .nil A3 (AE (A8 (pv 1)) AI)))) BD)
   (AR (Al (Dy (pv 0) C.cl m8 G8 hr b8 .nil FJ (AE (A8 (pv 1)) (AE (A8 (pv 1)) AI))))))))))))),?_⟩;obtain⟨dx,hi⟩:=g.ins
  cases x with
  |write n t=>obtain⟨ad,xs,rfl,h0,rr⟩:=Bv rx;obtain⟨u1,u2,u3,rfl,r1,r2,r3⟩:=Eo rr;cases r1;cases r2;cases r3;refine⟨_,rfl,ad,_,_,_,rfl,rfl,AU.of h0,B1 (j:=0) rfl,?_⟩;refine Jx rfl ?_;exact⟨_,rfl,a,dx,_,rfl,hi,rfl,_,rfl,ad,_,_,_,rfl,rfl,AU.of h0,B1 (j:=1) rfl,_,rfl,ad,_,_,_,rfl,rfl,AU.of h0,B1 (j:=2) rfl,a,d,n,t,h3,h2,rfl,g,nc,BJ h1.1 (by lia),BJ h1.2 (by lia),q⟩
  |rename n m=>obtain⟨ad,xs,rfl,h0,rr⟩:=Bv rx;obtain⟨u1,u2,u3,rfl,r1,r2,r3⟩:=Eo rr;cases r1;cases r2;cases r3;refine⟨_,rfl,ad,_,_,_,rfl,rfl,AU.of h0,B1 (j:=0) rfl,?_⟩;refine Be rfl (by left) ?_;refine Jx rfl ?_;exact⟨_,rfl,a,dx,_,rfl,hi,rfl,_,rfl,ad,_,_,_,rfl,rfl,AU.of h0,B1 (j:=1) rfl,_,rfl,ad,_,_,_,rfl,rfl,AU.of h0,B1 (j:=2) rfl,a,d,n,m,h3,h2,rfl,g,nc,BJ h1.2 (by lia),q⟩
  |join n m=>obtain⟨ad,xs,rfl,h0,rr⟩:=Bv rx;obtain⟨u1,u2,u3,rfl,r1,r2,r3⟩:=Eo rr;cases r1;cases r2;cases r3;refine⟨_,rfl,ad,_,_,_,rfl,rfl,AU.of h0,B1 (j:=0) rfl,?_⟩;refine Be rfl (by left) ?_;refine Be rfl (by left) ?_;refine Jx rfl ?_;exact⟨_,rfl,a,dx,_,rfl,hi,rfl,_,rfl,ad,_,_,_,rfl,rfl,AU.of h0,B1 (j:=1) rfl,_,rfl,ad,_,_,_,rfl,rfl,AU.of h0,B1 (j:=2) rfl,a,d,n,m,h3,h2,rfl,g,nc,q⟩
  |cut n pl m=>obtain⟨ad,xs,rfl,h0,rr⟩:=Bv rx;obtain⟨u1,u2,u3,u4,rfl,r1,r2,r3,r4⟩:=Px rr;cases r1;cases r2;cases r3;cases r4;refine⟨_,rfl,ad,_,_,_,rfl,rfl,AU.of h0,B1 (j:=0) rfl,?_⟩;refine Be rfl (by left) ?_;refine Be rfl (by left) ?_;refine Be rfl (by left) ?_;refine Jx rfl ?_;exact⟨_,rfl,a,dx,_,rfl,hi,rfl,_,rfl,ad,_,_,_,rfl,rfl,AU.of h0,B1 (j:=1) rfl,_,rfl,ad,_,_,_,rfl,rfl,AU.of h0,B1 (j:=2) rfl,_,rfl,ad,_,_,_,rfl,rfl,AU.of h0,B1 (j:=3) rfl,a,d,n,pl,m,h3,h2,rfl,g,nc,BJ h1.2 (by lia),q⟩
  |drop n=>obtain⟨ad,xs,rfl,h0,rr⟩:=Bv rx;obtain⟨u1,u2,rfl,r1,r2⟩:=Gv rr;cases r1;cases r2;refine⟨_,rfl,ad,_,_,_,rfl,rfl,AU.of h0,B1 (j:=0) rfl,?_⟩;refine Be rfl (by left) ?_;refine Be rfl (by left) ?_;refine Be rfl (by left) ?_;refine Be rfl (by left) ?_;refine Jx rfl ?_;exact⟨_,rfl,a,dx,_,rfl,hi,rfl,_,rfl,ad,_,_,_,rfl,rfl,AU.of h0,B1 (j:=1) rfl,a,d,n,h3,h2,rfl,g,nc,q⟩
  |text n=>
   obtain⟨ad,xs,rfl,h0,rr⟩:=Bv rx;obtain⟨u1,u2,rfl,r1,r2⟩:=Gv rr;cases r1;cases r2;refine⟨_,rfl,ad,_,_,_,rfl,rfl,AU.of h0,B1 (j:=0) rfl,?_⟩;refine Be rfl (by left) ?_;refine Be rfl (by left) ?_;refine Be rfl (by left) ?_;refine Be rfl (by left) ?_;refine Be rfl (by left) ?_;refine Jx rfl ?_;refine⟨_,rfl,a,dx,_,rfl,hi,rfl,_,rfl,ad,_,_,_,rfl,rfl,AU.of h0,B1 (j:=1) rfl,a,d,n,h3,h2,rfl,g,nc,fun ws hw H' s'=>?_,fun hw=>?_⟩
   ·have q':Out K cN cR H a d Q E (Gr h2 n):=q;unfold Gr at q';rw[hw] at q';exact q' H' h3 _ (Ex.sub.trans s') (g.same s') (.str _)
   ·have q':Out K cN cR H a d Q E (Gr h2 n):=q;unfold Gr at q';rw[hw] at q';exact q'
  |back n=>obtain⟨ad,xs,rfl,h0,rr⟩:=Bv rx;obtain⟨u1,u2,rfl,r1,r2⟩:=Gv rr;cases r1;cases r2;refine⟨_,rfl,ad,_,_,_,rfl,rfl,AU.of h0,B1 (j:=0) rfl,?_⟩;refine Be rfl (by left) ?_;refine Be rfl (by left) ?_;refine Be rfl (by left) ?_;refine Be rfl (by left) ?_;refine Be rfl (by left) ?_;refine Be rfl (by left) ?_;refine Jx rfl ?_;exact⟨_,rfl,a,dx,_,rfl,hi,rfl,_,rfl,ad,_,_,_,rfl,rfl,AU.of h0,B1 (j:=1) rfl,a,d,n,h3,h2,rfl,g,nc,h4,fun u H' s' r=>q H' h3 u (Ex.sub.trans s') (g.same s') r⟩
  |find ws h5=>obtain⟨ad,xs,rfl,h0,rr⟩:=Bv rx;obtain⟨u1,u2,u3,rfl,r1,r2,r3⟩:=Eo rr;cases r1;cases r3;refine⟨_,rfl,ad,_,_,_,rfl,rfl,AU.of h0,B1 (j:=0) rfl,?_⟩;refine Be rfl (by left) ?_;refine Be rfl (by left) ?_;refine Be rfl (by left) ?_;refine Be rfl (by left) ?_;refine Be rfl (by left) ?_;refine Be rfl (by left) ?_;refine Be rfl (by left) ?_;exact⟨_,rfl,a,dx,_,rfl,hi,rfl,_,rfl,ad,_,_,_,rfl,rfl,AU.of h0,B1 (j:=1) rfl,_,rfl,ad,_,_,_,rfl,rfl,AU.of h0,B1 (j:=2) rfl,a,d,u2,ws,h5,h3,h2,rfl,g,nc,h4,r2,h1.1,q⟩
noncomputable def Rs.next(AB:List Pg):Rs->List Pg
 |.no _=>AB
 |.ok _ p=>p
 |.un p=>p
noncomputable def Rs.J0:Rs->Option Dt
 |.no m=>some (.str m)
 |.ok r _=>some r
 |.un _=>none
def Zu(cN:Ya):Sp:=fun vs H Q _=>∃a d v x h2 h0,vs=[.ref a,v]/\CU cN H a d h2 h0/\C5 h0/\h0.length<64/\Rep H (Am.dt x) v/\x.Good/\
 ∀H' h1 u,AO (Ex H d) H'->CU cN H' a d h1 ((D6 h0 x).next h0)->(∀r,(D6 h0 x).J0=some r->Rep H' r u)->Q u H'
def CK:List Pg->List Am->List Pg
 |AB,[]=>AB
 |AB,x::xs=>CK ((D6 AB x).next AB) xs
def Rp(x:Am):∀(xs:List Am)(AB:List Pg),CK AB (xs++[x])=(D6 (CK AB xs) x).next (CK AB xs)
 |[],AB=>rfl
 |y::ys,AB=>Rp x ys _
def Small(AB:List Pg)(xs:List Am):Prop:=∀k,k<=xs.length->C5 (CK AB (xs.take k))/\(CK AB (xs.take k)).length<64
def Told(AB:List Pg)(xs:List Am)(H:Hp)(zs:List V):Prop:=∀(k:Nat)(x:Am)(v:V)(r:Dt),xs[k]? =some x->zs[k]? =some v->(D6 (CK AB (xs.take k)) x).J0=some r->Rep H r v
def T8(cN:Ya):Sp:=fun vs H Q _=>∃a d v xs h2 h0,vs=[.ref a,v]/\CU cN H a d h2 h0/\Rep H (.lst (xs.map Am.dt)) v/\(∀x∈xs,x.Good)/\xs.length<=1000/\Small h0 xs/\
 ∀H' h1 l zs,AO (Ex H d) H'->CU cN H' a d h1 (CK h0 xs)->H' l=some (.lst zs)->zs.length=xs.length->Told h0 xs H' zs->Q (.ref l) H'
def XC(hd:H d=some (.dK kk))(s:AO (Ex H d) H'){x:Dt}(r:Rep H x v):Rep H' x v:=(Mp hd r).same s
def Zc:A0 ["nook","deed","refusal"] ["nook","deed"] (Ao RW):=by left
def mU{fD:Ya}{fdD:rA}(F:Ai K "answer_deed" "answer_deed" RW f fd)(T:I0 K mg cR fR)(GD:AW P w K mg base (Ck P w) 6 fD fdD ["nook","deed"] (UM K cN cR))(bD:Binds K fdD ["nook","deed"] [])(mD:mg "do_deed" =some (.ref fD))(kD:rZ K (.ref fD)=true):
 AW P w K mg base Ag 7 f fd ["nook","deed"] (Zu cN):=by
 refine F.ok Zc ?_ ?_
 ·rintro _ _ _ _ ⟨_,_,_,_,_,_,rfl,_⟩;rfl
 ·rintro _ A _ s H _ Q E hr ⟨a,d,v,x,h3,h2,rfl,g,nc,h6,rx,h1,q⟩;refine⟨_,(AR (kh (tb:=fun E=>aM (Ng (UM K cN cR) [] E (Nf (Ew 0) (Nf (Ew 1) Ks)))) (i:=2) (Rc:=cR) Zc.nd rfl rfl (fun h4 W E hp=>AR (Al (Cp GD hr rfl mD kD bD .nil hp (AE (pv 0) (AE (pv 1) AI))))) rfl T.mR T.cat ⟨rfl,rfl⟩)),?_⟩;refine⟨_,rfl,_,rfl,a,d,v,x,h3,h2,rfl,g,nc,h6,rx,h1,?_⟩
  cases e:D6 h2 x with
  |no h5=>rw[e] at q;exact fun C D H' xs xa s' hD=>⟨C,D,h5,rfl,rfl,xs,xa,hD,q H' h3 _ (Ex.sub.trans s') (g.same s') fun r er=>by cases er;exact .str _⟩
  |ok r p=>rw[e] at q;exact fun H' h0 u s' g' rr=>q H' h0 u s' g' fun r er=>by cases er;exact rr
  |un p=>rw[e] at q;exact fun H' h0 u s' g'=>q H' h0 u s' g' fun r er=>by cases er
def oN:A0 ["nook","deeds"] ["nook","deeds"] (Ao Rh):=by left
def lX(F:Ai K "answer_all" "answer_all" Rh f fd)(HA:Hv P w K mg base "answer_deed" 7 ["nook","deed"] (Zu cN)):
 AW P w K mg base Ag 8 f fd ["nook","deeds"] (T8 cN):=by
 refine F.ok oN ?_ ?_
 ·rintro _ _ _ _ ⟨_,_,_,_,_,_,rfl,_⟩;rfl
 ·rintro _ A _ s H _ Q E hr ⟨a,d,v,xs,e0,h6,rfl,g,rx,h5,hz,DF,q⟩;refine⟨_,(AR (Al (EF (ts:=["deed"]) (cap:=["nook"]) (ix:=[0]) (Hg rfl rfl (by left) (by left) rfl rfl rfl rfl rfl) (FF (pv 1)) (fun _ _ _ _ _=>BY (i:=0) (FV (by left)) rfl (Aa rfl) (CP rfl))
   (fun _ _ _ _ _=>GC) (fun _ _ _ _ _=>Xl (Bz HA hr rfl A3 (AE (pv 1) (AE (pv 0) AI))))))),?_⟩;obtain⟨l,ys,rfl,hl,rr⟩:=EG rx;have h7:=g.Bg;have h9:l≠d:=Ca hl h7 (by intro z;cases z);have nD:∀D,H D=none->(Ex H d) D=none:=fun D hD=>by
   by_cases z:D=d
   ·rw[z];exact Gn
   ·unfold Ex;rw[AG z];exact hD
  refine⟨_,rfl,l,rfl,⟨_,AK.of hl⟩,fun D hD=>FA (xs:=ys) (fun i H'=>∃H0 zs h1,H'=upd H0 D (.lst zs)/\H0 D=none/\AO (Ex H d) H0/\CU cN H0 a d h1 (CK h6 (xs.take i))/\zs.length=i/\Told h6 xs H0 zs) ?_ (fun i H' _ c=>?_) (fun i x H' ex c=>?_) fun H' c=>?_⟩
  ·exact⟨H,[],e0,rfl,hD,Ex.sub,g,rfl,fun k x v r _ ev=>by cases ev⟩
  ·obtain⟨H0,zs,h1,rfl,h0,s0,_⟩:=c;have e:=s0 _ _ (Ex.at hl h9);exact AK.of (by rw[AQ (A2 e h0)];exact e)
  ·obtain⟨H0,zs,h1,rfl,h0,s0,g',rz,tl⟩:=c;obtain⟨x0,h3,h8⟩:=F9 rr ex;have hi:i<xs.length:=(BX.mp h3).1;obtain⟨nc,e3⟩:=DF i (by lia);have eE:Ex (upd H0 D (.lst zs)) D=H0:=by
    rw[Ex.upd];funext b;by_cases z:b=D
    ·rw[z,Ex.self,h0]
    ·rw[Ex.ne z]
   refine⟨E1,D,zs,AM,?_⟩;rw[eE];refine⟨_,rfl,_,rfl,a,d,x,x0,h1,_,rfl,g',nc,e3,XC h7 s0 h8,h5 x0 (Br h3),fun H2 h4 u s2 g2 r2 h2=>?_⟩;have e2:xs.take (i+1)=xs.take i++[x0]:=by rw[Di,h3];rfl
   refine⟨zs,AM,?_,H2,zs++[u],h4,by rw[KY],h2,(Ex.of_none s0 Gn).trans s2,by rw[e2,Rp];exact g2,?_,?_⟩
   ·rw[A9]
    lia
   ·rw[Au,Cf,rz]
   ·intro k y v r ey ev er;by_cases hk:k<zs.length
    ·rw[C3 hk] at ev;exact XC g'.Bg s2 (tl k y v r ey ev er)
    ·rw[Cn (by lia)] at ev;have e1:k=i:=by
      have:=(BX.mp ev).1;rw[Cf] at this
      lia
     subst e1;rw[rz,El] at ev;cases ev;rw[h3] at ey;cases ey;exact r2 r er
  ·obtain⟨H0,zs,h1,rfl,h0,s0,g',rz,tl⟩:=c;have e:ys.length=xs.length:=by have:=rr.1;rw[AL] at this;lia
   rw[e,CL] at g';have su:=AY (o:=.lst zs) h0;exact q _ h1 _ zs (s0.trans su) (g'.same su) AM (by lia) fun k x v r ex ev er=>(tl k x v r ex ev er).same su
abbrev bK:qu:=Ve
abbrev bf:qu:=Vs
def Ln(H:Hp)(as:List Ya)(rows:List (List Int)):Prop:=as.length=rows.length/\∀(i:Nat) a h0,as[i]? =some a->rows[i]? =some h0->H a=some (.lst (h0.map V.int))
variable{rows:List (List Int)}
def Ln.same{as:List Ya}(s:AO H H')(h:Ln H as rows):Ln H' as rows:=⟨h.1,fun i a h0 h1 h2=>s _ _ (h.2 i a h0 h1 h2)⟩
noncomputable def keysOf(q:Int×Nat):List Key:=[Sum.inl q.1,Sum.inl (q.2:Int)]
def JR(H:Hp)(l:List (Ya×Int×Nat)):Prop:=∀p∈l,H p.1=some (.tup [.int p.2.1,.int (p.2.2:Int)])
def JR.same{l:List (Ya×Int×Nat)}(s:AO H H')(h:JR H l):JR H' l:=fun p hp=>s _ _ (h p hp)
def bU(rows:List (List Int)):Prop:=rows.length<=9/\∀h0∈rows,h0.length<=100000
def aF:Sp:=fun vs H Q _=>∃(a:Ya)(as:List Ya)(h0:List (List Int)),vs=[.ref a]/\H a=some (.lst (as.map V.ref))/\Ln H as h0/\bU h0/\
 ∀(D:Ya)(l:List (Ya×Int×Nat))(H':Hp),AO H H'->H' D=some (.lst (l.map fun p=>V.ref p.1))->JR H' l->l.length<=900000->Q (.ref D) H'
noncomputable def L8:List Key->Int×Nat
 |[.inl a,.inl b]=>(a,b.toNat)
 |_=>(0,0)
def iK(q:Int×Nat):L8 (keysOf q)=q:=by show(q.1,(q.2:Int).toNat)=q;rw[IC]
def QH:A0 ["rows","marks","number","row"] ["rows"] (Ao bK):=by left
def nW(F:Ai K "places_in_order" "places_in_order" bK f fd)(hen:mg "enumerate" =none)(hso:mg "sorted" =none):AW P w K mg base Ag 1 f fd ["rows"] aF:=by
 refine F.ok QH ?_ ?_
 ·rintro _ _ _ _ ⟨_,_,_,rfl,_⟩;rfl
 ·rintro _ A _ s H _ Q E hr ⟨a,as,h2,rfl,ha,h0,h9,k⟩;refine⟨_,AS (Ax (i:=1) QH.nd rfl (Aa rfl) (Bt AI))
   (AS (DW DR rfl (YD rfl hen (AE (pv 0) AI)) (Na rfl (Hc (BY (i:=2) QH.nd rfl (CP rfl)) (Hc (BY (i:=3) QH.nd rfl (Aa rfl)) NK)))
    (AR (Bc (Iy Dh ux uy WX (pv 1)
     (AE (EF (ts:=["place"]) (cap:=["number"]) (ix:=[2]) (Hg rfl rfl (by left) (by left) rfl rfl rfl rfl rfl) (FF (pv 3))
      (fun _ _ _ _ _=>BY (i:=0) (FV (by left)) rfl (Aa rfl) (CP rfl)) (fun _ _ _ _ _=>GC) (fun _ _ _ _ _=>CA (AE (pv 0) (AE (pv 1) AI)))) AI)))))
   (AR (Al (BV Rn rfl hso JN (AE (pv 1) AI))))),?_⟩;refine⟨by exact zy,fun mr h7=>?_⟩;have e4:a≠mr:=A2 ha h7;refine⟨_,rfl,a,rfl,⟨_,AK.of (by rw[AQ e4];exact ha)⟩,?_⟩;refine gf (K:=K) (a:=a) (xs:=as.map V.ref) (fun i σ H'=>∃(v2 v3:Option V)(l:List (Ya×Int×Nat)),σ=[some (.ref a),some (.ref mr),v2,v3]/\AO H H'/\H' mr=some (.lst (l.map fun p=>V.ref p.1))/\JR H' l/\l.length<=i*100000)
   ⟨none,none,[],rfl,(AO.refl H).upd h7,AM,fun p hp=>(by cases hp),CN _⟩ (fun i σ H' _ ⟨_,_,_,_,sm,_⟩=>AK.of (sm _ _ ha)) ?_ ?_
  ·rintro i x p σ H' hx hp ⟨v2,v3,l,rfl,sm,hm,pl,el⟩;rw[Az] at hx
   cases ea:as[i]?with
   |none=>rw[ea] at hx;cases hx
   |some ai=>
   rw[ea] at hx;obtain rfl:V.ref ai=x:=Af hx;have hi:i<h2.length:=by rw[<-h0.1];exact(BX.mp ea).1
   have er:h2[i]? =some h2[i]:=Ar hi;generalize h2[i]=h3 at er;have e2:H ai=some (.lst (h3.map V.int)):=h0.2 i ai h3 ea er;have s1:AO H' (upd H' p (.tup [.int (i:Int),.ref ai])):=AY hp;have e7:=h9.2 _ (Br er);have N6:=h9.1;refine⟨p,_,rfl,AU.of AM,rfl,_,_,rfl,_,_,rfl,rfl,?_⟩;have h8:=s1 _ _ hm;refine⟨_,rfl,.inl ⟨rfl,_,AK.of h8⟩,_,rfl,ai,rfl,⟨_,AK.of ((sm.trans s1) _ _ e2)⟩,fun D hD=>?_⟩;have e6:mr≠D:=A2 h8 hD;refine FA (K:=K) (xs:=h3.map V.int) (fun j H2=>∃t:List (Ya×Int×Nat),AO (upd H' p (.tup [.int (i:Int),.ref ai])) H2/\H2 D=some (.lst (t.map fun p=>V.ref p.1))/\JR H2 t/\t.length<=j)
    ⟨[],AY hD,AM,fun p hp=>(by cases hp),CN _⟩ (fun j H2 _ ⟨_,s2,_⟩=>AK.of (s2 _ _ ((sm.trans s1) _ _ e2))) ?_ ?_
   ·rintro j y H2 hy ⟨t,s2,h5,pt,et⟩;rw[Az] at hy
    cases ey:h3[j]?with
    |none=>rw[ey] at hy;cases hy
    |some z=>
    rw[ey] at hy;obtain rfl:V.int z=y:=Af hy;have hj:j<h3.length:=(BX.mp ey).1;refine⟨E1,_,rfl,_,rfl,by exact zw,fun tp h6=>⟨t.map fun p=>V.ref p.1,(AY h6) _ _ h5,by rw[AL,A9];lia,t++[(tp,z,i)],(s2.upd (s2.free h6)).upd hD,?_,fun q hq=>?_,?_⟩⟩
    ·rw[AM,BG];rfl
    ·have e5:tp≠D:=(A2 h5 h6).symm;rcases Bp.mp hq with e|e
     ·have h1:=pt q e;rw[AQ (Ca h1 h5 (by intro zz;cases zz)),AQ (A2 h1 h6)];exact h1
     ·rw[Bk.mp e,AQ e5,AM]
    ·rw[Au,Cf]
     lia
   ·rintro H2 ⟨t,s2,h5,pt,et⟩;rw[AL] at et;have e1:=s2 _ _ h8;refine⟨mr,D,_,_,rfl,rfl,e1,h5,by rw[AL,AL,A9];lia,some (.int (i:Int)),some (.ref ai),l++t,rfl,(sm.trans (s1.trans s2)).upd h7,?_,fun q hq=>?_,?_⟩
    ·rw[AM,BG]
    ·have h1:H2 q.1=some (.tup [.int q.2.1,.int (q.2.2:Int)]):=by
      rcases Bp.mp hq with e|e
      ·exact(s1.trans s2) _ _ (pl q e)
      ·exact pt q e
     rw[AQ (Ca h1 e1 (by intro zz;cases zz))];exact h1
    ·rw[Au,Nat.succ_mul]
     lia
  ·rintro σ H' ⟨v2,v3,l,rfl,sm,hm,pl,el⟩;rw[AL,h0.1] at el;have N6:=h9.1;refine⟨_,rfl,mr,l.map (fun p=>(p.1,keysOf p.2)),[true,true],rfl,AK.of (by rw[hm,Ba];rfl),by simp,fun q hq=>?_,by rw[AL];lia,fun D qs hD h4 e0=>?_⟩
   ·obtain⟨p,hp,e⟩:=BZ.mp hq;rw[<-e];exact⟨pl p hp,rfl⟩
   ·have p2:(qs.map fun q=>(q.1,L8 q.2)).Perm l:=by
     have:=h4.map fun q=>(q.1,L8 q.2);rw[Ba] at this;have e3:l.map ((fun q:Ya×List Key=>(q.1,L8 q.2))∘fun p:Ya×Int×Nat=>(p.1,keysOf p.2))=l:=by
      conv=>rhs;rw[<-Ov l]
      refine Ek fun p hp=>?_;show(p.1,L8 (keysOf p.2))=p;rw[iK]
     rw[e3] at this;exact this
    refine k D (qs.map fun q=>(q.1,L8 q.2)) _ (sm.upd (sm.free hD)) ?_ (fun q hq=>?_) ?_
    ·rw[AM,Ba];rfl
    ·have h1:=pl q (p2.mem_iff.mp hq);rw[AQ (A2 h1 hD)];exact h1
    ·rw[p2.length_eq]
     lia
noncomputable def aL:Option Int->V
 |none=>.BA
 |some m=>.int m
def aQ:Sp:=fun vs H Q _=>∃(a:Ya)(as:List Ya)(h0:List (List Int)),vs=[.ref a]/\H a=some (.lst (as.map V.ref))/\Ln H as h0/\bU h0/\
 ∀(b:Option Int)(H':Hp),AO H H'->Q (aL b) H'
def il(h:∀q∈AD,∃n,q.2=V.int n)(k:Key)(p:Int):∀q∈putK AD k (V.int p),∃n,q.2=V.int n:=fun q hq=>by
 unfold putK at hq;split at hq
 ·obtain⟨z,hz,e⟩:=BZ.mp hq;split at e
  ·exact⟨p,by rw[<-e]⟩
  ·rw[<-e];exact h z hz
 ·rcases Bp.mp hq with e|e
  ·exact h q e
  ·exact⟨p,by rw[Bk.mp e]⟩
def gV(AD:List (Key×V))(k:Key)(v:V):putK AD k v≠[]:=fun z=>by have:=iR AD k k v;rw[z,AH rfl] at this;cases this
def Yb:∀{AD:List (Key×V)},(∀q∈AD,∃n,q.2=V.int n)->∃ns:List Int,AD.map (·.2)=ns.map V.int
 |[],_=>⟨[],rfl⟩
 |q::AD,h=>by obtain⟨ns,e⟩:=Yb fun z hz=>h z (DG _ hz);obtain⟨n,en⟩:=h q EB;exact⟨n::ns,by rw[Av,e,en];rfl⟩
def Kn:A0 ["rows","latest","best","place","number","length"] ["rows"] (Ao bf):=by left
def di:DO X (.builtin "len") (fun xs H Q=>∃a AD,xs=[V.ref a]/\H a=some (.dK AD)/\Q (.int AD.length) H):=by intro h0 s σ H xs us Q I r h;obtain⟨a,AD,rfl,ha,q⟩:=h;obtain⟨u,rfl,ru⟩:=vals1 r;cases ru;exact nZ I (.inl ha) fun t s' I'=>⟨.int AD.length,H,I',⟨t,rfl⟩,q⟩
def nr(F:Ai K "shortest" "shortest" bf f fd)(HP:Hv P w K mg base "places_in_order" 1 ["rows"] aF)
 (hlen:mg "len" =none)(hmin:mg "min" =none):AW P w K mg base Ag 2 f fd ["rows"] aQ:=by
 refine F.ok Kn ?_ ?_
 ·rintro _ _ _ _ ⟨_,_,_,rfl,_⟩;rfl
 ·rintro _ A _ s H _ Q E hr ⟨a,as,h5,rfl,ha,h3,s3,k⟩;have hu:=CZ hr;refine⟨_,AS (Ax (i:=1) Kn.nd rfl (Aa rfl) O4)
   (AS (Ax (i:=2) Kn.nd rfl (Aa rfl) mB)
   (AS (DW DR rfl (FF (Bz HP hr rfl A3 (AE (pv 0) AI))) (Na rfl (Hc (BY (i:=3) Kn.nd rfl (Aa rfl)) (Hc (BY (i:=4) Kn.nd rfl (Aa rfl)) NK)))
    (AS (Fj hu (pv 1) (pv 4) (pv 3) rfl)
    (AR (A1 (Aw BQ (BV di rfl hlen DH (AE (pv 1) AI)) (BV Io rfl hlen DH (AE (pv 0) AI)) (Ap _))
     (AS (Ax (i:=5) Kn.nd rfl (Aa rfl) (An Dk (An Tp (pv 3) (BV (f9 rfl) rfl hmin boot_min (AE (NS MN VE ur WA (pv 1)) AI))) Ac))
     (AR (A1 (PW.pt (Jh (JZ (mC (pv 2))) (JW (Aw Jb (pv 5) (pv 2) (Ap _))))) (AR (Ax (i:=2) Kn.nd rfl (Aa rfl) (pv 5))) BD)))
     BD))))
   (AR (Al (pv 2))))),?_⟩;intro d hd;have s4:a≠d:=A2 ha hd;have s0:AO H (upd H d (.dK [])):=AY hd;refine⟨_,rfl,a,as,h5,rfl,s0 _ _ ha,h3.same s0,s3,fun D l H1 s1 hD pl s6=>?_⟩;have s2:H1 d=some (.dK []):=s1 _ _ AM;refine⟨D,rfl,⟨_,AK.of hD⟩,?_⟩;refine He (K:=K) (a:=D) (xs:=l.map fun p=>V.ref p.1) (fun i σ H'=>∃(b:Option Int)(v3 v4 v5:Option V)(h1:List (Key×V)),σ=[some (.ref a),some (.ref d),some (aL b),v3,v4,v5]/\AO H H'/\H' D=some (.lst (l.map fun p=>V.ref p.1))/\JR H' l/\H' d=some (.dK h1)/\
   (∀q∈h1,∃n,q.2=V.int n)/\h1.length<=i) ⟨none,none,none,none,[],rfl,s0.trans s1,hD,pl,s2,fun q hq=>(by cases hq),Ad 0⟩ (fun i σ H' _ ⟨_,_,_,_,_,_,_,h,_⟩=>AK.of h) ?_ ?_
  ·rintro i x σ H' hx ⟨b,v3,v4,v5,h1,rfl,sm,e7,e1,e3,iz,e9⟩;rw[Az] at hx
   cases el:l[i]?with
   |none=>rw[el] at hx;cases hx
   |some q=>
   rw[el] at hx;obtain rfl:V.ref q.1=x:=Af hx;have hi:i<l.length:=(BX.mp el).1;obtain⟨ad,p,r⟩:=q;have hq:=e1 _ (Br el);have h7:=il iz (Sum.inl (r:Int)) p;have e2:=Oo h1 (Sum.inl (r:Int)) (V.int p);have e0:=gV h1 (Sum.inl (r:Int)) (V.int p);refine⟨ad,_,rfl,AU.of hq,rfl,_,_,rfl,_,_,rfl,rfl,?_⟩;refine⟨_,rfl,_,rfl,_,rfl,d,_,rfl,Dr.kq (k:=Sum.inl (r:Int)) e3 (by rw[A9];lia),?_⟩;generalize s8:putK h1 (Sum.inl (r:Int)) (V.int p)=h0 at h7 e2 e0;have h2:(upd H' d (.dK h0)) d=some (.dK h0):=AM;have e6:∀b o,H' b=some o->(∀z,o≠.dK z)->(upd H' d (.dK h0)) b=some o:=fun b o h hz=>by rw[AQ (Ca h e3 (hz h1))];exact h
   have h6:AO H (upd H' d (.dK h0)):=sm.upd hd;have h9:=e6 D _ e7 (by intro z zz;cases zz);have h8:JR (upd H' d (.dK h0)) l:=fun y hy=>e6 _ _ (e1 y hy) (by intro z zz;cases zz);generalize upd H' d (.dK h0)=H2 at h2 h6 h9 h8;refine⟨_,rfl,d,h0,rfl,h2,_,rfl,a,_,rfl,.inl (AK.of (h6 _ _ ha)),rfl,_,rfl,?_⟩;have e8:((as.map V.ref).length:Nat)=h5.length:=by rw[AL];exact h3.1
   by_cases h4:h0.length=h5.length
   ·refine Bu (by rw[e8,h4]) ?_;obtain⟨ns,hv⟩:=Yb h7;have e0:ns≠[]:=by rintro rfl;exact e0 (List.map_eq_nil_iff.mp hv)
    refine⟨_,rfl,_,rfl,.inr (.inr (.inl ⟨rfl,.inl ⟨_,h2⟩⟩)),d,h0,rfl,rfl,h2,fun vp e4=>⟨vp,d,h0,ns,rfl,AM,(AY e4) _ _ h2,hv,e0,fun mn s5 s7=>⟨_,_,rfl,rfl,_,_,rfl,rfl,?_⟩⟩⟩;have sv:AO H2 (upd H2 vp (Hq vp d)):=AY e4;generalize upd H2 vp (Hq vp d)=H3 at sv
    cases b with
    |none=>refine⟨_,rfl,_,rfl,Bu rfl (Bi ⟨_,rfl,?_⟩)⟩;exact⟨some (p-mn+1),_,_,_,h0,rfl,h6.trans sv,sv _ _ h9,h8.same sv,sv _ _ h2,h7,by lia⟩
    |some b0=>
     refine⟨_,rfl,_,rfl,CJ (by intro z;cases z) ⟨_,rfl,_,rfl,_,_,rfl,rfl,_,rfl,?_⟩⟩;by_cases e5:p-mn+1<b0
     ·refine Bu e5 ⟨_,rfl,?_⟩;exact⟨some (p-mn+1),_,_,_,h0,rfl,h6.trans sv,sv _ _ h9,h8.same sv,sv _ _ h2,h7,by lia⟩
     ·refine CJ e5 ?_;exact⟨some b0,_,_,_,h0,rfl,h6.trans sv,sv _ _ h9,h8.same sv,sv _ _ h2,h7,by lia⟩
   ·refine CJ (by rw[e8];intro z;exact h4 (by have:=V.int.inj z;lia)) ?_;exact⟨b,_,_,_,h0,rfl,h6,h9,h8,h2,h7,by lia⟩
  ·rintro σ H' ⟨b,v3,v4,v5,h1,rfl,sm,e7,e1,e3,iz,e9⟩;exact⟨_,rfl,k b H' sm⟩
def rowsOf(ws:List PR)(pl:List Str):List (List Int):=pl.map fun z=>Et z 0 ws
def W5:∀(ws σ:List Str),(Ft σ ws).length<=σ.length+ws.length
 |[],σ=>by simp[Ft]
 |z::ws,σ=>by
  have h1:=W5 ws (FR σ z);have h2:=Xr σ z;rw[Ft,CD]
  lia
def kT{zs:List V}(r:Ab H (rows.map fun r=>Dt.lst (r.map Dt.int)) zs):∃as,zs=as.map V.ref/\Ln H as rows:=by
 have h3:∀(i:Nat) v,zs[i]? =some v->∃a h0,v=.ref a/\rows[i]? =some h0/\H a=some (.lst (h0.map V.int)):=fun i v e=>by obtain⟨h0,er,rd⟩:=F9 r e;obtain⟨a,xs,rfl,ha,rr⟩:=EG rd;rw[R9 rr] at ha;exact⟨a,h0,rfl,er,ha⟩
 refine⟨zs.map fun v=>match v with|.ref a=>a|_=>0,?_,?_,fun i a h0 h1 h2=>?_⟩
 ·rw[Ba];conv=>lhs;rw[<-Ov zs]
  refine Ek fun v hv=>?_;obtain⟨i,hi⟩:=Qr hv;obtain⟨a,_,rfl,_⟩:=h3 i v hi;rfl
 ·have:=r.1;rw[AL] at this;rw[AL,this]
 ·rw[Az] at h1
  cases e:zs[i]?with
  |none=>rw[e] at h1;cases h1
  |some v=>rw[e] at h1;obtain⟨b,h4,rfl,e2,hb⟩:=h3 i v e;rw[h2] at e2;cases Af e2;cases Af h1;exact hb
def eF(hK:X.K=K):DO X (.builtin "len") (fun xs H Q=>∃p ys,xs=[.ref p]/\(AK K H p ys\/AU K H p ys)/\Q (.int ys.length) H):=by subst hK;exact Io
def ZC:Sp:=fun vs H Q _=>∃d v h0 h2 h1,∃ws:List Str,vs=[.ref d,v,.int h0]/\H d=some (.dK (Aq h2))/\Df H h2 h1/\Jz h1/\Rep H (.tup (ws.map Dt.str)) v/\ws.length<=9/\∀H' u,AO H H'->Q u H'
def ku{o:HO}(s:AO H H'):AO (Ex H d) (upd H' d o):=fun b u e=>by
 by_cases z:b=d
 ·rw[z,Ex.self] at e;cases e
 ·rw[Ex.ne z] at e;rw[AQ z];exact s _ _ e
def pq{y:Str}{a b c:V}:JB [x,y,z] [] σ [some a,some b,some c]:=⟨[some a,some b,some c],rfl,rfl⟩
def Ja:A0 ["pages","wanted","near","plains","found","page","words","rows","length","places"] ["pages","wanted","near"] (Ao Rf):=by left
def ke:rL "set" =some (.type "set"):=by left
def lg:((["length","places","page"]:List Str)++([]:List Str)).Nodup:=by left
def jX(F:Ai K "pages_near" "pages_near" Rf f fd)(O:Gw mg)
 (HP:Hv P w K mg base "places_of" 1 ["words","plain"] Zs)
 (HS:Hv P w K mg base "shortest" 2 ["rows"] aQ):AW P w K mg base Ag 3 f fd ["pages","wanted","near"] ZC:=by
 obtain⟨_,_,GP,bP,mP,kP⟩:=HP.ex;refine F.ok Ja ?_ ?_
 ·rintro _ _ _ _ ⟨_,_,_,_,_,_,rfl,_⟩;rfl
 ·rintro _ A _ s H _ Q E hr ⟨d,v,s8,h8,h9,ws,rfl,hd,g,q0,rv,b8,q⟩;have b9:=CZ hr;refine⟨_,(AS (Ax (i:=3) Ja.nd rfl (Aa rfl) (BV (dH (P:=P) (w:=w) rfl rfl rfl) rfl O.so JN (AE (ED (fC (P:=P) (w:=w) (K:=K) rfl rfl rfl rfl) rfl O.set ke (AE (pv 1) AI)) AI)))
   (AS (Ax (i:=4) Ja.nd rfl (Aa rfl) (Bt AI))
   (AS (jx (DW DR rfl (Xp (NS MN VG uu XU (pv 0))) (Na rfl (Hc (BY (i:=5) Ja.nd rfl (Aa rfl)) (Hc (BY (i:=6) Ja.nd rfl (CP rfl)) NK)))
    (AS (YH (i:=7) (ts:=["plain"]) (cap:=["words"]) (ix:=[6]) (Hg rfl rfl (by left) (by left) rfl rfl rfl rfl rfl) Ja.nd rfl rfl (FF (pv 3))
     (fun _ _ _ _ _=>BY (i:=0) (FV (by left)) rfl (Aa rfl) (CP rfl)) (fun _ _ _ _ _=>GC) (fun _ _ _ _ _=>Xl (Cp (GP.mono (by decide:1<=2)) hr rfl mP kP bP .nil A3 (AE (pv 1) (AE (pv 0) AI)))))
    (AS (Ax (i:=8) Ja.nd rfl (Aa rfl) (Bz HS hr rfl A3 (AE (pv 7) AI)))
    (AR (A1 (PW.pt (FH (JZ (kE (pv 8))) (Gm (Aw nS (pv 8) (pv 2) (Ap _)))))
     (AS (Ax (i:=9) Ja.nd rfl (Aa rfl) (BV (Wi rfl) rfl O.sum uq (AE (EF (ts:=["row"]) (cap:=[]) (ix:=[]) (cl:=[]) (KJ rfl rfl (by left) (by left)) (FF (pv 7))
      (fun _ _ _ _ _=>BY (i:=0) N4 rfl (Aa rfl) (CP rfl)) (fun _ _ _ _ _=>GC) (fun _ _ _ _ _=>BV (eF (K:=K) rfl) rfl O.len DH (AE (pv 0) AI))) AI)))
     (AR (Bc (Iy Dh Ei Eh EE (pv 4) (AE (CA (AE (pv 8) (AE (EI EH (pv 9)) (AE (pv 5) AI)))) AI))))) BD))))))
   (AR (Al (EF (ts:=["length","places","page"]) (cap:=[]) (ix:=[]) (cl:=[]) (KJ rfl rfl (by left) (by left)) (FF (BV Rn rfl O.so JN (AE (pv 4) AI)))
    (fun _ _ _ _ _=>kG (K:=K) (i:=0) (j:=1) (l:=2) rfl rfl lg rfl (Aa rfl) (CP rfl) rfl (Aa rfl) (CP rfl) rfl (Aa rfl) (CP rfl)) (fun _ _ _ _ _=>GC) (fun _ _ _ _ _=>CA (AE (pv 2) (AE (pv 0) AI))))))))),?_⟩;obtain⟨av,xs,rfl,ha,rr⟩:=Bv rv;rw[LW rr] at ha;refine⟨_,rfl,av,ws,rfl,AU.of ha,by lia,fun Dz hz=>⟨Dz,Ft [] ws,rfl,AM,fun Dp ys b4 pz sz=>?_⟩⟩;have r8:=W5 ws [];rw[<-pz.length_eq,HZ,Nat.zero_add] at r8;have s1:AO H (upd (upd H Dz (MB P w Dz (Ft [] ws))) Dp (.lst (ys.map V.str))):=(AY hz).trans (AY b4);have t6:(upd (upd H Dz (MB P w Dz (Ft [] ws))) Dp (.lst (ys.map V.str))) Dp=some (.lst (ys.map V.str)):=AM;refine⟨by exact zy,fun fo r6=>?_⟩;have s2:=s1.trans (AY (o:=.lst []) r6);have q2:=(AY (o:=.lst []) r6) _ _ t6;have q5:(upd (upd (upd H Dz (MB P w Dz (Ft [] ws))) Dp (.lst (ys.map V.str))) fo (.lst [])) fo=some (.lst []):=AM;have b0:H fo=none:=s1.free r6;have a6:Dp≠fo:=A2 t6 r6;generalize upd (upd (upd H Dz (MB P w Dz (Ft [] ws))) Dp (.lst (ys.map V.str))) fo (.lst [])=H2 at s2 q2 q5;have e8:=s2 _ _ hd;refine⟨d,Aq h8,e8,_,rfl,.inr (.inr (.inl ⟨rfl,.inl ⟨_,e8⟩⟩)),d,_,rfl,rfl,e8,fun p hp=>⟨p,d,Aq h8,rfl,AM,by rw[AQ (A2 e8 hp)];exact e8,fun o=>?_⟩⟩;have gE:=g.ex hd;have sE:AO (Ex H d) (upd (upd H2 p (IM p d)) d (.BR o (.dK (Aq h8)))):=ku (s2.trans (AY hp));have a5:Dp≠d:=Ca q2 e8 (by intro z;cases z);have r4:fo≠d:=Ca q5 e8 (by intro z;cases z);have a9:(upd (upd H2 p (IM p d)) d (.BR o (.dK (Aq h8)))) Dp=some (.lst (ys.map V.str)):=by rw[AQ a5];exact(AY hp) _ _ q2
  have b1:(upd (upd H2 p (IM p d)) d (.BR o (.dK (Aq h8)))) fo=some (.lst []):=by rw[AQ r4];exact(AY hp) _ _ q5
  refine ee (fun i σ H'=>∃(v5 v6 v7 v8 v9:Option V)(l:List (Ya×List Key)),σ=[some (.ref d),some (.ref av),some (.int s8),some (.ref Dp),some (.ref fo),v5,v6,v7,v8,v9]/\AO (Ex H d) H'/\H' d=some (.BR o (.dK (Aq h8)))/\H' Dp=some (.lst (ys.map V.str))/\
   H' fo=some (.lst (l.map fun p=>V.ref p.1))/\(∀q∈l,H' q.1=some (.tup (q.2.map kV))/\∃m c n,q.2=[.inl m,.inl c,.inr n])/\l.length<=i) ⟨none,none,none,none,none,[],rfl,sE,AM,a9,b1,fun q hq=>(by cases hq),Ad 0⟩ (fun i σ H' ⟨_,_,_,_,_,_,_,_,h,_⟩=>h) ?_ ?_
  ·rintro i k x pr σ H' ex a8 ⟨v5,v6,v7,v8,v9,l,rfl,sm,r7,t5,q4,hl,el⟩;obtain⟨n,a0,rfl⟩:=Pn ex;have hi:i<h9.length:=by rw[<-g.len];exact(BX.mp a0).1
   have ep:h9[i]? =some h9[i]:=Ar hi;obtain⟨en,r2⟩:=gE.row i _ _ a0 ep;have en:n=h9[i].1:=en;have r2:Rep (Ex H d) (DQ h9[i].2) x:=r2;have wl:h9[i].2.length<=100000:=q0.short _ (F1 hi);generalize h9[i]=pg at ep en r2 wl;have s3:AO H' (upd H' pr (.tup [kV (Sum.inr n),x])):=AY a8;refine⟨pr,_,rfl,AU.of AM,rfl,_,_,rfl,_,_,rfl,rfl,?_⟩;generalize upd H' pr (.tup [kV (Sum.inr n),x])=H3 at s3;have q8:=sm.trans s3;have e4:=s3 _ _ t5;refine⟨_,rfl,Dp,rfl,⟨_,AK.of e4⟩,fun D hD=>FA (xs:=ys.map V.str) (fun j H4=>∃H0 zs,H4=upd H0 D (.lst zs)/\H0 D=none/\AO H3 H0/\Ab H0 ((rowsOf pg.2 (ys.take j)).map fun r=>Dt.lst (r.map Dt.int)) zs) ?_ (fun j H4 _ c=>?_) (fun j y H4 h6 c=>?_) fun H4 c=>?_⟩
   ·exact⟨H3,[],rfl,hD,AO.refl _,Ab.nil⟩
   ·obtain⟨H0,zs,rfl,h0,s0,_⟩:=c;have e:=s0 _ _ e4;exact AK.of (by rw[AQ (A2 e h0)];exact e)
   ·obtain⟨H0,zs,rfl,h0,s0,rz⟩:=c;rw[Az] at h6
    cases ez:ys[j]?with
    |none=>rw[ez] at h6;cases h6
    |some z=>
    rw[ez] at h6;obtain rfl:V.str z=y:=Af h6;have eE:Ex (upd H0 D (.lst zs)) D=H0:=by
     rw[Ex.upd];funext b;by_cases c:b=D
     ·rw[c,Ex.self,h0]
     ·rw[Ex.ne c]
    refine⟨E1,D,zs,AM,?_⟩;rw[eE];refine⟨_,rfl,_,rfl,x,pg.2,z,rfl,r2.same (q8.trans s0),wl,fun u H5 s5 ru h5=>?_⟩;refine⟨zs,AM,?_,H5,zs++[u],by rw[KY],h5,s0.trans s5,?_⟩
    ·have h1:=rz.1;unfold rowsOf at h1;rw[AL,AL] at h1;have h2:=EV j ys;rw[A9]
     lia
    ·have e2:rowsOf pg.2 (ys.take (j+1))=rowsOf pg.2 (ys.take j)++[Et z 0 pg.2]:=by unfold rowsOf;rw[Di,ez,BG];rfl
     rw[e2,BG];exact(rz.same s5).snoc ru
   ·obtain⟨H0,zs,rfl,h0,s0,rz⟩:=c;rw[AL,CL] at rz;obtain⟨as,rfl,ra⟩:=kT rz;have s4:AO H0 (upd H0 D (.lst (as.map V.ref))):=AY h0;have q7:(upd H0 D (.lst (as.map V.ref))) D=some (.lst (as.map V.ref)):=AM;have r3:=ra.same s4;have t0:=s0.trans s4;generalize upd H0 D (.lst (as.map V.ref))=H4 at s4 q7 r3 t0;have rl:(rowsOf pg.2 ys).length=ys.length:=by unfold rowsOf;rw[AL]
    have t1:∀row∈rowsOf pg.2 ys,row.length<=100000:=fun row a7=>by obtain⟨z,_,rfl⟩:=BZ.mp a7;exact BJ (Sb z pg.2 0) wl
    generalize rowsOf pg.2 ys=h7 at r3 rl t1 rz ra;refine⟨_,rfl,D,as,h7,rfl,q7,r3,⟨by lia,t1⟩,fun b7 H5 s5=>?_⟩;have e9:=t0.trans s5;have e7:=(s3.trans e9) _ _ r7;have e3:=e9 _ _ e4;have e6:=(s3.trans e9) _ _ q4;have r5:∀q∈l,H5 q.1=some (.tup (q.2.map kV))/\∃m c n,q.2=[.inl m,.inl c,.inr n]:=fun q hq=>⟨(s3.trans e9) _ _ (hl q hq).1,(hl q hq).2⟩;have r9:=q8.trans e9
    cases b7 with
    |none=>refine⟨_,rfl,_,rfl,D7 rfl ?_⟩;exact⟨_,_,_,_,_,l,rfl,r9,e7,e3,e6,r5,by lia⟩
    |some m=>
     refine⟨_,rfl,_,rfl,Fp (by intro z;cases z) ⟨_,rfl,_,rfl,_,_,rfl,rfl,_,rfl,?_⟩⟩;by_cases t7:m<=s8
     ·refine Bu t7 ?_;have t8:=s5 _ _ q7;have q1:=r3.same s5;refine⟨_,rfl,D,rfl,⟨_,AK.of t8⟩,fun D2 b6=>FA (xs:=as.map V.ref) (fun j H6=>CI H5 D2 (((h7.take j).map fun r=>(r.length:Int)).map Dt.int) H6) (CI.start b6) (fun j H6 _ c=>AK.of (c.same _ _ t8)) (fun j y H6 h6 c=>?_) fun H6 c=>?_⟩
      ·rw[Az] at h6
       cases ea:as[j]?with
       |none=>rw[ea] at h6;cases h6
       |some aj=>
       rw[ea] at h6;obtain rfl:V.ref aj=y:=Af h6;have hj:j<h7.length:=by rw[<-q1.1];exact(BX.mp ea).1
       have t9:h7[j]? =some h7[j]:=Ar hj;have b2:=c.same _ _ (q1.2 j aj _ ea t9);refine⟨E1,_,rfl,aj,_,rfl,.inl (AK.of b2),?_⟩;rw[JK (f:=fun r:List Int=>(r.length:Int)) t9,BG,AL];refine c.push (.int _) ?_;rw[AL,AL];have:=EV j h7
       lia
      ·rw[AL,q1.1,CL] at c;obtain⟨z2,t2,a3⟩:=c.lst;rw[R9 a3] at t2;have s6:=c.same;have e5:=s6 _ _ e6;have h4:=q0.Dg;refine⟨D2,_,rfl,AK.of t2,_,rfl,.inl ⟨rfl,_,AK.of e5⟩,_,rfl,_,rfl,_,rfl,_,rfl,by exact zv,fun tp s9=>?_⟩;have st:=AY (o:=.tup [.int m,.int (-(((h7.map fun r=>(r.length:Int))).sum)),kV (Sum.inr n)]) s9;have r1:=st _ _ e5;have s7:=s6.trans st;have hE:(Ex H d) fo=none:=by rw[Ex.ne r4];exact b0
       have a4:tp≠fo:=(A2 e5 s9).symm;refine⟨fo,_,_,rfl,rfl,r1,by rw[AL,A9];lia,?_⟩;refine⟨_,_,_,_,_,l++[(tp,[.inl m,.inl (-((h7.map fun r=>(r.length:Int)).sum)),.inr pg.1])],rfl,(r9.trans s7).upd hE,by rw[AQ r4.symm];exact s7 _ _ e7,by rw[AQ a6];exact s7 _ _ e3,?_,fun q hq=>?_,?_⟩
       ·rw[AM,BG];rfl
       ·rcases Bp.mp hq with e|e
        ·have h1:=s7 _ _ (r5 q e).1;rw[AQ (Ca h1 r1 (by intro z;cases z))];exact⟨h1,(r5 q e).2⟩
        ·rw[Bk.mp e,AQ a4,AM,en];exact⟨rfl,_,_,_,rfl⟩
       ·rw[Au,Cf]
        lia
     ·refine CJ t7 ?_;exact⟨_,_,_,_,_,l,rfl,r9,e7,e3,e6,r5,by lia⟩
  ·rintro σ H' ⟨v5,v6,v7,v8,v9,l,rfl,sm,r7,t5,q4,hl,el⟩;have e0:(Aq h8).length=h9.length:=by show(h8.map _).length=_;rw[AL];exact g.len
   rw[e0] at el;refine⟨o,r7,?_⟩;have sH:AO H (upd H' d (.dK (Aq h8))):=fun b u e=>by
    by_cases z:b=d
    ·subst z;rw[hd] at e;cases e;exact AM
    ·rw[AQ z];exact sm b u (Ex.at e z)
   have r0:(upd H' d (.dK (Aq h8))) fo=some (.lst (l.map fun p=>V.ref p.1)):=by rw[AQ r4];exact q4
   have q3:∀q∈l,(upd H' d (.dK (Aq h8))) q.1=some (.tup (q.2.map kV)):=fun q hq=>by have h1:=(hl q hq).1;rw[AQ (Ca h1 r7 (by intro z;cases z))];exact h1
   generalize upd H' d (.dK (Aq h8))=HA at sH r0 q3;have q9:=fun q hq=>(hl q hq).2;have h4:=q0.Dg;refine⟨_,rfl,fo,l,[true,true,false],rfl,AK.of r0,by simp,fun q hq=>⟨q3 q hq,?_⟩,by lia,fun Ds qs b3 e1 t3=>?_⟩
   ·obtain⟨m,c,n,e⟩:=q9 q hq;rw[e];rfl
   have sB:=AY (o:=.lst (qs.map fun p=>V.ref p.1)) b3;have q6:(upd HA Ds (.lst (qs.map fun p=>V.ref p.1))) Ds=some (.lst (qs.map fun p=>V.ref p.1)):=AM;generalize upd HA Ds (.lst (qs.map fun p=>V.ref p.1))=HB at sB q6;have a2:=sH.trans sB;refine⟨Ds,rfl,⟨_,AK.of q6⟩,fun D3 b5=>FA (xs:=qs.map fun p=>V.ref p.1) (fun j H6=>∃ds:List Dt,CI HB D3 ds H6/\ds.length<=j) ⟨[],CI.start b5,Ad 0⟩ (fun j H6 _ ⟨_,c,_⟩=>AK.of (c.same _ _ q6)) (fun j y H6 h6 ⟨ds,c,c1⟩=>?_) fun H6 ⟨ds,c,_⟩=>q _ _ (a2.trans c.same)⟩
   ·rw[Az] at h6;have c0:j<qs.length:=by
     by_cases z:j<qs.length
     ·exact z
     ·rw[E6 (by lia)] at h6;cases h6
    cases ea:qs[j]?with
    |none=>rw[ea] at h6;cases h6
    |some qq=>
    rw[ea] at h6;obtain rfl:V.ref qq.1=y:=Af h6;have hq:qq∈l:=e1.mem_iff.mp (Br ea);obtain⟨m,c',n,e⟩:=q9 qq hq;have t4:=(sB.trans c.same) _ _ (q3 qq hq);rw[e] at t4;refine⟨qq.1,_,rfl,AU.of t4,rfl,_,_,rfl,_,_,rfl,_,_,rfl,rfl,pq,_,rfl,_,rfl,by exact zw,fun tp s9=>?_⟩;have st:=AY (o:=.tup [kV (Sum.inr n),kV (Sum.inl m)]) s9;have c2:=c.ext st;have nt:tp≠D3:=by obtain⟨zz,hz,_⟩:=c.lst;exact(A2 hz s9).symm
    obtain⟨a1,h1,h2,h3⟩:=c2.push (d:=.tup [.str n,.int m]) (Rep.Jo (Ex.at AM nt) (Ab.snoc (Ab.snoc Ab.nil (.str n)) (.int m))) (by have h2:=e1.length_eq;lia);exact⟨a1,h1,h2,_,h3,by rw[Au,Cf];lia⟩
abbrev Tr:=Str×Str×Bool
noncomputable def CV(x:Tr):Dt:=.tup [.str x.1,.str x.2.1,.bl x.2.2]
def DL(AB:List Pg)(n:Str):List Tr:=(C1 ((AF AB n).getD [])).map fun t=>(n,t,(AF AB t).isSome)
def Cj(AB:List Pg):List Tr:=(Dv (keys AB)).flatMap (DL AB)
def Y7(cN:Ya):Sp:=fun vs H Q _=>∃a d h1 h0,vs=[.ref a]/\CU cN H a d h1 h0/\C5 h0/\h0.length<64/\∀H' u,AO H H'->Rep H' (.lst ((Cj h0).map CV)) u->Q u H'
def Tj{x:Tr}(r:Rep H (CV x) y):∃t,y=.ref t/\H t=some (.tup [.str x.1,.str x.2.1,.bl x.2.2]):=by obtain⟨a,xs,rfl,ha,rr⟩:=Bv r;obtain⟨u,v,z,rfl,r1,r2,r3⟩:=Eo rr;cases r1;cases r2;cases r3;exact⟨a,rfl,ha⟩
def Pm{x:Tr}{t:Ya}(h:H t=some (.tup [.str x.1,.str x.2.1,.bl x.2.2])):Rep H (CV x) (.ref t):=
 Rep.Jo h (Ab.snoc (Ab.snoc (Ab.snoc Ab.nil (.str _)) (.str _)) (.bl _))
def fL{E:Ya}{xs:List Tr}{zs:List V}(r:Ab (Ex H D) (xs.map CV) ys)(hE:H E=some (.lst zs)):Ab (Ex H E) (xs.map CV) ys:=by
 refine⟨r.1,fun i d x h1 h2=>?_⟩;have:=r.2 i d x h1 h2;rw[Az] at h1
 cases e:xs[i]?with
 |none=>rw[e] at h1;cases h1
 |some tr=>rw[e] at h1;cases Af h1;obtain⟨t,rfl,ht⟩:=Tj this;have h0:=Ex.sub _ _ ht;exact Pm (Ex.at h0 (Ca h0 hE (by intro z;cases z)))
def XH{AD:List (Str×V)}(g:Df H AD AB):(Aq AD).map (·.1)=(keys AB).map Sum.inr:=by
 apply J2;intro i;have e1:(Aq AD).map (·.1)=AD.map fun p=>(Sum.inr p.1:Key):=by show(AD.map _).map _=_;rw[Ba];rfl
 rw[e1];unfold keys;rw[Ba,Az,Az];by_cases hi:i<AD.length
 ·have hj:i<AB.length:=by rw[<-g.len];exact hi
  rw[Ar hi,Ar hj];have:=(g.row i _ _ (Ar hi) (Ar hj)).1;show some (Sum.inr AD[i].1)=some (Sum.inr AB[i].1);rw[this]
 ·rw[E6 (by lia),E6 (by rw[<-g.len];lia)];rfl
def Yl{n:Str}(h:AF AB n=none):n∉keys AB:=M9 h
def iV{d1 d2:List Dt}{x1 x2:List V}(r1:Ab H d1 x1)(r2:Ab H d2 x2):Ab H (d1++d2) (x1++x2):=by
 have l1:=r1.1;refine⟨by rw[Au,Au,l1,r2.1],fun i d x h1 h2=>?_⟩;by_cases hi:i<d1.length
 ·rw[C3 hi] at h1;rw[C3 (by lia)] at h2;exact r1.2 i d x h1 h2
 ·rw[Cn (by lia)] at h1;rw[Cn (by lia),<-l1] at h2;exact r2.2 _ d x h1 h2
def iN(sm:Jz AB)(n:Str):(DL AB n).length<=100000:=by
 unfold DL C1;rw[AL,AL];refine BJ (EA _ _) ?_
 cases e:AF AB n with
 |none=>simp
 |some ws=>obtain⟨j,hj⟩:=Fi e;exact sm.short _ (Br hj)
def Xa{AB:List Pg}(sm:Jz AB):∀ys:List Str,(ys.flatMap (DL AB)).length<=ys.length*100000
 |[]=>by simp
 |y::ys=>by
  have h1:=iN sm y;have h2:=Xa sm ys;rw[Ga,Au,CD,Nat.succ_mul]
  lia
def ma:A0 ["self","wanted","near"] ["self","wanted","near"] (Ao Q6):=by left
def jo(F:Ai K "find_pages" "Nook.find_pages" Q6 f fd)(C:ER K cN)(R:Rz P w K mg base cR "NoWords" "no words")(O:Gw mg)(HT:Hv P w K mg base "pages_near" 3 ["pages","wanted","near"] ZC):
 AW P w K mg base (Ck P w) 4 f fd ["self","wanted","near"] (ZH K cN cR):=by
 refine IZ F ma ?_ ?_
 ·rintro _ _ _ _ ⟨_,_,_,_,_,_,_,rfl,_⟩;rfl
 ·rintro _ A _ s H _ Q E hr ⟨a,d,v,ws,h3,h0,AB,rfl,g,nc,h5,rv,h2,q⟩;have h4:=CZ hr;refine⟨_,(AS (A1 (Aw BQ (BV Io rfl O.len DH (AE (pv 1) AI)) Ac (Ap _)) (AR (Kj (k:=0) R hr rfl)) BD) (AR (Al (Bz HT hr rfl A3 (AE (Cq (pv 0) rfl) (AE (pv 1) (AE (pv 2) AI))))))),?_⟩;have h1:=rv;obtain⟨av,xs,rfl,ha,rr⟩:=Bv rv;rw[LW rr] at ha;refine⟨_,rfl,av,_,rfl,.inr (AU.of ha),rfl,_,rfl,?_⟩;by_cases e:ws=[]
  ·rw[AH e] at q;subst e;exact Bu rfl q
  ·rw[AG e] at q;refine CJ (fun z=>e ?_) ?_
   ·have:=V.int.inj z;rw[AL] at this;exact Qn.mp (by lia)
   ·obtain⟨dx,hi⟩:=g.ins;exact⟨_,rfl,a,cN,dx,_,_,rfl,hi,C.cl,C.nf,rfl,_,rfl,_,rfl,d,.ref av,h3,h0,AB,ws,rfl,g.Bg,g.AB,nc.DF,h1,h2,fun H1 u s1=>q H1 h0 u (Ex.sub.trans s1) (g.same s1)⟩
def Tg:A0 ["self","told","name"] ["self"] (Ao Qt):=by left
def kJ(F:Ai K "all_pointers" "Nook.all_pointers" Qt f fd)(C:ER K cN)(O:Gw mg)(HT:Hv P w K mg base "names_pointed_to" 1 ["words"] Zw):
 AW P w K mg base Ag 2 f fd ["self"] (Y7 cN):=by
 refine F.ok Tg ?_ ?_
 ·rintro _ _ _ _ ⟨_,_,_,_,rfl,_⟩;rfl
 ·rintro _ A _ s H _ Q E hr ⟨a,d,h2,AB,rfl,g,nc,s8,q⟩;have e0:=CZ hr;refine⟨_,(AS (Ax (i:=1) Tg.nd rfl (Aa rfl) (Bt AI))
   (AS (DW DR rfl (FF (BV (V3 rfl) rfl O.so JN (AE (Cq (pv 0) rfl) AI))) (BY (i:=2) Tg.nd rfl (CP rfl))
    (AR (Bc (Iy Dh ux uy WX (pv 1)
     (AE (EF (ts:=["to"]) (cap:=["self","name"]) (ix:=[0,2]) (Xi rfl rfl (by left) (by left) rfl (by left) rfl rfl rfl rfl rfl rfl rfl rfl) (FF (Bz HT hr.mn rfl A3 (AE (DJ e0 (Cq (pv 0) rfl) (pv 2) (fun _ _=>rfl)) AI)))
      (fun _ _ _ _ _=>BY (i:=0) (bw (by left) (by left) (by left)) rfl (Aa rfl) (CP rfl)) (fun _ _ _ _ _=>GC)
      (fun _ _ _ _ _=>CA (AE (pv 2) (AE (pv 0) (AE (mK (TK e0 (pv 0) (kF K rfl (pv 1) rfl))) AI))))) AI)))))
   (AR (Al (pv 1))))),?_⟩;refine⟨by exact zy,fun tl e4=>?_⟩;have s1:AO H (upd H tl (.lst [])):=AY e4;have c0:CI H tl ((([]:List Tr)).map CV) (upd H tl (.lst [])):=CI.start e4;generalize upd H tl (.lst [])=H1 at s1 c0;have g1:=g.same s1;obtain⟨dx,hi⟩:=g1.ins;have h4:(Aq h2).map (·.1)=(keys AB).map Sum.inr:=XH g.AB;refine⟨_,rfl,a,cN,dx,_,_,rfl,hi,C.cl,C.nf,rfl,d,Aq h2,keys AB,rfl,g1.Bg,h4,?_,fun Ds ys e5 hp hs=>?_⟩
  ·unfold keys;rw[AL];have:=nc.Dg
   lia
  have ey:ys=Dv (keys AB):=Kb DB hp hs;have sB:=AY (o:=.lst (ys.map V.str)) e5;have cB:=c0.ext sB;have h6:(upd H1 Ds (.lst (ys.map V.str))) Ds=some (.lst (ys.map V.str)):=AM;generalize upd H1 Ds (.lst (ys.map V.str))=H2 at sB cB h6;have h5:Ds≠tl:=by obtain⟨zz,hz,_⟩:=c0.lst;exact(A2 hz e5).symm
  refine⟨Ds,rfl,⟨_,AK.of h6⟩,He (K:=K) (a:=Ds) (xs:=ys.map V.str) (fun i σ H'=>∃v2:Option V,σ=[some (.ref a),some (.ref tl),v2]/\CI H tl (((ys.take i).flatMap (DL AB)).map CV) H'/\H' Ds=some (.lst (ys.map V.str)))
   ⟨none,rfl,cB,h6⟩ (fun i σ H' _ ⟨_,_,_,h⟩=>AK.of h) ?_ ?_⟩
  ·rintro i y σ H' h1 ⟨v2,rfl,c,hD⟩;rw[Az] at h1
   cases ez:ys[i]?with
   |none=>rw[ez] at h1;cases h1
   |some z=>
   rw[ez] at h1;obtain rfl:V.str z=y:=Af h1;have g2:=g.same c.same;obtain⟨s6,EM⟩:=g2.ins;have zk:z∈keys AB:=hp.mem_iff.mp (Br ez);obtain⟨vw,ws,v1,w1,e7⟩:∃v ws,AF h2 z=some v/\AF AB z=some ws/\Rep H' (DQ ws) v:=by
    rcases g2.AB.get z with⟨_,zz⟩|x
    ·exact absurd zk (Yl zz)
    ·exact x
   have dg:BI H' d (.str z) (some vw):=by have:=BI.kq (k:=.inr z) g2.Bg;rw[GF,v1] at this;exact this
   have wm:∃p∈AB,p.2=ws:=by obtain⟨j,hj⟩:=Fi w1;exact⟨_,Br hj,rfl⟩
   have wl:ws.length<=100000:=by obtain⟨p,s2,rfl⟩:=wm;exact nc.DF.short p s2
   obtain⟨zs,hz,rz⟩:=c.lst;refine⟨_,rfl,.inl ⟨rfl,_,AK.of hz⟩,_,rfl,a,cN,s6,_,_,rfl,EM,C.cl,C.nf,rfl,_,rfl,d,_,rfl,dg,vw,ws,rfl,e7,wl,fun u H3 s3 ru=>?_⟩;obtain⟨lu,xs,rfl,h3,rr⟩:=EG ru;rw[LW rr] at h3;have c3:=c.ext s3;have s4:=s3 _ _ hD;have g3:=g2.same s3;have nl:(C1 ws).length<=ws.length:=by unfold C1;rw[AL];exact EA _ _
   refine⟨lu,rfl,⟨_,AK.of h3⟩,fun D e6=>FA (xs:=(C1 ws).map V.str) (fun j H4=>CI H3 D ((((C1 ws).take j).map fun t=>((z,t,(AF AB t).isSome):Tr)).map CV) H4) (CI.start e6) (fun j H4 _ c4=>AK.of (c4.same _ _ h3)) (fun j y H4 h0 c4=>?_) fun H4 c4=>?_⟩
   ·rw[Az] at h0
    cases et:(C1 ws)[j]?with
    |none=>rw[et] at h0;cases h0
    |some tt=>
    rw[et] at h0;obtain rfl:V.str tt=y:=Af h0;have g4:=g3.same c4.same;obtain⟨s5,IW⟩:=g4.ins;refine⟨E1,_,rfl,_,rfl,_,rfl,_,rfl,a,cN,s5,_,_,rfl,IW,C.cl,C.nf,rfl,d,_,rfl,BI.kq (k:=.inr tt) g4.Bg,by exact zv,fun tp e3=>?_⟩;have ev:(Bf (Aq h2) (.inr tt)).isSome=(AF AB tt).isSome:=by
     rw[GF];rcases g4.AB.get tt with⟨e1,e2⟩|⟨v,w,e1,e2,_⟩
     ·rw[e1,e2];rfl
     ·rw[e1,e2];rfl
    rw[ev];have st:=AY (o:=.tup [.str z,.str tt,.bl (AF AB tt).isSome]) e3;have c5:=c4.ext st;have nt:tp≠D:=by obtain⟨z5,e8,_⟩:=c4.lst;exact(A2 e8 e3).symm
    rw[JK (f:=fun t:Str=>((z,t,(AF AB t).isSome):Tr)) et,BG];refine c5.push (d:=CV (z,tt,(AF AB tt).isSome)) (Pm (Ex.at AM nt)) ?_;rw[AL,AL];have:=EV j (C1 ws)
    lia
   ·rw[AL,CL] at c4;obtain⟨y4,s0,h8⟩:=c4.lst;have c6:=c3.ext c4.same;obtain⟨z6,h9,h7⟩:=c6.lst;have s7:tl≠D:=by obtain⟨z3,e9,_⟩:=c3.lst;exact A2 e9 e6
    have l1:=h7.1;have l2:=h8.1;rw[AL] at l1 l2;rw[AL] at l2;refine⟨tl,D,z6,y4,rfl,rfl,h9,s0,?_,_,rfl,⟨c6.same.upd c6.fr,c6.fr,z6++y4,AM,?_⟩,?_⟩
    ·have f1:=Xa nc.DF (ys.take i);have f2:=EV i ys;have f3:=hp.length_eq;unfold keys at f3;rw[AL] at f3;have f4:(ys.take i).length*100000<=63*100000:=Nat.mul_le_mul_right _ (by lia);rw[A9]
     lia
    ·rw[Ex.upd];have e2:((ys.take (i+1)).flatMap (DL AB)).map CV=((ys.take i).flatMap (DL AB)).map CV++((C1 ws).map fun t=>((z,t,(AF AB t).isSome):Tr)).map CV:=by rw[Di,ez,OO,BG];congr 1;show((DL AB z)++[]).map CV=_;unfold DL;rw[CF,w1];rfl
     rw[e2];exact iV h7 (fL h8 h9)
    ·rw[AQ h5];exact c4.same _ _ s4
  ·rintro σ H' ⟨v2,rfl,c,hD⟩;rw[AL,CL] at c;refine⟨_,rfl,q _ _ c.same ?_⟩;have:=c.done;rw[ey] at this;exact this
abbrev Tx:=Str×Str
noncomputable def D9(x:Tx):Dt:=.tup [.str x.1,.str x.2]
def Ed(AB:List Pg)(n:Str):Tx:=(n,Gu ((AF AB n).getD []))
def De(AB:List Pg):List Tx:=(Dv (keys AB)).map (Ed AB)
def ZY(cN:Ya):Sp:=fun vs H Q _=>∃a d h1 h0,vs=[.ref a]/\CU cN H a d h1 h0/\C5 h0/\h0.length<64/\∀H' u,AO H H'->Rep H' (.lst ((De h0).map D9)) u->Q u H'
def Ph{x:Tx}{t:Ya}(h:H t=some (.tup [.str x.1,.str x.2])):Rep H (D9 x) (.ref t):=Rep.Jo h (Ab.snoc (Ab.snoc Ab.nil (.str _)) (.str _))
def lL:A0 ["self"] ["self"] (Ao RG):=by left
def j4{fT:Ya}{fdT:rA}(F:Ai K "all_texts" "Nook.all_texts" RG f fd)(C:ER K cN)(O:Gw mg)(mT:Meth K cN "text_of" fT)(GT:AW P w K mg base (Ck P w) 5 fT fdT ["self","name"] (TU K cN cR))(bT:Binds K fdT ["self","name"] []):
 AW P w K mg base Ag 6 f fd ["self"] (ZY cN):=by
 refine F.ok lL ?_ ?_
 ·rintro _ _ _ _ ⟨_,_,_,_,rfl,_⟩;rfl
 ·rintro _ A _ s H _ Q E hr ⟨a,d,h1,AB,rfl,g,nc,h8,q⟩;refine⟨_,AR (Al (EF (ts:=["name"]) (cap:=["self"]) (ix:=[0]) (Hg rfl rfl (by left) (by left) rfl rfl rfl rfl rfl) (FF (BV (V3 rfl) rfl O.so JN (AE (Cq (pv 0) rfl) AI)))
   (fun _ _ _ _ _=>BY (i:=0) (FV (by left)) rfl (Aa rfl) (CP rfl)) (fun _ _ _ _ _=>GC) (fun _ _ _ _ _=>CA (AE (pv 0) (AE (Dy (pv 1) C.cl mT GT hr bT .nil nK (AE (pv 0) AI)) AI))))),?_⟩;obtain⟨dx,hi⟩:=g.ins;have h2:(Aq h1).map (·.1)=(keys AB).map Sum.inr:=XH g.AB;refine⟨_,rfl,a,cN,dx,_,_,rfl,hi,C.cl,C.nf,rfl,d,Aq h1,keys AB,rfl,g.Bg,h2,?_,fun Ds ys h6 hp hs=>?_⟩
  ·unfold keys;rw[AL];have:=nc.Dg
   lia
  have ey:ys=Dv (keys AB):=Kb DB hp hs;have sB:=AY (o:=.lst (ys.map V.str)) h6;have h3:(upd H Ds (.lst (ys.map V.str))) Ds=some (.lst (ys.map V.str)):=AM;generalize upd H Ds (.lst (ys.map V.str))=H2 at sB h3;have g2:=g.same sB;refine⟨Ds,rfl,⟨_,AK.of h3⟩,fun D hD=>FA (xs:=ys.map V.str) (fun i H'=>CI H2 D (((ys.take i).map (Ed AB)).map D9) H') (CI.start hD) (fun i H' _ c=>AK.of (c.same _ _ h3)) (fun i y H' h0 c=>?_) fun H' c=>?_⟩
  ·rw[Az] at h0
   cases ez:ys[i]?with
   |none=>rw[ez] at h0;cases h0
   |some z=>
   rw[ez] at h0;obtain rfl:V.str z=y:=Af h0;have g3:=g2.same c.same;obtain⟨h7,E4⟩:=g3.ins;have zk:z∈keys AB:=hp.mem_iff.mp (Br ez);refine⟨E1,_,rfl,_,rfl,a,h7,_,rfl,E4,rfl,_,rfl,a,d,z,h1,AB,rfl,g3,nc,fun ws hw H4 s4=>?_,fun zz=>absurd zk (Yl zz)⟩;refine⟨by exact zw,fun tp h4=>?_⟩;have st:=AY (o:=.tup [.str z,.str (Gu ws)]) h4;have c5:=(c.ext s4).ext st;have nt:tp≠D:=by obtain⟨z5,h5,_⟩:=(c.ext s4).lst;exact(A2 h5 h4).symm
   have et:Ed AB z=(z,Gu ws):=by unfold Ed;rw[hw];rfl
   rw[JK (f:=Ed AB) ez,BG];refine c5.push (d:=D9 (Ed AB z)) (by rw[et];exact Ph (Ex.at AM nt)) ?_;rw[AL,AL];have f1:=EV i ys;have f3:=hp.length_eq;unfold keys at f3;rw[AL] at f3
   lia
  ·rw[AL,CL] at c;have:=c.done;rw[ey] at this;exact q _ _ (sB.trans c.same) this
def SQ(cN:Ya):Sp:=fun vs H Q _=>∃v xs,vs=[v]/\Rep H (.lst (xs.map Am.dt)) v/\(∀x∈xs,x.Good)/\xs.length<=1000/\Small [] xs/\∀H' a d h0,AO H H'->CU cN H' a d h0 (CK [] xs)->Q (.ref a) H'
def Vr:Sp:=fun vs H Q _=>∃v xs,vs=[v]/\Rep H (.lst (xs.map Am.dt)) v/\(∀x∈xs,x.Good)/\xs.length<=1000/\Small [] xs/\∀H' u,AO H H'->Rep H' (.lst ((Cj (CK [] xs)).map CV)) u->Q u H'
def WL:Sp:=fun vs H Q _=>∃v xs,vs=[v]/\Rep H (.lst (xs.map Am.dt)) v/\(∀x∈xs,x.Good)/\xs.length<=1000/\Small [] xs/\∀H' l zs,AO H H'->H' l=some (.lst zs)->zs.length=xs.length->Told [] xs H' zs->Q (.ref l) H'
def aE{o p:HO}(ha:H a=none)(hdx:H dx=none)(hd:(upd (upd H dx o) a p) d=none)(hda:d≠a)(s1:AO (Ex (upd (upd H dx o) a p) a) H1):AO H H1/\H d=none:=by
 refine⟨fun b u e=>?_,?_⟩
 ·refine s1 b u ?_;have n1:b≠a:=A2 e ha;have n2:b≠dx:=A2 e hdx;rw[Ex.at (by rw[AQ n1,AQ n2];exact e) n1]
 ·rw[AQ hda] at hd;by_cases n2:d=dx
  ·rw[n2,AM] at hd;cases hd
  ·rw[AQ n2] at hd;exact hd
def Wu:A0 ["deeds","nook"] ["deeds"] (Ao RX):=by left
def fN(F:Ai K "nook_behind" "nook_behind" RX f fd)(M:Mk K cN fI)(GI:AW P w K mg base Ag 1 fI fdI ["self"] (S3 cN))(bI:Binds K fdI ["self"] [])(mN:mg "Nook" =some (.ref cN))
 (HA:Hv P w K mg base "answer_all" 8 ["nook","deeds"] (T8 cN)):AW P w K mg base Ag 9 f fd ["deeds"] (SQ cN):=by
 refine F.ok Wu ?_ ?_
 ·rintro _ _ _ _ ⟨_,_,rfl,_⟩;rfl
 ·rintro _ A _ s H _ Q E hr ⟨v,xs,rfl,rv,h1,hl,DF,q⟩;refine⟨_,(AS (Ax (i:=1) Wu.nd rfl (Aa rfl) (W3 M GI hr.mn rfl mN bI .nil A3))
   (AS (Bc (Bz HA hr rfl A3 (AE (pv 1) (AE (pv 0) AI)))) (AR (Al (pv 1))))),?_⟩;intro a dx ha h2 h5;refine⟨a,dx,rfl,AM,fun H1 d hd h3 s1 g=>⟨rfl,?_⟩⟩;obtain⟨sH,h4⟩:=aE ha h2 hd h3 s1;exact⟨_,rfl,_,rfl,a,d,v,xs,[],[],rfl,g,rv.same sH,h1,hl,DF,fun H2 h0 _ _ s2 g2 _ _ _=>⟨_,rfl,q H2 a d h0 (fun b z e=>s2 b z (Ex.at (sH _ _ e) (A2 e h4))) g2⟩⟩
def fg:A0 ["deeds"] ["deeds"] (Ao SA):=by left
def dw(F:Ai K "answers" "answers" SA f fd)(M:Mk K cN fI)(GI:AW P w K mg base Ag 1 fI fdI ["self"] (S3 cN))(bI:Binds K fdI ["self"] [])(mN:mg "Nook" =some (.ref cN))
 (HA:Hv P w K mg base "answer_all" 8 ["nook","deeds"] (T8 cN)):AW P w K mg base Ag 9 f fd ["deeds"] WL:=by
 refine F.ok fg ?_ ?_
 ·rintro _ _ _ _ ⟨_,_,rfl,_⟩;rfl
 ·rintro _ A _ s H _ Q E hr ⟨v,xs,rfl,rv,h0,hl,DF,q⟩;refine⟨_,(AR (Al (Bz HA hr rfl A3 (AE (W3 M GI hr.mn rfl mN bI .nil A3) (AE (pv 0) AI))))),?_⟩;intro a dx ha h3 h6;refine⟨a,dx,rfl,AM,fun H1 d hd h4 s1 g=>⟨rfl,?_⟩⟩;obtain⟨sH,h5⟩:=aE ha h3 hd h4 s1;exact⟨_,rfl,a,d,v,xs,[],[],rfl,g,rv.same sH,h0,hl,DF,fun H2 h1 l zs s2 g2 hz h2 t=>q H2 l zs (fun b z e=>s2 b z (Ex.at (sH _ _ e) (A2 e h5))) hz h2 t⟩
def dY:A0 ["deeds"] ["deeds"] (Ao Rq):=by left
def dB{fP:Ya}{fdP:rA}(F:Ai K "pointers" "pointers" Rq f fd)(C:ER K cN)(HB:Hv P w K mg base "nook_behind" 9 ["deeds"] (SQ cN))
 (hP:Meth K cN "all_pointers" fP)(GP:AW P w K mg base Ag 2 fP fdP ["self"] (Y7 cN))(bP:Binds K fdP ["self"] []):AW P w K mg base Ag 10 f fd ["deeds"] Vr:=by
 refine F.ok dY ?_ ?_
 ·rintro _ _ _ _ ⟨_,_,rfl,_⟩;rfl
 ·rintro _ A _ s H _ Q E hr ⟨v,xs,rfl,rv,h0,hl,DF,q⟩;refine⟨_,(AR (Al (Wy (Bz HB hr rfl A3 (AE (pv 0) AI)) C.cl hP GP hr.mn bP .nil A3))),?_⟩;have se:xs.take xs.length=xs:=CL;obtain⟨nc,h1⟩:=DF xs.length (Ad _);rw[se] at nc h1;refine⟨_,rfl,v,xs,rfl,rv,h0,hl,DF,fun H1 a d h2 s1 g=>?_⟩;obtain⟨dx,hi⟩:=g.ins;exact⟨a,dx,_,rfl,hi,rfl,a,d,h2,_,rfl,g,nc,h1,fun H2 u s2 r=>q H2 u (s1.trans s2) r⟩
def Xb:Sp:=fun vs H Q _=>∃v xs,vs=[v]/\Rep H (.lst (xs.map Am.dt)) v/\(∀x∈xs,x.Good)/\xs.length<=1000/\Small [] xs/\∀H' u,AO H H'->Rep H' (.lst ((De (CK [] xs)).map D9)) u->Q u H'
def ip:A0 ["deeds"] ["deeds"] (Ao S2):=by left
def fY{fP:Ya}{fdP:rA}(F:Ai K "texts" "texts" S2 f fd)(C:ER K cN)(HB:Hv P w K mg base "nook_behind" 9 ["deeds"] (SQ cN))
 (hP:Meth K cN "all_texts" fP)(GP:AW P w K mg base Ag 6 fP fdP ["self"] (ZY cN))(bP:Binds K fdP ["self"] []):AW P w K mg base Ag 10 f fd ["deeds"] Xb:=by
 refine F.ok ip ?_ ?_
 ·rintro _ _ _ _ ⟨_,_,rfl,_⟩;rfl
 ·rintro _ A _ s H _ Q E hr ⟨v,xs,rfl,rv,h0,hl,DF,q⟩;refine⟨_,(AR (Al (Wy (Bz HB hr rfl A3 (AE (pv 0) AI)) C.cl hP GP hr.mn bP .nil A3))),?_⟩;have se:xs.take xs.length=xs:=CL;obtain⟨nc,h1⟩:=DF xs.length (Ad _);rw[se] at nc h1;refine⟨_,rfl,v,xs,rfl,rv,h0,hl,DF,fun H1 a d h2 s1 g=>?_⟩;obtain⟨dx,hi⟩:=g.ins;exact⟨a,dx,_,rfl,hi,rfl,a,d,h2,_,rfl,g,nc,h1,fun H2 u s2 r=>q H2 u (s1.trans s2) r⟩
def YJ:∀{l:List Pg}{i:Nat}{p q:Pg},l[i]? =some p->BE (l.set i q)+wsum p.2=BE l+wsum q.2
 |x::l,0,p,q,h=>by
  cases Af h;unfold BE;rw[List.set_cons_zero,Av,CM,Av,CM]
  lia
 |x::l,i+1,p,q,h=>by
  have ih:=YJ (l:=l) (i:=i) (p:=p) (q:=q) (by simpa using h);unfold BE at ih⊢;rw[Va,Av,CM,Av,CM]
  lia
def Ym{l:List Pg}{n:Str}{w0:List PR}(nd:(l.map (·.1)).Nodup)(h:AF l n=some w0):BE (AV l n ws)+wsum w0=BE l+wsum ws:=by obtain⟨i,hi⟩:=Fi h;rw[La nd hi];exact YJ hi
def jd(ws:List PR)(n m:Str)(hm:m.length<=40):wsum (C6 ws n m)<=wsum ws:=by
 unfold C6 wsum
 induction ws with
 |nil=>simp
 |cons p ws ih=>
  rw[Av,Av,CM,Av,CM];have:wt (if p=(("to" :Str),n) then(("to" :Str),m) else p)<=wt p:=by
   split
   ·show max 40 m.length+3<=wt p;unfold wt
    lia
   ·exact Ad _
  lia
def ZW(AB:List Pg)(n m:Str)(hm:m.length<=40):BE (C4 AB n m)<=BE AB:=by
 unfold C4 BE
 induction AB with
 |nil=>simp
 |cons p AB ih=>
  rw[Av,Av,CM,Av,CM];have:=jd p.2 n m hm;show wsum (C6 p.2 n m)+_<=_
  lia
def Pb(AB:List Pg)(n m:Str):(C4 AB n m).map (·.1)=AB.map (·.1):=by unfold C4;rw[Ba];rfl
def j6(x:Str):(EN x).2.length<=x.length:=by
 unfold EN;split
 ·exact Om x _ _
 ·exact Ad _
def dW(t:Str):wsum (DM t)<=44*(t.length+1):=by
 have h:=Mo t " " (by decide);unfold DM Cc;generalize Txt.split t " " =L at h;have:∀L:List Str,wsum ((L.filter fun p:Str=> !decide (p=("" :Str))).map EN)<=43*L.length+(L.map (·.length)).sum:=by
  intro L
  induction L with
  |nil=>simp[wsum]
  |cons x L ih=>
   rw[Av,CM,CD];by_cases e:x=("" :Str)
   ·rw[Fb (by simp[e])]
    lia
   ·rw[Ej (by simp[e])];unfold wsum at ih⊢;rw[Av,Av,CM];have:wt (EN x)<=43+x.length:=by
     have:=j6 x;unfold wt
     lia
    lia
 have h2:=this L;have h3:43*L.length<=43*(t.length+1):=Qv _ (by lia)
 lia
structure Sz(k:Nat)(AB:List Pg):Prop where
 nd:(AB.map (·.1)).Nodup
 len:AB.length<=k
 BE:BE AB<=50000*k
def Sz.more(s:Sz k AB):Sz (k+1) AB:=⟨s.nd,Nat.le_succ_of_le s.len,by have:=s.BE;lia⟩
def S6(AB:List Pg)(n:Str):(AN AB n).length<=AB.length:=EA _ _
def eU(AB:List Pg)(n:Str):L2.BE (AN AB n)<=L2.BE AB:=by
 unfold AN L2.BE
 induction AB with
 |nil=>simp
 |cons p AB ih=>
  rw[Av,CM];by_cases e:p.1=n
  ·rw[Fb (by simp[e])];lia
  ·rw[Ej (by simp[e]),Av,CM];lia
def Sz.next{k:Nat}{AB:List Pg}(s:Sz k AB){x:Am}(g:x.Good):Sz (k+1) ((D6 AB x).next AB):=by
 have s':=s.more;have st:=s.BE;have sl:=s.len
 cases x with
 |write n t=>
  show Sz (k+1) ((FE AB n t).next AB);unfold FE;split
  ·refine⟨EZ s.nd,BJ (Hk _ _ _) (by lia),?_⟩;have h1:=PJ AB n (DM t) s.nd;have h2:=dW t;have h3:t.length<=1000:=g.2;show L2.BE (AV AB n (DM t))<=_
   lia
  ·exact s'
 |rename n m=>
  show Sz (k+1) ((Hh AB n m).next AB);unfold Hh
  cases e:AF AB n with
  |none=>exact s'
  |some ws=>
   dsimp only;split
   ·cases e2:AF AB m with
    |some _=>exact s'
    |none=>
     show Sz (k+1) (renamed AB n m ws);unfold renamed;refine⟨by rw[Pb];exact EZ (DI s.nd),?_,?_⟩
     ·have h1:=Hk (AN AB n) m ws;have h2:=S6 AB n;show(List.map _ _).length<=_;rw[AL]
      lia
     ·have h1:=ZW (AV (AN AB n) m ws) n m g.2;have h2:=PJ (AN AB n) m ws (DI s.nd);have h3:=NA e
      lia
   ·exact s'
 |join n o=>
  show Sz (k+1) ((Fm AB n o).next AB);unfold Fm
  cases e:AF AB n with
  |none=>exact s'
  |some w1=>
   dsimp only
   cases e2:AF AB o with
   |none=>exact s'
   |some w2=>
    dsimp only;split
    ·exact s'
    ·rename_i hne;show Sz (k+1) (joined AB n o w1 w2);unfold joined;refine⟨by rw[Pb];exact EZ (DI s.nd),?_,?_⟩
     ·have h1:=Hk (AN AB o) n (w1++w2);have h2:=S6 AB o;show(List.map _ _).length<=_;rw[AL]
      lia
     ·have h1:=ZW (AV (AN AB o) n (w1++w2)) o n g.1;have h2:=Ym (ws:=w1++w2) (DI (k:=o) s.nd) (show AF (AN AB o) n=some w1 by rw[DT hne];exact e);have h3:=NA e2;rw[O7] at h2
      lia
 |cut n pl m=>
  show Sz (k+1) ((Ho AB n pl m).next AB);unfold Ho
  cases e:AF AB n with
  |none=>exact s'
  |some ws=>
   dsimp only;split
   ·cases e2:AF AB m with
    |some _=>exact s'
    |none=>
     dsimp only;split
     ·exact s'
     ·show Sz (k+1) (cutAt AB n m ws pl.toNat);unfold cutAt;have e3:AF (AV AB m (ws.drop pl.toNat)) n=some ws:=by rw[Co];rw[AG (fun z=>by rw[z,e2] at e;cases e)];exact e
      have FV:((AV AB m (ws.drop pl.toNat)).map (·.1)).Nodup:=EZ s.nd;refine⟨EZ FV,?_,?_⟩
      ·obtain⟨i,hi⟩:=Fi e3;rw[La FV hi,List.length_set];have:=Hk AB m (ws.drop pl.toNat)
       lia
      ·have h1:=Ym (ws:=ws.take pl.toNat++[(("to" :Str),m)]) FV e3;have h2:=PJ AB m (ws.drop pl.toNat) s.nd;have h3:wsum (ws.take pl.toNat)+wsum (ws.drop pl.toNat)=wsum ws:=by rw[<-O7,ET]
       rw[O7] at h1;have h4:wsum [(("to" :Str),m)]=43:=by
        have:m.length<=40:=g.2;show(max 40 m.length+3)+0=43
        lia
       lia
   ·exact s'
 |drop n=>
  show Sz (k+1) ((FG AB n).next AB);unfold FG
  cases e:AF AB n with
  |none=>exact s'
  |some ws=>
   refine⟨DI s.nd,BJ (S6 _ _) (by lia),?_⟩;have:=eU AB n;show L2.BE (AN AB n)<=_
   lia
 |text n=>
  show Sz (k+1) ((Gr AB n).next AB);unfold Gr
  cases e:AF AB n with
  |none=>exact s'
  |some ws=>exact s'
 |back n=>exact s'
 |find ws h0=>
  show Sz (k+1) (Rs.next AB (if ws=[] then .no "no words" else .un AB));split
  ·exact s'
  ·exact s'
def Pl:∀(xs:List Am)(k:Nat)(AB:List Pg),Sz k AB->(∀x∈xs,x.Good)->Sz (k+xs.length) (CK AB xs)
 |[],k,AB,s,_=>s
 |x::xs,k,AB,s,g=>by have:=Pl xs (k+1) _ (s.next (g x EB)) fun y hy=>g y (DG _ hy);rw[CD,show k+(xs.length+1)=k+1+xs.length by lia];exact this
def To:Sz 0 []:=⟨Mf,Ad _,Ad _⟩
def M0{xs:List Am}(g:∀x∈xs,x.Good)(hl:xs.length<=63):Small [] xs:=fun k hk=>by
 have s:=Pl (xs.take k) 0 [] To fun x hx=>g x (Ic hx);have h0:(xs.take k).length<=63:=by rw[Bm];lia
 have h1:=s.len;have h2:=s.BE;refine⟨⟨s.nd,by lia,?_⟩,by lia⟩;have:50000*(0+(xs.take k).length)<=50000*63:=Qv _ (by lia)
 lia
section
variable[DecidableEq α]
def BO{l:List (α×β)}{k:α}{v:β}(h:AF l k=some v):(k,v)∈l:=by obtain⟨i,hi⟩:=Fi h;exact Br hi
def Hf{l:List (α×β)}{k:α}{v:β}(nd:(l.map (·.1)).Nodup)(h:(k,v)∈l):AF l k=some v:=by obtain⟨i,hi⟩:=Qr h;exact JS nd hi
def LZ{l:List (α×β)}{k:α}(h:k∈l.map (·.1)):∃v,AF l k=some v:=by
 cases e:AF l k with
 |some v=>exact⟨v,rfl⟩
 |none=>exact absurd h (M9 e)
def S9{l:List (α×β)}{k:α}{v:β}(h:AF l k=some v):k∈l.map (·.1):=BZ.mpr ⟨_,BO h,rfl⟩
def Mx{l m:List (α×β)}(hk:l.map (·.1)=m.map (·.1))(nd:(l.map (·.1)).Nodup)(h:∀k,k∈l.map (·.1)->AF l k=AF m k):l=m:=by
 have h0:l.length=m.length:=by have:=BL List.length hk;simpa using this
 refine J2 fun i=>?_;by_cases hi:i<l.length
 ·have hj:i<m.length:=by lia
  have e1:l[i]? =some l[i]:=Ar hi;have e2:m[i]? =some m[i]:=Ar hj;have ek:l[i].1=m[i].1:=by have:=BL (fun x=>x[i]?) hk;rw[Az,Az,e1,e2] at this;exact Af this
  have g1:=JS nd e1;have g2:=JS (hk▸nd) e2;have:=h l[i].1 (BZ.mpr ⟨_,F1 hi,rfl⟩);rw[g1,ek,g2] at this;rw[e1,e2];exact BL some (Prod.ext ek (Af this))
 ·rw[E6 (by lia),E6 (by lia)]
def JQ(l:List (α×β))(k:α)(v:β):(AV l k v).map (·.1)=if k∈l.map (·.1) then l.map (·.1) else l.map (·.1)++[k]:=by
 by_cases h:k∈l.map (·.1)
 ·obtain⟨w,hw⟩:=LZ h;rw[AH h];have hm:=BO hw;unfold AV;rw[AH (LD.mpr ⟨_,hm,by simp⟩),Ba];refine Ek fun p _=>?_;show(if p.1=k then(p.1,v) else p).1=p.1;split<;>rfl
 ·rw[AG h];have hn:AF l k=none:=by
   cases e:AF l k with
   |none=>rfl
   |some w=>exact absurd (S9 e) h
  rw[Fh hn,BG];rfl
def II(l:List (α×β))(k:α):(AN l k).map (·.1)=(l.map (·.1)).filter fun x=>decide (x≠k):=by unfold AN;rw[RP];rfl
def F4(l:List (α×β))(k:α):AF (AN l k) k=none:=by
 cases e:AF (AN l k) k with
 |none=>rfl
 |some v=>have:=BO e;unfold AN at this;have:=(F3.mp this).2;simp at this
def JT{l:List (α×β)}{k:α}{v:β}{p:α×β}(h:p∈AV l k v):p∈l\/p=(k,v):=by
 unfold AV at h;split at h
 ·obtain⟨q,hq,e⟩:=BZ.mp h;split at e
  ·rename_i e1;rw[<-e,e1];exact .inr rfl
  ·rw[<-e];exact .inl hq
 ·rcases Bp.mp h with z|z
  ·exact .inl z
  ·exact .inr (Bk.mp z)
def Gk{l:List (α×β)}{k:α}{p:α×β}(h:p∈AN l k):p∈l/\p.1≠k:=by unfold AN at h;have:=F3.mp h;exact⟨this.1,by simpa using this.2⟩
def IJ{l:List (α×β)}{k:α}{p:α×β}(h:p∈l)(hk:p.1≠k):p∈AN l k:=F3.mpr ⟨h,by simpa using hk⟩
end
def sh(names:List (Str×Int))(w:Wd):PR:=if w.to=true then(("to" :Str),if w.no= -1 then w.nm else nameOf names w.no) else(("word" :Str),w.nm)
def Aj(n:Nk)(no:Int):List PR:=((AF n.texts no).getD []).map (sh n.names)
def vw(n:Nk):List Pg:=n.names.map fun p=>(p.1,Aj n p.2)
def E5(names:List (Str×Int))(w:Wd):Prop:=w.to=true->(w.no= -1/\AF names w.nm=none)\/∃nm,(nm,w.no)∈names
structure Bq(n:Nk):Prop where
 Cm:(n.names.map (·.1)).Nodup
 inj:(n.names.map (·.2)).Nodup
 CW:(n.texts.map (·.1)).Nodup
 tx:∀p∈n.names,∃ws,AF n.texts p.2=some ws
 own:∀p∈n.texts,∃nm,(nm,p.1)∈n.names
 lt:∀p∈n.texts,0<=p.1/\p.1<n.made
 wd:∀p∈n.texts,∀w∈p.2,E5 n.names w
variable{l:List (Str×Int)}
def KZ(inj:(l.map (·.2)).Nodup){a b:Str}(ha:(a,no)∈l)(hb:(b,no)∈l):a=b:=by
 induction l with
 |nil=>cases ha
 |cons p l ih=>
  rw[Av,Ik] at inj;rcases Bn.mp ha with e1|e1
  ·rcases Bn.mp hb with e2|e2
   ·rw[<-e1] at e2;exact(JO e2).1.symm
   ·exact absurd (BZ.mpr ⟨_,e2,by rw[<-e1]⟩) inj.1
  ·rcases Bn.mp hb with e2|e2
   ·exact absurd (BZ.mpr ⟨_,e1,by rw[<-e2]⟩) inj.1
   ·exact ih inj.2 e1 e2
def Ry(inj:(l.map (·.2)).Nodup){a:Str}(h:(a,no)∈l):nameOf l no=a:=by
 unfold nameOf
 cases e:l.find? fun p=>decide (p.2=no) with
 |none=>have:=Vb.mp e _ h;simp at this
 |some p=>
  have h1:=VC e;have h2:p.2=no:=by simpa using List.find?_some e
  show p.1=a;exact KZ inj (show(p.1,no)∈l by rw[<-h2];exact h1) h
def Bq.FZ(b:Bq n){nm:Str}(h:(nm,no)∈n.names):0<=no/\no<n.made:=by obtain⟨ws,hw⟩:=b.tx _ h;exact b.lt _ (BO hw)
def D4(n:Nk):(vw n).map (·.1)=n.names.map (·.1):=by unfold vw;rw[Ba];rfl
def Ea(n:Nk)(k:Str):AF (vw n) k=(AF n.names k).map (Aj n):=by
 unfold vw AF;generalize n.names=l
 induction l with
 |nil=>rfl
 |cons p l ih=>
  rw[Av];by_cases e:p.1=k
  ·rw[MP (by simpa using e),MP (by simpa using e)];rfl
  ·rw[MQ (by simpa using e),MQ (by simpa using e)];exact ih
def TR(l:List Pg)(a b k:Str):AF (C4 l a b) k=(AF l k).map fun ws=>C6 ws a b:=by
 unfold C4 AF
 induction l with
 |nil=>rfl
 |cons p l ih=>
  rw[Av];by_cases e:p.1=k
  ·rw[MP (by simpa using e),MP (by simpa using e)];rfl
  ·rw[MQ (by simpa using e),MQ (by simpa using e)];exact ih
def NO(n:Nk)(g:Wd->Wd)(no:Int):AF (n.I8 g).texts no=(AF n.texts no).map (List.map g):=by
 show AF (n.texts.map fun p=>(p.1,p.2.map g)) no=_;unfold AF;generalize n.texts=l
 induction l with
 |nil=>rfl
 |cons p l ih=>
  rw[Av];by_cases e:p.1=no
  ·rw[MP (by simpa using e),MP (by simpa using e)];rfl
  ·rw[MQ (by simpa using e),MQ (by simpa using e)];exact ih
def Bq.same(b:Bq n){a k:Str}{no':Int}(ha:AF n.names a=some no)(hk:AF n.names k=some no'):no'=no↔k=a:=by
 constructor
 ·intro e;rw[e] at hk;exact KZ b.inj (BO hk) (BO ha)
 ·intro e;rw[e,ha] at hk;exact(Af hk).symm
def Bq.text(b:Bq n){a:Str}(ha:AF n.names a=some no):∃ws,AF n.texts no=some ws/\∀w∈ws,E5 n.names w:=by obtain⟨ws,hw⟩:=b.tx _ (BO ha);exact⟨ws,hw,b.wd _ (BO hw)⟩
noncomputable def Jr(a b:Str)(p:PR):PR:=if p=(("to" :Str),a) then(("to" :Str),b) else p
def Sf(ws:List PR)(a b:Str):C6 ws a b=ws.map (Jr a b):=rfl
def oz{a:Str}:((("word" :Str),x):PR)≠(("to" :Str),a):=by intro z;have:("word" :Str)="to" :=(JO z).1;exact absurd this (by left)
def Yj(a b x:Str):Jr a b (("word" :Str),x)=(("word" :Str),x):=AG oz
def Zn(a b:Str):Jr a b (("to" :Str),a)=(("to" :Str),b):=AH rfl
def PB{a b:Str}(h:x≠a):Jr a b (("to" :Str),x)=(("to" :Str),x):=AG fun z=>h (JO z).2
def Hl{w:Wd}(h:w.to=false):sh names w=(("word" :Str),w.nm):=by unfold sh;rw[h];rfl
def Fg{w:Wd}(h:w.to=true)(hn:w.no= -1):sh names w=(("to" :Str),w.nm):=by unfold sh;rw[AH h,AH hn]
def gq{w:Wd}(h:w.to=true)(hn:w.no≠-1):sh names w=(("to" :Str),nameOf names w.no):=by unfold sh;rw[AH h,AG hn]
def Ep(inj:(names.map (·.2)).Nodup){w:Wd}(h:w.to=true)(hn:w.no≠-1)(hx:(x,w.no)∈names):sh names w=(("to" :Str),x):=by rw[gq h hn,Ry inj hx]
def TZ{n':Nk}{g:Wd->Wd}{h:PR->PR}{ws:List Wd}(e1:AF n.texts no=some ws)(e2:AF n'.texts no=some (ws.map g))(hw:∀w∈ws,sh n'.names (g w)=h (sh n.names w)):Aj n' no=(Aj n no).map h:=by unfold Aj;rw[e1,e2];show(ws.map g).map _=(ws.map _).map h;rw[Ba,Ba];exact Ek fun w h0=>hw w h0
def TC{k:Str}{v:Int}(inj:(l.map (·.2)).Nodup)(hk:AF l k=none)(hv:v∉l.map (·.2)):((AV l k v).map (·.2)).Nodup:=by
 rw[Fh hk,BG];refine OV.mpr ⟨inj,by simp,fun a ha b hb e=>?_⟩;have:b=v:=by simpa using hb
 rw[<-e] at this;exact hv (this▸ha)
def M3{k:Str}(inj:(l.map (·.2)).Nodup):((AN l k).map (·.2)).Nodup:=by unfold AN;exact List.Nodup.sublist ((List.filter_sublist).map _) inj
section
variable{o:Str}
def Ot(ho:AF n.names o=none):(n.added o).names=n.names++[(o,n.made)]:=Fh ho
def O0(no:Int):AF (n.added o).texts no=((if no=n.made then some [] else AF n.texts no):Option (List Wd)).map (List.map (CT o n.made)):=by show AF (Nk.I8 _ (CT o n.made)).texts no=_;rw[NO];show(AF (AV n.texts n.made []) no).map _=_;rw[Co]
def Bq.fresh(b:Bq n):n.made∉n.names.map (·.2):=fun h=>by
 obtain⟨p,hp,e⟩:=BZ.mp h;have:=(b.FZ (nm:=p.1) (no:=p.2) hp).2
 lia
def Vw(b:Bq n)(h0:0<=n.made)(ho:AF n.names o=none){w:Wd}(ok:E5 n.names w):sh (n.added o).names (CT o n.made w)=sh n.names w/\E5 (n.added o).names (CT o n.made w):=by
 have h1:((n.added o).names.map (·.2)).Nodup:=TC b.inj ho b.fresh;rw[Ot ho] at h1⊢;unfold CT
 cases ht:w.to with
 |false=>rw[AG (fun z=>by cases z.1)];exact⟨by rw[Hl ht,Hl ht],fun z=>by rw[ht] at z;cases z⟩
 |true=>
  rcases ok ht with⟨hl,h4⟩|⟨x,hx⟩
  ·by_cases e:w.nm=o
   ·rw[AH ⟨rfl,hl,e⟩];have h3:(o,n.made)∈n.names++[(o,n.made)]:=EU _ (Bk.mpr rfl);refine⟨?_,fun _=>.inr ⟨o,h3⟩⟩;rw[Fg ht hl,e];exact Ep h1 (w:=⟨true,o,n.made⟩) rfl (by show n.made≠-1;lia) h3
   ·rw[AG (fun z=>e z.2.2)];refine⟨by rw[Fg ht hl,Fg ht hl],fun _=>.inl ⟨hl,?_⟩⟩;rw[<-Fh ho,Co,AG e];exact h4
  ·have hp:=b.FZ hx;have hn:w.no≠-1:=by lia
   rw[AG (fun z=>hn z.2.1)];have h2:(x,w.no)∈n.names++[(o,n.made)]:=Ig _ hx;exact⟨by rw[Ep h1 ht hn h2,Ep b.inj ht hn hx],fun _=>.inr ⟨x,h2⟩⟩
def Bq.added(b:Bq n)(h0:0<=n.made)(ho:AF n.names o=none):Bq (n.added o):=by
 have h5:=Ot ho;have tn:AF n.texts n.made=none:=by
  cases e:AF n.texts n.made with
  |none=>rfl
  |some ws=>have:=(b.lt _ (BO e)).2;dsimp only at this;lia
 have h4:(n.added o).texts=(AV n.texts n.made []).map fun p=>(p.1,p.2.map (CT o n.made)):=rfl;have kt:(n.added o).texts.map (·.1)=n.texts.map (·.1)++[n.made]:=by rw[h4,Ba];show(AV n.texts n.made []).map (·.1)=_;rw[Fh tn,BG];rfl
 have h2:((n.added o).texts.map (·.1)).Nodup:=by rw[h4,Ba];exact EZ b.CW
 have h1:∀p∈(n.added o).texts,∃q∈AV n.texts n.made [],p=(q.1,q.2.map (CT o n.made)):=fun p hp=>by rw[h4] at hp;obtain⟨q,hq,e⟩:=BZ.mp hp;exact⟨q,hq,e.symm⟩
 refine⟨EZ b.Cm,TC b.inj ho b.fresh,h2,fun p hp=>?_,fun p hp=>?_,fun p hp=>?_,fun p hp w hw=>?_⟩
 ·rw[O0];rw[h5] at hp;rcases Bp.mp hp with e|e
  ·obtain⟨ws,hw⟩:=b.tx p e;by_cases z:p.2=n.made
   ·rw[AH z];exact⟨_,rfl⟩
   ·rw[AG z,hw];exact⟨_,rfl⟩
  ·rw[Bk.mp e,AH rfl];exact⟨_,rfl⟩
 ·obtain⟨q,hq,rfl⟩:=h1 p hp;rw[h5];rcases JT hq with e|e
  ·obtain⟨nm,h⟩:=b.own q e;exact⟨nm,Ig _ h⟩
  ·rw[e];exact⟨o,EU _ (Bk.mpr rfl)⟩
 ·obtain⟨q,hq,rfl⟩:=h1 p hp;show 0<=q.1/\q.1<n.made+1;rcases JT hq with e|e
  ·have:=b.lt q e
   lia
  ·rw[e];show 0<=n.made/\n.made<n.made+1
   lia
 ·obtain⟨q,hq,rfl⟩:=h1 p hp;obtain⟨w0,h3,rfl⟩:=BZ.mp hw;rcases JT hq with e|e
  ·exact(Vw b h0 ho (b.wd q e w0 h3)).2
  ·rw[e] at h3;cases h3
def XF(b:Bq n)(h0:0<=n.made)(ho:AF n.names o=none){ws:List Wd}(hw:AF n.texts no=some ws):Aj (n.added o) no=Aj n no:=by
 have h2:no≠n.made:=by have:=(b.lt _ (BO hw)).2;dsimp only at this;lia
 have e2:AF (n.added o).texts no=some (ws.map (CT o n.made)):=by rw[O0,AG h2,hw];rfl
 have:=TZ (h:=id) hw e2 fun w h1=>(Vw b h0 ho (b.wd _ (BO hw) w h1)).1;rw[this,Ov]
def Xh(b:Bq n)(h0:0<=n.made)(ho:AF n.names o=none):vw (n.added o)=AV (vw n) o []:=by
 have hv:AF (vw n) o=none:=by rw[Ea,ho];rfl
 rw[Fh hv];unfold vw;rw[Ot ho,BG];congr 1
 ·refine Ek fun p hp=>?_;obtain⟨ws,hw⟩:=b.tx p hp;show(p.1,Aj (n.added o) p.2)=_;rw[XF b h0 ho hw]
 ·show[(o,Aj (n.added o) n.made)]=_;unfold Aj;rw[O0,AH rfl];rfl
end
section
variable{a:Str}{ws:List Wd}
def Nk.Cr(n:Nk)(no:Int)(ws:List Wd):Nk:={n with texts:=AV n.texts no ws}
def Bq.Cr(b:Bq n)(ha:AF n.names a=some no)(ok:∀w∈ws,E5 n.names w):Bq (n.Cr no ws):=by
 refine⟨b.Cm,b.inj,EZ b.CW,fun p hp=>?_,fun p hp=>?_,fun p hp=>?_,fun p hp w hw=>?_⟩
 ·show∃x,AF (AV n.texts no ws) p.2=some x;rw[Co];by_cases z:p.2=no
  ·rw[AH z];exact⟨_,rfl⟩
  ·rw[AG z];exact b.tx p hp
 ·rcases JT hp with e|e
  ·exact b.own p e
  ·rw[e];exact⟨a,BO ha⟩
 ·rcases JT hp with e|e
  ·exact b.lt p e
  ·rw[e];exact b.FZ (BO ha)
 ·rcases JT hp with e|e
  ·exact b.wd p e w hw
  ·rw[e] at hw;exact ok w hw
def Pf(b:Bq n)(ha:AF n.names a=some no):vw (n.Cr no ws)=AV (vw n) a (ws.map (sh n.names)):=by
 have h3:a∈(vw n).map (·.1):=by rw[D4];exact S9 ha
 refine Mx ?_ (by rw[D4];exact b.Cm) fun k hk=>?_
 ·rw[JQ,AH h3,D4,D4];rfl
 ·rw[Ea,Co,Ea];rw[D4] at hk;obtain⟨h0,h2⟩:=LZ hk;have h1:AF n.names k=some h0:=h2;show(AF n.names k).map (Aj (n.Cr no ws))=_;rw[h1];show some (Aj (n.Cr no ws) h0)=_;have e:Aj (n.Cr no ws) h0=((AF (AV n.texts no ws) h0).getD []).map (sh n.names):=rfl;rw[e,Co];by_cases z:k=a
  ·rw[AH z,AH ((b.same ha h1).mpr z)];rfl
  ·rw[AG z,AG (fun y=>z ((b.same ha h1).mp y))];rfl
end
def Yg{l:List Pg}{k:Str}{x y:List PR}(nd:(l.map (·.1)).Nodup):AV (AV l k x) k y=AV l k y:=by
 refine Mx ?_ (EZ (EZ nd)) fun j hj=>?_
 ·rw[JQ,JQ,JQ];by_cases h:k∈l.map (·.1)
  ·rw[AH h,AH h]
  ·rw[AG h,AH (by simp)]
 ·rw[Co,Co,Co];split<;>rfl
section
variable{a o:Str}
def Nk.renamed(n:Nk)(a o:Str)(no:Int):Nk:=({n with names:=AN n.names a}:Nk).named o no
def Mv{a o:Str}(h:AF l o=none):AF (AN l a) o=none:=by
 by_cases z:o=a
 ·rw[z];exact F4 ..
 ·rw[DT z];exact h
def Mu(ho:AF n.names o=none):(n.renamed a o no).names=AN n.names a++[(o,no)]:=Fh (Mv ho)
def X5(b:Bq n)(ha:AF n.names a=some no)(ho:AF n.names o=none):((n.renamed a o no).names.map (·.2)).Nodup:=by refine TC (M3 b.inj) (Mv ho) fun h=>?_;obtain⟨p,hp,e⟩:=BZ.mp h;obtain⟨h1,h2⟩:=Gk hp;exact h2 (KZ b.inj (show(p.1,no)∈n.names by rw[<-e];exact h1) (BO ha))
def W6(b:Bq n)(ha:AF n.names a=some no)(ho:AF n.names o=none){w:Wd}(ok:E5 n.names w):sh (n.renamed a o no).names (CT o no w)=Jr a o (sh n.names w)/\E5 (n.renamed a o no).names (CT o no w):=by
 have h0:=X5 b ha ho;have e1:o≠a:=fun z=>by rw[z,ha] at ho;cases ho
 have h8:=b.FZ (BO ha);have h6:(o,no)∈(n.renamed a o no).names:=by rw[Mu ho];exact EU _ (Bk.mpr rfl)
 have gn:∀k,k≠o->AF n.names k=none->AF (n.renamed a o no).names k=none:=fun k h1 h2=>by show AF (AV (AN n.names a) o no) k=none;rw[Co,AG h1];exact Mv h2
 have mn:∀x m,(x,m)∈n.names->x≠a->(x,m)∈(n.renamed a o no).names:=fun x m h1 h2=>by rw[Mu ho];exact Ig _ (IJ h1 h2)
 obtain⟨t,nm,m⟩:=w;unfold CT
 cases t with
 |false=>rw[AG (fun z=>by cases z.1)];exact⟨by rw[Hl rfl,Hl rfl,Yj],fun z=>by cases z⟩
 |true=>
  rcases ok rfl with⟨hl,h9⟩|⟨x,hx⟩
  ·have e0:m= -1:=hl;have h3:AF n.names nm=none:=h9;have h7:nm≠a:=fun z=>by rw[z,ha] at h3;cases h3
   rw[Fg (names:=n.names) rfl hl,PB h7];by_cases e:nm=o
   ·rw[AH ⟨rfl,e0,e⟩];refine⟨?_,fun _=>.inr ⟨o,h6⟩⟩;show _=(("to" :Str),nm);rw[e];exact Ep h0 (w:=⟨true,_,no⟩) rfl (by show no≠-1;lia) h6
   ·rw[AG (fun z=>e z.2.2)];exact⟨Fg rfl hl,fun _=>.inl ⟨hl,gn _ e h3⟩⟩
  ·have h4:(x,m)∈n.names:=hx;have hp:=b.FZ h4;have hn:m≠-1:=by lia
   rw[AG (fun z=>hn z.2.1),Ep b.inj (w:=⟨true,nm,m⟩) rfl hn h4];by_cases e:x=a
   ·have em:m=no:=by have h1:=Hf b.Cm h4;rw[e,ha] at h1;exact(Af h1).symm
    rw[e,Zn];have h5:(o,m)∈(n.renamed a o no).names:=by rw[em];exact h6
    exact⟨Ep h0 (w:=⟨true,nm,m⟩) rfl hn h5,fun _=>.inr ⟨o,h5⟩⟩
   ·rw[PB e];exact⟨Ep h0 (w:=⟨true,nm,m⟩) rfl hn (mn _ _ h4 e),fun _=>.inr ⟨x,mn _ _ h4 e⟩⟩
def X3(m:Int):AF (n.renamed a o no).texts m=(AF n.texts m).map (List.map (CT o no)):=NO _ _ _
def Bq.renamed(b:Bq n)(ha:AF n.names a=some no)(ho:AF n.names o=none):Bq (n.renamed a o no):=by
 have h2:(n.renamed a o no).texts=n.texts.map fun p=>(p.1,p.2.map (CT o no)):=rfl;have h0:∀p∈(n.renamed a o no).texts,∃q∈n.texts,p=(q.1,q.2.map (CT o no)):=fun p hp=>by rw[h2] at hp;obtain⟨q,hq,e⟩:=BZ.mp hp;exact⟨q,hq,e.symm⟩
 refine⟨EZ (DI b.Cm),X5 b ha ho,by rw[h2,Ba];exact b.CW,fun p hp=>?_,fun p hp=>?_,fun p hp=>?_,fun p hp w hw=>?_⟩
 ·rw[X3];rw[Mu ho] at hp;have:∃ws,AF n.texts p.2=some ws:=by
   rcases Bp.mp hp with e|e
   ·exact b.tx p (Gk e).1
   ·rw[Bk.mp e];exact b.tx (a,no) (BO ha)
  obtain⟨ws,hw⟩:=this;rw[hw];exact⟨_,rfl⟩
 ·obtain⟨q,hq,rfl⟩:=h0 p hp;obtain⟨nm,h⟩:=b.own q hq;rw[Mu ho];by_cases z:nm=a
  ·have:q.1=no:=by have h1:=Hf b.Cm h;rw[z,ha] at h1;exact(Af h1).symm
   exact⟨o,EU _ (by show(o,q.1)∈_;rw[this];exact Bk.mpr rfl)⟩
  ·exact⟨nm,Ig _ (IJ h z)⟩
 ·obtain⟨q,hq,rfl⟩:=h0 p hp;exact b.lt q hq
 ·obtain⟨q,hq,rfl⟩:=h0 p hp;obtain⟨w0,h3,rfl⟩:=BZ.mp hw;exact(W6 b ha ho (b.wd q hq w0 h3)).2
def md(b:Bq n)(ha:AF n.names a=some no)(ho:AF n.names o=none):vw (n.renamed a o no)=C4 (AV (AN (vw n) a) o (Aj n no)) a o:=by
 have h3:(vw n).map (·.1)=n.names.map (·.1):=D4 n;refine Mx ?_ (by rw[D4];exact EZ (DI b.Cm)) fun k hk=>?_
 ·rw[D4,Pb,JQ,II,h3];show(AV (AN n.names a) o no).map (·.1)=_;rw[JQ,II]
 ·rw[Ea,TR,Co];show(AF (AV (AN n.names a) o no) k).map _=_;rw[Co];have h0:∀m x,AF n.names x=some m->Aj (n.renamed a o no) m=C6 (Aj n m) a o:=fun m x hx=>by obtain⟨ws,h1,h2⟩:=b.text hx;rw[Sf];exact TZ (h:=Jr a o) h1 (by rw[X3,h1];rfl) fun w hw=>(W6 b ha ho (h2 w hw)).1
  by_cases z:k=o
  ·rw[AH z,AH z];exact BL some (h0 no a ha)
  ·rw[AG z,AG z];by_cases z2:k=a
   ·rw[z2,F4,F4];rfl
   ·rw[DT z2,DT z2,Ea]
    cases e:AF n.names k with
    |none=>rfl
    |some m=>exact BL some (h0 m k e)
end
section
variable{a o:Str}{no2:Int}
def Nk.dropped(n:Nk)(a:Str)(no:Int):Nk:=({n with names:=AN n.names a,texts:=AN n.texts no}:Nk).turned no a (-1)
def Wk(b:Bq n)(ha:AF n.names a=some no){w:Wd}(ok:E5 n.names w):sh (AN n.names a) (CS no a (-1) w)=sh n.names w/\E5 (AN n.names a) (CS no a (-1) w):=by
 have h3:=M3 (k:=a) b.inj;obtain⟨t,nm,m⟩:=w;unfold CS
 cases t with
 |false=>rw[AG (fun z=>by cases z.1)];exact⟨by rw[Hl rfl,Hl rfl],fun z=>by cases z⟩
 |true=>
  have h4:=b.FZ (BO ha);rcases ok rfl with⟨hl,h5⟩|⟨x,hx⟩
  ·have h6:m= -1:=hl;rw[AG (fun z=>by have h2:m=no:=z.2;lia)];exact⟨by rw[Fg rfl hl,Fg rfl hl],fun _=>.inl ⟨hl,Mv h5⟩⟩
  ·have h0:(x,m)∈n.names:=hx;have hn:m≠-1:=by have:=b.FZ h0;lia
   rw[Ep b.inj (w:=⟨true,nm,m⟩) rfl hn h0];by_cases e:m=no
   ·rw[AH ⟨rfl,e⟩];have ex:x=a:=KZ b.inj (by rw[<-e];exact h0) (BO ha);rw[ex];exact⟨Fg (w:=⟨true,a,-1⟩) rfl rfl,fun _=>.inl ⟨rfl,F4 ..⟩⟩
   ·rw[AG (fun z=>e z.2)];have ex:x≠a:=fun z=>by have h1:=Hf b.Cm h0;rw[z,ha] at h1;exact e (Af h1).symm
    exact⟨Ep h3 (w:=⟨true,nm,m⟩) rfl hn (IJ h0 ex),fun _=>.inr ⟨x,IJ h0 ex⟩⟩
def Bq.dropped(b:Bq n)(ha:AF n.names a=some no):Bq (n.dropped a no):=by
 have h4:(n.dropped a no).texts=(AN n.texts no).map fun p=>(p.1,p.2.map (CS no a (-1))):=rfl;have h0:∀p∈(n.dropped a no).texts,∃q∈n.texts,q.1≠no/\p=(q.1,q.2.map (CS no a (-1))):=fun p hp=>by rw[h4] at hp;obtain⟨q,hq,e⟩:=BZ.mp hp;exact⟨q,(Gk hq).1,(Gk hq).2,e.symm⟩
 refine⟨DI b.Cm,M3 b.inj,by rw[h4,Ba];exact DI b.CW,fun p hp=>?_,fun p hp=>?_,fun p hp=>?_,fun p hp w hw=>?_⟩
 ·obtain⟨h1,h2⟩:=Gk hp;obtain⟨ws,hw⟩:=b.tx p h1;have h3:p.2≠no:=fun z=>h2 (KZ b.inj (show(p.1,no)∈n.names by rw[<-z];exact h1) (BO ha));have:AF (n.dropped a no).texts p.2=(AF (AN n.texts no) p.2).map (List.map (CS no a (-1))):=NO _ _ _;rw[this,DT h3,hw];exact⟨_,rfl⟩
 ·obtain⟨q,hq,h3,rfl⟩:=h0 p hp;obtain⟨nm,h⟩:=b.own q hq;refine⟨nm,IJ h fun z=>h3 ?_⟩;have h1:=Hf b.Cm h;have z':nm=a:=z;rw[z',ha] at h1;exact(Af h1).symm
 ·obtain⟨q,hq,_,rfl⟩:=h0 p hp;exact b.lt q hq
 ·obtain⟨q,hq,_,rfl⟩:=h0 p hp;obtain⟨w0,h5,rfl⟩:=BZ.mp hw;exact(Wk b ha (b.wd q hq w0 h5)).2
def js(b:Bq n)(ha:AF n.names a=some no):vw (n.dropped a no)=AN (vw n) a:=by
 refine Mx ?_ (by rw[D4];exact DI b.Cm) fun k hk=>?_
 ·rw[D4,II,D4];exact II ..
 ·rw[Ea];show(AF (AN n.names a) k).map _=_;by_cases z:k=a
  ·rw[z,F4,F4];rfl
  ·rw[DT z,DT z,Ea]
   cases e:AF n.names k with
   |none=>rfl
   |some m=>
    obtain⟨ws,h1,h2⟩:=b.text e;have h0:m≠no:=fun y=>z ((b.same ha e).mp y);have e2:AF (n.dropped a no).texts m=some (ws.map (CS no a (-1))):=by have:AF (n.dropped a no).texts m=(AF (AN n.texts no) m).map (List.map (CS no a (-1))):=NO _ _ _;rw[this,DT h0,h1];rfl
    have:=TZ (n':=n.dropped a no) (h:=id) h1 e2 fun w hw=>(Wk b ha (h2 w hw)).1;show some (Aj (n.dropped a no) m)=some (Aj n m);rw[this,Ov]
end
section
variable{a o:Str}{no2:Int}{w1 w2:List Wd}
def Wb(b:Bq n)(ha:AF n.names a=some no)(ho:AF n.names o=some no2)(hne:a≠o){w:Wd}(ok:E5 n.names w):sh (AN n.names o) (CS no2 "" no w)=Jr o a (sh n.names w)/\E5 (AN n.names o) (CS no2 "" no w):=by
 have h3:=M3 (k:=o) b.inj;have h7:(a,no)∈AN n.names o:=IJ (BO ha) hne;have h9:=b.FZ (BO ha);have h5:=b.FZ (BO ho);obtain⟨t,nm,m⟩:=w;unfold CS
 cases t with
 |false=>rw[AG (fun z=>by cases z.1)];exact⟨by rw[Hl rfl,Hl rfl,Yj],fun z=>by cases z⟩
 |true=>
  rcases ok rfl with⟨hl,h6⟩|⟨x,hx⟩
  ·have e0:m= -1:=hl;have h4:AF n.names nm=none:=h6;have h8:nm≠o:=fun z=>by rw[z,ho] at h4;cases h4
   rw[AG (fun z=>by have h2:m=no2:=z.2;lia)];exact⟨by rw[Fg rfl hl,Fg rfl hl,PB h8],fun _=>.inl ⟨hl,Mv h6⟩⟩
  ·have h0:(x,m)∈n.names:=hx;have hn:m≠-1:=by have:=b.FZ h0;lia
   rw[Ep b.inj (w:=⟨true,nm,m⟩) rfl hn h0];by_cases e:m=no2
   ·rw[AH ⟨rfl,e⟩];have ex:x=o:=KZ b.inj (by rw[<-e];exact h0) (BO ho);rw[ex,Zn];exact⟨Ep h3 (w:=⟨true,"",no⟩) rfl (by show no≠-1;lia) h7,fun _=>.inr ⟨a,h7⟩⟩
   ·rw[AG (fun z=>e z.2)];have ex:x≠o:=fun z=>by have h1:=Hf b.Cm h0;rw[z,ho] at h1;exact e (Af h1).symm
    rw[PB ex];exact⟨Ep h3 (w:=⟨true,nm,m⟩) rfl hn (IJ h0 ex),fun _=>.inr ⟨x,IJ h0 ex⟩⟩
def SI(m:Int):AF (n.joined no o no2 w1 w2).texts m=((if m=no then some (w1++w2) else AF (AN n.texts no2) m):Option (List Wd)).map (List.map (CS no2 "" no)):=by show AF (Nk.I8 _ (CS no2 "" no)).texts m=_;rw[NO];show(AF (AV (AN n.texts no2) no (w1++w2)) m).map _=_;rw[Co]
def Bq.joined(b:Bq n)(ha:AF n.names a=some no)(ho:AF n.names o=some no2)(hne:a≠o)(h1:AF n.texts no=some w1)(h2:AF n.texts no2=some w2):Bq (n.joined no o no2 w1 w2):=by
 have nn:no≠no2:=fun z=>hne ((b.same ho ha).mp z);have h5:(n.joined no o no2 w1 w2).texts=(AV (AN n.texts no2) no (w1++w2)).map fun p=>(p.1,p.2.map (CS no2 "" no)):=rfl;have h0:∀p∈(n.joined no o no2 w1 w2).texts,∃q,((q∈n.texts/\q.1≠no2)\/q=(no,w1++w2))/\p=(q.1,q.2.map (CS no2 "" no)):=fun p hp=>by
  rw[h5] at hp;obtain⟨q,hq,e⟩:=BZ.mp hp;refine⟨q,?_,e.symm⟩;rcases JT hq with z|z
  ·exact .inl (Gk z)
  ·exact .inr z
 refine⟨DI b.Cm,M3 b.inj,by rw[h5,Ba];exact EZ (DI b.CW),fun p hp=>?_,fun p hp=>?_,fun p hp=>?_,fun p hp w hw=>?_⟩
 ·obtain⟨g1,g2⟩:=Gk hp;obtain⟨ws,hw⟩:=b.tx p g1;rw[SI];by_cases z:p.2=no
  ·rw[AH z];exact⟨_,rfl⟩
  ·have h3:p.2≠no2:=fun z=>g2 (KZ b.inj (show(p.1,no2)∈n.names by rw[<-z];exact g1) (BO ho));rw[AG z,DT h3,hw];exact⟨_,rfl⟩
 ·obtain⟨q,hq,rfl⟩:=h0 p hp;rcases hq with⟨hq,h6⟩|rfl
  ·obtain⟨nm,h⟩:=b.own q hq;refine⟨nm,IJ h fun z=>h6 ?_⟩;have g1:=Hf b.Cm h;have z':nm=o:=z;rw[z',ho] at g1;exact(Af g1).symm
  ·exact⟨a,IJ (BO ha) hne⟩
 ·obtain⟨q,hq,rfl⟩:=h0 p hp;rcases hq with⟨hq,_⟩|rfl
  ·exact b.lt q hq
  ·exact b.FZ (BO ha)
 ·obtain⟨q,hq,rfl⟩:=h0 p hp;obtain⟨w0,h4,rfl⟩:=BZ.mp hw;refine(Wb b ha ho hne ?_).2;rcases hq with⟨hq,_⟩|rfl
  ·exact b.wd q hq w0 h4
  ·rcases Bp.mp h4 with z|z
   ·exact b.wd _ (BO h1) w0 z
   ·exact b.wd _ (BO h2) w0 z
def j8(b:Bq n)(ha:AF n.names a=some no)(ho:AF n.names o=some no2)(hne:a≠o)(h1:AF n.texts no=some w1)(h2:AF n.texts no2=some w2):
 vw (n.joined no o no2 w1 w2)=C4 (AV (AN (vw n) o) a (Aj n no++Aj n no2)) o a:=by
 have h3:(vw n).map (·.1)=n.names.map (·.1):=D4 n;have h0:∀ws:List Wd,(∀w∈ws,E5 n.names w)->(ws.map (CS no2 "" no)).map (sh (AN n.names o))=(ws.map (sh n.names)).map (Jr o a):=fun ws h=>by rw[Ba,Ba];exact Ek fun w hw=>(Wb b ha ho hne (h w hw)).1
 refine Mx ?_ (by rw[D4];exact DI b.Cm) fun k hk=>?_
 ·rw[D4,Pb,JQ,II,h3,AH]
  ·exact II ..
  ·exact F3.mpr ⟨S9 ha,by simpa using hne⟩
 ·rw[Ea,TR,Co];show(AF (AN n.names o) k).map _=_;by_cases z:k=o
  ·rw[z,F4,AG hne.symm,F4];rfl
  ·rw[DT z];by_cases y:k=a
   ·rw[AH y,y,ha];show some (((AF (n.joined no o no2 w1 w2).texts no).getD []).map (sh (AN n.names o)))=some (C6 _ o a);rw[SI,AH rfl,Sf];show some (((w1++w2).map (CS no2 "" no)).map (sh (AN n.names o)))=_;rw[h0 _ fun w hw=>by
     rcases Bp.mp hw with z|z
     ·exact b.wd _ (BO h1) w z
     ·exact b.wd _ (BO h2) w z];unfold Aj;rw[h1,h2,BG];rfl
   ·rw[AG y,DT z,Ea]
    cases e:AF n.names k with
    |none=>rfl
    |some m=>obtain⟨ws,g1,g2⟩:=b.text e;have m1:m≠no:=fun q=>y ((b.same ha e).mp q);have m2:m≠no2:=fun q=>z ((b.same ho e).mp q);show some (((AF (n.joined no o no2 w1 w2).texts m).getD []).map (sh (AN n.names o)))=some (C6 (Aj n m) o a);rw[SI,AG m1,DT m2,g1,Sf];show some ((ws.map (CS no2 "" no)).map (sh (AN n.names o)))=_;rw[h0 ws g2];unfold Aj;rw[g1];rfl
end
def Nk.wrote(n:Nk)(a t:Str):Nk:=match AF n.names a with
 |some no=>n.Cr no (Gp n.names t)
 |none=>(n.added a).Cr n.made (Gp (n.added a).names t)
def Nk.IU(n:Nk)(no:Int)(k:Nat)(o:Str):Nk:=((n.added o).Cr n.made (((AF (n.added o).texts no).getD []).drop k)).Cr no (((AF (n.added o).texts no).getD []).take k++[⟨true,o,n.made⟩])
def str_list{a b:Str}:a=b↔a.cps.toList=b.cps.toList:=⟨fun h=>by rw[h],fun h=>Vj h⟩
def Vt(l:List Nat)(a:Nat):∀m,(List.range m).filterMap (fun k=>l[a+k]?)=(l.drop a).take m
 |0=>by simp
 |m+1=>by rw[List.range_succ,List.filterMap_append,Vt l a m,List.take_succ,LB];congr 1
def slice_list(x:Str)(l u:Option Int)(lo hi:Nat)(hl:lo<=x.length)(hu:hi<=x.length)
 (DD:Builtin.Str.strSliceIndices l u 1 x.length=sliceRange (lo:Int) (hi:Int) 1):(Txt.slice x l u).cps.toList=(x.cps.toList.drop lo).take (hi-lo):=by
 have hn:x.cps.toList.length=x.length:=by simp[Str.length]
 have h1:Builtin.Str.strSliceIndices l u 1 x.length=(List.range (hi-lo)).map fun k=>lo+k:=by
  rw[DD];unfold sliceRange;simp only[show(1:Int)>0 by decide,CO];have ec:((if(lo:Int)<(hi:Int) then((hi:Int)-lo+1-1)/1 else 0):Int).toNat=hi-lo:=by split<;>lia
  rw[ec];refine Ek fun k _=>?_;show((lo:Int)+1*(k:Int)).toNat=lo+k
  lia
 unfold Txt.slice;rw[h1];split
 ·rename_i h;have:hi-lo=x.length:=by simpa using h
  have h0:lo=0:=by lia
  rw[h0,Oe,F0 (by lia)]
 ·show(((List.range (hi-lo)).map fun k=>lo+k).filterMap fun i=>x.cps[i]?)=_;rw[List.filterMap_map];have:=Vt x.cps.toList lo (hi-lo);rw[<-this];have ef:((fun i=>x.cps[i]?)∘fun k=>lo+k)=fun k=>x.cps.toList[lo+k]? :=funext fun k=>by show x.cps[lo+k]? =_;rw[GY]
  rw[ef]
def eS(x:Str):(Txt.slice x none (some 1)).cps.toList=x.cps.toList.take 1:=by
 have:=slice_list x none (some 1) 0 (min 1 x.length) (CN _) (Nat.min_le_right ..) (by
  unfold Builtin.Str.strSliceIndices;simp only[show(1:Int)>0 by decide,CO,show¬(1:Int)<0 by decide,Bs];congr 1
  lia);rw[this,Oe];have hn:x.cps.toList.length=x.length:=by simp[Str.length]
 by_cases h:1<=x.length
 ·rw[show min 1 x.length-0=1 by lia]
 ·rw[F0 (by lia),F0 (by lia)]
def cS(x:Str):(Txt.slice x (some (-1)) none).cps.toList=x.cps.toList.drop (x.length-1):=by
 have:=slice_list x (some (-1)) none (x.length-1) x.length (by lia) (Ad _) (by
  unfold Builtin.Str.strSliceIndices;simp only[show(1:Int)>0 by decide,CO,show(-1:Int)<0 by decide];congr 1
  lia);rw[this];have hn:x.cps.toList.length=x.length:=by simp[Str.length]
 rw[F0 (by rw[EX];lia)]
def cn(x:Str):(Txt.slice x (some 1) (some (-1))).cps.toList=(x.cps.toList.drop 1).take (x.length-2):=by
 have:=slice_list x (some 1) (some (-1)) (min 1 x.length) (x.length-1) (Nat.min_le_right ..) (by lia) (by unfold Builtin.Str.strSliceIndices;simp only[show(1:Int)>0 by decide,CO,show(-1:Int)<0 by decide,show¬(1:Int)<0 by decide,Bs];congr 1<;>lia);rw[this];have hn:x.cps.toList.length=x.length:=by simp[Str.length]
 by_cases h:1<=x.length
 ·rw[show min 1 x.length=1 by lia,show x.length-1-1=x.length-2 by lia]
 ·rw[show x.length-1-min 1 x.length=0 by lia,show x.length-2=0 by lia];simp
def Pp:("[" :Str).cps.toList=[91]:=by left
def Pt:("]" :Str).cps.toList=[93]:=by left
def PN(a b:Str):(a++b).cps.toList=a.cps.toList++b.cps.toList:=by show(a.cps++b.cps).toList=_;rw[GZ]
def gC(x:Str):decide (V.str (Txt.slice x none (some 1))=V.str "[")=Txt.startswith x "[" :=by
 have hn:x.cps.toList.length=x.length:=by simp[Str.length]
 have l1:("[" :Str).length=1:=by left
 have e1:(V.str (Txt.slice x none (some 1))=V.str "[")↔x.cps.toList.take 1=[91]:=by rw[V.str.injEq,str_list,eS,Pp]
 have e2:Txt.startswith x "[" =true↔x.cps.toList.take 1=[91]:=by
  unfold Txt.startswith Builtin.Str.subAt;rw[l1,F2,OT,Gg,<-J7,Pp,VT];constructor
  ·intro h;have:=h.2;simpa[VD] using this
  ·intro h;refine⟨?_,by simpa[VD] using h⟩;have:=BL List.length h;rw[Bm,hn] at this;have t2:min 1 x.length=1:=this
   lia
 cases e:Txt.startswith x "[" with
 |true=>exact BW (e1.mpr (e2.mp e))
 |false=>exact BK fun z=>by rw[e2.mpr (e1.mp z)] at e;cases e
def kM(x:Str):decide (V.str (Txt.slice x (some (-1)) none)=V.str "]")=Txt.endswith x "]" :=by
 have hn:x.cps.toList.length=x.length:=by simp[Str.length]
 have l1:("]" :Str).length=1:=by left
 have e1:(V.str (Txt.slice x (some (-1)) none)=V.str "]")↔x.cps.toList.drop (x.length-1)=[93]:=by rw[V.str.injEq,str_list,cS,Pt]
 have e2:Txt.endswith x "]" =true↔x.cps.toList.drop (x.length-1)=[93]:=by
  unfold Txt.endswith Builtin.Str.subAt;rw[l1,F2,OT,Gg,<-J7,Pt,VT];have et:∀h:1<=x.length,List.extract x.cps.toList (x.length-1) (x.length-1+1)=x.cps.toList.drop (x.length-1):=fun h=>by rw[VD,F0 (by rw[EX];lia)]
  constructor
  ·intro h;rw[<-et (by lia)];exact h.2
  ·intro h;have h1:1<=x.length:=by
    have:=BL List.length h;rw[EX,hn] at this;have t2:x.length-(x.length-1)=1:=this
    lia
   exact⟨by lia,by rw[et h1];exact h⟩
 cases e:Txt.endswith x "]" with
 |true=>exact BW (e1.mpr (e2.mp e))
 |false=>exact BK fun z=>by rw[e2.mpr (e1.mp z)] at e;cases e
def PV(z:Str):DN z=isNm z:=by
 unfold DN isNm;congr 1;generalize z.cps.toList=l
 induction l with
 |nil=>rfl
 |cons c l ih=>
  have hb:FT c= !D8 c:=by unfold FT D8;rw[Bool.not_or]
  rw[LN,hb,<-ih]
  cases e:D8 c with
  |true=>rw[Ej e];rfl
  |false=>rw[Fb (by simp[e])];rfl
def Wr(p:Str):IQ p=IV p:=by unfold IQ IV;rw[gC,kM,PV];rfl
def eW(x:Str):Txt.slice ("[" ++x++ "]") (some 1) (some (-1))=x:=by
 rw[str_list,cn,PN,PN,Pp,Pt];have hn:x.cps.toList.length=x.length:=by simp[Str.length]
 have hl:("[" ++x++ "]" :Str).length=x.length+2:=by
  have:("[" ++x++ "]" :Str).cps.toList.length=("[" ++x++ "]" :Str).length:=by simp[Str.length]
  rw[<-this,PN,PN,Pp,Pt];simp;omega
 rw[hl,Bl];show((x.cps.toList++[93]).take (x.length+2-2))=_;rw[List.take_append_of_le_length (by lia),F0 (by lia)]
def WK(inj:(names.map (·.2)).Nodup)(pos:∀p∈names,0<=p.2)(t:Str):(Gp names t).map (sh names)=DM t/\∀w∈Gp names t,E5 names w:=by
 have one:∀p:Str,(EL names p=none/\p="")\/∃w,EL names p=some w/\p≠ "" /\sh names w=EN p/\E5 names w:=fun p=>by
  unfold EL;by_cases hp:IQ p=true
  ·rw[AH hp];refine .inr ⟨_,rfl,fun z=>?_,?_,fun _=>?_⟩
   ·rw[z] at hp;exact absurd hp (by left)
   ·have h0:IV p=true:=by rw[<-Wr];exact hp
    have er:EN p=(("to" :Str),inner p):=by unfold EN;rw[AH h0];rfl
    rw[er]
    cases e:AF names (inner p) with
    |none=>exact Fg (w:=⟨true,inner p,-1⟩) rfl rfl
    |some no=>have hm:=BO e;have:=pos _ hm;exact Ep inj (w:=⟨true,inner p,no⟩) rfl (by show no≠-1;have t2:(0:Int)<=no:=this;lia) hm
   ·cases e:AF names (inner p) with
    |none=>exact .inl ⟨rfl,rfl⟩
    |some no=>exact .inr ⟨inner p,BO e⟩
  ·rw[AG hp];by_cases he:p=""
   ·rw[AH he];exact .inl ⟨rfl,he⟩
   ·rw[AG he];refine .inr ⟨_,rfl,he,?_,fun z=>by cases z⟩;have h0:¬IV p=true:=by rw[<-Wr];exact hp
    have er:EN p=(("word" :Str),p):=by unfold EN;rw[AG h0]
    rw[er];exact Hl rfl
 unfold Gp DM Cc;generalize Txt.split t " " =L
 induction L with
 |nil=>exact⟨rfl,fun w hw=>by cases hw⟩
 |cons p L ih=>
  obtain⟨h2,h1⟩:=ih;rcases one p with⟨e1,e2⟩|⟨w,e1,e2,e3,e4⟩
  ·rw[List.filterMap_cons_none e1,Fb (by simp[e2])];exact⟨h2,h1⟩
  ·rw[List.filterMap_cons_some e1,Ej (by simp[e2]),Av,Av,h2,e3];refine⟨rfl,fun w' h3=>?_⟩;rcases Bn.mp h3 with z|z
   ·rw[z];exact e4
   ·exact h1 w' z
def wl(n:Nk):Prop:=∀p∈n.texts,∀w∈p.2,w.nm.length<=1000
structure Bd(n:Nk):Prop where
 b:Bq n
 h0:0<=n.made
 nm:∀p∈n.names,p.1.length<=40
 wl:wl n
def X6(o:Str)(no:Int)(w:Wd):(CT o no w).nm=w.nm:=by unfold CT;split<;>rfl
def X0{other:Int}{nm:Str}{w:Wd}(h1:nm.length<=1000)(h2:w.nm.length<=1000):(CS no nm other w).nm.length<=1000:=by
 unfold CS;split
 ·exact h1
 ·exact h2
def Pj{g:Wd->Wd}(h:wl n)(hg:∀w,w.nm.length<=1000->(g w).nm.length<=1000):wl (n.I8 g):=fun p hp w hw=>by obtain⟨q,hq,rfl⟩:=BZ.mp hp;obtain⟨w0,h0,rfl⟩:=BZ.mp hw;exact hg w0 (h q hq w0 h0)
def TJ{ws:List Wd}(h:wl n)(hw:∀w∈ws,w.nm.length<=1000):wl {n with texts:=AV n.texts no ws}:=fun p hp w h0=>by
 rcases JT hp with e|e
 ·exact h p e w h0
 ·rw[e] at h0;exact hw w h0
def Xz(h:wl n):wl {n with texts:=AN n.texts no}:=fun p hp w h0=>h p (Gk hp).1 w h0
def WH{t:Str}(ht:t.length<=1000):∀w∈Gp names t,w.nm.length<=1000:=fun w hw=>by
 unfold Gp at hw;obtain⟨p,hp,e⟩:=Q1.mp hw;have h1:=Vf t p hp;unfold EL at e;split at e
 ·cases Af e;have:=Om p (some 1) (some (-1));show(inner p).length<=1000;unfold inner
  lia
 ·split at e
  ·cases e
  ·cases Af e;show p.length<=1000
   lia
def Bd.added{n:Nk}{o:Str}(h:Bd n)(ho:AF n.names o=none)(hl:o.length<=40):Bd (n.added o):=by
 refine⟨h.b.added h.h0 ho,by show 0<=n.made+1;have:=h.h0;lia,fun p hp=>?_,Pj (TJ (n:={n with made:=n.made+1}) h.wl (fun w hw=>by cases hw)) fun w hw=>by rw[X6];exact hw⟩;rw[Ot ho] at hp;rcases Bp.mp hp with e|e
 ·exact h.nm p e
 ·rw[Bk.mp e];exact hl
def Bd.Cr{n:Nk}{a:Str}{no:Int}{ws:List Wd}(h:Bd n)(ha:AF n.names a=some no)(ok:∀w∈ws,E5 n.names w)(hw:∀w∈ws,w.nm.length<=1000):Bd (n.Cr no ws):=
 ⟨h.b.Cr ha ok,h.h0,h.nm,TJ h.wl hw⟩
noncomputable def Am.asks:Am->Bool
 |.text _=>true
 |.back _=>true
 |.find _ _=>true
 |_=>false
def Ay(n:Nk)(a:Str):Int:=(AF n.names a).getD 0
def Bo(n:Nk)(no:Int):List Wd:=(AF n.texts no).getD []
def P8(n:Nk):Am->Nk
 |.write a t=>n.wrote a t
 |.rename a o=>n.renamed a o (Ay n a)
 |.join a o=>n.joined (Ay n a) o (Ay n o) (Bo n (Ay n a)) (Bo n (Ay n o))
 |.cut a p o=>n.IU (Ay n a) p.toNat o
 |.drop a=>n.dropped a (Ay n a)
 |_=>n
def Hr(n:Nk)(x:Am):Nk:=if x.asks=true then n else if BU n x="" then P8 n x else n
def iL{a t:Str}(h:Bd n)(hl:a.length<=40)(ht:t.length<=1000):Bd (n.wrote a t)/\vw (n.wrote a t)=AV (vw n) a (DM t):=by
 have h1:∀{m:Nk},Bd m->∀p∈m.names,0<=p.2:=fun hm p hp=>(hm.b.FZ (nm:=p.1) (no:=p.2) hp).1;unfold Nk.wrote
 cases e:AF n.names a with
 |some no=>obtain⟨p1,p2⟩:=WK h.b.inj (h1 h) t;exact⟨h.Cr e p2 (WH ht),by rw[Pf h.b e,p1]⟩
 |none=>
  have h':=h.added e hl;have e2:AF (n.added a).names a=some n.made:=by show AF (AV n.names a n.made) a=_;rw[Co,AH rfl]
  obtain⟨p1,p2⟩:=WK h'.b.inj (h1 h') t;refine⟨h'.Cr e2 p2 (WH ht),?_⟩;show vw ((n.added a).Cr n.made _)=_;rw[Pf h'.b e2,p1,Xh h.b h.h0 e,Yg (by rw[D4];exact h.b.Cm)]
def lN{a o:Str}(h:Bd n)(ha:AF n.names a=some no)(ho:AF n.names o=none)(hl:o.length<=40):
 Bd (n.IU no k o)/\vw (n.IU no k o)=AV (AV (vw n) o ((Aj n no).drop k)) a ((Aj n no).take k++[(("to" :Str),o)]):=by
 have h1:=h.added ho hl;have em:AF (n.added o).names o=some n.made:=by show AF (AV n.names o n.made) o=_;rw[Co,AH rfl]
 have h8:a≠o:=fun z=>by rw[z,ho] at ha;cases ha
 have ea:AF (n.added o).names a=some no:=by show AF (AV n.names o n.made) a=_;rw[Co,AG h8];exact ha
 obtain⟨w0,h7,h9⟩:=h.b.text ha;obtain⟨ws,hw,ok⟩:=h1.b.text ea;have pg:Aj n no=ws.map (sh (n.added o).names):=by rw[<-XF h.b h.h0 ho h7];unfold Aj;rw[hw];rfl
 have h4:∀w∈ws,w.nm.length<=1000:=fun w h3=>h1.wl _ (BO hw) w h3;unfold Nk.IU;rw[hw];show Bd (((n.added o).Cr n.made (ws.drop k)).Cr no (ws.take k++[⟨true,o,n.made⟩]))/\_;have h2:=h1.Cr (ws:=ws.drop k) em (fun w h3=>ok w (K9 h3)) fun w h3=>h4 w (K9 h3);have h6:∀w∈ws.take k++[(⟨true,o,n.made⟩:Wd)],E5 (n.added o).names w:=fun w h3=>by
  rcases Bp.mp h3 with z|z
  ·exact ok w (Ic z)
  ·rw[Bk.mp z];exact fun _=>.inr ⟨o,BO em⟩
 have h5:AF ((n.added o).Cr n.made (ws.drop k)).names a=some no:=ea;refine⟨h2.Cr h5 h6 fun w h3=>?_,?_⟩
 ·rcases Bp.mp h3 with z|z
  ·exact h4 w (Ic z)
  ·rw[Bk.mp z];show o.length<=1000
   lia
 ·show vw (((n.added o).Cr n.made (ws.drop k)).Cr no (ws.take k++[⟨true,o,n.made⟩]))=_;have sm:sh (n.added o).names ⟨true,o,n.made⟩=(("to" :Str),o):=Ep h1.b.inj (w:=⟨true,o,n.made⟩) rfl (by show n.made≠-1;have:=h.h0;lia) (BO em);rw[Pf h2.b h5,Pf h1.b em,Xh h.b h.h0 ho,Yg (by rw[D4];exact h.b.Cm)];show AV (AV (vw n) o ((ws.drop k).map (sh (n.added o).names))) a ((ws.take k++[(⟨true,o,n.made⟩:Wd)]).map (sh (n.added o).names))=_;rw[pg,BG,Oj,Oi];show AV _ a (_++[sh (n.added o).names (Wd.mk true o n.made)])=_;rw[sm]
def Bd.renamed{n:Nk}{a o:Str}{no:Int}(h:Bd n)(ha:AF n.names a=some no)(ho:AF n.names o=none)(hl:o.length<=40):Bd (n.renamed a o no):=by
 refine⟨h.b.renamed ha ho,h.h0,fun p hp=>?_,Pj (n:={n with names:=AV (AN n.names a) o no}) h.wl fun w hw=>by rw[X6];exact hw⟩;rw[Mu ho] at hp;rcases Bp.mp hp with e|e
 ·exact h.nm p (Gk e).1
 ·rw[Bk.mp e];exact hl
def Bd.dropped{n:Nk}{a:Str}{no:Int}(h:Bd n)(ha:AF n.names a=some no):Bd (n.dropped a no):=
 ⟨h.b.dropped ha,h.h0,fun p hp=>h.nm p (Gk hp).1,Pj (n:={n with names:=AN n.names a,texts:=AN n.texts no}) (Xz (n:=n) h.wl) fun w hw=>X0 (by have:=h.nm _ (BO ha);dsimp only at this;lia) hw⟩
def Bd.joined{n:Nk}{a o:Str}{no no2:Int}{w1 w2:List Wd}(h:Bd n)(ha:AF n.names a=some no)(ho:AF n.names o=some no2)(hne:a≠o)(h1:AF n.texts no=some w1)(h2:AF n.texts no2=some w2):Bd (n.joined no o no2 w1 w2):=by
 refine⟨h.b.joined ha ho hne h1 h2,h.h0,fun p hp=>h.nm p (Gk hp).1,Pj (TJ (n:={n with names:=AN n.names o,texts:=AN n.texts no2}) (Xz (n:=n) h.wl) fun w hw=>?_) fun w hw=>X0 (by left) hw⟩;rcases Bp.mp hw with z|z
 ·exact h.wl _ (BO h1) w z
 ·exact h.wl _ (BO h2) w z
def C2(s:Str):Rs->Prop
 |.no m=>s=m/\m≠ ""
 |.ok _ _=>s=""
 |.un _=>s=""
def Yz(n:Nk)(x:Am):C2 (BU n x) (D6 (vw n) x):=by
 have hg:=Ea n
 cases x with
 |write a t=>
  show C2 (if DN a=true then "" else "no name") (FE (vw n) a t);unfold FE;rw[PV];by_cases e:isNm a=true
  ·rw[AH e,AH e];exact rfl
  ·rw[AG e,AG e];exact⟨rfl,by left⟩
 |rename a o=>
  show C2 (if AF n.names a=none then "no page" else if DN o=false then "no name" else if AF n.names o=none then "" else "taken") (Hh (vw n) a o);unfold Hh;rw[PV,hg a]
  cases e:AF n.names a with
  |none=>rw[AH rfl];exact⟨rfl,by left⟩
  |some no=>
   rw[AG (by simp)];show C2 _ (if isNm o=true then _ else _)
   cases e2:isNm o with
   |false=>exact⟨rfl,by left⟩
   |true=>
    rw[AH rfl,AG (by simp),hg o]
    cases e3:AF n.names o with
    |none=>rw[AH rfl];exact rfl
    |some h1=>rw[AG (by simp)];exact⟨rfl,by left⟩
 |join a o=>
  show C2 (if AF n.names a=none then "no page" else if AF n.names o=none then "no page" else if a=o then "same page" else "") (Fm (vw n) a o);unfold Fm;rw[hg a]
  cases e:AF n.names a with
  |none=>rw[AH rfl];exact⟨rfl,by left⟩
  |some no=>
   rw[AG (by simp),hg o]
   cases e2:AF n.names o with
   |none=>rw[AH rfl];exact⟨rfl,by left⟩
   |some h1=>
    rw[AG (by simp)];show C2 _ (if a=o then _ else _);by_cases e3:a=o
    ·rw[AH e3,AH e3];exact⟨rfl,by left⟩
    ·rw[AG e3,AG e3];exact rfl
 |cut a p o=>
  show C2 (match AF n.names a with
   |none=>"no page"
   |some no=>if DN o=false then "no name" else if AF n.names o=none then(if p<0 then "no place" else if((AF n.texts no).getD []).length<p then "no place" else "") else "taken") (Ho (vw n) a p o);unfold Ho;rw[PV,hg a]
  cases e:AF n.names a with
  |none=>exact⟨rfl,by left⟩
  |some no=>
   show C2 (if isNm o=false then _ else _) (if isNm o=true then _ else _)
   cases e2:isNm o with
   |false=>exact⟨rfl,by left⟩
   |true=>
    rw[AH rfl,AG (by simp),hg o]
    cases e3:AF n.names o with
    |some h1=>rw[AG (by simp)];exact⟨rfl,by left⟩
    |none=>
     rw[AH rfl];have h0:(Aj n no).length=((AF n.texts no).getD []).length:=by unfold Aj;rw[AL]
     show C2 _ (if p<0\/((Aj n no).length:Int)<p then _ else _);rw[h0];by_cases c1:p<0
     ·rw[AH c1,AH (Aa c1)];exact⟨rfl,by left⟩
     ·by_cases c2:(((AF n.texts no).getD []).length:Int)<p
      ·rw[AG c1,AH c2,AH (CP c2)];exact⟨rfl,by left⟩
      ·rw[AG c1,AG c2,AG (fun z=>Or.elim z c1 c2)];exact rfl
 |drop a=>
  show C2 (if AF n.names a=none then "no page" else "") (FG (vw n) a);unfold FG;rw[hg a]
  cases e:AF n.names a with
  |none=>rw[AH rfl];exact⟨rfl,by left⟩
  |some no=>rw[AG (by simp)];exact rfl
 |text a=>
  show C2 (if AF n.names a=none then "no page" else "") (Gr (vw n) a);unfold Gr;rw[hg a]
  cases e:AF n.names a with
  |none=>rw[AH rfl];exact⟨rfl,by left⟩
  |some no=>rw[AG (by simp)];exact rfl
 |back a=>exact rfl
 |find ws h2=>
  show C2 (if ws=[] then "no words" else "") (if ws=[] then .no "no words" else .un (vw n));by_cases e:ws=[]
  ·rw[AH e,AH e];exact⟨rfl,by left⟩
  ·rw[AG e,AG e];exact rfl
def jf(h:Bd n){x:Am}(g:x.Good):Bd (Hr n x)/\vw (Hr n x)=(D6 (vw n) x).next (vw n):=by
 have br:=Yz n x;have hg:=Ea n;unfold Hr;by_cases ha:x.asks=true
 ·rw[AH ha];refine⟨h,?_⟩
  cases x with
  |text a=>show _=(Gr (vw n) a).next (vw n);unfold Gr;cases AF (vw n) a<;>rfl
  |back a=>rfl
  |find ws h5=>show _=Rs.next (vw n) (if ws=[] then .no "no words" else .un (vw n));split<;>rfl
  |_=>cases ha
 ·rw[AG ha];by_cases hb:BU n x=""
  ·rw[AH hb];rw[hb] at br
   cases x with
   |write a t=>
    obtain⟨r1,r2⟩:=iL (n:=n) (a:=a) (t:=t) h g.1 g.2;refine⟨r1,r2.trans ?_⟩;have h0:C2 "" (FE (vw n) a t):=br;show _=(FE (vw n) a t).next (vw n);unfold FE at h0⊢;by_cases e:isNm a=true
    ·rw[AH e];rfl
    ·rw[AG e] at h0;exact absurd h0.1.symm h0.2
   |rename a o=>
    have h0:C2 "" (Hh (vw n) a o):=br;show Bd (n.renamed a o (Ay n a))/\vw (n.renamed a o (Ay n a))=(Hh (vw n) a o).next (vw n);unfold Hh Ay at*;rw[hg a] at h0⊢
    cases e:AF n.names a with
    |none=>rw[e] at h0;exact absurd h0.1.symm h0.2
    |some no=>
     rw[e] at h0;have h3:C2 "" (if isNm o=true then(match AF (vw n) o with|some _=>.no "taken" |none=>.ok (.int (L2.cnt (L2.renamed (vw n) a o (Aj n no)) o)) (L2.renamed (vw n) a o (Aj n no))) else .no "no name"):=h0;show Bd (n.renamed a o no)/\vw (n.renamed a o no)=Rs.next (vw n) (if isNm o=true then(match AF (vw n) o with|some _=>.no "taken" |none=>.ok (.int (L2.cnt (L2.renamed (vw n) a o (Aj n no)) o)) (L2.renamed (vw n) a o (Aj n no))) else .no "no name");by_cases e2:isNm o=true
     ·rw[AH e2,hg o] at h3⊢
      cases e3:AF n.names o with
      |some h4=>rw[e3] at h3;exact absurd h3.1.symm h3.2
      |none=>exact⟨h.renamed e e3 g.2,md h.b e e3⟩
     ·rw[AG e2] at h3;exact absurd h3.1.symm h3.2
   |join a o=>
    have h0:C2 "" (Fm (vw n) a o):=br;show Bd (n.joined (Ay n a) o (Ay n o) (Bo n (Ay n a)) (Bo n (Ay n o)))/\vw (n.joined (Ay n a) o (Ay n o) (Bo n (Ay n a)) (Bo n (Ay n o)))=(Fm (vw n) a o).next (vw n);unfold Fm at*;rw[hg a,hg o] at h0⊢;unfold Ay
    cases e:AF n.names a with
    |none=>rw[e] at h0;exact absurd h0.1.symm h0.2
    |some no=>
     cases e2:AF n.names o with
     |none=>rw[e,e2] at h0;exact absurd h0.1.symm h0.2
     |some h4=>
      rw[e,e2] at h0;have h3:C2 "" (if a=o then .no "same page" else .ok (.int (L2.cnt (L2.joined (vw n) a o (Aj n no) (Aj n h4)) a)) (L2.joined (vw n) a o (Aj n no) (Aj n h4))):=h0;show Bd (n.joined no o h4 (Bo n no) (Bo n h4))/\vw (n.joined no o h4 (Bo n no) (Bo n h4))=Rs.next (vw n) (if a=o then .no "same page" else .ok (.int (L2.cnt (L2.joined (vw n) a o (Aj n no) (Aj n h4)) a)) (L2.joined (vw n) a o (Aj n no) (Aj n h4)));by_cases e3:a=o
      ·rw[AH e3] at h3;exact absurd h3.1.symm h3.2
      ·rw[AG e3];obtain⟨w1,h1,_⟩:=h.b.text e;obtain⟨w2,h2,_⟩:=h.b.text e2;unfold Bo;rw[h1,h2];exact⟨h.joined e e2 e3 h1 h2,j8 h.b e e2 e3 h1 h2⟩
   |cut a p o=>
    have h0:C2 "" (Ho (vw n) a p o):=br;show Bd (n.IU (Ay n a) p.toNat o)/\vw (n.IU (Ay n a) p.toNat o)=(Ho (vw n) a p o).next (vw n);unfold Ho at*;rw[hg a,hg o] at h0⊢;unfold Ay
    cases e:AF n.names a with
    |none=>rw[e] at h0;exact absurd h0.1.symm h0.2
    |some no=>
     rw[e] at h0;by_cases e2:isNm o=true
     ·cases e3:AF n.names o with
      |some h4=>rw[e3] at h0;have h3:C2 "" (if isNm o=true then .no "taken" else .no "no name"):=h0;rw[AH e2] at h3;exact absurd h3.1.symm h3.2
      |none=>
       rw[e3] at h0;have h3:C2 "" (if isNm o=true then(if p<0\/((Aj n no).length:Int)<p then .no "no place" else .ok (.int (((Aj n no).drop p.toNat).length:Nat)) (cutAt (vw n) a o (Aj n no) p.toNat)) else .no "no name"):=h0;show Bd (n.IU no p.toNat o)/\vw (n.IU no p.toNat o)=Rs.next (vw n) (if isNm o=true then(if p<0\/((Aj n no).length:Int)<p then .no "no place" else .ok (.int (((Aj n no).drop p.toNat).length:Nat)) (cutAt (vw n) a o (Aj n no) p.toNat)) else .no "no name");rw[AH e2] at h3⊢;by_cases c:p<0\/((Aj n no).length:Int)<p
       ·rw[AH c] at h3;exact absurd h3.1.symm h3.2
       ·rw[AG c];exact lN h e e3 g.2
     ·cases e3:AF n.names o with
      |some h4=>rw[e3] at h0;have h3:C2 "" (if isNm o=true then .no "taken" else .no "no name"):=h0;rw[AG e2] at h3;exact absurd h3.1.symm h3.2
      |none=>rw[e3] at h0;have h3:C2 "" (if isNm o=true then(if p<0\/((Aj n no).length:Int)<p then .no "no place" else .ok (.int (((Aj n no).drop p.toNat).length:Nat)) (cutAt (vw n) a o (Aj n no) p.toNat)) else .no "no name"):=h0;rw[AG e2] at h3;exact absurd h3.1.symm h3.2
   |drop a=>
    have h0:C2 "" (FG (vw n) a):=br;show Bd (n.dropped a (Ay n a))/\vw (n.dropped a (Ay n a))=(FG (vw n) a).next (vw n);unfold FG at*;rw[hg a] at h0⊢;unfold Ay
    cases e:AF n.names a with
    |none=>rw[e] at h0;exact absurd h0.1.symm h0.2
    |some no=>exact⟨h.dropped e,js h.b e⟩
   |text a=>exact absurd rfl ha
   |back a=>exact absurd rfl ha
   |find ws h5=>exact absurd rfl ha
  ·rw[AG hb];refine⟨h,?_⟩;generalize D6 (vw n) x=r at br
   cases r with
   |no m=>rfl
   |ok a b=>exact absurd br hb
   |un a=>exact absurd br hb
def chg(n:Nk):Am->Int
 |.write a t=>(Gp (n.wrote a t).names t).length
 |.rename a o=>(n.renamed a o (Ay n a)).led (Ay n a)
 |.join a o=>(n.joined (Ay n a) o (Ay n o) (Bo n (Ay n a)) (Bo n (Ay n o))).led (Ay n a)
 |.cut a p o=>((Bo (n.added o) (Ay n a)).length:Int)-p
 |.drop a=>n.led (Ay n a)
 |_=>0
def Wj:Sp:=fun vs H Q _=>∃(a:Ya)(d:V)(x:Am)(H0:Hp)(n:Nk),vs=[.ref a,d]/\Ce H0 H a n/\Fits n/\Bd n/\n.texts.length<1000/\n.names.length<1000/\Rep H0 x.dt d/\x.Good/\x.asks=false/\BU n x="" /\
 (∀a' o',x=.join a' o'->(Bo n (Ay n a')++Bo n (Ay n o')).length<=100000)/\∀H',Ce H0 H' a (P8 n x)->Q (.int (chg n x)) H'
def Fits.T3(h:Fits n)(a:Str):Fits {n with names:=AN n.names a}:=
 ⟨DI h.Cm,h.CW,BJ (EA _ _) h.names,h.texts,h.words⟩
def Fits.Pz(h:Fits n)(no:Int):Fits {n with texts:=AN n.texts no}:=
 ⟨h.Cm,DI h.CW,h.names,BJ (EA _ _) h.texts,fun p hp=>h.words p (Gk hp).1⟩
def Fits.named(h:Fits n)(o:Str)(no:Int)(hl:n.names.length<1000):Fits (n.named o no):=by have h1:Fits {n with names:=AV n.names o no}:=⟨EZ h.Cm,h.CW,by show(AV n.names o no).length<=1000;have:=Hk n.names o no;lia,h.texts,h.words⟩;exact h1.map
def Ce.ext{H0 H H':Hp}{a:Ya}{n:Nk}(h:Ce H0 H a n)(s:AO H H'):Ce H0 H' a n:=by obtain⟨x,y,z,nk⟩:=h;exact⟨x,y,z,nk.ext s⟩
def WS(b:Bq n):AF n.texts n.made=none:=by
 cases e:AF n.texts n.made with
 |none=>rfl
 |some ws=>have:=(b.lt _ (BO e)).2;dsimp only at this;lia
def O6{x:Am}{a:Str}(h:BU n x="")(hx:(∃o,x=.rename a o)\/(∃o,x=.join a o)\/(∃p o,x=.cut a p o)\/x=.drop a):∃no,AF n.names a=some no:=by
 cases e:AF n.names a with
 |some no=>exact⟨no,rfl⟩
 |none=>
  exfalso;rcases hx with⟨o,rfl⟩|⟨o,rfl⟩|⟨p,o,rfl⟩|rfl
  ·have h':(if AF n.names a=none then("no page" :Str) else _)="" :=h;rw[e,AH rfl] at h';exact absurd h' (by left)
  ·have h':(if AF n.names a=none then("no page" :Str) else _)="" :=h;rw[e,AH rfl] at h';exact absurd h' (by left)
  ·simp only[BU,e] at h;exact absurd h (by left)
  ·have h':(if AF n.names a=none then("no page" :Str) else _)="" :=h;rw[e,AH rfl] at h';exact absurd h' (by left)
def KI:A0 ["_law_nook","_law_deed","_law_name","_law_words","_law_number","_law_fresh","_law_many"] ["_law_nook","_law_deed"] (Ao SW):=by left
def de{fNa fLe fTu:Ya}{fdNa fdLe fdTu:rA}(F:Ai K "_law_changed" "_law_changed" SW f fd)(O:Own mg)
 (HAd:Hv P w K mg base "_law_added" 2 ["_law_nook","_law_name"] Yo)
 (HPi:Hv P w K mg base "_law_penned_in" 2 ["_law_nook","_law_text"] Vy)
 (FNa:Ai K "_law_named" "_law_named" NQ fNa fdNa)(bNa:Binds K fdNa ["_law_nook","_law_name","_law_number"] [])(mNa:mg "_law_named" =some (.ref fNa))
 (FLe:Ai K "_law_led" "_law_led" Ny fLe fdLe)(bLe:Binds K fdLe ["_law_nook","_law_number"] [])(mLe:mg "_law_led" =some (.ref fLe))
 (HJo:Hv P w K mg base "_law_joined" 2 ["_law_nook","_law_number","_law_other"] XB)
 (FTu:Ai K "_law_turned" "_law_turned" NN fTu fdTu)(bTu:Binds K fdTu ["_law_nook","_law_number","_law_name","_law_other"] [])(mTu:mg "_law_turned" =some (.ref fTu)):
 AW P w K mg base Ag 3 f fd ["_law_nook","_law_deed"] Wj:=by
 have c2:AW P w K mg base Ag 1 fNa fdNa ["_law_nook","_law_name","_law_number"] Sg:=W2 FNa O;have t9:AW P w K mg base Ag 1 fLe fdLe ["_law_nook","_law_number"] UB:=ZV FLe O;have b9:AW P w K mg base Ag 1 fTu fdTu ["_law_nook","_law_number","_law_name","_law_other"] SY:=V5 FTu O;refine F.ok KI ?_ ?_
 ·rintro _ _ _ _ ⟨_,_,_,_,_,rfl,_⟩;rfl
 ·rintro _ A _ s H _ Q E hr ⟨a,dv,x,H0,n,rfl,a3,s4,bd,tl,nl,rd,gd,na,br,jl,q⟩;have e0:=CZ hr;refine⟨_,(AS (Ax (i:=2) KI.nd rfl (Aa rfl) (A8 (pv 1))) (AS (A1 (Aw BQ (A8 (pv 1)) AZ (Ap _))
   (AS (A1 (JZ (Oy e0 (pv 2) (CB e0 (pv 0))))
   (AR (Bc (Bz HAd hr rfl A3 (AE (pv 0) (AE (pv 2) AI)))))
   BD) (AS (Ax (i:=3) KI.nd rfl (Aa rfl) (Bz HPi hr rfl A3 (AE (pv 0) (AE (A8 (pv 1)) AI)))) (AS (Fj e0 (CB e0 (pv 0)) (DJ e0 (CB e0 (pv 0)) (pv 2) (fun _ _=>rfl)) (pv 3) rfl) (AR (Al (BV Fo rfl O.len DH (AE (pv 3) AI)))))))
   BD) (AS (Ax (i:=4) KI.nd rfl (Aa rfl) (DJ e0 (CB e0 (pv 0)) (pv 2) (fun _ _=>rfl))) (AS (A1 (Aw BQ (A8 (pv 1)) AZ (Ap _))
   (AS (Bc (JP (CB e0 (pv 0)) (pv 2) ⟨rfl,rfl,rfl,rfl⟩)) (AS (Bc (Cp c2 hr.mn rfl mNa FNa.kp bNa .nil A3 (AE (pv 0) (AE (A8 (pv 1)) (AE (pv 4) AI))))) (AR (Al (Cp t9 hr.mn rfl mLe FLe.kp bLe .nil A3 (AE (pv 0) (AE (pv 4) AI)))))))
   BD) (AS (A1 (Aw BQ (A8 (pv 1)) AZ (Ap _))
   (AR (Al (Bz HJo hr rfl A3 (AE (pv 0) (AE (pv 4) (AE (A8 (pv 1)) AI))))))
   BD) (AS (A1 (Aw BQ (A8 (pv 1)) AZ (Ap _))
   (AS (Ax (i:=5) KI.nd rfl (Aa rfl) (Bz HAd hr rfl A3 (AE (pv 0) (AE (A8 (pv 1)) AI)))) (AS (Ax (i:=3) KI.nd rfl (Aa rfl) (DJ e0 (CB e0 (pv 0)) (pv 4) (fun _ _=>rfl))) (AS (Fj e0 (CB e0 (pv 0)) (pv 5) (Ff UI (pv 3) (DV (A8 (pv 1))) KU) rfl) (AS (Fj e0 (CB e0 (pv 0)) (pv 4) (An Ir (Ff UI (pv 3) KU (DV (A8 (pv 1)))) (Bt (AE (Bt (AE AZ (AE (A8 (pv 1)) (AE (pv 5) AI)))) AI))) rfl) (AR (Al (An Tp (BV Fo rfl O.len DH (AE (pv 3) AI)) (A8 (pv 1)))))))))
   BD) (AS (Ax (i:=6) KI.nd rfl (Aa rfl) (Cp t9 hr.mn rfl mLe FLe.kp bLe .nil A3 (AE (pv 0) (AE (pv 4) AI)))) (AS (Bc (JP (CB e0 (pv 0)) (pv 4) ⟨rfl,rfl,rfl,rfl⟩)) (AS (Bc (JP (CB e0 (pv 0)) (pv 2) ⟨rfl,rfl,rfl,rfl⟩)) (AS (Bc (Cp b9 hr.mn rfl mTu FTu.kp bTu .nil A3 (AE (pv 0) (AE (pv 4) (AE (pv 2) (AE (EI EH Ac) AI)))))) (AR (Al (pv 6))))))))))))),?_⟩;obtain⟨an,at_,tx,nk⟩:=a3;have sm:=nk.same;have t2:∀{p r:Str},p≠r->V.str p≠V.str r:=fun h z=>h (V.str.inj z)
  cases x with
  |write nm t=>
   obtain⟨d,xs,rfl,e5,rs⟩:=Bv rd;obtain⟨u,v,x,rfl,r1,r2,r3⟩:=Eo rs;cases Bb r1;cases Bb r2;cases Bb r3;have hd:=sm _ _ e5;refine⟨_,rfl,d,_,_,.str nm,rfl,rfl,AU.of hd,rfl,?_⟩;refine Qb rfl hd ?_;refine⟨_,rfl,_,rfl,a,_,rfl,EC nk.ha,an,_,rfl,EY nk.hn nm,_,rfl,?_⟩;rcases e:AF n.names nm with _|no;refine Bi ?_;refine⟨_,rfl,_,rfl,a,nm,H0,n,rfl,⟨an,at_,tx,nk⟩,s4,tl,WS bd.b,fun H1 e4=>?_⟩;have g1:AF (n.added nm).names nm=some n.made:=by show AF (AV n.names nm n.made) nm=_;rw[Co,AH rfl]
   have e1:n.wrote nm t=(n.added nm).Cr n.made (Gp (n.added nm).names t):=by unfold Nk.wrote;rw[e]
   have K4:(n.added nm).texts.length<=1000:=by
    show((AV n.texts n.made []).map _).length<=1000;rw[AL];have:=Hk n.texts n.made []
    lia
   rotate_left
   refine BF ?_;have g1:=e;have e1:n.wrote nm t=n.Cr no (Gp n.names t):=by unfold Nk.wrote;rw[e]
   have e4:Ce H0 H a n:=⟨an,at_,tx,nk⟩;have K4:n.texts.length<=1000:=by lia
   all_goals
    obtain⟨q2,e7,h4,k1⟩:=e4;have q0:=k1.same _ _ e5;refine⟨_,rfl,_,rfl,d,_,_,.str t,rfl,rfl,AU.of q0,rfl,a,t,H0,_,rfl,⟨q2,e7,h4,k1⟩,gd.2,fun L ws H2 s2 hL q8 pw=>?_⟩;have k2:=k1.ext s2;have a4:(CY h4).length<sizeLine:=by
     show(h4.map _).length<_;rw[AL,k1.len,A9]
     lia
    have e6:=EY k2.hn nm;rw[g1] at e6;have dp:=fun no=>Dr.kq (k:=.inl no) (v:=.ref L) k2.ht a4;have e2:=fun no=>(KL (g:=fun p:Ya×List Ya=>V.ref p.1) FC no (L,ws) h4:putK (CY h4) (.inl no) (.ref L)=CY (AV h4 no (L,ws)));simp only[e2] at dp;refine⟨_,rfl,_,rfl,a,_,rfl,Gf k2.ha,_,rfl,a,_,rfl,EC k2.ha,_,rfl,q2,_,rfl,e6,e7,_,rfl,dp _,?_⟩;have k3:=fun no=>k2.Nt no (l:=L) (ws:=ws) (Cc:=_) q8 pw.len pw.at_ (fun w hw=>k1.same.free (pw.new w hw));have b6:∀no,(upd H2 e7 (.dK (CY (AV h4 no (L,ws))))) L=some (.lst (ws.map V.ref)):=fun no=>by rw[AQ (Ca q8 k2.ht (by intro z;cases z))];exact q8
    refine⟨_,rfl,L,_,rfl,.inl (AK.of (b6 _)),?_⟩;have q1:=q _ (by show Ce H0 _ a (n.wrote nm t);rw[e1];exact⟨q2,e7,_,k3 _⟩);have ec:chg n (.write nm t)=((ws.map V.ref).length:Nat):=by show((Gp (n.wrote nm t).names t).length:Int)=_;rw[e1,AL,pw.len];rfl
    rw[ec] at q1;exact q1
  |rename nm o=>
   obtain⟨d,xs,rfl,e5,rs⟩:=Bv rd;obtain⟨u,v,x,rfl,r1,r2,r3⟩:=Eo rs;cases Bb r1;cases Bb r2;cases Bb r3;have hd:=sm _ _ e5;obtain⟨no,e⟩:=O6 br (.inl ⟨o,rfl⟩);have e9:Ay n nm=no:=by unfold Ay;rw[e];rfl
   have e6:=EY nk.hn nm;rw[e] at e6;refine⟨_,rfl,d,_,_,.str nm,rfl,rfl,AU.of hd,rfl,?_⟩;refine Ib rfl hd (by left) ?_;refine⟨_,rfl,a,_,rfl,EC nk.ha,_,rfl,an,_,rfl,e6,?_⟩;refine Qb rfl hd ?_;have v1:Bf (Fy n.names) (.inr nm)=some (.int no):=by rw[Em F7,e];rfl
   refine⟨_,rfl,a,_,rfl,EC nk.ha,an,rfl,.inl ⟨_,.inl nk.hn⟩,_,rfl,_,.inr nm,_,nk.hn,rfl,v1,?_⟩;rw[LV F7];have e4:=nk.putN (AN n.names nm);generalize upd H an (.dK (Fy (AN n.names nm)))=H1 at e4;have q0:=e4.same _ _ e5;have a1:(AN n.names nm).length<1000:=Nat.lt_of_le_of_lt (EA _ _) nl;refine⟨_,rfl,_,rfl,d,_,_,.str o,rfl,rfl,AU.of q0,rfl,_,rfl,a,o,no,H0,_,rfl,⟨an,at_,tx,e4⟩,s4.T3 nm,fun H2 s0=>?_⟩;refine⟨_,rfl,_,rfl,a,no,H0,_,rfl,s0,(s4.T3 nm).named o no a1,fun H3 s3=>?_⟩;have q1:=q H3 (by show Ce H0 H3 a (n.renamed nm o (Ay n nm));rw[e9];exact s0.ext s3);have ec:chg n (.rename nm o)=((n.renamed nm o no).led no:Nat):=by show((n.renamed nm o (Ay n nm)).led (Ay n nm):Int)=_;rw[e9]
   rw[ec] at q1;exact q1
  |join nm o=>
   obtain⟨d,xs,rfl,e5,rs⟩:=Bv rd;obtain⟨u,v,x,rfl,r1,r2,r3⟩:=Eo rs;cases Bb r1;cases Bb r2;cases Bb r3;have hd:=sm _ _ e5;obtain⟨no,e⟩:=O6 br (.inr (.inl ⟨o,rfl⟩));have h9:(if AF n.names nm=none then("no page" :Str) else if AF n.names o=none then "no page" else if nm=o then "same page" else "")="" :=br;rw[e,AG (by simp)] at h9
   cases e2:AF n.names o with
   |none=>rw[e2,AH rfl] at h9;exact absurd h9 (by left)
   |some r5=>
   rw[e2,AG (by simp)] at h9;have a8:nm≠o:=fun z=>by rw[AH z] at h9;exact absurd h9 (by left)
   have e9:Ay n nm=no:=by unfold Ay;rw[e];rfl
   have r0:Ay n o=r5:=by unfold Ay;rw[e2];rfl
   obtain⟨w1,h1,_⟩:=bd.b.text e;obtain⟨w2,h2,_⟩:=bd.b.text e2;have t0:Bo n no=w1:=by unfold Bo;rw[h1];rfl
   have q9:Bo n r5=w2:=by unfold Bo;rw[h2];rfl
   have nn:no≠r5:=fun z=>a8 ((bd.b.same e2 e).mp z);have t4:=jl nm o rfl;rw[e9,r0,t0,q9] at t4;have e6:=EY nk.hn nm;rw[e] at e6;refine⟨_,rfl,d,_,_,.str nm,rfl,rfl,AU.of hd,rfl,?_⟩;refine Ib rfl hd (by left) ?_;refine⟨_,rfl,a,_,rfl,EC nk.ha,_,rfl,an,_,rfl,e6,?_⟩;refine Ib rfl hd (by left) ?_;refine Qb rfl hd ?_;refine⟨_,rfl,_,rfl,_,rfl,d,_,_,.str o,rfl,rfl,AU.of hd,rfl,a,no,o,H0,n,r5,w1,w2,rfl,⟨an,at_,tx,nk⟩,s4,e2,h1,h2,nn,t4,fun H2 s0=>?_⟩;have es:P8 n (.join nm o)=n.joined no o r5 w1 w2:=by show n.joined (Ay n nm) o (Ay n o) (Bo n (Ay n nm)) (Bo n (Ay n o))=_;rw[e9,r0,t0,q9]
   have q1:=q H2 (by rw[es];exact s0);have ec:chg n (.join nm o)=((n.joined no o r5 w1 w2).led no:Nat):=by show((n.joined (Ay n nm) o (Ay n o) (Bo n (Ay n nm)) (Bo n (Ay n o))).led (Ay n nm):Int)=_;rw[e9,r0,t0,q9]
   rw[ec] at q1;exact q1
  |cut nm p o=>
   obtain⟨d,xs,rfl,e5,rs⟩:=Bv rd;obtain⟨u,v,x,y,rfl,r1,r2,r3,r4⟩:=Px rs;cases Bb r1;cases Bb r2;cases r3;cases Bb r4;have hd:=sm _ _ e5;obtain⟨no,e⟩:=O6 br (.inr (.inr (.inl ⟨p,o,rfl⟩)));have e9:Ay n nm=no:=by unfold Ay;rw[e];rfl
   obtain⟨w0,h0,_⟩:=bd.b.text e;have h9:(if DN o=false then("no name" :Str) else if AF n.names o=none then(if p<0 then "no place" else if((w0.length:Nat):Int)<p then "no place" else "") else "taken")="" :=by have:=br;simp only[BU,e,h0] at this;exact this
   have a7:¬DN o=false:=fun z=>by rw[AH z] at h9;exact absurd h9 (by left)
   rw[AG a7] at h9;have ho:AF n.names o=none:=by
    cases eo:AF n.names o with
    |none=>rfl
    |some z=>rw[eo,AG (by simp)] at h9;exact absurd h9 (by left)
   rw[AH ho] at h9;have p0:¬p<0:=fun z=>by rw[AH z] at h9;exact absurd h9 (by left)
   rw[AG p0] at h9;have p1:¬((w0.length:Nat):Int)<p:=fun z=>by rw[AH z] at h9;exact absurd h9 (by left)
   have e6:=EY nk.hn nm;rw[e] at e6;refine⟨_,rfl,d,_,_,.str nm,rfl,rfl,AU.of hd,rfl,?_⟩;refine Ib rfl hd (by left) ?_;refine⟨_,rfl,a,_,rfl,EC nk.ha,_,rfl,an,_,rfl,e6,?_⟩;refine Ib rfl hd (by left) ?_;refine Ib rfl hd (by left) ?_;refine Qb rfl hd ?_;refine⟨_,rfl,_,rfl,d,_,_,.str o,rfl,rfl,AU.of hd,rfl,a,o,H0,n,rfl,⟨an,at_,tx,nk⟩,s4,tl,WS bd.b,fun H1 e4=>?_⟩;obtain⟨q2,e7,h4,k1⟩:=e4;have q0:=k1.same _ _ e5;have b7:=bd.b.added bd.h0 ho;have a0:no≠n.made:=by have:=(bd.b.FZ (BO e)).2;lia
   have hw:AF (n.added o).texts no=some (w0.map (CT o n.made)):=by rw[O0,AG a0,h0];rfl
   have q3:(w0.map (CT o n.made)).length=w0.length:=AL .. ;generalize w0.map (CT o n.made)=ws at hw q3;obtain⟨l1,h3,g1,q7,EJ,t1,r6⟩:=k1.find b7.CW hw;have d1:BI H1 e7 (.int no) (some (.ref l1)):=by have:=BI.kq (k:=.inl no) k1.ht;rw[Em FC,g1] at this;exact this
   have c0:0<=p:=by lia
   have c1:p<=(h3.map V.ref).length:=by rw[AL];lia
   have zl:h3.length<=100000:=by
    have:=s4.words _ (BO h0);dsimp only at this
    lia
   have K4:h4.length<=1000:=by
    have h1:=k1.len;have h2:(n.added o).texts.length<=n.texts.length+1:=by show((AV n.texts n.made []).map _).length<=_;rw[AL];exact Hk ..
    lia
   refine⟨_,rfl,a,_,rfl,Gf k1.ha,_,rfl,e7,_,rfl,d1,?_⟩;refine⟨_,rfl,_,rfl,d,_,_,.int p,rfl,rfl,AU.of q0,rfl,_,rfl,l1,_,rfl,AK.of q7,fun l3 b3=>?_⟩;rw[XS c0 c1,<-Oj];have s3:=AY (o:=.lst ((h3.drop p.toNat).map V.ref)) b3;have k2:=k1.ext s3;have r8:(upd H1 l3 (.lst ((h3.drop p.toNat).map V.ref))) l3=some (.lst ((h3.drop p.toNat).map V.ref)):=AM;have r9:=s3 _ _ q7;have at2:=fun j w wd (e1:h3[j]? =some w)(e2:ws[j]? =some wd)=>s3 _ _ (t1 j w wd e1 e2);generalize upd H1 l3 (.lst ((h3.drop p.toNat).map V.ref))=H2 at k2 r8 r9 at2;have dp:=Dr.kq (k:=.inl n.made) (v:=.ref l3) k2.ht (by show(h4.map _).length<_;rw[AL,A9];lia);have e3:putK (CY h4) (.inl n.made) (.ref l3)=CY (AV h4 n.made (l3,h3.drop p.toNat)):=KL (g:=fun p:Ya×List Ya=>V.ref p.1) FC n.made (l3,h3.drop p.toNat) h4;rw[e3] at dp;refine⟨_,rfl,a,_,rfl,Gf k2.ha,_,rfl,e7,_,rfl,dp,?_⟩;have k3:=k2.Nt n.made (l:=l3) (ws:=h3.drop p.toNat) (Cc:=ws.drop p.toNat) r8 (by rw[EX,EX,EJ]) (fun j w wd f1 f2=>by
    rw[LB] at f1 f2;exact at2 _ w wd f1 f2) (fun w q5=>r6 w (K9 q5));have keep:∀b xs,H2 b=some (.lst xs)->(upd H2 e7 (.dK (CY (AV h4 n.made (l3,h3.drop p.toNat))))) b=some (.lst xs):=fun b xs f=>by
    rw[AQ (Ca f k2.ht (by intro z;cases z))];exact f
   have s9:=keep _ _ r9;have t8:=fun j w wd (e1:h3[j]? =some w)(e2:ws[j]? =some wd)=>keep _ _ (at2 j w wd e1 e2);generalize upd H2 e7 (.dK (CY (AV h4 n.made (l3,h3.drop p.toNat))))=H3 at k3 s9 t8;have t6:=k3.same _ _ e5;refine⟨_,rfl,_,rfl,d,_,_,.int p,rfl,rfl,AU.of t6,rfl,_,rfl,l1,_,rfl,AK.of s9,fun l5 b2=>?_⟩;rw[Y8 c0 c1,<-Oi];have s5:=AY (o:=.lst ((h3.take p.toNat).map V.ref)) b2;have h5:(upd H3 l5 (.lst ((h3.take p.toNat).map V.ref))) l5=some (.lst ((h3.take p.toNat).map V.ref)):=AM;generalize upd H3 l5 (.lst ((h3.take p.toNat).map V.ref))=H5 at s5 h5;refine⟨_,rfl,d,_,_,.str o,rfl,rfl,AU.of (s5 _ _ t6),rfl,_,rfl,by exact zv,fun wq t5=>⟨by exact zx,fun l6 b1=>?_⟩⟩;have s6:=AY (o:=.lst (⟨true,o,n.made⟩:Wd).vq) t5;have h6:(upd H5 wq (.lst (⟨true,o,n.made⟩:Wd).vq)) wq=some (.lst (⟨true,o,n.made⟩:Wd).vq):=AM;have a6:H0 wq=none:=k3.same.free (s5.free t5);have q6:(upd H5 wq (.lst (⟨true,o,n.made⟩:Wd).vq)) l6=none:=b1;show∃_,_;have s7:=AY (o:=.lst [V.ref wq]) q6;have h7:(upd (upd H5 wq (.lst (⟨true,o,n.made⟩:Wd).vq)) l6 (.lst [V.ref wq])) l6=some (.lst [V.ref wq]):=AM;refine⟨l5,l6,(h3.take p.toNat).map V.ref,[V.ref wq],rfl,rfl,(s6.trans s7) _ _ h5,h7,by rw[AL,Bm,A9,Cf];lia,fun l8 b0=>?_⟩;have s8:=AY (o:=.lst ((h3.take p.toNat).map V.ref++[V.ref wq])) b0;have q4:=s5.trans (s6.trans (s7.trans s8));have k8:=k3.ext q4;have h8:(upd (upd (upd H5 wq (.lst (⟨true,o,n.made⟩:Wd).vq)) l6 (.lst [V.ref wq])) l8 (.lst ((h3.take p.toNat).map V.ref++[V.ref wq]))) l8=some (.lst ((h3.take p.toNat).map V.ref++[V.ref wq])):=AM;have a5:=(s7.trans s8) _ _ h6;have b8:=fun j w wd (e1:h3[j]? =some w)(e2:ws[j]? =some wd)=>q4 _ _ (t8 j w wd e1 e2);have r7:=q4 _ _ s9;have t7:=Dr.kq (k:=.inl no) (v:=.ref l8) k8.ht (by
    show((AV h4 n.made (l3,h3.drop p.toNat)).map _).length<_;rw[AL,A9];have:=Hk h4 n.made (l3,h3.drop p.toNat)
    lia);have e8:putK (CY (AV h4 n.made (l3,h3.drop p.toNat))) (.inl no) (.ref l8)=CY (AV (AV h4 n.made (l3,h3.drop p.toNat)) no (l8,h3.take p.toNat++[wq])):=KL (g:=fun p:Ya×List Ya=>V.ref p.1) FC no (l8,h3.take p.toNat++[wq]) _;rw[e8] at t7;refine⟨_,rfl,a,_,rfl,Gf k8.ha,_,rfl,e7,_,rfl,t7,?_⟩;have k9:=k8.Nt no (l:=l8) (ws:=h3.take p.toNat++[wq]) (Cc:=ws.take p.toNat++[⟨true,o,n.made⟩]) (by rw[BG];exact h8) (by rw[Au,Au,Bm,Bm,EJ];rfl) (fun j w wd f1 f2=>by
    by_cases hj:j<(h3.take p.toNat).length
    ·rw[C3 hj] at f1;rw[C3 (by rw[Bm] at hj⊢;lia)] at f2;rw[Q2] at f1 f2;split at f1
     ·rename_i hjp;rw[AH hjp] at f2;exact b8 j w wd f1 f2
     ·cases f1
    ·have b4:j<(h3.take p.toNat++[wq]).length:=(BX.mp f1).1;rw[Au,Cf] at b4;obtain rfl:j=(h3.take p.toNat).length:=by lia
     have el:(h3.take p.toNat).length=(ws.take p.toNat).length:=by rw[Bm,Bm,EJ]
     rw[Cn (Ad _),El] at f1;rw[Cn (by lia),el,El] at f2;cases Af f1;cases Af f2;exact a5) (fun w q5=>(Bp.mp q5).elim (fun z=>r6 w (Ic z)) fun z=>by rw[Bk.mp z];exact a6);have b5:=k9.same _ _ e5;have a9:(upd (upd (upd (upd H5 wq (.lst (⟨true,o,n.made⟩:Wd).vq)) l6 (.lst [V.ref wq])) l8 (.lst ((h3.take p.toNat).map V.ref++[V.ref wq]))) e7 (.dK (CY (AV (AV h4 n.made (l3,h3.drop p.toNat)) no (l8,h3.take p.toNat++[wq]))))) l1=some (.lst (h3.map V.ref)):=by
    rw[AQ (Ca r7 k8.ht (by intro z;cases z))];exact r7
   refine⟨_,rfl,l1,_,rfl,.inl (AK.of a9),_,rfl,d,_,_,.int p,rfl,rfl,AU.of b5,rfl,_,_,rfl,rfl,?_⟩;have ew:Bo (n.added o) no=ws:=by unfold Bo;rw[hw];rfl
   have es:P8 n (.cut nm p o)=((n.added o).Cr n.made (ws.drop p.toNat)).Cr no (ws.take p.toNat++[⟨true,o,n.made⟩]):=by show n.IU (Ay n nm) p.toNat o=_;rw[e9];unfold Nk.IU;rw[hw];rfl
   have q1:=q _ (by rw[es];exact⟨q2,e7,_,k9⟩);have ec:chg n (.cut nm p o)=(((h3.map V.ref).length:Nat):Int)-p:=by show((Bo (n.added o) (Ay n nm)).length:Int)-p=_;rw[e9,ew,AL,EJ]
   rw[ec] at q1;exact q1
  |drop nm=>
   obtain⟨d,xs,rfl,e5,rs⟩:=Bv rd;obtain⟨u,v,rfl,r1,r2⟩:=Gv rs;cases Bb r1;cases Bb r2;have hd:=sm _ _ e5;obtain⟨no,e⟩:=O6 br (.inr (.inr (.inr rfl)));have e9:Ay n nm=no:=by unfold Ay;rw[e];rfl
   have e6:=EY nk.hn nm;rw[e] at e6;obtain⟨w1,h1,_⟩:=bd.b.text e;refine⟨_,rfl,d,_,_,.str nm,rfl,rfl,AU.of hd,rfl,?_⟩;refine Ib rfl hd (by left) ?_;refine⟨_,rfl,a,_,rfl,EC nk.ha,_,rfl,an,_,rfl,e6,?_⟩;refine Ib rfl hd (by left) ?_;refine Ib rfl hd (by left) ?_;refine Ib rfl hd (by left) ?_;refine⟨_,rfl,_,rfl,a,no,H0,n,rfl,⟨an,at_,tx,nk⟩,s4,fun H1 s1=>?_⟩;have e4:=nk.ext s1;obtain⟨l1,h3,g1,q7,_⟩:=e4.find s4.CW h1;have v2:Bf (CY tx) (.inl no)=some (.ref l1):=by rw[Em FC,g1];rfl
   refine⟨_,rfl,a,_,rfl,Gf e4.ha,at_,rfl,.inl ⟨_,.inl e4.ht⟩,_,rfl,_,.inl no,_,e4.ht,rfl,v2,?_⟩;rw[LV FC];have s0:=e4.Pz no;generalize upd H1 at_ (.dK (CY (AN tx no)))=H2 at s0;have v1:Bf (Fy n.names) (.inr nm)=some (.int no):=by rw[Em F7,e];rfl
   refine⟨_,rfl,a,_,rfl,EC s0.ha,an,rfl,.inl ⟨_,.inl s0.hn⟩,_,rfl,_,.inr nm,_,s0.hn,rfl,v1,?_⟩;rw[LV F7];have t3:=s0.putN (AN n.names nm);generalize upd H2 an (.dK (Fy (AN n.names nm)))=H3 at t3;refine⟨_,rfl,_,rfl,_,rfl,_,rfl,a,no,nm,-1,H0,_,rfl,⟨an,at_,_,t3⟩,(s4.Pz no).T3 nm,fun H4 a2=>⟨_,rfl,?_⟩⟩;have q1:=q H4 (by show Ce H0 H4 a (n.dropped nm (Ay n nm));rw[e9];exact a2);have ec:chg n (.drop nm)=(n.led no:Nat):=by show(n.led (Ay n nm):Int)=_;rw[e9]
   rw[ec] at q1;exact q1
  |text nm=>cases na
  |back nm=>cases na
  |find ws c3=>cases na
def NL{out:List Dt}{d:Dt}(c:CI H1 D out H)(r:Rep (Ex H D) d y)(hl:out.length<10000000):∃ys,H D=some (.lst ys)/\ys.length<sizeLine/\CI H1 D (out++[d]) (upd H D (.lst (ys++[y]))):=by
 obtain⟨ys,h,rr⟩:=c.lst;refine⟨ys,h,?_,c.same.upd c.fr,c.fr,ys++[y],AM,?_⟩
 ·have:=rr.1;rw[A9]
  lia
 ·rw[Ex.upd];exact rr.snoc r
def Cz(n:Nk)(nm:Str)(w:Wd):List Tr:=if w.to=true then[(nm,Txt.slice (shown n.names w) (some 1) (some (-1)),!decide (V.int w.no=V.int (-1)))] else[]
def Gz(n:Nk)(nm:Str):List Tr:=(Bo n (Ay n nm)).flatMap (Cz n nm)
def UE(n:Nk):List Tr:=(Dv (n.names.map (·.1))).flatMap (Gz n)
def Xv:Sp:=fun vs H Q _=>∃(a:Ya)(H0:Hp)(n:Nk),vs=[.ref a]/\Ce H0 H a n/\Fits n/\Bd n/\n.names.length<64/\∀u H',AO H H'->Rep H' (.lst ((UE n).map CV)) u->Q u H'
def ic(fit:Fits n)(nm:Str):(Gz n nm).length<=100000:=by
 unfold Gz Bo;have h:∀ws:List Wd,(ws.flatMap (Cz n nm)).length<=ws.length:=by
  intro ws
  induction ws with
  |nil=>simp
  |cons w ws ih=>
   rw[Ga,Au,CD];have:(Cz n nm w).length<=1:=by unfold Cz;split<;>simp
   lia
 refine BJ (h _) ?_
 cases e:AF n.texts (Ay n nm) with
 |none=>simp
 |some ws=>exact fit.words _ (BO e)
def Wg{n:Nk}(fit:Fits n):∀ys:List Str,(ys.flatMap (Gz n)).length<=ys.length*100000
 |[]=>by simp
 |y::ys=>by
  have h1:=ic fit y;have h2:=Wg fit ys;rw[Ga,Au,CD,Nat.succ_mul]
  lia
def PQ:A0 ["_law_nook","_law_rows","_law_name","_law_word"] ["_law_nook"] (Ao R0):=by left
def iY(F:Ai K "_law_pointers" "_law_pointers" R0 f fd)(O:Own mg)(hso:mg "sorted" =none)
 (HSh:Hv P w K mg base "_law_shown" 2 ["_law_nook","_law_word"] Sw):AW P w K mg base Ag 3 f fd ["_law_nook"] Xv:=by
 refine F.ok PQ ?_ ?_
 ·rintro _ _ _ _ ⟨_,_,_,rfl,_⟩;rfl
 ·rintro _ A _ s H _ Q E hr ⟨a,H0,n,rfl,⟨an,s8,tx,nk⟩,h4,bd,t1,q⟩;have h7:=CZ hr;refine⟨_,(AS (Ax (i:=1) PQ.nd rfl (Aa rfl) (Bt AI))
   (AS (DW DR rfl (Ez (BV Ro rfl hso JN (AE (ED (KD rfl) rfl O.lst En (AE (CB h7 (pv 0)) AI)) AI))) (BY (i:=2) PQ.nd rfl (Aa rfl))
    (AR (DW DR rfl (Ez (DJ h7 (CB h7 (pv 0)) (DJ h7 (CB h7 (pv 0)) (pv 2) (fun _ _=>rfl)) (fun _ _=>rfl))) (BY (i:=3) PQ.nd rfl (Aa rfl))
     (AR (A1 (Aw BQ (Fu (pv 3)) AZ (Ap _))
      (AR (Bc (EO Dh Ei Eh EE (pv 1) (AE (CA (AE (pv 2) (AE (Ff Kc (Bz HSh hr rfl A3 (AE (pv 0) (AE (pv 3) AI))) (DV Ac) (DV (EI EH Ac))) (AE (Hj Er (Fu (pv 3)) (EI EH Ac) (Ap _)) AI)))) AI)))) BD)))))
   (AR (Al (pv 1))))),?_⟩;refine⟨by exact zy,fun tl r3=>?_⟩;have c0:CI H tl ((([]:List Tr)).map CV) (upd H tl (.lst [])):=CI.start r3;have s1:AO H (upd H tl (.lst [])):=AY r3;generalize upd H tl (.lst [])=H1 at s1 c0;have r1:=nk.ext s1;refine⟨_,rfl,a,_,rfl,EC r1.ha,an,_,rfl,r1.hn,fun ld q8=>?_⟩;have ek:((Fy n.names).map fun kv=>kV kv.1)=(n.names.map (·.1)).map V.str:=by
   show(n.names.map _).map _=_;rw[Ba,Ba];rfl
  rw[ek];have s2:=AY (o:=.lst ((n.names.map (·.1)).map V.str)) q8;have h2:(upd H1 ld (.lst ((n.names.map (·.1)).map V.str))) ld=some (.lst ((n.names.map (·.1)).map V.str)):=AM;have c2:=c0.ext s2;generalize upd H1 ld (.lst ((n.names.map (·.1)).map V.str))=H2 at s2 h2 c2;refine⟨ld,n.names.map (·.1),rfl,AK.of h2,by rw[AL];exact t1,fun Ds ys r5 hp hs=>?_⟩;have ey:ys=Dv (n.names.map (·.1)):=Kb DB hp hs;have s3:=AY (o:=.lst (ys.map V.str)) r5;have h3:(upd H2 Ds (.lst (ys.map V.str))) Ds=some (.lst (ys.map V.str)):=AM;have c3:=c2.ext s3;have q2:Ds≠tl:=by obtain⟨zz,hz,_⟩:=c2.lst;exact(A2 hz r5).symm
  generalize upd H2 Ds (.lst (ys.map V.str))=H3 at s3 h3 c3;refine⟨Ds,rfl,⟨_,AK.of h3⟩,He (K:=[]) (a:=Ds) (xs:=ys.map V.str) (fun i σ H'=>∃v2 v3:Option V,σ=[some (.ref a),some (.ref tl),v2,v3]/\CI H tl (((ys.take i).flatMap (Gz n)).map CV) H'/\H' Ds=some (.lst (ys.map V.str)))
   ⟨none,none,rfl,c3,h3⟩ (fun i σ H' _ ⟨_,_,_,_,h⟩=>AK.of h) ?_ ?_⟩
  ·rintro i y σ H' h9 ⟨v2,v3,rfl,c,hD⟩;rw[Az] at h9
   cases ez:ys[i]?with
   |none=>rw[ez] at h9;cases h9
   |some z=>
   rw[ez] at h9;obtain rfl:V.str z=y:=Af h9;have zk:z∈n.names.map (·.1):=hp.mem_iff.mp (Br ez);obtain⟨no,e9⟩:=LZ zk;have t2:Ay n z=no:=by unfold Ay;rw[e9];rfl
   obtain⟨ws,h0,_⟩:=bd.b.text e9;have ew:Bo n no=ws:=by unfold Bo;rw[h0];rfl
   have h6:=nk.ext c.same;obtain⟨l1,h5,g1,r4,EJ,a0,q1⟩:=h6.find h4.CW h0;have r7:=EY h6.hn z;rw[e9] at r7;have d1:BI H' s8 (.int no) (some (.ref l1)):=by have:=BI.kq (k:=.inl no) h6.ht;rw[Em FC,g1] at this;exact this
   have r9:=h4.words _ (BO h0);have t6:ws.length<=100000:=r9;have f1:=Wg h4 (ys.take i);have f2:=EV i ys;have f3:=hp.length_eq;rw[AL] at f3;have f4:(ys.take i).length*100000<=63*100000:=Nat.mul_le_mul_right _ (by lia);refine⟨_,rfl,a,_,rfl,Gf h6.ha,_,rfl,a,_,rfl,EC h6.ha,_,rfl,an,_,rfl,r7,s8,_,rfl,d1,?_⟩;refine⟨l1,rfl,⟨_,AK.of r4⟩,He (K:=[]) (a:=l1) (xs:=h5.map V.ref) (fun j σ e3=>∃v3:Option V,σ=[some (.ref a),some (.ref tl),some (.str z),v3]/\CI H tl ((((ys.take i).flatMap (Gz n))++(ws.take j).flatMap (Cz n z)).map CV) e3/\e3 Ds=some (.lst (ys.map V.str))/\e3 l1=some (.lst (h5.map V.ref)))
    ⟨v3,rfl,by rw[J9,List.flatMap_nil,CF];exact c,hD,r4⟩ (fun j σ e3 _ ⟨_,_,_,_,h⟩=>AK.of h) ?_ ?_⟩
   ·rintro j y σ H4 h8 ⟨v3,rfl,c4,e1,s0⟩;rw[Az] at h8
    cases ea:h5[j]?with
    |none=>rw[ea] at h8;cases h8
    |some aw=>
    rw[ea] at h8;obtain rfl:V.ref aw=y:=Af h8;have hj:j<ws.length:=by rw[<-EJ];exact(BX.mp ea).1
    have e2:ws[j]? =some ws[j]:=Ar hj;generalize ws[j]=wd at e2;have r0:=nk.ext c4.same;obtain⟨l4,r8,g4,q9,US,t4,_⟩:=r0.find h4.CW h0;rw[g1] at g4;have e4:=Af g4;have t3:h5=r8:=(JO e4).2;have s4:H4 aw=some (.lst wd.vq):=t4 j aw wd (by rw[<-t3];exact ea) e2;have r6:(ws.take (j+1)).flatMap (Cz n z)=(ws.take j).flatMap (Cz n z)++Cz n z wd:=by rw[Di,e2,OO];show _++((Cz n z wd)++[])=_;rw[CF]
    refine⟨_,rfl,aw,_,_,.str (if wd.to then "to" else "word"),rfl,rfl,AK.of s4,rfl,rfl,_,rfl,?_⟩
    cases e8:wd.to with
    |false=>
     refine CJ (by intro z;exact absurd (V.str.inj z) (by left)) ?_;refine⟨_,rfl,?_,e1,s0⟩;have ep:Cz n z wd=[]:=by unfold Cz;rw[e8];rfl
     rw[r6,ep,CF];exact c4
    |true=>
     have ep:Cz n z wd=[(z,Txt.slice (shown n.names wd) (some 1) (some (-1)),!decide (V.int wd.no=V.int (-1)))]:=by unfold Cz;rw[e8];rfl
     have q0:wd.nm.length<=2000:=by
      have h1:=bd.wl _ (BO h0) wd (Br e2)
      lia
     have s9:∀p∈n.names,p.1.length<=2000:=fun p q6=>by have:=bd.nm p q6;lia
     have t7:(shown n.names wd).length<=2100:=by
      have l1:("[" :Str).length=1:=by left
      have l2:("]" :Str).length=1:=by left
      have t8:(nameOf n.names wd.no).length<=2000:=by
       unfold nameOf
       cases ef:n.names.find? fun p=>decide (p.2=wd.no) with
       |none=>show("" :Str).length<=2000;decide+kernel
       |some pp=>exact s9 pp (VC ef)
      unfold shown;rw[e8,AH rfl];split
      ·rw[Fc,Fc];lia
      ·rw[Fc,Fc];lia
     obtain⟨z4,q5,_⟩:=c4.lst;refine Bu rfl ⟨_,rfl,.inl ⟨rfl,_,AK.of q5⟩,_,rfl,_,rfl,_,rfl,a,aw,wd,H0,n,rfl,⟨an,s8,tx,r0⟩,h4,s4,q0,s9,fun H5 s5=>?_⟩;refine⟨_,rfl,_,rfl,_,rfl,shown n.names wd,rfl,by rw[A9];lia,_,rfl,aw,_,_,.int wd.no,rfl,rfl,AK.of (s5 _ _ s4),rfl,_,rfl,rfl,by exact zv,fun tp r2=>?_⟩;have st:=AY (o:=.tup [.str z,.str (Txt.slice (shown n.names wd) (some 1) (some (-1))),.bl (!decide (V.int wd.no=V.int (-1)))]) r2;have c6:=(c4.ext s5).ext st;have s6:=s5.trans st;have nt:tp≠tl:=by obtain⟨z5,q4,_⟩:=(c4.ext s5).lst;exact(A2 q4 r2).symm
     have e7:((((ys.take i).flatMap (Gz n))++(ws.take j).flatMap (Cz n z)).map CV).length<10000000:=by
      have t9:((ws.take j).flatMap (Cz n z)).length<=100000:=by
       have s7:∀vs:List Wd,(vs.flatMap (Cz n z)).length<=vs.length:=by
        intro vs
        induction vs with
        |nil=>simp
        |cons w' vs ih=>
         rw[Ga,Au,CD];have:(Cz n z w').length<=1:=by unfold Cz;split<;>simp
         lia
       have:=s7 (ws.take j);have h2:=EV j ws
       lia
      rw[AL,Au]
      lia
     obtain⟨z6,q3,q7,c7⟩:=NL c6 (d:=CV (z,Txt.slice (shown n.names wd) (some 1) (some (-1)),!decide (V.int wd.no=V.int (-1)))) (y:=.ref tp) (Pm (Ex.at AM nt)) e7;refine⟨tl,z6,_,rfl,rfl,q3,q7,_,rfl,?_,?_,?_⟩
     ·rw[r6,ep,<-Bl,BG];exact c7
     ·rw[AQ q2];exact s6 _ _ e1
     ·have h1:=s6 _ _ s0;have nl:l1≠tl:=by obtain⟨l0,t5,g0,t0,_⟩:=nk.find h4.CW h0;rw[g1] at g0;have e0:l1=l0:=(JO (Af g0)).1;rw[e0];exact A2 t0 c.fr
      rw[AQ nl];exact h1
   ·rintro σ H4 ⟨v3,rfl,c4,e1,s0⟩;have e6:h5.length=ws.length:=EJ;rw[AL,e6,CL] at c4;refine⟨_,_,rfl,?_,e1⟩;have e5:((ys.take (i+1)).flatMap (Gz n))=(ys.take i).flatMap (Gz n)++ws.flatMap (Cz n z):=by rw[Di,ez,OO];show _++((Gz n z)++[])=_;unfold Gz;rw[CF,t2,ew]
    rw[e5];exact c4
  ·rintro σ H' ⟨v2,v3,rfl,c,hD⟩;rw[AL,CL] at c;refine⟨_,rfl,q _ _ c.same ?_⟩;have:=c.done;rw[ey] at this;exact this
def dU(h:Bd n){ws:List Wd}(hws:AF n.texts no=some ws):ws.map (shown n.names)=(Aj n no).map Cv:=by
 have e:Aj n no=ws.map (sh n.names):=by unfold Aj;rw[hws];rfl
 rw[e,Ba];refine Ek fun w hw=>?_;obtain⟨nm,hn⟩:=h.b.own (no,ws) (BO hws);obtain⟨h1,h0,ok⟩:=h.b.text (Hf h.b.Cm hn);rw[show AF n.texts (no,ws).1=some ws from hws] at h0;cases Af h0;show shown n.names w=Cv (sh n.names w)
 cases ht:w.to with
 |false=>rw[Hl ht];unfold shown Cv;rw[ht,AG Cd,AG (show¬("word" :Str)="to" by left)]
 |true=>
  rcases ok w hw ht with⟨hl,_⟩|⟨x,hx⟩
  ·rw[Fg ht hl];unfold shown Cv;rw[AH ht,AH hl,AH rfl]
  ·have hn:w.no≠-1:=by have:=h.b.FZ hx;lia
   rw[Ep h.b.inj ht hn hx];unfold shown Cv;rw[AH ht,AG hn,Ry h.b.inj hx,AH rfl]
def aB:Sp:=fun vs H Q _=>∃(a:Ya)(nm:Str)(no:Int)(H0:Hp)(n:Nk),vs=[.ref a,.str nm]/\Ce H0 H a n/\Fits n/\Bd n/\AF n.names nm=some no/\wsum (Aj n no)<=4000000/\∀H',AO H H'->Q (.str (Gu (Aj n no))) H'
def Wo:Sp:=fun vs H Q _=>∃(a:Ya)(H0:Hp)(n:Nk),vs=[.ref a]/\Ce H0 H a n/\Fits n/\Bd n/\n.names.length<64/\BE (vw n)<=4000000/\∀u H',AO H H'->Rep H' (.lst ((De (vw n)).map D9)) u->Q u H'
def Z1:A0 ["_law_nook","_law_name","_law_words"] ["_law_nook","_law_name"] (Ao S1):=by left
def lW(F:Ai K "_law_text_of" "_law_text_of" S1 f fd)
 (HSh:Hv P w K mg base "_law_shown" 2 ["_law_nook","_law_word"] Sw):AW P w K mg base Ag 3 f fd ["_law_nook","_law_name"] aB:=by
 refine F.ok Z1 ?_ ?_
 ·rintro _ _ _ _ ⟨_,_,_,_,_,rfl,_⟩;rfl
 ·rintro _ A _ s H _ Q E hr ⟨a,nm,no,H0,n,rfl,⟨an,h5,tx,nk⟩,h9,bd,h7,hw,q⟩;have h0:=CZ hr;refine⟨_,AS (Ax (i:=2) Z1.nd rfl (Aa rfl) (DJ h0 (CB h0 (pv 0)) (DJ h0 (CB h0 (pv 0)) (pv 1) (fun _ _=>rfl)) (fun _ _=>rfl)))
   (AR (Al (EO MO uv uw YF AZ (AE (EF (ts:=["_law_word"]) (cap:=["_law_nook"]) (ix:=[0]) (Hg rfl rfl (by left) (by left) rfl rfl rfl rfl rfl) (Ez (pv 2))
    (fun _ _ _ _ _=>BY (i:=0) (FV (by left)) rfl (Aa rfl) (CP rfl)) (fun _ _ _ _ _=>GC) (fun _ _ _ _ _=>Bz HSh hr rfl A3 (AE (pv 1) (AE (pv 0) AI)))) AI)))),?_⟩;obtain⟨ws,h4,_⟩:=bd.b.text h7;obtain⟨l1,h6,g1,h8,EJ,e8,e5⟩:=nk.find h9.CW h4;have e1:=EY nk.hn nm;rw[h7] at e1;have d1:BI H h5 (.int no) (some (.ref l1)):=by
   have:=BI.kq (k:=.inl no) nk.ht;rw[Em FC,g1] at this;exact this
  refine⟨_,rfl,a,_,rfl,Gf nk.ha,_,rfl,a,_,rfl,EC nk.ha,_,rfl,an,_,rfl,e1,h5,_,rfl,d1,?_⟩;have e0:=dU bd h4;have el:(Aj n no).length=ws.length:=by have:=BL List.length e0;rw[AL,AL] at this;lia
  have e9:=KO (Aj n no);refine⟨rfl,_,rfl,l1,rfl,⟨_,AK.of h8⟩,fun D hD=>FA (xs:=h6.map V.ref) (fun i H'=>CI H D (((ws.take i).map (shown n.names)).map Dt.str) H') (CI.start hD) (fun i H' _ c=>AK.of (c.same _ _ h8)) (fun i x H' ex c=>?_) fun H' c=>?_⟩
  ·rw[Az] at ex
   cases ea:h6[i]?with
   |none=>rw[ea] at ex;cases ex
   |some aw=>
   rw[ea] at ex;obtain rfl:V.ref aw=x:=Af ex;have hj:i<ws.length:=by rw[<-EJ];exact(BX.mp ea).1
   have h3:ws[i]? =some ws[i]:=Ar hj;generalize ws[i]=wd at h3;have e4:=nk.ext c.same;have e7:H' aw=some (.lst wd.vq):=c.same _ _ (e8 i aw wd ea h3);have e2:wd.nm.length<=2000:=by
    have h1:=bd.wl _ (BO h4) wd (Br h3)
    lia
   have e3:∀p∈n.names,p.1.length<=2000:=fun p e6=>by have:=bd.nm p e6;lia
   refine⟨E1,_,rfl,_,rfl,a,aw,wd,H0,n,rfl,⟨an,h5,tx,e4⟩,h9,e7,e2,e3,fun H5 s5=>?_⟩;rw[JK (f:=shown n.names) h3,BG];refine(c.ext s5).push (.str _) ?_;have h2:=EV i ws;rw[AL,AL]
   lia
  ·rw[AL,EJ,CL,e0] at c;obtain⟨ys,hy,ry⟩:=c.lst;have lb:(" " :Str).length=1:=by left
   refine⟨" ",D,(Aj n no).map Cv,rfl,rfl,AK.of (by rw[hy,LW ry]),?_,?_,q _ c.same⟩
   ·have:=SO (" " :Str).length (by lia) (Aj n no) 0;rw[A9]
    lia
   ·have:=YE (g:=" ") (by lia) (Aj n no);rw[A9]
    lia
def gu:A0 ["_law_nook"] ["_law_nook"] (Ao Th):=by left
def eT(F:Ai K "_law_texts" "_law_texts" Th f fd)(O:Own mg)(hso:mg "sorted" =none)
 (HT:Hv P w K mg base "_law_text_of" 3 ["_law_nook","_law_name"] aB):AW P w K mg base Ag 4 f fd ["_law_nook"] Wo:=by
 refine F.ok gu ?_ ?_
 ·rintro _ _ _ _ ⟨_,_,_,rfl,_⟩;rfl
 ·rintro _ A _ s H _ Q E hr ⟨a,H0,n,rfl,⟨an,e5,tx,nk⟩,e3,bd,e2,ht,q⟩;have h9:=CZ hr;refine⟨_,AR (Al (EF (ts:=["_law_name"]) (cap:=["_law_nook"]) (ix:=[0]) (Hg rfl rfl (by left) (by left) rfl rfl rfl rfl rfl) (Ez (BV Ro rfl hso JN (AE (ED (KD rfl) rfl O.lst En (AE (CB h9 (pv 0)) AI)) AI)))
   (fun _ _ _ _ _=>BY (i:=0) (FV (by left)) rfl (Aa rfl) (CP rfl)) (fun _ _ _ _ _=>GC) (fun _ _ _ _ _=>CA (AE (pv 0) (AE (Bz HT hr rfl A3 (AE (pv 1) (AE (pv 0) AI))) AI))))),?_⟩;refine⟨_,rfl,a,_,rfl,EC nk.ha,an,_,rfl,nk.hn,fun ld e0=>?_⟩;have ek:((Fy n.names).map fun kv=>kV kv.1)=(n.names.map (·.1)).map V.str:=by
   show(n.names.map _).map _=_;rw[Ba,Ba];rfl
  rw[ek];have s2:=AY (o:=.lst ((n.names.map (·.1)).map V.str)) e0;have h2:(upd H ld (.lst ((n.names.map (·.1)).map V.str))) ld=some (.lst ((n.names.map (·.1)).map V.str)):=AM;generalize upd H ld (.lst ((n.names.map (·.1)).map V.str))=H2 at s2 h2;refine⟨ld,n.names.map (·.1),rfl,AK.of h2,by rw[AL];exact e2,fun Ds ys e1 hp hs=>?_⟩;have ey:ys=Dv (n.names.map (·.1)):=Kb DB hp hs;have s3:=AY (o:=.lst (ys.map V.str)) e1;have h3:(upd H2 Ds (.lst (ys.map V.str))) Ds=some (.lst (ys.map V.str)):=AM;generalize upd H2 Ds (.lst (ys.map V.str))=H3 at s3 h3;have h4:=s2.trans s3;refine⟨Ds,rfl,⟨_,AK.of h3⟩,fun D hD=>FA (xs:=ys.map V.str) (fun i H'=>CI H3 D (((ys.take i).map (Ed (vw n))).map D9) H') (CI.start hD) (fun i H' _ c=>AK.of (c.same _ _ h3)) (fun i y H' h0 c=>?_) fun H' c=>?_⟩
  ·rw[Az] at h0
   cases ez:ys[i]?with
   |none=>rw[ez] at h0;cases h0
   |some z=>
   rw[ez] at h0;obtain rfl:V.str z=y:=Af h0;have zk:z∈n.names.map (·.1):=hp.mem_iff.mp (Br ez);obtain⟨no,h6⟩:=LZ zk;have hv:AF (vw n) z=some (Aj n no):=by rw[Ea,h6];rfl
   have h8:wsum (Aj n no)<=4000000:=by
    have:=Ld (BO hv);have h1:wsum (Aj n no)<=BE (vw n):=this
    lia
   refine⟨E1,_,rfl,_,rfl,_,rfl,a,z,no,H0,n,rfl,⟨an,e5,tx,nk.ext (h4.trans c.same)⟩,e3,bd,h6,h8,fun H4 s4=>?_⟩;refine⟨by exact zw,fun tp h5=>?_⟩;have st:=AY (o:=.tup [.str z,.str (Gu (Aj n no))]) h5;have c5:=(c.ext s4).ext st;have nt:tp≠D:=by obtain⟨z5,h7,_⟩:=(c.ext s4).lst;exact(A2 h7 h5).symm
   have et:Ed (vw n) z=(z,Gu (Aj n no)):=by unfold Ed;rw[hv];rfl
   rw[JK (f:=Ed (vw n)) ez,BG];refine c5.push (d:=D9 (Ed (vw n) z)) (by rw[et];exact Ph (Ex.at AM nt)) ?_;rw[AL,AL];have f1:=EV i ys;have f3:=hp.length_eq;rw[AL] at f3
   lia
  ·rw[AL,CL,ey] at c;have e4:keys (vw n)=n.names.map (·.1):=D4 n;refine q _ _ (h4.trans c.same) ?_;unfold De;rw[e4];exact c.done
def Ht:DO X (.builtin "isinstance") (fun xs H Q=>∃x c t b,xs=[x,.ty c]/\(∀K:uT,Bh K H x t)/\(∀K:uT,tD K t (.type c)=some b)/\Q (.bl b) H):=
 fun _ _ _ _ _ _ _ I r ⟨x,c,t,b,e,y,k,z⟩=>gb _ _ _ _ _ _ _ I r ⟨x,c,t,b,e,y _,k _,z⟩
def pA:DO X (.builtin "isinstance") (fun xs H Q=>∃(x:V)(p:Ya)(cs:List String)(t:AA)(b:Bool),xs=[x,.ref p]/\H p=some (.tup (cs.map V.ty))/\(∀K:uT,Bh K H x t)/\(∀K:uT,kitAny K t (cs.map Value.type)=some b)/\Q (.bl b) H):=
 fun _ _ _ _ _ _ _ I r ⟨x,p,cs,t,b,e,h,y,k,z⟩=>gR _ _ _ _ _ _ _ I r ⟨x,p,cs,t,b,e,h,y _,k _,z⟩
def aW:IB X (qZ []):=Cw.or (Nv.or Pq)
section
variable{o:qv}{to:TE}{id:String}
def qB(pa:tO T)(slot:Slot T name id)(hty:typeOf (.builtin id)=pure (.type "method_descriptor"))(hm:N5 X id r)(ho:PE X o to)
 (hbase:rK o name X.env (rC o X.env)=rC o X.env:=by rfl)(hline:(apos.endLine==cpos.line)=true:=by rfl):PE X (.Call (.Attribute o name apos) [] [] cpos) (aa [] T r to):=
 fun h0 s σ H Q I h=>NS pa slot hty hm ho.mc hbase hline h0 s σ H Q I ⟨_,h,fun _ _ ⟨y,z⟩=>⟨aH y,z⟩⟩
def pV(hu:X.A.units<rR):Bx X (qz .NotEq) (fun x y H Q=>∃a b xs,x=.ref a/\y=.ref b/\AK [] H a xs/\AK [] H b []/\Q (.bl (!xs.isEmpty)) H):=
 fun _ _ _ _ _ _ _ _ _ I r r' ⟨p,b,xs,e,e',q,q',z⟩=>gJ hu _ _ _ _ _ _ _ _ _ I r r' ⟨p,b,xs,e,e',GN q,GN q',z⟩
end
abbrev Uy:qu:=Y6
abbrev bF:qu:=bG
def ar:Sp:=fun vs H Q _=>∃(x y:V)(d:Dt),vs=[x,y]/\Rep H d x/\Rep H d y/\d.sz<=1000000/\∀H',AO H H'->Q (.bl true) H'
def aK:Sp:=fun vs H Q _=>∃i:Int,vs=[.int i]/\Q (.bl true) H
def qL:A0 ["_law_found"] ["_law_found"] (Ao Uy):=by left
def my(F:Ai K "_law_whole" "_law_whole" Uy f fd)(O:Own mg):AW P w K mg base Ag 1 f fd ["_law_found"] aK:=by
 refine F.ok qL ?_ ?_
 ·rintro _ _ _ _ ⟨_,rfl,_⟩;rfl
 ·rintro _ A _ s H _ Q E hr ⟨i,rfl,k⟩;refine⟨_,AR (Al (Pr (BV Ht rfl O.HV Gs (AE (pv 0) (AE (F8 (v:=.ty "int") rfl O.int Lk rfl) AI)))
   (Pk (km (BV Ht rfl O.HV Gs (AE (pv 0) (AE (F8 (v:=.ty "bool") rfl O.bl TB rfl) AI))))))),?_⟩;exact⟨_,rfl,_,_,_,_,rfl,(fun _=>Bh.int i),(fun _=>IK _),_,rfl,Bi ⟨_,rfl,_,_,_,_,rfl,(fun _=>Bh.int i),(fun _=>Zl),_,rfl,k⟩⟩
def QO:A0 ["_law_found","_law_due","_law_todo","_law_pair","_law_k"] ["_law_found","_law_due"] (Ao bF):=by left
theorem oo{fW:Ya}{fdW:rA}(F:Ai K "_law_alike" "_law_alike" bF f fd)(O:Own mg)(FW:Ai K "_law_whole" "_law_whole" Uy fW fdW)(bW:Binds K fdW ["_law_found"] [])(mW:mg "_law_whole" =some (.ref fW)):
 AW P w K mg base Ag 2 f fd ["_law_found","_law_due"] ar:=by
 have GW:AW P w K mg base Ag 1 fW fdW ["_law_found"] aK:=my FW O;refine F.ok QO ?_ ?_
 ·rintro _ _ _ _ ⟨_,_,_,rfl,_⟩;rfl
 ·rintro _ A _ s H _ Q E hr ⟨x0,y0,d0,rfl,rx0,r9,q9,k⟩;have hu:=hr.TQ;refine⟨_,AS (Ax (i:=2) QO.nd rfl (Aa rfl) (Bt (AE (CA (AE (pv 0) (AE (pv 1) AI))) AI)))
   (AS (i9 DR (Aw (pV hu) (pv 2) (Bt AI) (Ap _))
    (AS (Ax (i:=3) QO.nd rfl (Aa rfl) (qB Dh PySem.F.slot_list_pop PySem.F.type_list_pop lY (pv 2)))
    (AR (A1 (D5 (BV pA rfl O.HV Gs (AE (A8 (pv 3)) (AE (CA (AE (F8 (v:=.ty "list") rfl O.lst En rfl) (AE (F8 (v:=.ty "tuple") rfl O.tup SK rfl) AI))) AI))))
     (AS (A1 (Aw Er (BV Ht rfl O.HV Gs (AE (A8 (pv 3)) (AE (F8 (v:=.ty "list") rfl O.lst En rfl) AI))) (BV Ht rfl O.HV Gs (AE (A8 (pv 3)) (AE (F8 (v:=.ty "list") rfl O.lst En rfl) AI))) (Ap _)) (AR (Al GH)) BD)
     (AS (A1 (Aw Er (BV Ht rfl O.HV Gs (AE (A8 (pv 3)) (AE (F8 (v:=.ty "tuple") rfl O.tup SK rfl) AI))) (BV Ht rfl O.HV Gs (AE (A8 (pv 3)) (AE (F8 (v:=.ty "tuple") rfl O.tup SK rfl) AI))) (Ap _)) (AR (Al GH)) BD)
     (AS (A1 (Aw Er (BV Fo rfl O.len DH (AE (A8 (pv 3)) AI)) (BV Fo rfl O.len DH (AE (A8 (pv 3)) AI)) (Ap _)) (AR (Al GH)) BD)
     (AR (DW DR rfl (O2 rfl O.Jp (AE (BV Fo rfl O.len DH (AE (A8 (pv 3)) AI)) AI)) (BY (i:=4) QO.nd rfl (Aa rfl))
      (AR (Bc (EO Dh Ei Eh EE (pv 2) (AE (CA (AE (Bw aW (A8 (pv 3)) (pv 4) (fun _ _=>rfl)) (AE (Bw aW (A8 (pv 3)) (pv 4) (fun _ _=>rfl)) AI))) AI)))))))))
     (AR (A1 (D5 (BV Ht rfl O.HV Gs (AE (A8 (pv 3)) (AE (F8 (v:=.ty "str") rfl O.str ZS rfl) AI))))
      (AR (A1 (PW.pt (Jh (Gq (D5 (BV Ht rfl O.HV Gs (AE (A8 (pv 3)) (AE (F8 (v:=.ty "str") rfl O.str ZS rfl) AI))))) (JW (Aw Er (A8 (pv 3)) (A8 (pv 3)) (Ap _))))) (AR (Al GH)) BD))
      (AR (A1 (D5 (BV Ht rfl O.HV Gs (AE (A8 (pv 3)) (AE (F8 (v:=.ty "bool") rfl O.bl TB rfl) AI))))
       (AR (A1 (PW.pt (Jh (Gq (D5 (BV Ht rfl O.HV Gs (AE (A8 (pv 3)) (AE (F8 (v:=.ty "bool") rfl O.bl TB rfl) AI))))) (JW (Aw Er (A8 (pv 3)) (A8 (pv 3)) (Ap _))))) (AR (Al GH)) BD))
       (AR (A1 (PW.pt (Jh (Gq (D5 (Cp GW hr rfl mW FW.kp bW .nil A3 (AE (A8 (pv 3)) AI)))) (JW (Aw Er (A8 (pv 3)) (A8 (pv 3)) (Ap _))))) (AR (Al GH)) BD))))))))))
   (AR (Al GH))),?_⟩;refine⟨_,rfl,_,rfl,by exact zw,fun p0 r2=>⟨by exact zx,fun t ht=>?_⟩⟩;have s8:p0≠t:=A2 AM ht;have s0:H t=none:=(AY r2).free ht;refine⟨fun m σ H'=>∃(ps:List Ya)(ds:List Dt)(v3 v4:Option V),σ=[some x0,some y0,some (.ref t),v3,v4]/\H' t=some (.lst (ps.map V.ref))/\AO H H'/\m=Dt.Cb ds/\m<=1000000/\Eg H H' ds ps,
   ⟨Dt.Cb [d0],[p0],[d0],none,none,rfl,AM,((AO.refl H).upd r2).upd s0,rfl,by simp only[Dt.Cb];lia,?_⟩,?_⟩
  ·refine Eg.snoc (ds:=[]) (ps:=[]) (x:=x0) (y:=y0) ⟨rfl,fun i d p e=>by simp at e⟩ ?_ rx0 r9;rw[AQ s8,AM]
  rintro m σ H' ⟨ps,ds,v3,v4,rfl,hT,sm,rfl,hm,st⟩;refine⟨_,rfl,by exact zy,fun q hq=>⟨t,q,_,rfl,rfl,AK.of (by rw[AQ (A2 hT hq)];exact hT),AK.of AM,_,rfl,?_⟩⟩;have s1:AO H' (upd H' q (.lst [])):=AY hq;rcases List.eq_nil_or_concat ps with e|⟨h0,p,e⟩
  ·subst e;refine BF ?_;exact k _ (sm.trans s1)
  rw[List.concat_eq_append] at e;subst e;obtain⟨h6,d,x,y,rfl,r8,hp,rx,ry⟩:=st.lR;have q7:t≠q:=A2 hT hq;have q8:p≠t:=Ca hp hT (by intro z;cases z);have em:((h0++[p]).map V.ref)=h0.map V.ref++[V.ref p]:=by rw[BG];rfl
  have q4:(!((h0++[p]).map V.ref).isEmpty)=true:=by rw[em];simp
  rw[q4];refine Bi ⟨fun σ' H2=>∃(ps:List Ya)(ds:List Dt)(v3 v4:Option V),σ'=[some x0,some y0,some (.ref t),v3,v4]/\H2 t=some (.lst (ps.map V.ref))/\AO H H2/\Dt.Cb ds<Dt.Cb (h6++[d])/\Eg H H2 ds ps,
   fun σ' H2 ⟨q0,r6,a3,a4,e1,e2,e3,e4,e5⟩=>⟨Dt.Cb r6,e4,q0,r6,a3,a4,e1,e2,e3,rfl,by lia,e5⟩,?_⟩;have r3:(upd H' q (.lst [])) t=some (.lst (h0.map V.ref++[V.ref p])):=by rw[AQ q7,hT,em]
  refine⟨_,rfl,.inl ⟨rfl,_,AK.of r3⟩,t,_,.ref p,rfl,rfl,r3,by simp,?_⟩;have r5:Dt.Cb (h6++[d])=Dt.Cb h6+d.sz:=by rw[Dt.PX];simp only[Dt.Cb];lia
  have q6:(h0.map V.ref++[V.ref p]).dropLast=h0.map V.ref:=by simp
  rw[q6];generalize s9:upd (upd H' q (.lst [])) t (.lst (h0.map V.ref))=H2;have s2:AO H H2:=by rw[<-s9];exact(sm.trans s1).upd s0
  have t2:H2 t=some (.lst (h0.map V.ref)):=by rw[<-s9];exact AM
  have r1:∀b xs,H' b=some (.tup xs)->H2 b=some (.tup xs):=fun b xs e=>by rw[<-s9,AQ (Ca e hT (by intro z;cases z)),AQ (A2 e hq)];exact e
  have p2:H2 p=some (.tup [x,y]):=r1 _ _ hp;have r7:Eg H H2 h6 h0:=r8.same r1;refine⟨_,rfl,p,_,1,y,rfl,rfl,AU.of p2,rfl,by exact zw,fun tq q1=>?_⟩;generalize r4:upd H2 tq (.tup [V.ty "list",V.ty "tuple"])=H3;have e9:AO H2 H3:=by rw[<-r4];exact AY q1
  have s3:AO H H3:=s2.trans e9;have t3:H3 t=some (.lst (h0.map V.ref)):=e9 _ _ t2;have p3:H3 p=some (.tup [x,y]):=e9 _ _ p2;have q3:H3 tq=some (.tup [V.ty "list",V.ty "tuple"]):=by rw[<-r4];exact AM
  have s5:Eg H H3 h6 h0:=r7.same fun b xs e=>e9 _ _ e;have r0:∃(ps:List Ya)(ds:List Dt)(a3 a4:Option V),([some x0,some y0,some (V.ref t),some (V.ref p),v4]:St)=[some x0,some y0,some (.ref t),a3,a4]/\H3 t=some (.lst (ps.map V.ref))/\AO H H3/\Dt.Cb ds<Dt.Cb (h6++[d])/\Eg H H3 ds ps:=by have:=d.ZD;exact⟨h0,h6,_,_,rfl,t3,s3,by lia,s5⟩
  cases d with
  |lst h5=>
   cases rx with
   |@lst _ a xs hx lx fx=>
   cases ry with
   |@lst _ b ys hy ly fy=>
   have a3:H3 a=some (.lst xs):=s3 _ _ hx;have b3:H3 b=some (.lst ys):=s3 _ _ hy;have s7:(Dt.lst h5).sz=1+Dt.Cb h5:=by simp only[Dt.sz]
   have q5:=Dt.KS h5;refine⟨.ref b,tq,["list","tuple"],.type "list",true,rfl,q3,(fun _=>Bh.lst b3),(fun _=>ZQ _ (.inl rfl)),_,rfl,Bi ?_⟩;refine⟨_,rfl,p,_,0,.ref a,rfl,rfl,AU.of p3,rfl,.ref a,"list",.type "list",true,rfl,(fun _=>Bh.lst a3),(fun _=>IK _),_,rfl,p,_,1,.ref b,rfl,rfl,AU.of p3,rfl,.ref b,"list",.type "list",true,rfl,(fun _=>Bh.lst b3),(fun _=>IK _),rfl,_,rfl,D7 rfl ?_⟩;refine⟨_,rfl,p,_,0,.ref a,rfl,rfl,AU.of p3,rfl,.ref a,"tuple",.type "list",false,rfl,(fun _=>Bh.lst a3),(fun _=>Zh),_,rfl,p,_,1,.ref b,rfl,rfl,AU.of p3,rfl,.ref b,"tuple",.type "list",false,rfl,(fun _=>Bh.lst b3),(fun _=>Zh),rfl,_,rfl,D7 rfl ?_⟩;refine⟨_,rfl,p,_,0,.ref a,rfl,rfl,AU.of p3,rfl,a,xs,rfl,.inl (AK.of a3),_,rfl,p,_,1,.ref b,rfl,rfl,AU.of p3,rfl,b,ys,rfl,.inl (AK.of b3),rfl,_,rfl,D7 (by rw[<-lx,<-ly]) ?_⟩;refine⟨_,rfl,p,_,1,.ref b,rfl,rfl,AU.of p3,rfl,b,ys,rfl,.inl (AK.of b3),(ys.length:Int),rfl,by lia,by lia,?_⟩;refine Mz (lo:=0) (n:=ys.length) (fun i σ' H4=>∃(h4:List Ya)(u4:Option V),σ'=[some x0,some y0,some (.ref t),some (.ref p),u4]/\H4 t=some (.lst ((h0++h4).map V.ref))/\AO H H4/\H4 p=some (.tup [.ref a,.ref b])/\Eg H H4 (h6++h5.take i) (h0++h4))
    ⟨[],v4,rfl,by rw[CF];exact t3,s3,p3,by rw[J9,CF,CF];exact s5⟩ ?_ ?_
   ·rintro i σ' H4 hi ⟨h4,u4,rfl,t4,s4,p4,h7⟩;have e8:xs[i]? =some xs[i]:=Ar (by lia);have e7:ys[i]? =some ys[i]:=Ar hi;have e6:h5[i]? =some h5[i]:=Ar (by lia);have q2:(h0++h4).length<=1000000:=by
     have h1:=h7.1;have h2:=Dt.KS (h6++h5.take i);have h3:=Dt.KS h6;rw[Au,Bm] at h1
     lia
    have e0:(0:Int)+(i:Nat)=(i:Nat):=Int.zero_add _;refine⟨_,rfl,.inl ⟨rfl,_,AK.of t4⟩,_,rfl,p,_,0,.ref a,rfl,rfl,AU.of p4,rfl,_,rfl,.inl ⟨a,xs,_,xs[i],rfl,rfl,AK.of (s4 _ _ hx),by rw[e0];exact B1 e8,_,rfl,p,_,1,.ref b,rfl,rfl,AU.of p4,rfl,_,rfl,
     .inl ⟨b,ys,_,ys[i],rfl,rfl,AK.of (s4 _ _ hy),by rw[e0];exact B1 e7,by exact zw,fun np h8=>?_⟩⟩⟩;have C1:t≠np:=A2 t4 h8;have s6:p≠np:=A2 p4 h8;have h9:p≠t:=Ca p4 t4 (by intro z;cases z);refine⟨t,_,.ref np,rfl,rfl,by rw[AQ C1];exact t4,by rw[AL,A9];lia,h4++[np],_,rfl,?_,(s4.upd (s4.free h8)).upd s0,by rw[AQ h9,AQ s6];exact p4,?_⟩
    ·rw[AM];simp only[BG,Av,LR,Bl]
    ·have kk:∀c zs,H4 c=some (.tup zs)->(upd (upd H4 np (.tup [xs[i],ys[i]])) t (.lst ((h0++h4).map V.ref++[V.ref np]))) c=some (.tup zs):=fun c zs e=>by rw[AQ (Ca e t4 (by intro z;cases z)),AQ (A2 e h8)];exact e
     rw[Di,e6,<-Bl,<-Bl];refine(h7.same kk).snoc (x:=xs[i]) (y:=ys[i]) ?_ (fx i _ _ e6 e8) (fy i _ _ e6 e7);rw[AQ C1.symm,AM]
   ·rintro σ' H4 ⟨h4,u4,rfl,t4,s4,p4,h7⟩;rw[<-ly,CL] at h7;refine⟨h0++h4,h6++h5,_,_,rfl,t4,s4,?_,h7⟩;rw[r5,Dt.PX,s7]
    lia
  |tup h5=>
   cases rx with
   |@tup _ a xs hx lx fx=>
   cases ry with
   |@tup _ b ys hy ly fy=>
   have a3:H3 a=some (.tup xs):=s3 _ _ hx;have b3:H3 b=some (.tup ys):=s3 _ _ hy;have s7:(Dt.tup h5).sz=1+Dt.Cb h5:=by simp only[Dt.sz]
   have q5:=Dt.KS h5;refine⟨.ref b,tq,["list","tuple"],.type "tuple",true,rfl,q3,(fun _=>Bh.tup b3),(fun _=>ZQ _ (.inr rfl)),_,rfl,Bi ?_⟩;refine⟨_,rfl,p,_,0,.ref a,rfl,rfl,AU.of p3,rfl,.ref a,"list",.type "tuple",false,rfl,(fun _=>Bh.tup a3),(fun _=>Zf),_,rfl,p,_,1,.ref b,rfl,rfl,AU.of p3,rfl,.ref b,"list",.type "tuple",false,rfl,(fun _=>Bh.tup b3),(fun _=>Zf),rfl,_,rfl,D7 rfl ?_⟩;refine⟨_,rfl,p,_,0,.ref a,rfl,rfl,AU.of p3,rfl,.ref a,"tuple",.type "tuple",true,rfl,(fun _=>Bh.tup a3),(fun _=>IK _),_,rfl,p,_,1,.ref b,rfl,rfl,AU.of p3,rfl,.ref b,"tuple",.type "tuple",true,rfl,(fun _=>Bh.tup b3),(fun _=>IK _),rfl,_,rfl,D7 rfl ?_⟩;refine⟨_,rfl,p,_,0,.ref a,rfl,rfl,AU.of p3,rfl,a,xs,rfl,.inr (AU.of a3),_,rfl,p,_,1,.ref b,rfl,rfl,AU.of p3,rfl,b,ys,rfl,.inr (AU.of b3),rfl,_,rfl,D7 (by rw[<-lx,<-ly]) ?_⟩;refine⟨_,rfl,p,_,1,.ref b,rfl,rfl,AU.of p3,rfl,b,ys,rfl,.inr (AU.of b3),(ys.length:Int),rfl,by lia,by lia,?_⟩;refine Mz (lo:=0) (n:=ys.length) (fun i σ' H4=>∃(h4:List Ya)(u4:Option V),σ'=[some x0,some y0,some (.ref t),some (.ref p),u4]/\H4 t=some (.lst ((h0++h4).map V.ref))/\AO H H4/\H4 p=some (.tup [.ref a,.ref b])/\Eg H H4 (h6++h5.take i) (h0++h4))
    ⟨[],v4,rfl,by rw[CF];exact t3,s3,p3,by rw[J9,CF,CF];exact s5⟩ ?_ ?_
   ·rintro i σ' H4 hi ⟨h4,u4,rfl,t4,s4,p4,h7⟩;have e8:xs[i]? =some xs[i]:=Ar (by lia);have e7:ys[i]? =some ys[i]:=Ar hi;have e6:h5[i]? =some h5[i]:=Ar (by lia);have q2:(h0++h4).length<=1000000:=by
     have h1:=h7.1;have h2:=Dt.KS (h6++h5.take i);have h3:=Dt.KS h6;rw[Au,Bm] at h1
     lia
    have e0:(0:Int)+(i:Nat)=(i:Nat):=Int.zero_add _;refine⟨_,rfl,.inl ⟨rfl,_,AK.of t4⟩,_,rfl,p,_,0,.ref a,rfl,rfl,AU.of p4,rfl,_,rfl,.inr (.inl ⟨a,xs,_,xs[i],rfl,rfl,AU.of (s4 _ _ hx),by rw[e0];exact B1 e8,_,rfl,p,_,1,.ref b,rfl,rfl,AU.of p4,rfl,_,rfl,
     .inr (.inl ⟨b,ys,_,ys[i],rfl,rfl,AU.of (s4 _ _ hy),by rw[e0];exact B1 e7,by exact zw,fun np h8=>?_⟩)⟩)⟩;have C1:t≠np:=A2 t4 h8;have s6:p≠np:=A2 p4 h8;have h9:p≠t:=Ca p4 t4 (by intro z;cases z);refine⟨t,_,.ref np,rfl,rfl,by rw[AQ C1];exact t4,by rw[AL,A9];lia,h4++[np],_,rfl,?_,(s4.upd (s4.free h8)).upd s0,by rw[AQ h9,AQ s6];exact p4,?_⟩
    ·rw[AM];simp only[BG,Av,LR,Bl]
    ·have kk:∀c zs,H4 c=some (.tup zs)->(upd (upd H4 np (.tup [xs[i],ys[i]])) t (.lst ((h0++h4).map V.ref++[V.ref np]))) c=some (.tup zs):=fun c zs e=>by rw[AQ (Ca e t4 (by intro z;cases z)),AQ (A2 e h8)];exact e
     rw[Di,e6,<-Bl,<-Bl];refine(h7.same kk).snoc (x:=xs[i]) (y:=ys[i]) ?_ (fx i _ _ e6 e8) (fy i _ _ e6 e7);rw[AQ C1.symm,AM]
   ·rintro σ' H4 ⟨h4,u4,rfl,t4,s4,p4,h7⟩;rw[<-ly,CL] at h7;refine⟨h0++h4,h6++h5,_,_,rfl,t4,s4,?_,h7⟩;rw[r5,Dt.PX,s7]
    lia
  |str z=>cases rx;cases ry;refine⟨.str z,tq,["list","tuple"],.type "str",false,rfl,q3,(fun _=>Bh.str z),(fun _=>TF _ (.inl rfl)),_,rfl,BF ?_⟩;refine⟨_,rfl,p,_,1,.str z,rfl,rfl,AU.of p3,rfl,.str z,"str",.type "str",true,rfl,(fun _=>Bh.str z),(fun _=>IK _),_,rfl,Bi ?_⟩;refine⟨_,rfl,p,_,0,.str z,rfl,rfl,AU.of p3,rfl,.str z,"str",.type "str",true,rfl,(fun _=>Bh.str z),(fun _=>IK _),_,rfl,BF ⟨_,rfl,p,_,0,.str z,rfl,rfl,AU.of p3,rfl,_,rfl,p,_,1,.str z,rfl,rfl,AU.of p3,rfl,rfl,_,rfl,D7 rfl r0⟩⟩
  |bl z=>cases rx;cases ry;refine⟨.bl z,tq,["list","tuple"],.type "bool",false,rfl,q3,(fun _=>Bh.bl z),(fun _=>TF _ (.inr (.inr rfl))),_,rfl,BF ?_⟩;refine⟨_,rfl,p,_,1,.bl z,rfl,rfl,AU.of p3,rfl,.bl z,"str",.type "bool",false,rfl,(fun _=>Bh.bl z),(fun _=>nj),_,rfl,BF ?_⟩;refine⟨_,rfl,p,_,1,.bl z,rfl,rfl,AU.of p3,rfl,.bl z,"bool",.type "bool",true,rfl,(fun _=>Bh.bl z),(fun _=>IK _),_,rfl,Bi ?_⟩;refine⟨_,rfl,p,_,0,.bl z,rfl,rfl,AU.of p3,rfl,.bl z,"bool",.type "bool",true,rfl,(fun _=>Bh.bl z),(fun _=>IK _),_,rfl,BF ⟨_,rfl,p,_,0,.bl z,rfl,rfl,AU.of p3,rfl,_,rfl,p,_,1,.bl z,rfl,rfl,AU.of p3,rfl,rfl,_,rfl,D7 rfl r0⟩⟩
  |int z=>cases rx;cases ry;refine⟨.int z,tq,["list","tuple"],.type "int",false,rfl,q3,(fun _=>Bh.int z),(fun _=>TF _ (.inr (.inl rfl))),_,rfl,BF ?_⟩;refine⟨_,rfl,p,_,1,.int z,rfl,rfl,AU.of p3,rfl,.int z,"str",.type "int",false,rfl,(fun _=>Bh.int z),(fun _=>o4),_,rfl,BF ?_⟩;refine⟨_,rfl,p,_,1,.int z,rfl,rfl,AU.of p3,rfl,.int z,"bool",.type "int",false,rfl,(fun _=>Bh.int z),(fun _=>Zl),_,rfl,BF ?_⟩;exact⟨_,rfl,p,_,0,.int z,rfl,rfl,AU.of p3,rfl,z,rfl,_,rfl,BF ⟨_,rfl,p,_,0,.int z,rfl,rfl,AU.of p3,rfl,_,rfl,p,_,1,.int z,rfl,rfl,AU.of p3,rfl,rfl,_,rfl,D7 rfl r0⟩⟩
def WZ{α:Type}[DecidableEq α]:∀{l m:List α},l.Nodup->(∀x∈l,x∈m)->l.length<=m.length
 |[],_,_,_=>CN _
 |a::t,m,hn,hs=>by
  obtain⟨h1,h2⟩:=Ik.mp hn;have ha:=hs a EB;have:=WZ (l:=t) (m:=m.erase a) h2 fun x hx=>(List.mem_erase_of_ne (fun z=>h1 (by rw[<-z];exact hx))).mpr (hs x (DG _ hx));rw[List.length_erase_of_mem ha] at this;have hp:0<m.length:=VL ha;rw[CD]
  lia
def Es(n:Nk)(xs:List Am):Nk:=xs.foldl Hr n
def dR(n:Nk)(xs:List Am)(x:Am):Es n (xs++[x])=Hr (Es n xs) x:=by unfold Es;rw[List.foldl_append];rfl
def SX:∀(xs:List Am)(n:Nk),Bd n->(∀x∈xs,x.Good)->Bd (Es n xs)/\vw (Es n xs)=CK (vw n) xs
 |[],n,h,_=>⟨h,rfl⟩
 |x::xs,n,h,g=>by obtain⟨p1,p2⟩:=jf h (g x EB);obtain⟨q1,q2⟩:=SX xs (Hr n x) p1 fun y hy=>g y (DG _ hy);refine⟨q1,?_⟩;show vw (Es (Hr n x) xs)=CK ((D6 (vw n) x).next (vw n)) xs;rw[q2,p2]
def bL:Bd Fz:=⟨⟨Mf,Mf,Mf,fun p hp=>(by cases hp),fun p hp=>(by cases hp),fun p hp=>(by cases hp),fun p hp=>(by cases hp)⟩,Int.le_refl _,fun p hp=>(by cases hp),fun p hp=>(by cases hp)⟩
def nU(b:Bq n){p:Int×List Wd}(hp:p∈n.texts):∃nm,(nm,Aj n p.1)∈vw n/\(Aj n p.1).length=p.2.length:=by obtain⟨nm,h⟩:=b.own p hp;refine⟨nm,BZ.mpr ⟨_,h,rfl⟩,?_⟩;unfold Aj;rw[Hf b.CW (show(p.1,p.2)∈n.texts from hp)];show(p.2.map _).length=_;rw[AL]
def P4(ws:List PR):Nat:=wsum ws
def fits_of(h:Bd n)(s:Sz k (vw n))(hk:k<=64):Fits n/\n.names.length<=k/\n.texts.length<=k:=by
 have hl:n.names.length<=k:=by have:=s.len;unfold vw at this;rw[AL] at this;exact this
 have ht:n.texts.length<=n.names.length:=by
  have:=WZ (l:=n.texts.map (·.1)) (m:=n.names.map (·.2)) h.b.CW fun x hx=>by obtain⟨p,hp,rfl⟩:=BZ.mp hx;obtain⟨nm,hn⟩:=h.b.own p hp;exact BZ.mpr ⟨_,hn,rfl⟩
  rw[AL,AL] at this;exact this
 refine⟨⟨h.b.Cm,h.b.CW,by lia,by lia,fun p hp=>?_⟩,hl,by lia⟩;obtain⟨nm,h1,h2⟩:=nU h.b hp;have h3:=Ld h1;have h4:=KO (Aj n p.1);have h5:=s.BE;have h6:P4 (Aj n p.1)<=L2.BE (vw n):=h3;have h7:50000*k<=50000*64:=Qv _ hk;unfold P4 at h6
 lia
def eA(h:Bd n)(s:Sz k (vw n))(hk:k<=63){a o:Str}(g:(Am.join a o).Good)(br:BU n (.join a o)=""):(Bo n (Ay n a)++Bo n (Ay n o)).length<=100000:=by
 have s':=s.next g;have be:=Yz n (.join a o);rw[br] at be;have h1:C2 "" (Fm (vw n) a o):=be;have s2:Sz (k+1) ((Fm (vw n) a o).next (vw n)):=s';unfold Fm at h1 s2;rw[Ea n a,Ea n o] at h1 s2
 cases e:AF n.names a with
 |none=>rw[e] at h1;exact absurd h1.1.symm h1.2
 |some no=>
  cases e2:AF n.names o with
  |none=>rw[e,e2] at h1;exact absurd h1.1.symm h1.2
  |some h0=>
   rw[e,e2] at h1 s2;have h2:C2 "" (if a=o then .no "same page" else .ok (.int (L2.cnt (L2.joined (vw n) a o (Aj n no) (Aj n h0)) a)) (L2.joined (vw n) a o (Aj n no) (Aj n h0))):=h1;have s3:Sz (k+1) (Rs.next (vw n) (if a=o then .no "same page" else .ok (.int (L2.cnt (L2.joined (vw n) a o (Aj n no) (Aj n h0)) a)) (L2.joined (vw n) a o (Aj n no) (Aj n h0)))):=s2;by_cases e3:a=o
   ·rw[AH e3] at h2;exact absurd h2.1.symm h2.2
   ·rw[AG e3] at s3;have s4:Sz (k+1) (L2.joined (vw n) a o (Aj n no) (Aj n h0)):=s3;have ga:AF (L2.joined (vw n) a o (Aj n no) (Aj n h0)) a=some (C6 (Aj n no++Aj n h0) o a):=by unfold L2.joined;rw[TR,Co,AH rfl];rfl
    have h3:=Ld (BO ga);have h4:=KO (C6 (Aj n no++Aj n h0) o a);rw[XA,Au] at h4;have h5:=s4.BE;have h6:P4 (C6 (Aj n no++Aj n h0) o a)<=L2.BE (L2.joined (vw n) a o (Aj n no) (Aj n h0)):=h3;unfold P4 at h6;have l1:(Bo n (Ay n a)).length=(Aj n no).length:=by unfold Bo Ay Aj;rw[e,AL];rfl
    have l2:(Bo n (Ay n o)).length=(Aj n h0).length:=by unfold Bo Ay Aj;rw[e2,AL];rfl
    have h7:50000*(k+1)<=50000*64:=Qv _ (by lia);rw[Au,l1,l2]
    lia
def iZ(h:Bd n):UE n=Cj (vw n):=by
 unfold UE Cj;have ek:keys (vw n)=n.names.map (·.1):=D4 n;rw[ek];have h0:∀nm∈Dv (n.names.map (·.1)),nm∈n.names.map (·.1):=fun nm hn=>(Gh DB _).mem_iff.mp hn;generalize Dv (n.names.map (·.1))=L at h0
 induction L with
 |nil=>rfl
 |cons nm L ih=>
  rw[Ga,Ga,ih fun x hx=>h0 x (DG _ hx)];congr 1;obtain⟨no,h5⟩:=LZ (h0 nm EB);obtain⟨ws,h4,ok⟩:=h.b.text h5;unfold Gz DL Bo Ay;rw[Ea,h5];show(((AF n.texts no).getD []).flatMap (Cz n nm))=(C1 (Aj n no)).map _;unfold Aj C1;rw[h4];show ws.flatMap (Cz n nm)=(((ws.map (sh n.names)).filter fun p=>decide (p.1=("to" :Str))).map (·.2)).map _;clear h4
  induction ws with
  |nil=>rfl
  |cons w ws h7=>
   rw[Ga,h7 fun x hx=>ok x (DG _ hx),Av];have h6:=ok w EB
   cases ht:w.to with
   |false=>
    have e1:Cz n nm w=[]:=by unfold Cz;rw[ht];rfl
    rw[e1,Hl ht,Fb (by show¬decide (("word" :Str)="to")=true;decide+kernel)];rfl
   |true=>
    have two:∀x:Str,sh n.names w=(("to" :Str),x)->shown n.names w="[" ++x++ "]" ->(!decide (V.int w.no=V.int (-1)))=(AF (vw n) x).isSome->Cz n nm w=[((nm,x,(AF (vw n) x).isSome):Tr)]:=fun x h1 h2 h3=>by unfold Cz;rw[AH ht,h2,eW,h3]
    rcases h6 ht with⟨hl,hn⟩|⟨x,hx⟩
    ·have e1:=two w.nm (Fg ht hl) (by unfold shown;rw[AH ht,AH hl]) (by rw[Ea,hn,hl];rfl);rw[e1,Fg ht hl,Ej (by show decide (("to" :Str)="to")=true;decide+kernel)];rfl
    ·have hn:w.no≠-1:=by have:=h.b.FZ hx;lia
     have hs:=Ep h.b.inj ht hn hx;have hg:AF (vw n) x=some (Aj n w.no):=by rw[Ea,Hf h.b.Cm hx];rfl
     have e1:=two x hs (by unfold shown;rw[AH ht,AG hn,Ry h.b.inj hx]) (by rw[hg,BK (fun z=>hn (V.int.inj z))];rfl);rw[e1,hs,Ej (by show decide (("to" :Str)="to")=true;decide+kernel)];rfl
def XT:Sp:=fun vs H Q _=>∃(v:V)(xs:List Am),vs=[v]/\Rep H (.lst (xs.map Am.dt)) v/\(∀x∈xs,x.Good)/\xs.length<=63/\∀a H',Ce H H' a (Es Fz xs)->Q (.ref a) H'
noncomputable def Am.word:Am->Str
 |.write _ _=>"write" |.rename _ _=>"rename" |.join _ _=>"join" |.cut _ _ _=>"cut" |.drop _=>"drop" |.text _=>"text" |.back _=>"back" |.find _ _=>"find"
def fZ(x:Am):(G0 (.str x.word) [.str "text",.str "back",.str "find"])=x.asks:=by
 cases x with
 |write a b=>exact(by left:G0 (.str "write") [.str "text",.str "back",.str "find"]=false)
 |rename a b=>exact(by left:G0 (.str "rename") [.str "text",.str "back",.str "find"]=false)
 |join a b=>exact(by left:G0 (.str "join") [.str "text",.str "back",.str "find"]=false)
 |cut a p b=>exact(by left:G0 (.str "cut") [.str "text",.str "back",.str "find"]=false)
 |drop a=>exact(by left:G0 (.str "drop") [.str "text",.str "back",.str "find"]=false)
 |text a=>exact(by left:G0 (.str "text") [.str "text",.str "back",.str "find"]=true)
 |back a=>exact(by left:G0 (.str "back") [.str "text",.str "back",.str "find"]=true)
 |find a b=>exact(by left:G0 (.str "find") [.str "text",.str "back",.str "find"]=true)
def jg{x:Am}(r:Rep H x.dt v):∃d xs,v=.ref d/\H d=some (.tup (.str x.word::xs)):=by
 cases x with
 |write a b=>obtain⟨d,xs,rfl,hd,rs⟩:=Bv r;obtain⟨u,v,x,rfl,r1,_⟩:=Eo rs;cases Bb r1;exact⟨d,_,rfl,hd⟩
 |rename a b=>obtain⟨d,xs,rfl,hd,rs⟩:=Bv r;obtain⟨u,v,x,rfl,r1,_⟩:=Eo rs;cases Bb r1;exact⟨d,_,rfl,hd⟩
 |join a b=>obtain⟨d,xs,rfl,hd,rs⟩:=Bv r;obtain⟨u,v,x,rfl,r1,_⟩:=Eo rs;cases Bb r1;exact⟨d,_,rfl,hd⟩
 |cut a p b=>obtain⟨d,xs,rfl,hd,rs⟩:=Bv r;obtain⟨u,v,x,y,rfl,r1,_⟩:=Px rs;cases Bb r1;exact⟨d,_,rfl,hd⟩
 |drop a=>obtain⟨d,xs,rfl,hd,rs⟩:=Bv r;obtain⟨u,v,rfl,r1,_⟩:=Gv rs;cases Bb r1;exact⟨d,_,rfl,hd⟩
 |text a=>obtain⟨d,xs,rfl,hd,rs⟩:=Bv r;obtain⟨u,v,rfl,r1,_⟩:=Gv rs;cases Bb r1;exact⟨d,_,rfl,hd⟩
 |back a=>obtain⟨d,xs,rfl,hd,rs⟩:=Bv r;obtain⟨u,v,rfl,r1,_⟩:=Gv rs;cases Bb r1;exact⟨d,_,rfl,hd⟩
 |find ws h0=>obtain⟨d,xs,rfl,hd,rs⟩:=Bv r;obtain⟨u,v,x,rfl,r1,_⟩:=Eo rs;cases Bb r1;exact⟨d,_,rfl,hd⟩
def SS:A0 ["_law_asked","_law_nook","_law_deed"] ["_law_asked"] (Ao Sd):=by left
def gN{fBe:Ya}{fdBe:rA}(F:Ai K "_law_played" "_law_played" Sd f fd)
 (FBe:Ai K "_law_begun" "_law_begun" Pu fBe fdBe)(bBe:Binds K fdBe [] [])(mBe:mg "_law_begun" =some (.ref fBe))
 (HBa:Hv P w K mg base "_law_barred" 2 ["_law_nook","_law_deed"] XM)
 (HCh:Hv P w K mg base "_law_changed" 3 ["_law_nook","_law_deed"] Wj):AW P w K mg base Ag 4 f fd ["_law_asked"] XT:=by
 have e2:AW P w K mg base Ag 1 fBe fdBe [] YV:=ie FBe;refine F.ok SS ?_ ?_
 ·rintro _ _ _ _ ⟨_,_,rfl,_⟩;rfl
 ·rintro _ A _ s H _ Q E hr ⟨v,xs,rfl,rv,h1,hl,q⟩;refine⟨_,(AS (Ax (i:=1) SS.nd rfl (Aa rfl) (Xk e2 hr.mn rfl mBe FBe.kp bBe .nil A3)) (AS (DW DR rfl (Ez (pv 0)) (BY (i:=2) SS.nd rfl (Aa rfl))
   (AR (A1 (PW.pt (FH (Aw cc (A8 (pv 2)) (Bt (AE AZ (AE AZ (AE AZ AI)))) rfl) (Gm (Aw BQ (Bz HBa hr.mn rfl A3 (AE (pv 1) (AE (pv 2) AI))) AZ (Ap _)))))
   (AR (Bc (Bz HCh hr rfl A3 (AE (pv 1) (AE (pv 2) AI)))))
   BD))) (AR (Al (pv 1))))),?_⟩;obtain⟨l,ys,rfl,h7,rr⟩:=EG rv;refine⟨rfl,fun a H1 h6=>?_⟩;have h2:∀{n:Nk}{H':Hp},Ce H H' a n->AO H H':=fun h=>let⟨_,_,_,nk⟩:=h;nk.same;refine⟨_,rfl,l,rfl,⟨_,AK.of (h2 h6 _ _ h7)⟩,He (K:=[]) (a:=l) (xs:=ys) (fun i σ H'=>∃v2:Option V,σ=[some (.ref l),some (.ref a),v2]/\Ce H H' a (Es Fz (xs.take i)))
   ⟨none,rfl,h6⟩ (fun i σ H' _ ⟨_,_,h⟩=>AK.of (h2 h _ _ h7)) ?_ ?_⟩
  ·rintro i y σ H' ey ⟨v2,rfl,nk⟩;obtain⟨x,ex,rx⟩:=F9 rr ey;have hi:i<xs.length:=(BX.mp ex).1;have gi:∀z∈xs.take i,z.Good:=fun z hz=>h1 z (Ic hz);obtain⟨bd,ev⟩:=SX (xs.take i) Fz bL gi;have sz:=Pl (xs.take i) 0 [] To gi;have e1:vw (Es Fz (xs.take i))=CK [] (xs.take i):=ev;rw[<-e1] at sz;have hk:0+(xs.take i).length<=63:=by rw[Bm];lia
   obtain⟨h4,nl,tl⟩:=fits_of bd sz (by lia);have h3:Es Fz (xs.take (i+1))=Hr (Es Fz (xs.take i)) x:=by rw[Di,ex];exact dR ..
   have gx:=h1 x (Br ex);generalize Es Fz (xs.take i)=n at nk bd sz h4 nl tl h3;obtain⟨d,ds,rfl,hd⟩:=jg rx;have e0:=h2 nk _ _ hd;refine⟨_,rfl,d,_,_,.str x.word,rfl,rfl,AU.of e0,B1 (j:=0) rfl,by exact zv,fun lq h9=>?_⟩;have s2:=AY (o:=.lst [V.str "text",V.str "back",V.str "find"]) h9;have h0:=nk.ext s2;refine⟨lq,_,rfl,.inl (AK.of AM),rfl,rfl,_,rfl,?_⟩;have aw:=fZ x;show if(!G0 (.str x.word) [.str "text",.str "back",.str "find"])=true then _ else _;rw[aw]
   cases ha:x.asks with
   |true=>refine BF (BF ?_);refine⟨_,rfl,?_⟩;rw[h3];unfold Hr;rw[AH ha];exact h0
   |false=>
    generalize upd H' lq (.lst [V.str "text",V.str "back",V.str "find"])=H2 at h0;refine Bi ⟨_,rfl,_,rfl,a,.ref d,x,H,n,rfl,h0,h4,rx.same (h2 h0),gx,fun nm no h=>bd.b.tx _ (BO h),fun H3 s3=>⟨rfl,_,rfl,?_⟩⟩;have h5:=h0.ext s3;by_cases hb:BU n x=""
    ·refine Bu (by rw[hb]) ⟨_,rfl,_,rfl,a,.ref d,x,H,n,rfl,h5,h4,bd,by lia,by lia,rx,gx,ha,hb,fun a' o' e=>?_,fun H4 h8=>⟨_,rfl,?_⟩⟩
     ·subst e;exact eA bd sz hk gx hb
     ·rw[h3];unfold Hr;rw[AG (by rw[ha];exact Cd),AH hb];exact h8
    ·refine CJ (fun z=>hb (V.str.inj z)) ?_;refine⟨_,rfl,?_⟩;rw[h3];unfold Hr;rw[AG (by rw[ha];exact Cd),AG hb];exact h5
  ·rintro σ H' ⟨v2,rfl,nk⟩;have e6:ys.length=xs.length:=by have:=rr.1;rw[AL] at this;exact this.symm
   rw[e6,CL] at nk;exact⟨_,rfl,q a H' nk⟩
def KN(l:List Pg):Prop:=∀k∈l.map (·.1),isNm k=true
def NV{l:List Pg}{k:Str}{v:List PR}(h:KN l)(hk:isNm k=true):KN (AV l k v):=fun x hx=>by
 rw[JQ] at hx;split at hx
 ·exact h x hx
 ·rcases Bp.mp hx with z|z
  ·exact h x z
  ·rw[Bk.mp z];exact hk
def Ss{l:List Pg}{k:Str}(h:KN l):KN (AN l k):=fun x hx=>by rw[II] at hx;exact h x (F3.mp hx).1
def Ze{l:List Pg}{a b:Str}(h:KN l):KN (L2.C4 l a b):=fun x hx=>h x (by
 have e:(L2.C4 l a b).map (·.1)=l.map (·.1):=by unfold L2.C4;rw[Ba];rfl
 rwa [e] at hx)
def Tz{l:List Pg}{k:Str}{v:List PR}(h:KN l)(e:AF l k=some v):isNm k=true:=h k (List.mem_map_of_mem (BO e))
def jb{l:List Pg}(h:KN l)(x:Am):KN ((D6 l x).next l):=by cases x<;>simp only[D6,FE,Hh,Fm,Ho,FG,Gr,Y0]<;>(repeat' split)<;>first|exact h|exact NV h ‹_›|exact Ze (NV (Ss h) ‹_›)|exact Ze (NV (Ss h) (Tz h ‹_›))|exact NV (NV h ‹_›) (Tz h ‹_›)|exact Ss h
def Y2:∀(xs:List Am){l:List Pg},KN l->KN (CK l xs)
 |[],_,h=>h
 |x::xs,_,h=>Y2 xs (jb h x)
section
variable{n:Str}{w0:List PR}
def Wz:Dv (keys (AN AB n))=(Dv (keys AB)).filter fun x=>decide (x≠n):=by refine(Kb DB ?_ ((NI DB _).filter _)).symm;have e:keys (AN AB n)=(keys AB).filter fun x=>decide (x≠n):=II AB n;rw[e];exact(Gh DB _).filter _
def Wn:De (AN AB n)=(De AB).filter fun t=>decide (t.1≠n):=by unfold De;rw[Wz,RP];refine Ek fun m hm=>?_;have hm:=HX (F3.mp hm).2;unfold Ed;rw[DT hm]
noncomputable def Dq(n:Str)(b:Bool)(r:Tr):List Tr:=if r.1=n then[] else[if r.2.1=n then(r.1,n,b) else r]
def Nw(AB:List Pg)(n:Str)(b:Bool)(m:Str):List Tr:=if m=n then[] else(C1 ((AF AB m).getD [])).map fun t=>(m,t,if t=n then b else(AF AB t).isSome)
def Xe(b:Bool):(Cj AB).flatMap (Dq n b)=(Dv (keys AB)).flatMap (Nw AB n b):=by
 unfold Cj;rw[List.flatMap_assoc];congr 1;funext m;unfold DL Nw;rw[List.flatMap_map];by_cases e:m=n
 ·rw[AH e];refine List.flatMap_eq_nil_iff.mpr fun t _=>?_;unfold Dq;rw[AH e]
 ·rw[AG e]
  induction C1 ((AF AB m).getD []) with
  |nil=>rfl
  |cons t l ih=>
   rw[Ga,Av,ih];unfold Dq;rw[AG e];by_cases z:t=n
   ·show[if t=n then _ else _]++_=_;rw[AH z,AH z,z];rfl
   ·show[if t=n then _ else _]++_=_;rw[AG z,AG z];rfl
def gS:Cj (AN AB n)=(Cj AB).flatMap (Dq n false):=by
 rw[Xe];unfold Cj;rw[Wz]
 induction Dv (keys AB) with
 |nil=>rfl
 |cons m l ih=>
  rw[Ga,<-ih];by_cases e:m=n
  ·rw[Fb (by simpa using e)];unfold Nw;rw[AH e];rfl
  ·rw[Ej (by simpa using e),Ga];congr 1;unfold DL Nw;rw[AG e,DT e];refine Ek fun t _=>?_;by_cases z:t=n
   ·rw[AH z,z,F4];rfl
   ·rw[AG z,DT z]
def eJ(nd:(AB.map (·.1)).Nodup)(h:AF AB n=some w0)(ws:List PR):(keys (AN AB n++[(n,ws)])).Perm (keys AB):=by
 have e:keys (AN AB n++[(n,ws)])=((keys AB).filter fun x=>decide (x≠n))++[n]:=by unfold keys;rw[BG,II];rfl
 rw[e];refine(List.perm_ext_iff_of_nodup ?_ nd).mpr fun x=>?_
 ·refine OV.mpr ⟨nd.filter _,(Ik.mpr ⟨JJ,Mf⟩),fun a ha b hb z=>?_⟩;have:=HX (F3.mp ha).2;exact this (z.trans (Bk.mp hb))
 ·rw[Bp,Bk,F3];constructor
  ·rintro(z|rfl)
   ·exact z.1
   ·exact List.mem_map_of_mem (BO h)
  ·intro z;by_cases e:x=n
   ·exact .inr e
   ·exact .inl ⟨z,BW e⟩
def PD(ws:List PR)(m:Str):AF (AV (AN AB n) n ws) m=if m=n then some ws else AF AB m:=by
 rw[Co];by_cases e:m=n
 ·rw[AH e,AH e]
 ·rw[AG e,AG e,DT e]
def fM(nd:(AB.map (·.1)).Nodup)(h:AF AB n=some w0)(hw:C1 ws=[]):Cj (AV (AN AB n) n ws)=(Cj AB).flatMap (Dq n true):=by
 rw[Xe];have ek:Dv (keys (AV (AN AB n) n ws))=Dv (keys AB):=by rw[Fh (F4 AB n)];exact gw DB (eJ nd h ws)
 unfold Cj;rw[ek];congr 1;funext m;unfold DL Nw;rw[PD];by_cases e:m=n
 ·rw[AH e,AH e];show(C1 ws).map _=_;rw[hw];rfl
 ·rw[AG e,AG e];refine Ek fun t _=>?_;rw[PD];by_cases z:t=n
  ·rw[AH z,AH z];rfl
  ·rw[AG z,AG z]
def gM(nd:(AB.map (·.1)).Nodup)(h:AF AB n=some w0)(ws:List PR):(De (AV (AN AB n) n ws)).Perm ((De AB).filter (fun t=>decide (t.1≠n))++[(n,Gu ws)]):=by
 rw[<-Wn];unfold De;have p1:=(Gh DB (keys (AV (AN AB n) n ws))).map (Ed (AV (AN AB n) n ws));have p2:=((Gh DB (keys (AN AB n))).map (Ed (AN AB n))).append_right [(n,Gu ws)];refine p1.trans (List.Perm.trans (.of_eq ?_) p2.symm);rw[Fh (F4 AB n)];unfold keys;rw[BG,BG];congr 1
 ·refine Ek fun m hm=>?_;have hm:m≠n:=by rw[II] at hm;exact HX (F3.mp hm).2
  unfold Ed;rw[<-Fh (F4 AB n),PD,AG hm,DT hm]
 ·show[Ed _ n]=_;unfold Ed;rw[<-Fh (F4 AB n),PD,AH rfl];rfl
noncomputable def Kf(x:Tx):List Key:=[.inr x.1,.inr x.2]
def kj(nd:(AB.map (·.1)).Nodup):((De AB).map Kf).Pairwise fun x y=>Dc y x=false:=by unfold De;rw[Ba];have h1:=NI DB (keys AB);have h2:(Dv (keys AB)).Nodup:=(Gh DB (keys AB)).nodup_iff.mpr nd;refine RB.mpr ((h1.and h2).imp fun{a b} z=>?_);show(if(Sum.inr b:Key)=Sum.inr a then _ else Ef (.inr b) (.inr a))=false;rw[AG fun e=>z.2 (Sum.inr.inj e).symm];exact z.1
def YS(n:Str):∀ws:List PR,(((C1 ws).filter fun t=>decide (t=n)).length:Int)=Kz ws n
 |[]=>rfl
 |p::ws=>by
  have ih:=YS n ws;unfold C1 Kz at ih⊢;rw[OX];by_cases e:p.1=("to" :Str)
  ·rw[Ej (p:=fun p:PR=>decide (p.1=("to" :Str))) (BW e),Av];by_cases z:p.2=n
   ·rw[Ej (p:=fun t:Str=>decide (t=n)) (BW z),CD,AH (BW (Prod.ext e z:p=(("to" :Str),n)))]
    lia
   ·rw[Fb (by simpa using z),AG (fun q=>z (BL Prod.snd (HX q)))]
    lia
  ·rw[Fb (by simpa using e),AG (fun q=>e (BL Prod.fst (HX q)))]
   lia
def Yk:∀l:List Pg,(∀p∈l,AF AB p.1=some p.2)->((((l.map (·.1)).flatMap (DL AB)).filter fun r=>decide (r.2.1=n)).length:Int)=(l.map fun p=>Kz p.2 n).sum
 |[],_=>rfl
 |p::l,h=>by have ih:=Yk l fun q hq=>h q (DG _ hq);rw[Av,Ga,MW,Au,Av,CM,Int.natCast_add,ih,<-YS];unfold DL;rw[h p EB,RP,AL];rfl
def jB(nd:(AB.map (·.1)).Nodup):(((Cj AB).filter fun r=>decide (r.2.1=n)).length:Int)=cnt AB n:=by have p:=(((Gh DB (keys AB)).flatMap_right (DL AB)).filter fun r=>decide (r.2.1=n)).length_eq;have q:=Yk (AB:=AB) (n:=n) AB fun p hp=>Hf nd hp;unfold Cj;rw[<-show _=cnt AB n from q];exact BL Nat.cast p
end
def T4(K:uT):Sp:=fun vs H Q _=>∃(a:Ya)(ns:List Int),vs=[.ref a]/\AK K H a (ns.map V.int)/\ns.length<=63/\∀H',Q (.bl true) H'
def aI(K:uT):Sp:=fun vs H Q _=>∃(a:Ya)(ns:List Int)(m b:Int),vs=[.ref a,.int m,.int b]/\AK K H a (ns.map V.int)/\ns.length<=63/\Q (.int m) H
def jj(ns:List Int)(b:Nat):∃ms:List Int,DY (ns.map V.int) (some 1) (some (1+(b:Int)))=ms.map V.int/\ms.length<=b:=by
 unfold DY;refine⟨(ns.drop (BC (ns.map V.int).length 0 (some 1))).take (BC (ns.map V.int).length (ns.map V.int).length (some (1+(b:Int)))-BC (ns.map V.int).length 0 (some 1)),by rw[Oi,Oj],?_⟩;have e1:=So (ns.map V.int).length 0 1;have e2:=So (ns.map V.int).length (ns.map V.int).length (1+b);rw[show(some (((1+b:Nat)):Int))=some (1+(b:Int)) by rw[Int.natCast_add];rfl] at e2;rw[Bm,EX,e2,show(some (1:Int))=some ((1:Nat):Int) from rfl,e1]
 lia
def Mm(hK:X.K=K):DO X (.type "list") (fun xs H Q=>∃p ys,xs=[.ref p]/\(AK K H p ys\/AU K H p ys)/\∀l,H l=none->Q (.ref l) (upd H l (.lst ys))):=by subst hK;exact cW
def Xu(AB:List Pg):∀l:List Pg,(∀p∈l,AF AB p.1=some p.2)->((l.map (·.1)).flatMap (DL AB)).length*43<=BE l
 |[],_=>by simp
 |p::l,h=>by
  have ih:=Xu AB l fun q hq=>h q (DG _ hq);rw[Av,Ga,Au];have h1:(DL AB p.1).length*43<=wsum p.2:=by
   unfold DL C1;rw[h p EB,AL,AL];show(List.filter _ p.2).length*43<=_;have h2:=EA (fun p:PR=>decide (p.1=("to" :Str))) p.2;have h3:=KO p.2
   lia
  have h4:BE (p::l)=wsum p.2+BE l:=by unfold BE;rw[Av,CM]
  lia
def dI(nd:(AB.map (·.1)).Nodup):(Cj AB).length*43<=BE AB:=by
 have h:=((Gh DB (keys AB)).flatMap_right (DL AB)).length_eq;have h2:=Xu AB AB fun p hp=>Hf nd hp;unfold Cj;have h3:((Dv (keys AB)).flatMap (DL AB)).length=((AB.map (·.1)).flatMap (DL AB)).length:=h
 lia
def Ys:∀l:List Tr,Dt.Cb (l.map CV)=4*l.length
 |[]=>rfl
 |t::l=>by
  rw[Av,CD];have:=Ys l;show(CV t).sz+Dt.Cb (l.map CV)=_;rw[this];have:(CV t).sz=4:=rfl
  lia
def TX:∀l:List Tx,Dt.Cb (l.map D9)=3*l.length
 |[]=>rfl
 |t::l=>by
  rw[Av,CD];have:=TX l;show(D9 t).sz+Dt.Cb (l.map D9)=_;rw[this];have:(D9 t).sz=3:=rfl
  lia
def aV(K:uT):Sp:=fun vs H Q _=>∃(a:Ya)(ns:List Int)(k:Nat),vs=[.ref a,.int k]/\AK K H a (ns.map V.int)/\Q (.int (ns.getD k 0)) H
def bz{a b:Str}:Ab H [.str a,.str b] [.str a,.str b]:=Ab.snoc (Ab.snoc Ab.nil (.str _)) (.str _)
def Um{a b c:Str}:Ab H [.str a,.str b,.str c] [.str a,.str b,.str c]:=Ab.snoc bz (.str _)
def Xn{tp:Ya}{xs:List V}{ds:List Am}(d:Am){dds:List Dt}{es:List V}(hL:H1 L=some (.lst xs))(rs:Ab (Ex H1 L) (ds.map Am.dt) xs)(ht:H1 tp=none)(ed:d.dt=.tup dds)(re:∀H,Ab H dds es):
 ∃H2,upd (upd H1 tp (.tup es)) L (.lst (xs++[.ref tp]))=H2/\H2 L=some (.lst (xs++[.ref tp]))/\Ab (Ex H2 L) ((ds++[d]).map Am.dt) (xs++[.ref tp])/\∀G,AO G H1->G L=none->AO G H2:=by
 refine⟨_,rfl,AM,?_,fun G s h=>(s.trans (AY ht)).upd h⟩;rw[Ex.upd,BG];refine(rs.same (Ex.mono (AY ht))).snoc ?_;rw[ed];exact Rep.Jo (Ex.at AM (A2 hL ht).symm) (re _)
def XX{t l:Ya}{xs:List V}{ds:List Am}(d:Am){dds:List Dt}{es:List V}(rs:Ab H (ds.map Am.dt) xs)(ht:H t=none)(hl:(upd H t (.tup es)) l=none)(hf:(upd (upd H t (.tup es)) l (.lst [.ref t])) f=none)(ed:d.dt=.tup dds)(re:∀H,Ab H dds es):
 ∃H',upd (upd (upd H t (.tup es)) l (.lst [.ref t])) f (.lst (xs++[.ref t]))=H'/\AO H H'/\H' f=some (.lst (xs++[.ref t]))/\Ab H' ((ds++[d]).map Am.dt) (xs++[.ref t]):=by
 have s1:=AY (o:=.tup es) ht;have s2:=AY (o:=.lst [.ref t]) hl;have s3:=AY (o:=.lst (xs++[.ref t])) hf;refine⟨_,rfl,s1.trans (s2.trans s3),AM,?_⟩;rw[BG];refine(rs.same (s1.trans (s2.trans s3))).snoc ?_;rw[ed];exact Rep.Jo ((s2.trans s3) _ _ AM) (re _)
def iP(zs:List V)(k:Nat)(h:k<=zs.length):DY zs (some (k:Int)) none=zs.drop k:=by unfold DY;rw[So,jF,LH h];exact F0 (by rw[EX];lia)
def i4{ds:List Am}{d e:Am}{zs:List V}(t:Told [] (ds++[d]++[e]) H zs)(hz:zs.length=(ds++[d]++[e]).length){x y:Dt}(hx:(D6 (CK [] ds) d).J0=some x)(hy:(D6 (CK [] (ds++[d])) e).J0=some y):
 Ab H [x,y] (zs.drop ds.length):=by
 rw[Au,Au,Cf,Cf] at hz;have e1:zs.drop ds.length=[zs[ds.length]'(by lia),zs[ds.length+1]'(by lia)]:=by rw[K6 (by lia),K6 (by lia),K8 (by lia)]
 rw[e1];refine Ab.snoc (Ab.snoc Ab.nil ?_) ?_
 ·refine t ds.length d _ _ ?_ (Ar _) ?_
  ·rw[Bl,Cn (Ad _),El];rfl
  ·rw[Bl,List.take_left];exact hx
 ·refine t (ds.length+1) e _ _ ?_ (Ar _) ?_
  ·have l1:(ds++[d]).length=ds.length+1:=by rw[Au,Cf]
   rw[<-l1,Cn (Ad _),El];rfl
  ·have l1:(ds++[d]).length=ds.length+1:=by rw[Au,Cf]
   rw[<-l1,List.take_left];exact hy
def Y4{x:Tx}(r:Rep H (D9 x) y):∃t,y=.ref t/\H t=some (.tup [.str x.1,.str x.2]):=by obtain⟨t,xs,rfl,ht,rr⟩:=Bv r;obtain⟨u,v,rfl,r1,r2⟩:=Gv rr;cases r1;cases r2;exact⟨t,rfl,ht⟩
def Zd{H:Hp}:∀(l:List Tx)(ys:List V),Ab H (l.map D9) ys->∃ps:List (Ya×List Key),ys=ps.map (fun p=>V.ref p.1)/\ps.map (·.2)=l.map Kf/\∀p∈ps,H p.1=some (.tup (p.2.map kV))/\p.2.map kd=[kd (.inr ""),kd (.inr "")]
 |[],ys,r=>by
  cases ys with
  |nil=>exact⟨[],rfl,rfl,fun p hp=>by cases hp⟩
  |cons _ _=>have:=r.1;cases this
 |x::l,ys,r=>by
  cases ys with
  |nil=>have:=r.1;cases this
  |cons y ys=>
   obtain⟨ps,e1,e2,e3⟩:=Zd l ys ⟨Nat.succ.inj r.1,fun i d z h1 h2=>r.2 (i+1) d z h1 h2⟩;obtain⟨t,rfl,ht⟩:=Y4 (r.2 0 _ _ rfl rfl);refine⟨(t,Kf x)::ps,by rw[e1];rfl,by rw[Av,Av,e2],fun p hp=>?_⟩;rcases Bn.mp hp with e|e
   ·rw[e];exact⟨ht,rfl⟩
   ·exact e3 p e
def aD{H:Hp}:∀(l:List Tx)(qs:List (Ya×List Key)),qs.map (·.2)=l.map Kf->(∀p∈qs,H p.1=some (.tup (p.2.map kV)))->Ab H (l.map D9) (qs.map fun p=>V.ref p.1)
 |[],qs,e,_=>by
  cases qs with
  |nil=>exact Ab.nil
  |cons _ _=>cases e
 |x::l,qs,e,h=>by
  cases qs with
  |nil=>cases e
  |cons q qs=>
   obtain⟨e1,e2⟩:=IF e;have r:=aD l qs e2 fun p hp=>h p (DG _ hp);have hq:=h q EB;rw[show q.2=Kf x from e1] at hq;refine⟨BL Nat.succ r.1,fun i d z h1 h2=>?_⟩
   cases i with
   |zero=>cases Af h1;cases Af h2;exact Ph hq
   |succ i=>exact r.2 i d z h1 h2
def Sr(n:Str)(b:Bool):∀l:List Tr,(l.flatMap (Dq n b)).length<=l.length
 |[]=>Ad _
 |r::l=>by
  have ih:=Sr n b l;rw[Ga,Au,CD];have:(Dq n b r).length<=1:=by
   unfold Dq;split
   ·exact CN _
   ·exact Ad _
  lia
def SD(d:Am)(xs:List Am):CK [] (xs++[d])=(D6 (CK [] xs) d).next (CK [] xs):=Rp d xs []
def qO:A0 ["_law_script","_law_most","_law_bound"] ["_law_script","_law_most","_law_bound"] (Ao Pw):=by left
def nO(F:Ai K "_law_room" "_law_room" Pw f fd)(O:Own mg):AW P w K mg base Ag 1 f fd ["_law_script","_law_most","_law_bound"] (aI K):=by
 refine F.ok qO ?_ ?_
 ·rintro _ _ _ _ ⟨_,_,_,_,rfl,_⟩;rfl
 ·rintro _ A _ s H _ Q E hr ⟨a,ns,m,b,rfl,hS,hl,q⟩;refine⟨_,AS (A1 (Aw T5 (BV Io rfl O.len DH (AE (pv 0) AI)) Ac (Ap _)) (AR (Al (pv 2))) BD) (AR (Al (pv 1))),?_⟩;refine⟨_,rfl,a,_,rfl,.inl hS,_,_,rfl,rfl,_,rfl,CJ (by rw[AL];lia) ⟨_,rfl,q⟩⟩
def pK:A0 ["_law_script","_law_k"] ["_law_script","_law_k"] (Ao Qc):=by left
def nQ(F:Ai K "_law_at" "_law_at" Qc f fd)(O:Own mg):AW P w K mg base Ag 1 f fd ["_law_script","_law_k"] (aV K):=by
 refine F.ok pK ?_ ?_
 ·rintro _ _ _ _ ⟨_,_,_,rfl,_⟩;rfl
 ·rintro _ A _ s H _ Q E hr ⟨a,ns,k,rfl,hS,q⟩;refine⟨_,AS (A1 (Aw Jb (pv 1) (BV Io rfl O.len DH (AE (pv 0) AI)) (Ap _)) (AR (Al (Bw YR (pv 0) (pv 1) (fun _ _=>rfl)))) BD) (AR (Al Ac)),?_⟩;refine⟨_,rfl,_,rfl,a,_,rfl,.inl hS,_,_,rfl,rfl,_,rfl,?_⟩;by_cases h:(k:Int)<((ns.map V.int).length:Nat)
  ·refine Bu h ?_;rw[AL] at h;have hk:k<ns.length:=by lia
   refine⟨_,rfl,_,rfl,a,_,_,.int (ns.getD k 0),rfl,rfl,hS,B1 ?_,q⟩;rw[Az,Ar hk,Cu,Ar hk];rfl
  ·refine CJ h ?_;rw[AL] at h;have hk:ns.length<=k:=by lia
   rw[Cu,E6 hk] at q;exact q
def Fq:A0 ["_law_script","_law_asked","_law_nook","_law_before","_law_rows","_law_name","_law_first","_law_second","_law_found","_law_many","_law_others","_law_turn","_law_due","_law_row"] ["_law_script"] (Ao L3):=by left
def mZ{fRo fAt:Ya}{fdRo fdAt:rA}(F:Ai K "law" "law" L3 f fd)(O:Own mg)(hso:mg "sorted" =none)
 (HDe:Hv P w K mg base "_law_deeds" 3 ["_law_cells"] YA)
 (FRo:Ai K "_law_room" "_law_room" Pw fRo fdRo)(bRo:Binds K fdRo ["_law_script","_law_most","_law_bound"] [])(mRo:mg "_law_room" =some (.ref fRo))
 (FAt:Ai K "_law_at" "_law_at" Qc fAt fdAt)(bAt:Binds K fdAt ["_law_script","_law_k"] [])(mAt:mg "_law_at" =some (.ref fAt))
 (HAn:Hv P w K mg base "answers" 9 ["deeds"] WL)
 (HPo:Hv P w K mg base "pointers" 10 ["deeds"] Vr)
 (HTe:Hv P w K mg base "texts" 10 ["deeds"] Xb)
 (HPy:Hv P w K mg base "_law_played" 4 ["_law_asked"] XT)
 (HAl:Hv P w K mg base "_law_alike" 2 ["_law_found","_law_due"] ar)
 (HPt:Hv P w K mg base "_law_pointers" 3 ["_law_nook"] Xv)
 (HTx:Hv P w K mg base "_law_texts" 4 ["_law_nook"] Wo):
 AW P w K mg base Ag 11 f fd ["_law_script"] (T4 K):=by
 have v9:AW P w K mg base Ag 1 fRo fdRo ["_law_script","_law_most","_law_bound"] (aI K):=nO FRo O;have w4:AW P w K mg base Ag 1 fAt fdAt ["_law_script","_law_k"] (aV K):=nQ FAt O;refine F.ok Fq ?_ ?_
 ·rintro _ _ _ _ ⟨_,_,rfl,_⟩;rfl
 ·rintro _ A _ s H _ Q E hr ⟨a,ns,rfl,hS,d0,k⟩;have w9:=CZ hr;refine⟨_,(AS (Ax (i:=1) Fq.nd rfl (Aa rfl) (Bz HDe hr.mn rfl A3 (AE (Ff PY (pv 0) (DV Ac) (DV (An Dk Ac (Cp v9 hr.mn rfl mRo FRo.kp bRo .nil A3 (AE (pv 0) (AE Ac (AE Ac AI))))))) AI))) (AS (Bc (EO Dh Ei Eh EE (pv 1) (AE (CA (AE AZ (AE AZ (AE AZ AI)))) AI))) (AS (Bc (EO Dh Ei Eh EE (pv 1) (AE (CA (AE AZ (AE AZ (AE AZ AI)))) AI))) (AS (Ax (i:=2) Fq.nd rfl (Aa rfl) (Bz HPy hr.mn rfl A3 (AE (pv 1) AI))) (AS (Ax (i:=3) Fq.nd rfl (Aa rfl) (Bz HTx hr.mn rfl A3 (AE (pv 2) AI))) (AS (Ax (i:=4) Fq.nd rfl (Aa rfl) (Bz HPt hr.mn rfl A3 (AE (pv 2) AI))) (AS (Ax (i:=5) Fq.nd rfl (CP rfl) (Bw Nv (Bw Cw (pv 3) (An CG (Cp w4 hr.mn rfl mAt FAt.kp bAt .nil A3 (AE (pv 0) (AE Ac AI))) (BV Fo rfl O.len DH (AE (pv 3) AI))) (fun _ _=>rfl)) Ac (fun _ _=>rfl))) (AS (Ax (i:=6) Fq.nd rfl (Aa rfl) (An Ir (pv 1) (Bt (AE (CA (AE AZ (AE (pv 5) AI))) AI)))) (AS (Ax (i:=7) Fq.nd rfl (Aa rfl) (An Ir (pv 6) (Bt (AE (CA (AE AZ (AE (pv 5) (AE AZ AI)))) AI)))) (AS (Ax (i:=8) Fq.nd rfl (Aa rfl) (Bz HAn hr.mn rfl A3 (AE (ED (Mm (K:=K) rfl) rfl O.lst En (AE (pv 7) AI)) AI))) (AS (A1 (PW.pt (Jh (Gq (D5 (BV Ht rfl O.HV Gs (AE (pv 8) (AE (F8 (v:=.ty "list") rfl O.lst En rfl) AI))))) (JW (Aw Er (BV Fo rfl O.len DH (AE (pv 8) AI)) (BV Fo rfl O.len DH (AE (pv 7) AI)) (Ap _)))))
   (AR (Al GH))
   BD) (AS (Ax (i:=9) Fq.nd rfl (Aa rfl) (BV Fo rfl O.len DH (AE (EF (ts:=["_law_row"]) (cap:=["_law_name"]) (ix:=[5]) (Hg rfl rfl (by left) (by left) rfl rfl rfl rfl rfl) (Ez (pv 4)) (fun _ _ _ _ _=>BY (i:=0) (FV (by left)) rfl (Aa rfl) (CP rfl)) (fun _ _ _ _ _=>(KR (Aw BQ (A8 (pv 0)) (pv 1) (Ap _)))) (fun _ _ _ _ _=>(pv 0))) AI))) (AS (A1 (Gq (D5 (Bz HAl hr.mn rfl A3 (AE (Ff UI (pv 8) (DV (BV Fo rfl O.len DH (AE (pv 1) AI))) KU) (AE (Bt (AE (pv 9) (AE Ac AI))) AI)))))
   (AR (Al GH))
   BD) (AS (YH (i:=10) (ts:=["_law_row"]) (cap:=["_law_name"]) (ix:=[5]) (Hg rfl rfl (by left) (by left) rfl rfl rfl rfl rfl) Fq.nd rfl rfl (Ez (pv 3)) (fun _ _ _ _ _=>BY (i:=0) (FV (by left)) rfl (Aa rfl) (CP rfl)) (fun _ _ _ _ _=>(KR (Aw Er (A8 (pv 0)) (pv 1) (Ap _)))) (fun _ _ _ _ _=>(pv 0))) (AS (A1 (Gq (D5 (Bz HAl hr.mn rfl A3 (AE (Bz HTe hr.mn rfl A3 (AE (ED (Mm (K:=K) rfl) rfl O.lst En (AE (pv 6) AI)) AI)) (AE (pv 10) AI)))))
   (AR (Al GH))
   BD) (AS (A1 (Gq (D5 (Bz HAl hr.mn rfl A3 (AE (Bz HTe hr.mn rfl A3 (AE (ED (Mm (K:=K) rfl) rfl O.lst En (AE (pv 7) AI)) AI)) (AE (BV Rn rfl hso JN (AE (An Ir (pv 10) (Bt (AE (CA (AE (pv 5) (AE AZ AI))) AI))) AI)) AI)))))
   (AR (Al GH))
   BD) (AS (DW DR rfl (O2 rfl O.Jp (AE Ac AI)) (BY (i:=11) Fq.nd rfl (Aa rfl))
   (AS (Ax (i:=12) Fq.nd rfl (Aa rfl) (Bt AI)) (AS (DW DR rfl (Ez (pv 4)) (BY (i:=13) Fq.nd rfl (Aa rfl))
   (AR (A1 (PW.pt (FH (Aw Er (A8 (pv 13)) (pv 5) (Ap _)) (Gm (Aw BQ (A8 (pv 13)) (pv 5) (Ap _)))))
   (AR (Bc (EO Dh Ei Eh EE (pv 12) (AE (CA (AE (A8 (pv 13)) (AE (pv 5) (AE (Hj BQ (pv 11) Ac (Ap _)) AI)))) AI))))
   (AR (A1 (Aw Er (A8 (pv 13)) (pv 5) (Ap _))
   (AR (Bc (EO Dh Ei Eh EE (pv 12) (AE (pv 13) AI))))
   BD))))) (AR (A1 (Gq (D5 (Bz HAl hr.mn rfl A3 (AE (Bz HPo hr.mn rfl A3 (AE (Bw Cw (Bt (AE (ED (Mm (K:=K) rfl) rfl O.lst En (AE (pv 6) AI)) (AE (ED (Mm (K:=K) rfl) rfl O.lst En (AE (pv 7) AI)) AI))) (pv 11) (fun _ _=>rfl)) AI)) (AE (pv 12) AI)))))
   (AR (Al GH))
   BD))))) (AR (Al GH))))))))))))))))))),?_⟩;obtain⟨ms,em,x2⟩:=jj ns 32;refine⟨_,rfl,_,rfl,_,rfl,a,ns,32,100,rfl,hS,d0,_,_,rfl,rfl,_,rfl,a,_,rfl,hS,fun p hp=>?_⟩;refine⟨p,ms,rfl,AK.of (by rw[AM];exact BL (fun z=>some (HO.lst z)) em),by lia,fun L e5 t4 H1 s1 q9 t3 a9 x3 h9=>?_⟩;have d2:AK K (upd H p (.lst (DY (ns.map V.int) (some 1) (some (1+32))))) a (ns.map V.int):=(AY hp).seq hS;generalize upd H p (.lst (DY (ns.map V.int) (some 1) (some (1+32))))=x4 at s1 q9 d2;have w5:t4.length=e5.length:=by have:=a9.1;rw[AL] at this;lia
  have w8:("b" :Str).length<=40:=by left
  refine⟨_,rfl,.inl ⟨rfl,_,AK.of t3⟩,by exact zv,fun t1 l5=>⟨L,t4,_,rfl,rfl,(AY l5) _ _ t3,by rw[A9];lia,?_⟩⟩;obtain⟨H2,e,t0,k1,s2⟩:=Xn (.write "b" "[cat] [b] [a]") t3 a9 l5 rfl fun _=>Um;rw[e];have s2:=s2 _ s1 q9;refine⟨_,rfl,.inl ⟨rfl,_,AK.of t0⟩,by exact zv,fun t2 l4=>⟨L,_,_,rfl,rfl,(AY l4) _ _ t0,by rw[A9,Au,Cf];lia,?_⟩⟩;obtain⟨H3,e,hL,rs,s3⟩:=Xn (.write "a" "[b] ash") t0 k1 l4 rfl fun _=>Um;rw[e];have s3:=s3 _ s2 q9;have h6:∀d∈e5++[Am.write "b" "[cat] [b] [a]"]++[Am.write "a" "[b] ash"],d.Good:=fun d hd=>by
   rcases Bp.mp hd with e|e
   ·rcases Bp.mp e with e|e
    ·exact h9 d e
    ·rw[Bk.mp e];exact⟨by left,by left⟩
   ·rw[Bk.mp e];exact⟨by left,by left⟩
  have d1:(e5++[Am.write "b" "[cat] [b] [a]"]++[Am.write "a" "[b] ash"]).length<=34:=by rw[Au,Au,Cf,Cf];lia
  have m0:CK [] (e5++[Am.write "b" "[cat] [b] [a]"]++[Am.write "a" "[b] ash"])≠[]:=fun z=>by rw[SD] at z;have z2:AV (CK [] (e5++[Am.write "b" "[cat] [b] [a]"])) "a" (DM "[b] ash")=[]:=z;have:=Co (k:=("a" :Str)) (j:="a") (v:=DM "[b] ash") (CK [] (e5++[Am.write "b" "[cat] [b] [a]"]));rw[z2,AH rfl] at this;cases this
  generalize e5++[Am.write "b" "[cat] [b] [a]"]++[Am.write "a" "[b] ash"]=ds at rs h6 d1 m0;generalize t4++[V.ref t1]++[V.ref t2]=xs at hL rs;have q4:Ab H3 (ds.map Am.dt) xs:=rs.same Ex.sub;have xl:xs.length=ds.length:=by have:=q4.1;rw[AL] at this;lia
  clear a9 k1 rs t3 t0 h9;refine⟨_,rfl,_,ds,rfl,Rep.FY hL q4,h6,by lia,fun an H4 nk=>?_⟩;obtain⟨bd,ev⟩:=SX ds Fz bL h6;have e8:vw (Es Fz ds)=CK [] ds:=ev;have sz:=Pl ds 0 [] To h6;have a3:=sz;rw[<-e8] at a3;obtain⟨d7,nl,tl⟩:=fits_of bd a3 (by lia);have s4:AO H3 H4:=let⟨_,_,_,nk⟩:=nk;nk.same;have x0:=sz.BE;have nd:=sz.nd;have kn:KN (CK [] ds):=Y2 ds fun k hk=>by cases hk
  have pl:=sz.len;have k7:∀k∈keys (CK [] ds),k.length<=40:=fun k hk=>by rw[<-e8] at hk;have hk:k∈(vw (Es Fz ds)).map (·.1):=hk;rw[D4] at hk;obtain⟨p,hp,rfl⟩:=BZ.mp hk;exact bd.nm p hp
  refine⟨_,rfl,an,H3,Es Fz ds,rfl,nk,d7,bd,by lia,by rw[e8];lia,fun u H5 s5 ru=>?_⟩;rw[e8] at ru;refine⟨_,rfl,an,H3,Es Fz ds,rfl,nk.ext s5,d7,bd,by lia,fun u2 H6 s6 a8=>?_⟩;rw[iZ bd,e8] at a8;have t6:AO H3 H6:=s4.trans (s5.trans s6);have d9:=ru.same s6;have m9:=(s3.trans t6).seq d2;have d3:=t6 _ _ hL;have k0:=q4.same t6;generalize n5:CK [] ds=h0 at*;clear q4 ru nk s4 s5 s6 hL a3 d7 bd ev e8 nl tl s1 s2 s3 d2 q9;obtain⟨lb,bs,rfl,q8,rb⟩:=EG d9;obtain⟨lr,a5,rfl,m1,rr⟩:=EG a8;have x1:0<h0.length:=by
   cases h0 with
   |nil=>exact absurd rfl m0
   |cons _ _=>exact Nat.succ_pos _
  have n7:(De h0).length=h0.length:=by unfold De keys;rw[AL,(Gh DB _).length_eq,AL]
  have bl:bs.length=h0.length:=by have:=rb.1;rw[AL] at this;lia
  obtain⟨v,hv,ev⟩:=GB bs bs.length rfl (by lia) (ns.getD 0 0);obtain⟨iv,m2⟩:=Qr hv;obtain⟨x,hx,rx⟩:=F9 rb m2;obtain⟨tx,w6,rfl,k9,n8⟩:=Bv rx;obtain⟨u1,u3,rfl,r1,r2⟩:=Gv n8;cases r1;cases r2;have b7:x.1∈keys h0:=by obtain⟨m,hm,e⟩:=BZ.mp (Br hx);rw[<-e];exact(Gh DB (keys h0)).mem_iff.mp hm
  obtain⟨w0,e7⟩:=LZ b7;have c2:=Tz kn e7;have b6:=k7 _ b7;refine⟨_,rfl,_,rfl,a,ns,0,rfl,m9,_,rfl,lb,_,rfl,.inl (AK.of q8),_,_,rfl,rfl,(by show(0:Int)<(bs.length:Nat);lia),lb,_,_,.ref tx,rfl,rfl,AK.of q8,ev,tx,_,0,.str x.1,rfl,rfl,AU.of k9,rfl,?_⟩;generalize x.1=nm at b7 e7 c2 b6;clear k9 rx hx ev hv m2 k7;refine⟨_,rfl,_,rfl,by exact zw,fun a1 m8=>⟨by exact zx,fun b1 m6=>⟨L,b1,_,_,rfl,rfl,(AY m6) _ _ ((AY m8) _ _ d3),AM,by rw[A9];show xs.length+1<=_;lia,fun f1 u7=>?_⟩⟩⟩;obtain⟨H7,e,sF,hF,rF⟩:=XX (.drop nm) k0 m8 m6 u7 rfl fun _=>bz;rw[e];refine⟨_,rfl,_,rfl,by exact zv,fun a2 m7=>⟨by exact zx,fun b2 m5=>⟨f1,b2,_,_,rfl,rfl,(AY m5) _ _ ((AY m7) _ _ hF),AM,by rw[A9,Au];show xs.length+1+1<=_;lia,fun f2 u6=>?_⟩⟩⟩;obtain⟨H8,e,sG,hG,rG⟩:=XX (.write nm "oak  elm") rF m7 m5 u6 rfl fun _=>Um;rw[e];have h4:∀d∈ds++[Am.drop nm],d.Good:=fun d hd=>by
   rcases Bp.mp hd with e|e
   ·exact h6 d e
   ·rw[Bk.mp e];exact b6
  have h3:∀d∈ds++[Am.drop nm]++[Am.write nm "oak  elm"],d.Good:=fun d hd=>by
   rcases Bp.mp hd with e|e
   ·exact h4 d e
   ·rw[Bk.mp e];exact⟨b6,by left⟩
  have l1:(ds++[Am.drop nm]).length=ds.length+1:=by rw[Au,Cf]
  have l2:(ds++[Am.drop nm]++[Am.write nm "oak  elm"]).length=ds.length+2:=by rw[Au,l1,Cf]
  have l3:(xs++[V.ref a1]++[V.ref a2]).length=xs.length+2:=by rw[Au,Au,Cf,Cf]
  have p1:CK [] (ds++[Am.drop nm])=AN h0 nm:=by rw[SD,n5];show((FG h0 nm).next h0)=_;unfold FG;rw[e7];rfl
  have p2:CK [] (ds++[Am.drop nm]++[Am.write nm "oak  elm"])=AV (AN h0 nm) nm (DM "oak  elm"):=by rw[SD,p1];show((FE (AN h0 nm) nm "oak  elm").next _)=_;unfold FE;rw[AH c2];rfl
  have v8:(D6 (CK [] ds) (.drop nm)).J0=some (.int (cnt h0 nm)):=by rw[n5];show((FG h0 nm).J0)=_;unfold FG;rw[e7];rfl
  have v7:(D6 (CK [] (ds++[Am.drop nm])) (.write nm "oak  elm")).J0=some (.int 2):=by rw[p1];show((FE (AN h0 nm) nm "oak  elm").J0)=_;unfold FE;rw[AH c2];exact BL (fun k:Nat=>some (Dt.int (k:Int))) (by left:(DM "oak  elm").length=2)
  refine⟨_,rfl,f2,_,rfl,.inl (AK.of hG),fun c1 v0=>?_⟩;have s9:=AY (o:=.lst (xs++[.ref a1]++[.ref a2])) v0;have b0:Rep (upd H8 c1 (.lst (xs++[.ref a1]++[.ref a2]))) (.lst ((ds++[Am.drop nm]++[Am.write nm "oak  elm"]).map Am.dt)) (.ref c1):=Rep.FY AM (rG.same s9);generalize upd H8 c1 (.lst (xs++[.ref a1]++[.ref a2]))=H9 at s9 b0;refine⟨_,_,rfl,b0,h3,by lia,M0 h3 (by lia),fun HA lf zs sA q7 zl e9=>?_⟩;have t8:AO H8 HA:=s9.trans sA;have t7:AO H7 HA:=sG.trans t8;have e6:AO H6 HA:=sF.trans t7;have n0:=e6 _ _ d3;have r8:=e6 _ _ q8;have h7:=e6 _ _ m1;have k3:=rb.same e6;have q5:=rr.same e6;have n2:=t7 _ _ hF;have d5:=t8 _ _ hG;have k6:=rF.same t7;have k5:=rG.same t8;clear rb rr q8 m1 hF hG rF rG b0 s9 sA sF sG t8 t7 e6 d3 k0 d9 a8 m9 t6;refine⟨_,rfl,.ref lf,"list",.type "list",true,rfl,(fun _=>Bh.lst q7),(fun _=>IK _),_,rfl,BF ?_⟩;refine⟨_,rfl,lf,_,rfl,.inl (AK.of q7),_,rfl,f2,_,rfl,.inl (AK.of d5),rfl,_,rfl,?_⟩;have en:((zs.length:Nat):Int)=((xs++[V.ref a1]++[V.ref a2]).length:Nat):=by rw[zl,l2,l3,xl]
  rw[BW (BL V.int en)];refine BF ?_;have d8:a5.length=(Cj h0).length:=by have:=q5.1;rw[AL] at this;lia
  have w7:=dI nd;refine⟨_,rfl,lr,rfl,⟨_,AK.of h7⟩,fun D1 v6=>FA (K:=[]) (xs:=a5) (fun i H'=>CI HA D1 ((((Cj h0).take i).filter fun r=>decide (r.2.1=nm)).map CV) H') (CI.start v6) (fun i H' _ c=>AK.of (c.same _ _ h7)) (fun i y H' ey c=>?_) fun HB c=>?_⟩
  ·obtain⟨r,er,h8⟩:=F9 q5 ey;obtain⟨tp,rfl,r0⟩:=Tj h8;rw[take_succ_filter er];refine⟨E1,_,rfl,tp,_,1,.str r.2.1,rfl,rfl,AU.of (c.same _ _ r0),rfl,_,rfl,rfl,_,rfl,?_⟩;by_cases e:r.2.1=nm
   ·rw[AH (BW e),BG];refine Bu (BL V.str e) ⟨_,rfl,NL c (d:=CV r) (h8.same (Ex.of_none c.same c.fr)) ?_⟩;rw[AL];have h1:=EA (fun r:Tr=>decide (r.2.1=nm)) ((Cj h0).take i);have h2:=EV i (Cj h0)
    lia
   ·rw[AG (by simpa using e),CF];exact CJ (fun z=>e (V.str.inj z)) c
  rw[d8,CL] at c;obtain⟨ys,hy,ry⟩:=c.lst;have q0:((ys.length:Nat):Int)=cnt h0 nm:=by
   rw[<-jB nd];have:=ry.1;rw[AL] at this
   lia
  have sB:=c.same;refine⟨D1,ys,rfl,.inl (AK.of hy),?_⟩;rw[q0];refine⟨_,rfl,_,rfl,L,_,rfl,.inl (AK.of (sB _ _ n0)),_,rfl,lf,_,rfl,AK.of (sB _ _ q7),fun sl l7=>⟨_,rfl,by exact zw,fun ml r4=>?_⟩⟩;have sS:=AY (o:=.lst (DY zs (some (xs.length:Int)) none)) l7;have sM:=AY (o:=.lst [V.int (cnt h0 nm),V.int 2]) r4;have rz:=(i4 e9 zl v8 v7).same (sB.trans (sS.trans sM));refine⟨_,_,_,rfl,Rep.FY (sM _ _ (by rw[AM,iP _ _ (by lia),xl])) rz,Rep.FY AM (Ab.snoc (Ab.snoc Ab.nil (.int _)) (.int _)),by show 1+(1+(1+0))<=1000000;decide,fun HC sC=>⟨_,rfl,BF ?_⟩⟩;have tC:AO HA HC:=sB.trans (sS.trans (sM.trans sC));have r7:=tC _ _ r8;have c8:=tC _ _ h7;have p4:=k3.same tC;have p3:=q5.same tC;have v4:=tC _ _ n2;have v2:=tC _ _ d5;have p8:=k6.same tC;have p6:=k5.same tC;clear r8 h7 k3 q5 n2 d5 k6 k5 tC sC rz sM sS sB c hy ry e9 n0 q7 l7 r4;refine⟨_,rfl,lb,rfl,⟨_,AK.of r7⟩,fun D2 v5=>FA (K:=[]) (xs:=bs) (fun i H'=>CI HC D2 ((((De h0).take i).filter fun t=>decide (t.1≠nm)).map D9) H') (CI.start v5) (fun i H' _ c=>AK.of (c.same _ _ r7)) (fun i y H' ey c=>?_) fun HD c=>?_⟩
  ·obtain⟨r,er,h8⟩:=F9 p4 ey;obtain⟨tp,rfl,r0⟩:=Y4 h8;rw[take_succ_filter er];refine⟨E1,_,rfl,tp,_,0,.str r.1,rfl,rfl,AU.of (c.same _ _ r0),rfl,_,rfl,rfl,_,rfl,?_⟩;by_cases e:r.1=nm
   ·rw[AG (by simpa using e),CF];exact D7 (BL V.str e) c
   ·rw[AH (BW e),BG];refine Fp (fun z=>e (V.str.inj z)) ⟨_,rfl,NL c (d:=D9 r) (h8.same (Ex.of_none c.same c.fr)) ?_⟩;rw[AL];have h1:=EA (fun t:Tx=>decide (t.1≠nm)) ((De h0).take i);have h2:=EV i (De h0)
    lia
  rw[bl,<-n7,CL] at c;have rO:=c.done;obtain⟨os,l9,s8⟩:=c.lst;have s8:=s8.same Ex.sub;have sD:=c.same;clear c;have d6:=sD _ _ v4;have d4:=sD _ _ v2;have r6:=sD _ _ c8;have k2:=p3.same sD;have b4:=p8.same sD;have b3:=p6.same sD;have fl:=EA (fun t:Tx=>decide (t.1≠nm)) (De h0);have u0:(Dt.lst (((De h0).filter fun t=>decide (t.1≠nm)).map D9)).sz<=1000000:=by
   show 1+Dt.Cb _<=_;rw[TX]
   lia
  refine⟨_,rfl,f1,_,rfl,.inl (AK.of d6),fun c3 u9=>?_⟩;have q3:=AY (o:=.lst (xs++[.ref a1])) u9;refine⟨_,_,rfl,Rep.FY AM (b4.same q3),h4,by lia,M0 h4 (by lia),fun HE ue sE a7=>?_⟩;rw[p1,Wn] at a7;refine⟨_,rfl,_,_,_,rfl,a7,rO.same (q3.trans sE),u0,fun HF sF=>⟨_,rfl,BF ?_⟩⟩;have tF:AO HD HF:=q3.trans (sE.trans sF);have n1:=tF _ _ d4;have k4:=b3.same tF;have r3:=tF _ _ l9;have s7:=s8.same tF;refine⟨_,rfl,f2,_,rfl,.inl (AK.of n1),fun c4 u8=>?_⟩;have a4:=AY (o:=.lst (xs++[.ref a1]++[.ref a2])) u8;refine⟨_,_,rfl,Rep.FY AM (k4.same a4),h3,by lia,M0 h3 (by lia),fun HG ug sG a6=>?_⟩;rw[p2] at a6;have tG:AO HF HG:=a4.trans sG;refine⟨_,rfl,_,rfl,by exact zw,fun tq b8=>⟨by exact zx,fun lq c9=>⟨D2,lq,os,_,rfl,rfl,(AY c9) _ _ ((AY b8) _ _ (tG _ _ r3)),AM,?_,fun cq m3=>?_⟩⟩⟩
  ·have:=s8.1;rw[AL] at this;rw[A9];show os.length+1<=_
   lia
  have sT:=AY (o:=.tup [.str nm,.str "oak elm"]) b8;have sL:=AY (o:=.lst [V.ref tq]) c9;have sQ:=AY (o:=.lst (os++[V.ref tq])) m3;have rQ:Ab (upd (upd (upd HG tq (.tup [.str nm,.str "oak elm"])) lq (.lst [V.ref tq])) cq (.lst (os++[V.ref tq]))) ((((De h0).filter fun t=>decide (t.1≠nm))++[(nm,("oak elm" :Str))]).map D9) (os++[V.ref tq]):=by rw[BG];exact(s7.same (tG.trans (sT.trans (sL.trans sQ)))).snoc (Ph ((sL.trans sQ) _ _ AM))
  obtain⟨ps,e1,e2,e3⟩:=Zd _ _ rQ;have e4:(upd (upd (upd HG tq (.tup [.str nm,.str "oak elm"])) lq (.lst [V.ref tq])) cq (.lst (os++[V.ref tq]))) cq=some (.lst (ps.map fun p=>V.ref p.1)):=by rw[AM,e1]
  have tQ:AO HG (upd (upd (upd HG tq (.tup [.str nm,.str "oak elm"])) lq (.lst [V.ref tq])) cq (.lst (os++[V.ref tq]))):=sT.trans (sL.trans sQ);generalize upd (upd (upd HG tq (.tup [.str nm,.str "oak elm"])) lq (.lst [V.ref tq])) cq (.lst (os++[V.ref tq]))=HQ at rQ e3 e4 tQ;have p9:=BL List.length e2;rw[AL,AL,Au,Cf] at p9;refine⟨cq,ps,[kd (.inr ""),kd (.inr "")],rfl,AK.of e4,(by intro z;cases z),e3,by lia,fun DS qs n3 c0 l6=>?_⟩;have FV:((AV (AN h0 nm) nm (DM "oak  elm")).map (·.1)).Nodup:=EZ (DI nd);have pm:=gM nd e7 (DM "oak  elm");rw[show Gu (DM "oak  elm")="oak elm" by left] at pm;have n4:qs.map (·.2)=(De (AV (AN h0 nm) nm (DM "oak  elm"))).map Kf:=Rj lexOrd _ _ ((c0.map _).trans ((List.Perm.of_eq e2).trans (pm.map Kf).symm)) (RB.mpr l6) (kj FV);have sS:=AY (o:=.lst (qs.map fun p=>V.ref p.1)) n3;refine⟨_,_,_,rfl,a6.same (tQ.trans sS),Rep.FY AM (aD _ _ n4 fun p hp=>sS _ _ (e3 p (c0.mem_iff.mp hp)).1),?_,fun HI sI=>⟨_,rfl,BF ?_⟩⟩
  ·show 1+Dt.Cb _<=_;have:=pm.length_eq;rw[Au,Cf] at this;rw[TX]
   lia
  have tI:AO HD HI:=tF.trans (tG.trans (tQ.trans (sS.trans sI)));have v3:=tI _ _ d6;have v1:=tI _ _ d4;have c6:=tI _ _ r6;have p0:=k2.same tI;have p7:=b4.same tI;have p5:=b3.same tI;clear d6 d4 r6 k2 b4 b3 tI sI sS n4 pm e1 e2 e3 rQ tQ e4 sT sL sQ c0 l6 a6 tG r3 s7 tF rO s8 l9 a7 n1 k4 q3 a4 sE sF n3 b8 c9 m3;refine⟨2,rfl,by decide,by decide,Mz (lo:=0) (n:=(2:Int).toNat) (fun i σ H'=>∃t9 t5 e0:Option V,σ=[some (.ref a),some (.ref L),some (.ref an),some (.ref lb),some (.ref lr),some (.str nm),some (.ref f1),some (.ref f2),some (.ref lf),some (.int (cnt h0 nm)),some (.ref D2),t9,t5,e0]/\AO HI H') ⟨_,_,_,rfl,AO.refl _⟩ ?_ ?_⟩
  ·rintro i σ Hb hi ⟨t9,t5,e0,rfl,sb⟩;have EM:i=0\/i=1:=by
    have:(2:Int).toNat=2:=rfl
    lia
   have r5:=sb _ _ c6;have n9:=p0.same sb;refine⟨by exact zy,fun dl r9=>?_⟩;refine⟨_,rfl,lr,rfl,⟨_,AK.of ((AY r9) _ _ r5)⟩,He (K:=[]) (a:=lr) (xs:=a5) (fun j σ H'=>∃e0:Option V,σ=[some (.ref a),some (.ref L),some (.ref an),some (.ref lb),some (.ref lr),some (.str nm),some (.ref f1),some (.ref f2),some (.ref lf),some (.int (cnt h0 nm)),some (.ref D2),some (.int (0+(i:Int))),some (.ref dl),e0]/\CI Hb dl ((((Cj h0).take j).flatMap (Dq nm (decide (V.int (0+(i:Int))=V.int 1)))).map CV) H')
    ⟨_,rfl,CI.start r9⟩ (fun j σ H' _ ⟨_,_,c⟩=>AK.of (c.same _ _ r5)) ?_ ?_⟩
   ·rintro j y σ H' ey ⟨e0,rfl,c⟩;obtain⟨r,er,h8⟩:=F9 n9 ey;obtain⟨tp,rfl,r0⟩:=Tj h8;have h5:=c.same _ _ r0;obtain⟨bt,m4⟩:∃bt,decide (V.int (0+(i:Int))=V.int 1)=bt:=⟨_,rfl⟩;rw[m4] at c⊢;have ef:((Cj h0).take (j+1)).flatMap (Dq nm bt)=((Cj h0).take j).flatMap (Dq nm bt)++Dq nm bt r:=by rw[Di,er,OO];show _++(Dq nm bt r++[])=_;rw[CF]
    have cl:((((Cj h0).take j).flatMap (Dq nm bt)).map CV).length<10000000:=by
     have h1:=Sr nm bt ((Cj h0).take j);have h2:=EV j (Cj h0);rw[AL]
     lia
    refine⟨_,rfl,tp,_,0,.str r.1,rfl,rfl,AU.of h5,rfl,_,rfl,rfl,_,rfl,?_⟩;obtain⟨z0,k8,_⟩:=c.lst;by_cases e:r.1=nm
    ·refine D7 (BL V.str e) (BF ⟨_,rfl,tp,_,0,.str r.1,rfl,rfl,AU.of h5,rfl,_,rfl,rfl,_,rfl,D7 (BL V.str e) ⟨_,rfl,?_⟩⟩);rw[ef];unfold Dq;rw[AH e,CF];exact c
    ·refine Fp (fun z=>e (V.str.inj z)) ⟨_,rfl,tp,_,1,.str r.2.1,rfl,rfl,AU.of h5,rfl,_,rfl,rfl,_,rfl,?_⟩;by_cases z:r.2.1=nm
     ·have ed:Dq nm bt r=[(r.1,nm,bt)]:=by unfold Dq;rw[AG e,AH z]
      rw[ef,ed,BG];refine Bu (BL V.str z) ⟨_,rfl,.inl ⟨rfl,_,AK.of k8⟩,_,rfl,tp,_,0,.str r.1,rfl,rfl,AU.of h5,rfl,_,rfl,_,rfl,rfl,by exact zv,fun tn l0=>?_⟩;rw[m4];have nt:tn≠dl:=(A2 k8 l0).symm;obtain⟨z6,q6,c5,c7⟩:=NL (c.ext (AY l0)) (d:=CV (r.1,nm,bt)) (y:=.ref tn) (Pm (Ex.at AM nt)) cl;exact⟨dl,z6,_,rfl,rfl,q6,c5,_,rfl,c7⟩
     ·have ed:Dq nm bt r=[r]:=by unfold Dq;rw[AG e,AG z]
      rw[ef,ed,BG];obtain⟨z6,q6,c5,c7⟩:=NL c (d:=CV r) (y:=.ref tp) (h8.same (Ex.of_none c.same c.fr)) cl;exact CJ (fun q=>z (V.str.inj q)) ⟨_,rfl,tp,_,0,.str r.1,rfl,rfl,AU.of h5,rfl,_,rfl,rfl,_,rfl,Fp (fun q=>e (V.str.inj q)) ⟨_,rfl,.inl ⟨rfl,_,AK.of q6⟩,_,rfl,dl,z6,_,rfl,rfl,q6,c5,_,rfl,c7⟩⟩
   ·rintro σ H' ⟨e0,rfl,c⟩;rw[d8,CL] at c;have tH:=sb.trans c.same;have rD:=c.done;have n6:(Dt.lst (((Cj h0).flatMap (Dq nm (decide (V.int (0+(i:Int))=V.int 1)))).map CV)).sz<=1000000:=by
     show 1+Dt.Cb _<=_;rw[Ys];have:=Sr nm (decide (V.int (0+(i:Int))=V.int 1)) (Cj h0)
     lia
    refine⟨_,rfl,f1,_,rfl,.inl (AK.of (tH _ _ v3)),fun q1 l8=>⟨_,rfl,f2,_,rfl,.inl (AK.of ((AY l8) _ _ (tH _ _ v1))),fun q2 u5=>⟨by exact zw,fun ql u4=>?_⟩⟩⟩;have w1:=AY (o:=.lst (xs++[.ref a1])) l8;have w2:=AY (o:=.lst (xs++[.ref a1]++[.ref a2])) u5;have w3:=AY (o:=.lst [V.ref q1,V.ref q2]) u4;have r1:=Rep.FY ((w2.trans w3) _ _ AM) (p7.same (tH.trans (w1.trans (w2.trans w3))));have r2:=Rep.FY (w3 _ _ AM) (p5.same (tH.trans (w1.trans (w2.trans w3))));have b5:=rD.same (w1.trans (w2.trans w3));have b9:(upd (upd (upd H' q1 (.lst (xs++[.ref a1]))) q2 (.lst (xs++[.ref a1]++[.ref a2]))) ql (.lst [V.ref q1,V.ref q2])) ql=some (.lst [V.ref q1,V.ref q2]):=AM;have a0:=tH.trans (w1.trans (w2.trans w3));generalize upd (upd (upd H' q1 (.lst (xs++[.ref a1]))) q2 (.lst (xs++[.ref a1]++[.ref a2]))) ql (.lst [V.ref q1,V.ref q2])=HJ at r1 r2 b5 b9 a0;rcases EM with rfl|rfl
    ·refine⟨_,rfl,ql,_,_,.ref q1,rfl,rfl,AK.of b9,rfl,_,_,rfl,r1,h4,by lia,M0 h4 (by lia),fun HK uk sK s0=>?_⟩;rw[p1,gS] at s0;exact⟨_,rfl,_,_,_,rfl,s0,b5.same sK,n6,fun HM sM=>⟨_,rfl,BF ⟨_,_,_,rfl,a0.trans (sK.trans sM)⟩⟩⟩
    ·refine⟨_,rfl,ql,_,_,.ref q2,rfl,rfl,AK.of b9,rfl,_,_,rfl,r2,h3,by lia,M0 h3 (by lia),fun HK uk sK s0=>?_⟩;rw[p2,fM nd e7 (by left)] at s0;exact⟨_,rfl,_,_,_,rfl,s0,b5.same sK,n6,fun HM sM=>⟨_,rfl,BF ⟨_,_,_,rfl,a0.trans (sK.trans sM)⟩⟩⟩
  ·rintro σ H' ⟨t9,t5,e0,rfl,sb⟩;exact k H'
section
variable{N R:Ya}{nm q:Str}{bs:List AA}{hd ab:Bool}{sn:List Str}{sub:List AA}{col:Option Bool}{k0 k1 k2 k3 k5:Option AA}
def Nh:Iu [.type "Exception",.type "BaseException",.type "object"]:=⟨by left,by left,by left,by left⟩
def nA:Iu [.ref R,.type "Exception",.type "BaseException",.type "object"]:=⟨IP Nh.exc rfl,IP Nh.base rfl,IP Nh.Jq rfl,IP Nh.ba rfl⟩
def kc(x:K.lookup R=some (sZ nm q R N bs bm hd sn sub ab col dd k0 k1 k2 k3 k5 "Exception.__new__"))(y:bm=[.type "Exception",.type "BaseException",.type "object"]):UJ K R:=
 ⟨bm,N,fun _ X=>⟨_,_,_,_,_,_,_,_,_,_,_,_,_,_,X _ _ x⟩,by rw[y];exact Nh⟩
def X2(x:K.lookup C=some (sZ nm q C N bs bm hd sn sub ab col dd k0 k1 k2 k3 k5 "Exception.__new__"))(y:bm=[.ref R,.type "Exception",.type "BaseException",.type "object"])
 (e1:sW K C=true)(e2:rJ K (.ref C) "answer" =some none)(e3:rJ K (.ref C) "__setattr__" =some (some (.builtin "object.__setattr__")))(e4:rJ K (.ref C) "__getattribute__" =some (some (.builtin "BaseException.__getattribute__")))(e5:rJ K (.ref C) "__getattr__" =some none):Dl K C "answer" :=by
 refine⟨e1,e2,e3,e4,e5,?_⟩;unfold clsIn;rw[x];subst y;refine⟨_,[.ref C,.ref R],rfl,rfl,fun c hc=>?_⟩;rcases Bn.mp hc with e|e
 ·exact⟨_,e⟩
 ·exact⟨_,Bk.mp e⟩
def o5(m:mg x=some (.ref C))(xl:K.lookup C=some (sZ nm q C N bs bm hd sn sub ab col dd k0 k1 k2 k3 k5 "Exception.__new__"))(y:bm=[.ref R,.type "Exception",.type "BaseException",.type "object"])
 (ei:rJ K (.ref C) "__init__" =some (some (.ref f)))(en:isFn K (.ref f)=true)(ek:rZ K (.ref C)=true)(xa:Dl K C "answer")
 (F:AW P w K mg base Ag 2 f fd ["self"] (GG C "answer" msg))(b:Binds K fd ["self"] []):Rz P w K mg base R x msg:=by
 subst y;exact⟨C,f,fd,_,m,⟨⟨N,fun _ X=>⟨_,_,_,_,_,_,_,_,_,_,_,_,_,_,X _ _ xl⟩⟩,ei,nA,en,ek⟩,F,b,⟨_,N,fun _ X=>⟨_,_,_,_,_,_,_,_,_,_,_,_,_,_,X _ _ xl⟩,by rw[Q3,Q3,JI,Bool.true_or,Bool.or_true]⟩,xa⟩
end
def Nx(K:uT):List (Str×qu)->Prop
 |[]=>True
 |(x,st)::r=>(∃f fd,uU K hY x=some (some (.ref f))/\Ai K x x st f fd)/\Nx K r
def ah(K:uT)(mg:Str->Option AA):List (Str×qu)->Prop
 |[]=>True
 |(x,st)::r=>(∃f fd,mg x=some (.ref f)/\Ai K x x st f fd)/\ah K mg r
def UW(K:uT)(C:Ya):List (Str×Str×qu)->Prop
 |[]=>True
 |(x,q,st)::r=>(∃f fd,Meth K C x f/\Ai K x q st f fd)/\UW K C r
def Ud(K:uT)(R:Ya):List (Str×Str×qu)->Prop
 |[]=>True
 |(x,q,st)::r=>(∃C f fd,uU K hY x=some (some (.ref C))/\Dl K C "answer" /\Ai K "__init__" q st f fd/\
  ∀(P:qy)(w:rH)(mg:Str->Option AA)(h0:rE)(h1:Str),mg x=some (.ref C)->AW P w K mg h0 Ag 2 f fd ["self"] (GG C "answer" h1)->Binds K fd ["self"] []->Rz P w K mg h0 R x h1)/\Ud K R r
def QA(K:uT):List Str->Prop
 |[]=>True
 |x::r=>uU K hY x=some none/\QA K r
section
variable{st:qu}{R N:Ya}{oc kV doc pm cdv ct:AA}{an:Option Ya}
def Sx(X:K.In h)(G:h.Ns hY mg):∀{L:List (Str×qu)},Nx K L->ah K mg L
 |[],_=>Cy
 |_::_,⟨⟨f,fd,a,F⟩,t⟩=>⟨⟨f,fd,Il X G a,F⟩,Sx X G t⟩
def Xy(X:K.In h)(G:h.Ns hY mg):∀{L:List Str},QA K L->∀x∈L,mg x=none
 |_::_,⟨a,_⟩,_,.head _=>mg_none_of X G a
 |_::_,⟨_,t⟩,_,.tail _ e=>Xy X G t _ e
local macro_rules| `(tactic|trivial)=> `(tactic|(
 intro _ _ _ _ _ _;first
  |exact all1 (fun _=>rfl)
  |exact all2 (fun _ _=>rfl)
  |exact pO (fun _ _ _=>rfl)
  |exact qA rfl
  |exact pJ (fun _ _ _ _=>rfl)))
def hv{st:qu}(F:Ai K x x st f fd)(G:AW P w K mg base Ag k f fd ps sp)(m:mg x=some (.ref f))
 (h:∀(kV doc pm:AA)(an:Option Ya)(cdv ct:AA)(us:List AA),us.length=ps.length->bindArgs (fnOf x x (JU st) (F6 st) (Ao st) .none kV doc pm an cdv ct) ⟨us,[]⟩=pure (ps.zip us):=by trivial):Hv P w K mg base x k ps sp:=⟨⟨_,_,G,F.binds h,m,F.kp⟩⟩
set_option maxRecDepth 10000 in
def all_mk{l:PySem.W.OpenLaw}{fa fRi NR:Ya}{nm qq:Str}{bs sub:List AA}{hd ab:Bool}{sn:List Str}{col:Option Bool}{k0 k1 k2 k3 k5:Option AA}(X:K.In h)(G:h.Ns hY mg)(hfa:mg "law" =some (.ref fa))
 (aR:uU K hY "Refusal" =some (some (.ref cR)))(xR:K.lookup cR=some (sZ nm qq cR NR bs bm hd sn sub ab col dd k0 k1 k2 k3 k5 "Exception.__new__"))(yR:bm=[.type "Exception",.type "BaseException",.type "object"])
 (rdR:readsIn K cR (.type "type")=true)(fiR:findCls K (.ref cR) (.type "type") "__init__" =some (.val (.ref fRi)))(spR:tY K (.ref cR) "__getattribute__" =some (some (.builtin "type.__getattribute__")))
 (lRi:K.lookup fRi=some ⟨oc,od,.func (fnOf "__init__" "Refusal.__init__" (JU J8) (F6 J8) (Ao J8) .none kV doc pm an cdv ct),osl⟩)(cRi:codeIn K cdv "Refusal.__init__" =true)(kRi:rZ K (.ref fRi)=true)
 (E:Ud K cR (U9.map fun z=>(z.1,z.2.1,z.2.2.1)))
 (aN:uU K hY "Nook" =some (some (.ref cN)))(pgN:tS K cN Str.empty=true)(hdN:sW K cN=true)(poN:plainOver K cN=true)(saN:rJ K (.ref cN) "__setattr__" =some (some (.builtin "object.__setattr__")))(mkN:makesIn K cN=true)(kcN:rZ K (.ref cN)=true)(npN:rJ K (.ref cN) "pages" =some none)
 (M:UW K cN Uk)
 (T:Nx K U4)(T2:Nx K UQ)
 (Z:QA K ["isinstance","list","tuple","str","int","bool","len","range","sum","sorted","set","enumerate","all","min"]):
 ∃fd:rA,(∀(s:Yf)(v:AA),uG s fd ⟨[v],[]⟩ [("_law_script",v)])/\∀base:rE,K.In base->base.Ns hY mg->AW l.prog w K mg base Ag 11 fa fd ["_law_script"] (T4 K):=by
 have q8:=lM (st:=J8) lRi cRi kRi;obtain⟨⟨_,_,mL,FL⟩,⟨_,_,n7,d4⟩,⟨_,_,n1,c8⟩,⟨_,_,n8,d5⟩,⟨_,_,p0,b6⟩,⟨_,_,n4,d1⟩,⟨_,_,n5,d2⟩,⟨_,_,n6,d3⟩,⟨_,_,b3,q9⟩,⟨_,_,n2,c9⟩,⟨_,_,n0,c7⟩,⟨_,_,b8,t8⟩,⟨_,_,b9,t9⟩,⟨_,_,n3,d0⟩,⟨_,_,n9,b5⟩,⟨_,_,p2,l6⟩,⟨_,_,c1,b7⟩,⟨_,_,c0,b4⟩,⟨_,_,p1,l5⟩,⟨_,_,m9,c6⟩,⟨_,_,b2,t3⟩,⟨_,_,q6,r5⟩,-⟩:=Sx X G T;obtain⟨⟨_,_,q7,r6⟩,⟨_,_,r7,s1⟩,⟨_,_,b1,t2⟩,⟨_,_,t0,q4⟩,⟨_,_,r1,e3⟩,⟨_,_,s9,e1⟩,⟨_,_,r9,s4⟩,⟨_,_,h9,h2⟩,⟨_,_,q0,s5⟩,⟨_,_,s0,h3⟩,⟨_,_,q1,s6⟩,⟨_,_,q3,s3⟩,⟨_,_,h8,h1⟩,⟨_,_,e8,h5⟩,⟨_,_,r2,e4⟩,⟨_,_,e9,h7⟩,⟨_,_,r4,e6⟩,⟨_,_,r3,e5⟩,⟨_,_,s7,h6⟩,⟨_,_,e7,h4⟩,⟨_,_,r0,e2⟩,⟨_,_,b0,t1⟩,⟨_,_,s8,e0⟩,⟨_,_,r8,s2⟩,-⟩:=Sx X G T2;obtain⟨⟨_,_,a1,a0⟩,⟨_,_,a2,k8⟩,⟨_,_,a3,k7⟩,⟨_,_,a4,k6⟩,⟨_,_,a5,k4⟩,⟨_,_,a6,d9⟩,⟨_,_,a7,d8⟩,⟨_,_,a8,d7⟩,⟨_,_,a9,d6⟩,⟨_,_,c2,q2⟩,⟨_,_,u2,t7⟩,⟨_,_,u1,t6⟩,⟨_,_,u0,t5⟩,⟨_,_,p9,t4⟩,-⟩:=M;obtain⟨⟨_,_,_,p8,m2,l4,m8⟩,⟨_,_,_,p7,m1,l3,m7⟩,⟨_,_,_,p6,m0,l2,m6⟩,⟨_,_,_,p5,l9,l1,m5⟩,⟨_,_,_,p4,l8,l0,m4⟩,⟨_,_,_,p3,l7,k9,m3⟩,-⟩:=E;cases hfa.symm.trans mL;have n:=Xy X G Z;have q5:=n "len" (by simp);have h0:=n "sorted" (by simp);obtain⟨oc,od,kV,doc,pm,an,cdv,ct,osl,rfl,lk,v9⟩:=FL.ex;refine⟨fnOf "law" "law" (JU L3) (F6 L3) (Ao L3) .none kV doc pm an cdv ct,fun s v=>.of_eq rfl,fun base _ _=>?_⟩;have O:Own mg:=⟨(n "isinstance" (by simp)),(n "list" (by simp)),(n "tuple" (by simp)),(n "str" (by simp)),(n "int" (by simp)),(n "bool" (by simp)),q5,(n "range" (by simp))⟩;have OP:Gw mg:=⟨(n "sum" (by simp)),h0,(n "set" (by simp)),q5,(n "enumerate" (by simp)),(n "list" (by simp)),(n "all" (by simp)),(n "min" (by simp))⟩;have U:I0 K mg cR fRi:=⟨Il X G aR,rdR,fiR,spR,kRi,kc xR yR⟩;have GR:AW l.prog w K mg base Ag 1 fRi _ ["self","answer"] (Iw K):=mf q8;have R1:=m8 l.prog w mg base "no page" (Il X G p8) (gL l4 U GR (q8.binds (by trivial)) m2) (l4.binds (by trivial));have R2:=m7 l.prog w mg base "no name" (Il X G p7) (eN l3 U GR (q8.binds (by trivial)) m1) (l3.binds (by trivial));have R3:=m6 l.prog w mg base "same page" (Il X G p6) (cz l2 U GR (q8.binds (by trivial)) m0) (l2.binds (by trivial));have R4:=m5 l.prog w mg base "taken" (Il X G p5) (iG l1 U GR (q8.binds (by trivial)) l9) (l1.binds (by trivial));have R5:=m4 l.prog w mg base "no place" (Il X G p4) (dM l0 U GR (q8.binds (by trivial)) l8) (l0.binds (by trivial));have R6:=m3 l.prog w mg base "no words" (Il X G p3) (du k9 U GR (q8.binds (by trivial)) l7) (k9.binds (by trivial));have C:ER K cN:=⟨⟨pgN,hdN,poN,saN⟩,npN⟩;have M:MK l.prog w K mg base cN cR:=⟨⟨_,_,a2,je k8 C R1,(k8.binds (by trivial))⟩,⟨_,_,a3,ji k7 C R2 R4 q9 (q9.binds (by trivial)) b3 OP,(k7.binds (by trivial))⟩,⟨_,_,a4,jH k6 C OP d0 (d0.binds (by trivial)) n3,(k6.binds (by trivial))⟩,⟨_,_,p0,b6.kp,lD b6 OP,(b6.binds (by trivial))⟩⟩;have u6:=nr c8 (hv d4 (nW (P:=l.prog) (w:=w) (base:=base) d4 (n "enumerate" (by simp)) h0) n7) q5 (n "min" (by simp));have v1:=jX d3 OP (hv d2 (mJ d2 OP) n5) (hv c8 u6 n1);have MD:cI l.prog w K mg base cN cR:=⟨⟨_,_,a5,gY k4 C OP R2 q9 (q9.binds (by trivial)) b3 (hv c7 (oO c7 (hv c9 (oP c9 q9 (q9.binds (by trivial)) b3 (n "all" (by simp))) n2)) n0),(k4.binds (by trivial))⟩,⟨_,_,a6,gD d9 C M,(d9.binds (by trivial))⟩,⟨_,_,a7,jQ d8 C M R3,(d8.binds (by trivial))⟩,⟨_,_,a8,lH d7 C M R5 OP,(d7.binds (by trivial))⟩,⟨_,_,a9,kU d6 C M,(d6.binds (by trivial))⟩,⟨_,_,c2,Xx q2 C M (hv t9 (aA t9 t8 (t8.binds (by trivial)) b8) b9),(q2.binds (by trivial))⟩,⟨_,_,u2,kC t7 C (hv d1 (lB d1 OP) n4),(t7.binds (by trivial))⟩,⟨_,_,u1,(jo t6 C R6 OP (hv d3 v1 n6)).mono (by decide),(t6.binds (by trivial))⟩⟩;have c5:=lX b7 (hv l6 (mU l6 U (nY b5 C MD) (b5.binds (by trivial)) n9 b5.kp) p2);have c4:=fN b4 ⟨mkN,a1.at_,a1.fn,kcN⟩ (XR a0 C) (a0.binds (by trivial)) (Il X G aN) (hv b7 c5 c1);have v8:=dw l5 ⟨mkN,a1.at_,a1.fn,kcN⟩ (XR a0 C) (a0.binds (by trivial)) (Il X G aN) (hv b7 c5 c1);have v3:=hV (P:=l.prog) (w:=w) (base:=base) s4 O (hv e3 (gK e3 O r6 (r6.binds (by trivial)) q7 q4 (q4.binds (by trivial)) t0) r1) e1 (e1.binds (by trivial)) s9;have v6:=oo (P:=l.prog) (w:=w) (base:=base) t2 O s1 (s1.binds (by trivial)) r7;have v7:=iC (P:=l.prog) (w:=w) (base:=base) s6 O h3 (h3.binds (by trivial)) s0;have v0:=cw (P:=l.prog) (w:=w) (base:=base) h5 h2 (h2.binds (by trivial)) h9;have v2:=fB (P:=l.prog) (w:=w) (base:=base) e5 O h1 (h1.binds (by trivial)) h8 s3 (s3.binds (by trivial)) q3;have c3:=gZ (P:=l.prog) (w:=w) (base:=base) h7 O e4 (e4.binds (by trivial)) r2;have v5:=fU (P:=l.prog) (w:=w) (base:=base) e6 O h2 (h2.binds (by trivial)) h9;have v4:=de h6 O (hv s6 v7 q1) (hv h5 v0 e8) h3 (h3.binds (by trivial)) s0 s3 (s3.binds (by trivial)) q3 (hv e5 v2 r3) h1 (h1.binds (by trivial)) h8;have u9:=dB t3 C (hv b4 c4 c0) u0 (kJ t5 C OP (hv d5 (lC d5) n8)) (t5.binds (by trivial));have u8:=iY h4 O h0 (hv h7 c3 e9);have u7:=gN e2 s5 (s5.binds (by trivial)) q0 (hv e6 v5 r4) (hv h6 v4 s7);have u5:=fY c6 C (hv b4 c4 c0) p9 (j4 t4 C OP c2 (Xx q2 C M (hv t9 (aA t9 t8 (t8.binds (by trivial)) b8) b9)) (q2.binds (by trivial))) (t4.binds (by trivial));have u4:=lW e0 (hv h7 c3 e9);have u3:=eT s2 O h0 (hv e0 u4 s8);exact mZ FL O h0 (hv s4 v3 r9) r5 (r5.binds (by trivial)) q6 t1 (t1.binds (by trivial)) b0 (hv l5 v8 p1) (hv t3 u9 b2) (hv c6 u5 m9) (hv e2 u7 r0) (hv t2 v6 b1) (hv h4 u8 e7) (hv s2 u3 r8)
end
def Tw{v:Option (Option AA)}(h:N8 v=true):v=some (some (.ref (hRf v))):=by
 unfold N8 at h;split at h
 ·rfl
 ·cases h
section
variable{q:Str}{st:qu}
def P9(e:L6 K f q=MH x q st):(∃fd,Ai K x q st f fd)/\isFn K (.ref f)=true:=by
 unfold L6 at e;split at e
 ·rename_i oc od d osl h;obtain⟨a1,a2,a3,a4,a5,a6,a7,a8,a9,a10,a11,a12,a13,a14,a15⟩:=d;simp only[MH,Option.some.injEq,LM,F2] at e;obtain⟨rfl,rfl,rfl,rfl,rfl,rfl,rfl,rfl,rfl,⟨c,k⟩,i⟩:=e;exact⟨⟨_,⟨_,_,_,_,_,_,_,_,_,rfl,h,c⟩,k⟩,i⟩
 ·cases e
def ag(e:Qd K C=Qh C bm):∃(nm qq:Str)(N:Ya)(bs:List AA)(hd:Bool)(sn:List Str)(sub:List AA)(ab:Bool)(col:Option Bool)(dd:Option Ya)(k0 k1 k2 k3 k5:Option AA),
 K.lookup C=some (sZ nm qq C N bs bm hd sn sub ab col dd k0 k1 k2 k3 k5 "Exception.__new__"):=by
 unfold Qd at e;split at e
 ·rename_i c od d sl h;obtain⟨a1,a2,a3,a4,a5,a6,a7,a8,a9,a10,a11⟩:=d;obtain⟨sl⟩:=sl;simp only[Qh,Option.some.injEq,LM] at e;obtain⟨rfl,rfl,rfl,e⟩:=e;split at e
  ·cases Af e;exact⟨_,_,_,_,_,_,_,_,_,_,_,_,_,_,_,h⟩
  ·cases e
 ·cases e
end
section
variable{R:Ya}
def aS:∀{L:List (Str×Str×qu×Ya)},bq K L=bb R L->Ud K R (L.map fun z=>(z.1,z.2.1,z.2.2.1))
 |[],_=>Cy
 |(x,q,st,C)::L,e=>by obtain⟨e,r⟩:=IF e;simp only[cH,cG,LM] at e;obtain⟨a,z,e1,e2,e3,e4,e5,e6,i,g⟩:=e;obtain⟨_,_,_,_,_,_,_,_,_,_,_,_,_,_,_,z⟩:=ag z;obtain⟨⟨fd,F⟩,i'⟩:=P9 g;exact⟨⟨C,_,fd,a,X2 z rfl e1 e2 e3 e4 e5,F,fun _ _ _ _ _ m G B=>o5 m z rfl (Tw i) i' e6 (X2 z rfl e1 e2 e3 e4 e5) G B⟩,aS r⟩
def au:∀{L:List (Str×Str×qu)},bZ K C L=cF L->UW K C L
 |[],_=>Cy
 |(x,q,st)::L,e=>by obtain⟨e,r⟩:=IF e;obtain⟨i,g⟩:=JO e;obtain⟨⟨fd,F⟩,i'⟩:=P9 g;exact⟨⟨_,fd,⟨Tw i,i',F.kp⟩,F⟩,au r⟩
def Uh:∀{L:List (Str×qu)},U7 K L=U6 L->Nx K L
 |[],_=>Cy
 |(x,st)::L,e=>by obtain⟨e,r⟩:=IF e;obtain⟨i,g⟩:=JO e;obtain⟨⟨fd,F⟩,i'⟩:=P9 g;exact⟨⟨_,fd,Tw i,F⟩,Uh r⟩
def aG:∀{L:List Str},L.map (uU K hY)=L.map (fun _=>some none)->QA K L
 |[],_=>Cy
 |_::_,e=>⟨(IF e).1,aG (IF e).2⟩
end
section
open PySem.W
def qp{l:OpenLaw}{n:Nat}{q:qy}{loose:List Str}{d:DefRec}{sp:Frag->Sp}
 (hn:l.most=some n)(hn2:n<=sizeLine)(hdf:d.params.defaults=[])(hr:Bj k tU)
 (F:∀(w:rH)(mg:Str->Option AA)(fa:Ya)(h:rE)(K:Frag),Kp K=Kt->K.In h->h.Ns hY mg->mg d.name=some (.ref fa)->
  ∃fd:rA,(∀(s:Yf)(u:AA),uG s fd ⟨[u],[]⟩ [(x,u)])/\∀base:rE,K.In base->base.Ns hY mg->AW l.prog w K mg base CX k fa fd [x] (sp K))
 (hsp:∀(K:Frag)(H:Hp)(a:Ya)(ns:List Int),ns.length<=n->UK H->AK K H a (ns.map V.int)->sp K [.ref a] H (fun v _=>v=.bl true) fun _ _ _=>False)
 (hCX:∀(H:Hp)(s:Yf)(e:AA)(s':Yf),CX [] H s (fun _ _ _=>False) e s'->False):
 WalkO q loose XP Uw l.row.toRowW d [] (fun f vs=>PySem.call f vs):=by
 refine cu hn hdf fun w s₀ s₁ mg mb fa o pm cd doc a vs ns G Y ho hd hcd hmg hobj hints hlen hg=>?_;obtain⟨K,KX,g⟩:=Y;obtain⟨fd,hb,hF⟩:=F w mg fa _ K g KX G.T.g hmg;exact jG KX G.T.g G.T.b G.T.builtins G.T.nolimit hg hobj hints (BJ hlen hn2) hr hF hb (fun H hO hS=>hsp K H a ns hlen hO hS) fun H e s'=>hCX H s₁ e s'
def qr{K:Frag}{l:OpenLaw}{fa:Ya}(g:Kp K=Kt)(X:K.In h)(G:h.Ns hY mg)(hfa:mg "law" =some (.ref fa)):
 ∃fd:rA,(∀(s:Yf)(v:AA),uG s fd ⟨[v],[]⟩ [("_law_script",v)])/\∀base:rE,K.In base->base.Ns hY mg->AW l.prog w K mg base Ag 11 fa fd ["_law_script"] (T4 K):=by
 simp only[Kp,Kt,LM] at g;obtain⟨r,e,n,m,t,t2,z⟩:=g;simp only[cK,bo,LM] at r;obtain⟨aR,xR,rd,sp,fi⟩:=r;obtain⟨_,_,_,_,_,_,_,_,_,_,_,_,_,_,_,xR⟩:=ag xR;split at fi;case h_2=>cases fi
 rename_i f hfi;obtain⟨⟨_,⟨oc,od,kV,doc,pm,an,cdv,ct,osl,rfl,l,c⟩,k⟩,_⟩:=P9 fi;simp only[bj,bX,LM,F2] at n;obtain⟨aN,⟨⟨⟨⟨n1,n2⟩,n3⟩,n4⟩,n5⟩,sa,np⟩:=n;exact all_mk X G hfa aR xR rfl rd hfi sp l c k (aS e) aN n1 n2 n3 sa n4 n5 np (au m) (Uh t) (Uh t2) (aG z)
end
end L2
end
open PySem PySem.W PyProof.Rows
theorem PySem.Challenge.cw_pagenook_k10_whole_dropped_and_written_a_holds : PySem.Challenge.rw_pagenook_k10_whole_dropped_and_written_a.Holds := by
 exact L2.qt fun d hn hd=>L2.qp (l:=PySem.Challenge.rw_pagenook_k10_whole_dropped_and_written_a) (n:=63) (k:=11) (x:="_law_script") (CX:=L2.Ag) (sp:=L2.T4) rfl (by decide) hd ⟨rfl,by decide,by decide⟩ (fun _ _ _ _ _ g X G m=>L2.qr g X G (hn▸m)) (fun _ _ a ns hl _ hS=>⟨a,ns,rfl,hS,hl,fun _=>rfl⟩) fun _ _ _ _ z=>z
