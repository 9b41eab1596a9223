import PyProof.Rows.All
import Wide.All
import OpenK.AllK
import Wide.FinOn
import Lean
import PyProof.EqAt
import PyProof.EqKinds
import PyProof.TupleCall
import PyProof.ExcAttrAll.Exception
import PyProof.InstStoreFacts
import PyProof.Rows.SetFrom
import PyProof.SetKind
import KE.KSetInts
import KE.KSortTup
import KE.KDictList
import PySem.Challenge.RW_pagenook_k08_answers
set_option Elab.async false
set_option linter.all false
set_option maxRecDepth 100000
set_option maxHeartbeats 0
set_option compiler.extract_closed false
set_option bootstrap.genMatcherCode false
open Array renaming length_toList→FH,toList_append→Ga,getD_eq_getD_getElem?→G9,getElem?_toList→HE,toList_inj→KH,perm_iff_toList_perm→Mf,toList_push→M3,toList_reverse→Vg,toList_extract→Vh
open Bool renaming false_eq_true→CP,false_ne_true→Ck,and_eq_true→Ft,not_true→JV,and_false→LS,true_eq_false→Mv,false_and→M7,eq_iff_iff→O4,false_or→Ry
open Int renaming le_refl→HL,toNat_natCast→Hq,emod_lt_of_pos→RR,emod_nonneg→Rp
open List renaming length_map→AI,getElem?_eq_getElem→Ar,map_cons→Au,mem_map→Aw,getElem?_map→A1,length_append→A9,map_append→BL,mem_cons→BM,getElem?_eq_some_iff→BP,mem_singleton→BW,mem_append→Be,map_map→Bf,length_take→Bk,sum_cons→Bn,append_assoc→Bt,mem_of_getElem?→Bv,length_cons→Bw,take_length→CH,mem_cons_self→CV,append_nil→CW,mem_cons_of_mem→Ce,take_add_one→Cf,size_toArray→Cg,getD_eq_getElem?_getD→C3,getElem?_append_right→C6,find?_cons→C9,getElem?_append_left→DH,mem_append_right→Dk,take_append_drop→D5,map_congr_left→EI,length_drop→EK,filter_cons_of_pos→Ed,length_filter_le→Ee,length_take_le'→Ef,mem_filter→Eg,length_singleton→Ey,getElem_mem→Ez,nodup_cons→E1,filter_cons_of_neg→FF,take_of_length_le→FG,mem_of_mem_take→GX,mem_iff_getElem→GY,mem_append_left→GZ,getElem?_eq_none→HD,lookup_cons→HG,any_eq_true→HH,length_nil→Ht,mem_range→Hu,pairwise_cons→IZ,any_cons→Ie,perm_append_comm→JM,not_mem_nil→JQ,nodup_nil→JS,take_zero→KL,mem_of_mem_drop→LK,getElem?_drop→LM,ext_getElem?→LN,isEmpty_nil→LO,all_cons→LW,map_nil→La,find?_cons_of_pos→Mm,find?_cons_of_neg→Mn,drop_eq_nil_of_le→Mo,filter_append→Mt,pairwise_map→My,length_range→Mz,flatMap_cons→M0,all_eq_true→M6,map_id→NB,pairwise_iff_getElem→Oa,getElem?_eq_none_iff→Ob,drop_eq_getElem_cons→Oc,length_filterMap_le→Od,length_eq_zero_iff→Oe,length_pos_of_mem→Of,getElem?_set_self→Og,getElem?_set_ne→Ol,getElem?_of_mem→Om,mem_filterMap→Ov,nodup_append→Oy,cons_append→O0,nil_append→O3,drop_zero→O6,map_take→PB,map_drop→PD,any_map→PH,take_append_of_le_length→Q9,drop_append_of_le_length→RA,mem_of_find?_eq_some→RC,filterMap_append→RG,filter_sublist→RL,filterMap_cons→RM,getElem?_take→RP,contains_cons→RQ,find?_append→RZ,countP_cons→Rj,take_take→Ru,extract_eq_drop_take→VS,pairwise_singleton→VX,head_eq_of_cons_eq→VY,getElem?_toArray→Vc,pairwise_append→Vf,getElem?_range→Vl,flatMap_append→Vm,set_cons_succ→Vp,find?_eq_none→Vq
open List.Perm renaming refl→O7,append_left→RH,append_right→Va
open List.cons renaming inj→Hw
open Nat renaming le_refl→Ac,le_trans→BI,ne_of_lt→BS,zero_le→CB,lt_of_lt_of_le→C7,le_succ→E2,sub_self→FQ,ne_of_gt→Fu,le_of_lt→Ge,zero_add→KP,min_eq_left→LR,lt_succ_self→M5,lt_irrefl→M8,lt_succ_of_lt→Ox,le_of_not_lt→Oz,not_lt→PU,mul_le_mul_left→RK,lt_of_le_of_lt→RO,mul_le_mul_right→Ve
open Ne renaming symm→DI
open Option renaming map_eq_some_iff→KD,bind_some→M4,map_some→O2
open Option.some renaming inj→AZ
open Or renaming inl→AY,inr→Cn
open Prod.mk renaming inj→JX,injEq→LV
open PyProof.Rows renaming wpS_bind→Aj,wpS_pure→Av,wpS_forRange→FN,wpS_get→ID,wpS_modify→KR,boot_sorted→Ld,wpS_lift→Ln,split_weight→M9,callWith_type1→RB,slot_tuple_getitem→VR
open PyProof.Rows.F renaming plain_set_update_loop→VZ
open PySem renaming wpAny_bind→AK,wpAny_pure→Ae,sizeLine_eq→BA,wpAny_mono→DA,boot_len→DX,strLen_append→FJ,wpAny_holding→Gb,wpAny_rule→Hy,wpAny_newObj_type→Ia,wpAny_call_entry→Ib,mem_of_lookup→JO,wpAny_loadPart_at→JP,codeAny_builtin→KI,wpAny_attempt→KO,wpAny_field→KQ,call_meets→KS,wpAny_callSpecial?_slot→LH,wpAny_setEntries_of→LL,wpAny_passesOwn→LP,codeAny_mono→LZ,typeIs_str→Le,wpAny_isSubtype_exc→Mp,wpAny_setField_rec→Mr,wpAny_Call_Name_kw→Ms,wpAny_truthy_bool→Mw,wpAny_setState_of→Mx,call_meetsIn→NA,wpAny_call→ND,tupleKind_room_in1→Ot,wpAny_execs_nil→O1,wpAny_setField→O5,wpAny_standAt→O8,plainId_quiet→O9,wpAny_getItem_str_slice→RD,post_val_or_str→Ro,codeAny_call_builtin→Vd
open PySem.Around renaming under_plainId→Oo
open PySem.Calls renaming spliced_cons→Mu,callWith_builtin→Oi,evalArgs_plain→RI,spliced_nil→Ra,Constant_str→Vs
open PySem.Code renaming quiet_builtin→RT
open PySem.F renaming plainAttrs_list→D4,type_list_append→Eu,slot_list_append→Ew,excBase_Exception→JL,called_set→KG,plainAttrs_dict→LJ,plainAttrs_str→Ml,plain_extend_loop→OZ,slot_dict_pop→RF,slot_dict_values→VT,slot_dict_items→VW,slot_dict_get→Vb,args_str_split_2→Vr,slot_dict_itemiterator_iter→ck
open PySem.Heap renaming lt_size→A7,get?_push_of_some→BD,get?_push_size→CG,get?_update_other→EH,size_push→HI,get?_update_self→JN,get?_update_ne→Mq,size_after_update→Oh,size_update→Rk
open PySem.Heap.SameBut renaming update→Vn
open PySem.Paired renaming length→JU
open PySem.PassesOwn renaming never→C8
open PySem.Txt renaming slice_le→PF
open PySem.W renaming kia_tup→Hr,kia_one→Hs,mg_of→JT,looks_findIn→Oj,kitx_list→RX,kitx_dict→RY,plainGet_of→Vi,looks_clsIn→Vj,callWith_K0→Vk,callWith_K→Vo
open Sum.inl renaming inj→PM
open True renaming intro→Cy
open PyProof.Rows renaming Keyed→bt,pendingOf→cm,arrOf→dA,SortSt→sX,failedOf→tD,seqObj→tG,elem'→tL,setPending→tV,envOfC→tu,AllBare→uD,reverseSlice'→uE,wpS_mono→uS,mirror→ue,get?_update_seq→uo,size_push'→uv,mergeAt'→uw,subscriptTail→vE,listUpdate_at→vF,Constant_none→vG
open PySem renaming Value→AB,Addr→OK,Shared→Ya,model→Yf,wpAny→ax,starEach→dq,mainGlobals→dy,Stmt→hX,Expr→hY,Program→sY,compareOp→sZ,eval→sd,Heap→sf,World→si,FuncData→sj,bootBuiltins→sq,attributeBase→sr,cLine→tE,backTo→tF,pyNext→tH,importedModules→tI,sysModules→tJ,treeTable→tN,scanBound→tO,keywordEach→tP,wpAny_fieldsOf→tQ,rawInt→tR,codeAny→tS,Around→tU,sliceBounds→tX,binaryOp→tY,letOwnedTupleGo→tZ,relabel→tj,unsupported→uA,excClassObj→uB,Keyword→uC,backToKw→uG,GenState→uH,valueAt→uI,assignEach→uJ,slotArgs→uK,tupleKind→uM,swapsWith→uN,holding→uP,getItem→uQ,PlainAttrs→uR,wpAny_typeOf→uT,wpAny_Call_method→uU,callerA→uW,Scope→uX,plainObj_wpAny_Assign_Attribute→uY,wpAny_askSetting→uZ,setFlight→ud,getMethod→uf,IsPart→ug,subscripted→uh,wpAny_updateSeq→uk,wpAny_ite_split→um,codeAny_of_tree→uq,getAttr→ur,BindsTo→uu,isSubtype_type→ux,isInstance→uy,builtinsNs→uz,atKey→vA,assign→vB,NameKind→vC,wpAny_newList→vD
open PySem.W renaming findIn→sk,boot_heap→tK,keepIn→tM,emptyDict→tW,hasDictIn→tm,behindTheImports→uF,kitOne→uL,instObj→uO,plainGet→uV,specialIn→uc,boot_drawn→u9
open PyProof.Rows renaming boot_sum→vW
open PySem renaming Within→vK,wpAt_of_wpAny→vS
open PySem.F renaming args_dict_pop_3→vL,entry_dict_pop→vM,entry_dict_get→vN,args_dict_get_3→vO,type_dict_pop→vP,slot_str_split→vQ,type_str_split→vR,plain_set_new→vT,slot_set_iter→vU,entry_extend_loop→vV,type_dict_values→vX,type_dict_items→vY,slot_str_join→vZ,type_str_join→va
open PySem.W renaming Frag→vH,nsIn→vI,Looks→vJ
open Option renaming some→U,none→J
open Bool renaming true→Y,false→vc
noncomputable section
namespace L2
open PySem PySem.Spec PyProof.Rows
open PySem.W (InitBack InstAt any_some bind_fn cellsFrom_some check_slot clsIn cls_value codeIn codeRec_of emptyDict eq_bytes findCls findIn findObj findObj_own fnOf get_value handedIn handedOut_of hasDictIn hideAll hideAll_get hideAll_none hideAll_size holds_open instObj isFn keepIn ki_setAt ki_setBack kitAny kitOne kitx_bool kitx_float kitx_int kitx_none kitx_own kitx_str kitx_tuple lookIn looks_find looks_mroIn make_core makesIn makes_of methodCall_KW methodObj method_cls method_fn mg_none_of mroIn ne_bytes of_hideAll osa_eq osa_open plainGet plainOver readsIn set_plain specialIn takerIn takesIn typeIn)
theorem Z{α:Sort _}{a:α}:a=a:=rfl
abbrev AF:=@if_neg
abbrev AG:=@if_pos
abbrev A2:=@congrArg
abbrev BG:=@decide_eq_false
abbrev Bc:=@decide_eq_true
abbrev Bx:=@if_false
abbrev CL:=@if_true
abbrev DP:=@ite_congr
abbrev EJ:=@bne_self_eq_false
abbrev Fw:=@beq_iff_eq
abbrev Gd:=@getElem?_pos
abbrev HF:=@of_decide_eq_true
abbrev Ic:=@beq_self_eq_true
abbrev Kb:=@or_false
abbrev LQ:=@beq_false_of_ne
abbrev LY:=@decide_false
abbrev Lc:=@decide_true
abbrev Oq:=@beq_eq_false_iff_ne
abbrev Ou:=@of_decide_eq_false
abbrev Ow:=@decide_eq_true_eq
abbrev VU:=@decide_eq_false_iff_not
local macro_rules|`(tactic|left)=>`(tactic|first|decide+kernel|exact⟨rfl,rfl,rfl,by left,rfl,by left,by left⟩)
noncomputable def inClass(s:hX)(j:Nat):hX:=match s with
 |.ClassDef _ _ _ body _ _ _ _ _ _ _=>body.getD j (.Pass ⟨0,0,0,0⟩)
 |_=>.Pass ⟨0,0,0,0⟩
noncomputable def Jd(s:hX):Arguments:=match s with
 |.FunctionDef _ a _ _ _ _ _ _ _ _=>a
 |_=>{posonlyargs:=[],args:=[],vararg:=J,kwonlyargs:=[],kw_defaults:=[],kwarg:=J,defaults:=[]}
noncomputable def F3(s:hX):List hX:=match s with
 |.FunctionDef _ _ b _ _ _ _ _ _ _=>b
 |_=>[]
noncomputable def Aq(s:hX):uX:=match s with
 |.FunctionDef _ _ _ _ _ _ sc _ _ _=>sc
 |_=>{kind:=.function,names:=[],isGenerator:=vc,isCoroutine:=vc}
noncomputable def top(i:Nat):hX:=PySem.Challenge.pw_pagenook_k08_answers.main.body.getD i (.Pass ⟨0,0,0,0⟩)
abbrev KJ:hX:=inClass (top 2) 0
abbrev Rv:hX:=inClass (top 3) 0
abbrev Rx:hX:=inClass (top 4) 0
abbrev Rm:hX:=inClass (top 5) 0
abbrev R0:hX:=inClass (top 6) 0
abbrev Rr:hX:=inClass (top 7) 0
abbrev Rq:hX:=inClass (top 8) 0
abbrev Vt:hX:=top 10
abbrev V9:hX:=top 11
abbrev Rh:hX:=top 13
abbrev Rf:hX:=top 14
abbrev PJ:hX:=top 15
abbrev R9:hX:=top 16
abbrev WR:hX:=top 18
abbrev V4:hX:=top 19
abbrev WL:hX:=top 20
abbrev PL:hX:=top 21
abbrev SA:hX:=top 22
abbrev NC:hX:=top 24
abbrev SD:hX:=inClass (top 25) 0
abbrev Ri:hX:=inClass (top 25) 1
abbrev RE:hX:=inClass (top 25) 2
abbrev RJ:hX:=inClass (top 25) 3
abbrev RW:hX:=inClass (top 25) 4
abbrev RN:hX:=inClass (top 25) 5
abbrev RU:hX:=inClass (top 25) 6
abbrev Rn:hX:=inClass (top 25) 7
abbrev Rg:hX:=inClass (top 25) 8
abbrev Rt:hX:=inClass (top 25) 9
abbrev Rb:hX:=inClass (top 25) 10
abbrev RV:hX:=inClass (top 25) 11
abbrev Sb:hX:=top 27
abbrev Rw:hX:=top 28
abbrev R8:hX:=top 29
abbrev SO:hX:=top 30
abbrev QR:hX:=top 32
abbrev QJ:hX:=top 33
abbrev ZN:hX:=top 34
abbrev cW:hX:=top 35
abbrev Qb:hX:=top 36
abbrev Pm:hX:=top 37
abbrev Ng:hX:=top 38
abbrev UD:hX:=top 39
abbrev Nh:hX:=top 40
abbrev P8:hX:=top 41
abbrev Nt:hX:=top 42
abbrev UC:hX:=top 43
abbrev OH:hX:=top 44
abbrev Ni:hX:=top 45
abbrev SS:hX:=top 46
abbrev Pt:hX:=top 47
abbrev Tq:hX:=top 48
abbrev TN:hX:=top 49
abbrev TV:hX:=top 50
abbrev TR:hX:=top 51
abbrev Sr:hX:=top 52
abbrev SR:hX:=top 53
abbrev US:hX:=top 54
abbrev Sy:hX:=top 55
abbrev UW:hX:=top 56
abbrev Su:hX:=top 57
abbrev MK:hX:=top 58
section
open PySem.W
noncomputable def hRf:Option (Option AB)->OK
 |some (U (.ref a))=>a
 |_=>0
noncomputable def OT:Option (Option AB)->Bool
 |some (U (.ref _))=>Y
 |_=>vc
abbrev bq:=Option (Str×Str×Arguments×FuncBody×uX×OK×List (Str×OK)×AB×OK×Bool)
noncomputable def MT(K:vH)(f:OK)(q:Str):bq:=match K.lookup f with
 |some ⟨_,_,.func d,_⟩=>U (d.name,d.qualname,d.params,d.body,d.scope,d.globals,d.closure,d.defaults,d.builtins,codeIn K d.code q&&tM K (.ref f)&&isFn K (.ref f))
 |_=>J
def Mb(x q:Str)(st:hX):bq:=U (x,q,Jd st,.stmts (F3 st),Aq st,dy,[],.none,uz,Y)
noncomputable def Q5(K:vH)(C:OK):Option (AB×List AB×Bool×Option (Option AB)):=match K.lookup C with
 |some ⟨c,_,.cls d,sl⟩=>U (c,d.mro,d.hasDel,match sl.toList with|[_,_,_,_,k,_]=>U k|_=>J)
 |_=>J
noncomputable def Q8(C:OK)(bm:List AB):Option (AB×List AB×Bool×Option (Option AB)):=U (.type "type",.ref C::bm,vc,U (U (.builtin "Exception.__new__")))
abbrev cD:List AB:=[.type "Exception",.type "BaseException",.type "object"]
def cI(K:vH)(x q:Str)(C:OK):=(vI K dy x,Q5 K C,tm K C,sk K (.ref C) "answer",sk K (.ref C) "__setattr__",sk K (.ref C) "__getattribute__",
 sk K (.ref C) "__getattr__",tM K (.ref C),OT (sk K (.ref C) "__init__"),MT K (hRf (sk K (.ref C) "__init__")) q)
def cJ(q:Str)(st:hX)(R C:OK):=(U (U (Value.ref C)),Q8 C (.ref R::cD),Y,(U J:Option (Option AB)),U (U (Value.builtin "object.__setattr__")),U (U (Value.builtin "BaseException.__getattribute__")),
 (U J:Option (Option AB)),Y,Y,Mb "__init__" q st)
def cY(K:vH)(L:List (Str×Str×hX×OK)):=L.map λz=>cI K z.1 z.2.1 z.2.2.2
def bo(R:OK)(L:List (Str×Str×hX×OK)):=L.map λz=>cJ z.2.1 z.2.2.1 R z.2.2.2
def bx(K:vH)(C:OK)(L:List (Str×Str×hX)):=L.map λz=>(OT (sk K (.ref C) z.1),MT K (hRf (sk K (.ref C) z.1)) z.2.1)
def cj(L:List (Str×Str×hX)):=L.map λz=>(Y,Mb z.1 z.2.1 z.2.2)
def U3(K:vH)(L:List (Str×hX)):=L.map λz=>(OT (vI K dy z.1),MT K (hRf (vI K dy z.1)) z.1)
def VL(L:List (Str×hX)):=L.map λz=>(Y,Mb z.1 z.1 z.2)
def bu(K:vH)(R:OK):=(vI K dy "Refusal",Q5 K R,readsIn K R (.type "type"),uc K (.ref R) "__getattribute__",
 (match findCls K (.ref R) (.type "type") "__init__" with|some (.val (.ref f))=>MT K f "Refusal.__init__" |_=>J))
def cU(st:hX)(R:OK):=(U (U (Value.ref R)),Q8 R cD,Y,U (U (Value.builtin "type.__getattribute__")),Mb "__init__" "Refusal.__init__" st)
noncomputable def cZ(K:vH)(C:OK):=(vI K dy "Nook",uV K C Str.empty&&tm K C&&plainOver K C&&makesIn K C&&tM K (.ref C),sk K (.ref C) "__setattr__",sk K (.ref C) "pages")
noncomputable def cL(C:OK):=(U (U (Value.ref C)),Y,U (U (Value.builtin "object.__setattr__")),(U J:Option (Option AB)))
noncomputable def QN(h:sf):vH:=(List.range h.objs.size).filterMap λa=>(h.get? a).map λo=>(a,o)
def VB:List (Str×Str×hX×OK):=[("NoPage","NoPage.__init__",Rv,58),("NoName","NoName.__init__",Rx,77),("SamePage","SamePage.__init__",Rm,96),("Taken","Taken.__init__",R0,115),("NoPlace","NoPlace.__init__",Rr,134),("NoWords","NoWords.__init__",Rq,153)]
def U7:List (Str×Str×hX):=[("__init__","Nook.__init__",SD),("need_page","Nook.need_page",Ri),("need_free_name","Nook.need_free_name",RE),("point_all_on","Nook.point_all_on",RJ),("write_page","Nook.write_page",RW),("rename_page","Nook.rename_page",RN),("join_pages","Nook.join_pages",RU),("cut_page","Nook.cut_page",Rn),("drop_page","Nook.drop_page",Rg),("text_of","Nook.text_of",Rt),("back_from","Nook.back_from",Rb),("find_pages","Nook.find_pages",RV)]
def U6:List (Str×hX):=[("law",MK),("places_in_order",Vt),("shortest",V9),("count_pointers",Rh),("pages_pointing",Rf),("places_of",PJ),("pages_near",R9),("is_name",WR),("read_word",V4),("split_up",WL),("tell_word",PL),("tell_text",SA),("point_on",NC),("do_deed",Sb),("answer_deed",Rw),("answer_all",R8),("answers",SO),("_law_room",QR)]
def Ud:List (Str×hX):=[("_law_draw",QJ),("_law_whole",ZN),("_law_alike",cW),("_law_odd_word",Qb),("_law_penned",Pm),("_law_sought",Ng),("_law_deeds",UD),("_law_is_name",Nh),("_law_begun",P8),("_law_named",Nt),("_law_added",UC),("_law_led",OH),("_law_turned",Ni),("_law_penned_in",SS),("_law_barred",TV),("_law_joined",TR),("_law_changed",Sr),("_law_name_of",Pt),("_law_shown",Tq),("_law_text_of",TN),("_law_pointers",SR),("_law_back",US),("_law_stretch",Sy),("_law_hits",UW),("_law_replied",Su)]
noncomputable def bw:List Str:=["isinstance","list","tuple","str","int","bool","len","range","sum","sorted","set","enumerate","all","min"]
def Ky(K:Frag):=(bu K 38,cY K VB,cZ K 329,bx K 329 U7,U3 K U6,U3 K Ud,bw.map (nsIn K dy))
def Kz:=(cU KJ 38,bo 38 VB,cL 329,cj U7,VL U6,VL Ud,bw.map λ_=>(U J:Option (Option AB)))
def VM(_:si)(h:sf):Prop:=∃K:Frag,K.In h/\Ky K=Kz
abbrev DF:sY:=PySem.Challenge.pw_pagenook_k08_answers
noncomputable def GU:sY:=view DF ((List.range 59).filter λi=> !([1,9,12,17,23,26,31]:List Nat).contains i)
noncomputable def hZ:Pos:=⟨0,0,0,0⟩
noncomputable def MJ:Env:={scope:=DF.main.scope,locals:=mainNs,globals:=mainNs,cells:=[],code:=.ref 13,frame:=U 14}
def hC:Code:=.body (uF DF) MJ
noncomputable def hO(cls:AB)(d:Data)(sl:Array (Option AB)):Obj:={cls:=cls,data:=d,slots:=sl}
noncomputable def o7(P:Params):BT:=
 let n (o:Obj):=BT.node o .nil .nil
 .node (boot_o_0 P) (.node (boot_o_1 P) (.node (boot_o_3 P) (n (boot_o_7 P)) (n (hO (.type "tuple") (.seq #[] 0) #[]))) (.node (boot_o_5 P) (n (boot_o_9 P))
  (n (hO (.type "code") (.fields #[.str "<module>" 182,.str "<module>" 183,.str "/claim/cut.py" 184,.int 1 0,.int 0 0,.int 0 0,.int 0 0,.int 0 0,.ref 11,.bool vc,.int 181 0,.ref 12,.none,.none,.none,.none,.int 185 0,.int 1 0,.str "/claim/cut.py" 186]) #[]))))
  (.node (boot_o_2 P) (.node (boot_o_4 P) (n (boot_o_8 P)) (n (hO .none (.fields #[]) #[]))) (.node (boot_o_6 P) (n (boot_o_10 P)) (n (hO (.type "frame") .plain #[U (.ref 13),U (.ref 3),U (.ref 3),J,U (.str "__main__" 164),J,U (.ref 0)]))))
noncomputable def hS(w:si)(os:OsState):SharedT:=⟨o7 w.params,15,(tK w.params).life,#[],u9,187,os⟩
noncomputable def JB(w:si)(os:OsState):Option (Flow×SharedT×Code×Pos):=Fast.tw10110043849684766642 Fast.tw14364793385576792824 DF w 11 (U (.ref 6)) 1 3724 (hS w os) (piecesOf (uF DF) MJ hC hZ [topFrame hZ])
def qJ(w:si):(λos=>(JB w os).map λz=>(z.1,z.2.2.1,staticsOk (tI DF.main.body) (tK w.params) z.2.1.abs.heap&&namesBound DF z.2.1.abs.heap&&gensDone z.2.1.abs&&laidKept (tK w.params) z.2.1.abs.heap))=λ_=>U (Flow.next,hC,Y):=by kernel_rfl
def og(w:si):(λos=>(JB w os).map λz=>Fast.tw4187177175401517315 GU [] (tI DF.main.body) (λs=>xlAt GU [] s&&recOk [] s) Y z.2.1.abs)=λ_=>U (openGood GU []):=by kernel_rfl
def qA(w:si):(λos=>(JB w os).map λz=>Ky (QN z.2.1.abs.heap))=λ_=>U Kz:=by kernel_rfl
def qQ(w:si):(λos=>topGo tN DF w 11 (U (.ref 6)) 12 ⟨tK w.params,#[],u9,boot_toks,os⟩ (topStub DF))=λos=>U ((hS w os).abs,⟨denote tN hC,hC,hZ,[topFrame hZ]⟩):=by kernel_rfl
def o8(w:si):((tK w.params).isNs dy&&(#[]:Array uH).size==0,(tK w.params).objs.size,(tK w.params).nsMap dy "__annotations__")=(Y,11,U (.ref 6)):=by kernel_rfl
def oq:PySem.Challenge.rw_pagenook_k08_answers.wellSaid=Y:=by left
def rG(w:si)(os:OsState):segRunT tN DF w 11 (U (.ref 6)) 1 3724 (hS w os) (piecesOf (uF DF) MJ hC hZ [topFrame hZ])=JB w os:=by unfold JB;rw[<-Fast.te10110043849684766642,<-Fast.te14364793385576792824]
end
variable{w:si}{os:OsState}
section
open PySem.W
def js{s:SharedT}{q:Pos}(h:JB w os=U (.next,s,hC,q)):
 topRun tN DF w 11 (U (.ref 6)) (12+(1+(3724+2))) ⟨tK w.params,#[],u9,boot_toks,os⟩ (topStub DF)=U s.abs:=by
 refine go_top (congrFun (qQ w) os) (piece_block (s':=(hS w os).abs) (p':=hZ) (env:=MJ) (b:=uF DF) Z ?_);have k:=piece_app (env:=MJ) (rest:=[]) (segRun_of ((rG w os).trans h)) (piece_nil (env:=MJ) (N:=2) (r:=s.abs) Z);rw[CW] at k;exact k
def sF:opening DF=plainProg DF.main.scope.names:=by kernel_rfl
def rZ(s:Ya):fenceModules? DF s=U s:=by kernel_rfl
def rY(w:si):∃os,fencedOpening tN DF w 7572=U ⟨tK w.params,#[],u9,boot_toks,os⟩:=by obtain⟨⟨h,gs,d,k,os⟩,e,e'⟩:=KD.mp (boot_open sF (N:=7572) (by decide) rZ w);cases e';exact⟨os,e⟩
end
variable{n:Nat}{ann:Option AB}{s:Ya}
section
open PySem.W
def rP{p:sY}{n₀ N:Nat}{r:Ya}{t:Thread}(h:topRun tN p w n₀ ann n s t=U r)(k:n+(N-n)=N):topRun tN p w n₀ ann N s t=U r:=
 k▸topRun_mono (N-n) n s t r h
end
variable{α β:Type}
section
open PySem.W
def cb{o:Option α}{f:α->β}{z:α}{y:β}(e:o=U z)(r:o.map f=U y):f z=y:=by subst e;exact AZ r
def qr{p q:sY}{N n₀:Nat}{X:Ya->Bool}{vh:Ya->α}{y:α}{s₀ s₁:Ya}(e:fencedOpening tN p w N=U s₀)
 (z:(s₀.heap.isNs dy&&s₀.gens.size==0,s₀.heap.objs.size,s₀.heap.nsMap dy "__annotations__")=(Y,n₀,ann))(t:topRun tN p w n₀ ann N s₀ (topStub p)=U s₁)
 (g:(staticsOk (tI p.main.body) s₀.heap s₁.heap&&namesBound p s₁.heap&&gensDone s₁&&laidKept s₀.heap s₁.heap)=Y)(r1:openSeen q [] (tI p.main.body) X Y s₁=openGood q [])(r2:vh s₁=y):
 (openEnds tN p w N).map (λs=>(openSeen q [] (tI p.main.body) X Y s,vh s))=U (openGood q [],y):=by
 obtain⟨z1,z2,z3⟩:_/\_/\_:=by simpa only[LV] using z
 subst z2 z3;unfold openEnds;rw[e,M4];unfold topFrom;rw[z1];dsimp only;rw[t,M4,g];dsimp only;rw[O2,r1,r2]
def rQ{s:SharedT}{q:Pos}(h:JB w os=U (.next,s,hC,q)):openSeen GU [] (tI DF.main.body) (λs=>xlAt GU [] s&&recOk [] s) Y s.abs=openGood GU []:=by rw[Fast.te4187177175401517315];have k:=cb h (congrFun (og w) os);exact k
def sD{s:SharedT}{q:Pos}(h:JB w os=U (.next,s,hC,q)):Ky (QN s.abs.heap)=Kz:=
 have k:=cb h (congrFun (qA w) os)
 k
def rg(w:si)(os:OsState):∃s q,JB w os=U (.next,s,hC,q)/\(staticsOk (tI DF.main.body) (tK w.params) s.abs.heap&&namesBound DF s.abs.heap&&gensDone s.abs&&laidKept (tK w.params) s.abs.heap)=Y:=by obtain⟨⟨f,s,c,q⟩,er,r0⟩:=KD.mp (congrFun (qJ w) os);obtain⟨e1,e2⟩:=JX r0;obtain⟨e3,e4⟩:=JX e2;dsimp only at e1 e3;subst e1 e3;exact⟨s,q,er,e4⟩
def o6:LeftO DF GU [] (λs=>xlAt GU [] s&&recOk [] s) (λs=>Ky (QN s.heap)) (λ_=>Kz) 7572:=λw=>
 have⟨os,e⟩:=rY w;have⟨_,_,er,g⟩:=rg w os
 qr e (o8 w) (rP (js er) (by decide)) g (rQ er) (sD er)
def lA(h:sf):(QN h).In h:=by
 intro a o e;have m:∀{l:List (OK×Obj)},l.lookup a=U o->(a,o)∈l:=by
  intro l
  induction l with
  |nil=>intro z;cases z
  |cons p l ih=>
   intro z;obtain⟨b,u⟩:=p;rw[HG] at z
   cases hb:a==b with
   |true=>rw[hb] at z;cases z;rw[Fw.mp hb];exact CV
   |false=>rw[hb] at z;exact Ce _ (ih z)
 obtain⟨b,_,q⟩:=Ov.mp (m e);obtain⟨u,hu,q⟩:=KD.mp q;cases q;exact hu
def sW(hc:∀d:DefRec,d.name="law" ->d.params.defaults=[]->WalkO GU [] (XL GU []) VM PySem.Challenge.rw_pagenook_k08_answers.row.toRowW d [] (λf vs=>PySem.call f vs)):PySem.Challenge.rw_pagenook_k08_answers.Holds:=by
 refine holds_law oq λsaid=>?_;refine holds_open (q:=GU) (loose:=[]) (Xt:=λs=>xlAt GU [] s&&recOk [] s) (XP:=XL GU []) (YP:=VM) (N:=7572) o6 (λ_ s e=>⟨_,lA s.heap,e⟩) (λ_ _ _ ⟨K,k,e⟩ q=>⟨K,λa o z=>q a o (k a o z),e⟩)
  (λs e=>xl_of s (Bool.and_eq_true_iff.mp e).1) XL.keeps (by rfl) (by rfl) (by rfl) (λs e=>recFacts_of (Bool.and_eq_true_iff.mp e).2) (by rfl) said (by left) ⟨Z,Z,Z,Z,Z,by left⟩ ?hw ?hc;case hw=>w_witness2
 case hc=>exact hc _ Z Z
end
abbrev Key:=Sum Int Str
noncomputable def Kq:Key->AB->Bool
 |.inl k,v=>Value.isInt k v
 |.inr x,v=>Value.isStrOf x v
noncomputable def qW(w:si):Key->Int
 |.inl k=>hashInt k
 |.inr x=>hashStr w x
def HK:∀{k:Key}{v:AB},Kq k v=Y->(∃i t,k=Sum.inl i/\v=Value.int i t)\/(∃x t,k=Sum.inr x/\v=Value.str x t)
 |.inl i,v,h=>by obtain⟨t,e⟩:=Value.isInt_shape (k:=i) (v:=v) h;exact .inl ⟨i,t,Z,e⟩
 |.inr x,v,h=>by obtain⟨t,e⟩:=Value.isStrOf_shape (x:=x) (v:=v) h;exact .inr ⟨x,t,Z,e⟩
def fY(i:Int)(t:Tok):Kq (.inl i) (.int i t)=Y:=by simp[Kq,Value.isInt]
def fH(x:Str)(t:Tok):Kq (.inr x) (.str x t)=Y:=by simp[Kq,Value.isStrOf]
def ZT(a b:Int):decide ((Sum.inl a:Key)=Sum.inl b)=(a==b):=by
 by_cases e:a=b
 .subst e;simp
 .have h:¬(Sum.inl a:Key)=Sum.inl b:=λq=>e (PM q);rw[BG h];exact(Oq.mpr e).symm
def Zb(a b:Str):decide ((Sum.inr a:Key)=Sum.inr b)=decide (a=b):=by
 by_cases e:a=b
 .subst e;simp
 .have h:¬(Sum.inr a:Key)=Sum.inr b:=λq=>e (Sum.inr.inj q);rw[BG h,BG e]
def mQ(a:Int)(b:Str):decide ((Sum.inl a:Key)=Sum.inr b)=vc:=BG (λq=>nomatch q)
def nL(a:Str)(b:Int):decide ((Sum.inr a:Key)=Sum.inl b)=vc:=BG (λq=>nomatch q)
def Cc(prog:sY)(w:si):PySem.KeyKind prog w Key where
 is:=Kq
 hash:=qW w
 inj:=λv a b ha hb=>by
  rcases HK ha with⟨i,t,rfl,rfl⟩|⟨x,t,rfl,rfl⟩
  .rcases HK hb with⟨j,u,rfl,e⟩|⟨y,u,rfl,e⟩
   .injection e with e1 _;rw[e1]
   .exact nomatch e
  .rcases HK hb with⟨j,u,rfl,e⟩|⟨y,u,rfl,e⟩
   .exact nomatch e
   .injection e with e1 _;rw[e1]
 byValue:=λk v h=>by rcases HK h with⟨i,t,rfl,rfl⟩|⟨x,t,rfl,rfl⟩<;>rfl
 pyHash:=λhv h=>by
  rcases HK hv with⟨i,t,rfl,rfl⟩|⟨x,t,rfl,rfl⟩
  .exact wpAny_pyHash_int h
  .exact wpAny_pyHash_str h
 eqBool:=λhu hv h=>by
  rcases HK hu with⟨i,t,rfl,rfl⟩|⟨x,t,rfl,rfl⟩
  .rcases HK hv with⟨j,u,rfl,rfl⟩|⟨y,u,rfl,rfl⟩
   .rw[ZT] at h;exact wpAny_eqBool_int h
   .rw[mQ] at h;exact SeqAt.EqAt.int_str i t y u _ _ _ _ h
  .rcases HK hv with⟨j,u,rfl,rfl⟩|⟨y,u,rfl,rfl⟩
   .rw[nL] at h;exact SeqAt.EqAt.str_int x t j u _ _ _ _ h
   .rw[Zb] at h;exact wpAny_eqBool_str h
 «strs»:=λk x t v h=>by
  rcases HK h with⟨i,u,rfl,e⟩|⟨y,u,rfl,e⟩
  .exact nomatch e
  .injection e with e1 _;subst e1;cases v<;>rfl
def dW(prog:sY)(w:si)(i:Int)(t:Tok):(Cc prog w).is (.inl i) (.int i t)=Y:=fY i t
def dI(prog:sY)(w:si)(x:Str)(t:Tok):(Cc prog w).is (.inr x) (.str x t)=Y:=fH x t
inductive V where
 |BB|bl (b:Bool)|int (i:Int)|str (x:Str)|GG (b:Array UInt8)|JG (b:UInt64)|ref (a:OK)|ty (n:String)
 deriving DecidableEq
def RelV:V->AB->Prop
 |.BB,u=>u=Value.none
 |.bl b,u=>u=Value.bool b
 |.int i,u=>∃t,u=Value.int i t
 |.str x,u=>∃t,u=Value.str x t
 |.GG b,u=>∃t,u=Value.bytes b t
 |.JG b,u=>∃t,u=Value.float b t
 |.ref a,u=>u=Value.ref a
 |.ty n,u=>u=Value.type n
abbrev Vals:List V->List AB->Prop:=Paired RelV
theorem Vals.length{xs:List V}{us:List AB}(r:Vals xs us):xs.length=us.length:=JU r
theorem Vals.get:∀{xs:List V}{us:List AB}{i:Nat}{x:V},Vals xs us->xs[i]? =U x->∃u,us[i]? =U u/\RelV x u
 |_,_,_,_,.nil,e=>by simp at e
 |_,_,0,_,.cons r _,e=>by simp at e;subst e;exact⟨_,Z,r⟩
 |_,_,i+1,x,.cons _ t,e=>by obtain⟨u,h1,h2⟩:=Vals.get (i:=i) (x:=x) t (by simpa using e);exact⟨u,by simpa using h1,h2⟩
theorem Vals.set{x:V}{u:AB}(r:RelV x u):∀{xs:List V}{us:List AB}(i:Nat),Vals xs us->Vals (xs.set i x) (us.set i u)
 |_,_,_,.nil=>.nil
 |_,_,0,.cons _ t=>.cons r t
 |_,_,i+1,.cons q t=>.cons q (Vals.set r i t)
theorem Vals.append:∀{xs ys:List V}{us ws:List AB},Vals xs us->Vals ys ws->Vals (xs++ys) (us++ws)
 |_,_,_,_,.nil,s=>s
 |_,_,_,_,.cons r t,s=>.cons r (Vals.append t s)
theorem Vals.take:∀{xs:List V}{us:List AB}(n:Nat),Vals xs us->Vals (xs.take n) (us.take n)
 |_,_,0,_=>.nil
 |_,_,_+1,.nil=>.nil
 |_,_,n+1,.cons r t=>.cons r (Vals.take n t)
theorem Vals.drop:∀{xs:List V}{us:List AB}(n:Nat),Vals xs us->Vals (xs.drop n) (us.drop n)
 |_,_,0,r=>r
 |_,_,_+1,.nil=>.nil
 |_,_,n+1,.cons _ t=>Vals.drop n t
def DV:Option V->Option AB->Prop
 |some v,U u=>RelV v u
 |none,J=>True
 |_,_=>False
def KV{κ:Type}:List (κ×V)->List (κ×AB)->Prop:=Paired λ(p:κ×V)(q:κ×AB)=>p.1=q.1/\RelV p.2 q.2
noncomputable def kV:Key->V
 |.inl i=>.int i
 |.inr x=>.str x
inductive HO where
 |lst (xs:List V)
 |tup (xs:List V)
 |dK (AA:List (Key×V))|dT (AA:List (List Key×V))
 |set (vj:Int->Bool) (n:Nat)
 |ins (C dx:OK) (fs:List (Str×V))
 |own (x:OK)
 |xd (fs:List (Str×V))
 |met (f x:OK)
 |JI (lo hi:Int)
 |BZ (o:Obj) (u:HO)
 |Jz (ps:Array AB)
 |ext (φ:sf->Prop)
abbrev Hp:=OK->Option HO
noncomputable def upd(H:Hp)(a:OK)(o:HO):Hp:=λb=>if b=a then U o else H b
variable{H:Hp}{a:OK}
def AN{o:HO}:upd H a o a=U o:=by delta upd;rw[AG Z]
variable{b:OK}
def AO{o:HO}(h:b≠a):upd H a o b=H b:=by delta upd;rw[AF h]
def Jg{o u:HO}:upd (upd H a o) a u=upd H a u:=by funext b;delta upd;split<;>rfl
def CN{o u:HO}(h:H a=U o)(h':H b=U u)(d:o≠u):a≠b:=by intro e;subst e;rw[h] at h';exact d (AZ h')
def A8{o:HO}(h:H a=U o)(h':H b=J):a≠b:=by intro e;subst e;rw[h] at h';cases h'
section
variable(P:sY)(w:si)
def BY(H:Hp)(h:sf)(a:OK):HO->Prop
 |.lst xs=>xs.length<=sizeLine/\∃(AV:List AB)(n:Nat),Vals xs AV/\h.get? a=U {cls:=.type "list",data:=.seq AV.toArray n}
 |.tup xs=>xs.length<=sizeLine/\∃AV:List AB,Vals xs AV/\IsTup h a AV.toArray
 |.dK AA=>AA.length<=sizeLine/\(a==tJ)=vc/\∃vs,KV AA vs/\h.DictOf (Cc P w) a vs
 |.dT AA=>AA.length<=sizeLine/\(a==tJ)=vc/\∃xs:List (List Key×OK×AB),
  Paired (λ(p:List Key×V)(q:List Key×OK×AB)=>p.1=q.1/\H q.2.1=U (.tup (p.1.map kV))/\RelV p.2 q.2.2) AA xs/\
  ∃o es ep,h.get? a=U o/\o.ExactDict/\o.data=.dict es ep/\es.toList=xs.map (entryOfKey (uM (Cc P w)))/\(xs.map (·.1)).Nodup
 |.set vj n=>h.SetOf (intKind P w) a vj n
 |.ins C dx fs=>H dx=U (.own a)/\fs.length<=1000/\dx≠a/\h.get? a=U (uO C dx)/\
  ∃mA,h.Ns1 dx mA/\(∀f,DV (fs.lookup f) (mA f))/\vK mA (fs.map (·.1))
 |.own _=>∃o,h.get? a=U o
 |.xd fs=>∃mA,h.Ns1 a mA/\∀f,DV (fs.lookup f) (mA f)
 |.JI lo hi=>∃t u v,h.get? a=U {cls:=.type "range",data:=.fields #[.int lo t,.int hi u,.int 1 v]}
 |.BZ o u=>h.get? a=U o/\BY H h a u
 |.Jz ps=>h.get? a=U {cls:=.none,data:=.fields ps}
 |.met f x=>h.get? a=U (methodObj (.ref f) (.ref x))
 |.ext φ=>φ h/\(∃o,h.get? a=U o)/\∀h1 h2:sf,φ h1->(∀o,h1.get? a=U o->h2.get? a=U o)->φ h2
def CA(H:Hp)(h:sf):Prop:=∀a o,H a=U o->BY P w H h a o
end
variable{P:sY}{h:sf}
section
variable{o:HO}
theorem BY.lt(x:BY P w H h a o):a<h.objs.size:=by
 cases o with
 |lst xs=>obtain⟨_,_,_,_,e⟩:=x;exact A7 e
 |tup xs=>obtain⟨_,_,_,p⟩:=x;exact p.lt
 |dK AA=>obtain⟨_,_,_,_,o,_,_,e,_⟩:=x;exact A7 e
 |dT AA=>obtain⟨_,_,_,_,o,_,_,e,_⟩:=x;exact A7 e
 |set vj n=>obtain⟨o,_,_,_,e,_⟩:=x;exact A7 e
 |ins C dx fs=>obtain⟨_,_,_,e,_⟩:=x;exact A7 e
 |own y=>obtain⟨_,e⟩:=x;exact A7 e
 |xd fs=>obtain⟨_,⟨_,_,_,e,_⟩,_⟩:=x;exact A7 e
 |JI lo hi=>obtain⟨_,_,_,e⟩:=x;exact A7 e
 |BZ ob u=>obtain⟨e,_⟩:=x;exact A7 e
 |Jz ps=>exact A7 (show h.get? a=U _ from x)
 |met f y=>exact A7 (show h.get? a=U _ from x)
 |ext φ=>obtain⟨_,⟨_,e⟩,_⟩:=x;exact A7 e
theorem Paired.Ua{α β:Type}{F G:α->β->Prop}:∀{l₁:List α}{l₂:List β},Paired F l₁ l₂->(∀a b,F a b->G a b)->Paired G l₁ l₂
 |_,_,.nil,_=>.nil
 |_,_,.cons r t,f=>.cons (f _ _ r) (Paired.Ua t f)
end
variable{H':Hp}{h':sf}
section
variable{o:HO}
def BY.Eo(x:BY P w H h a o)(k:∀b u,(b=a\/H b=U (.own a))->h.get? b=U u->h'.get? b=U u)
 (ho:∀b,H b=U (.own a)->H' b=U (.own a))(ht:∀b xs,H b=U (.tup xs)->H' b=U (.tup xs)):BY P w H' h' a o:=by
 induction o with
 |lst xs=>obtain⟨z,AV,n,r,e⟩:=x;exact⟨z,AV,n,r,k _ _ (.inl Z) e⟩
 |tup xs=>obtain⟨z,AV,r,ob,e,c⟩:=x;exact⟨z,AV,r,ob,k _ _ (.inl Z) e,c⟩
 |dK AA=>obtain⟨z,y,vs,r,ob,es,ep,e,c⟩:=x;exact⟨z,y,vs,r,ob,es,ep,k _ _ (.inl Z) e,c⟩
 |dT AA=>obtain⟨z,y,xs,r,ob,es,ep,e,c⟩:=x;exact⟨z,y,xs,Paired.Ua r λp q z=>⟨z.1,ht _ _ z.2.1,z.2.2⟩,ob,es,ep,k _ _ (.inl Z) e,c⟩
 |set vj n=>obtain⟨ob,es,ep,t,e,c⟩:=x;exact⟨ob,es,ep,t,k _ _ (.inl Z) e,c⟩
 |ins C dx fs=>obtain⟨d,z,ne,e,mA,⟨od,es,ep,e2,c⟩,r⟩:=x;exact⟨ho _ d,z,ne,k _ _ (.inl Z) e,mA,⟨od,es,ep,k _ _ (.inr d) e2,c⟩,r⟩
 |own y=>obtain⟨ob,e⟩:=x;exact⟨ob,k _ _ (.inl Z) e⟩
 |xd fs=>obtain⟨mA,⟨od,es,ep,e,c⟩,r⟩:=x;exact⟨mA,⟨od,es,ep,k _ _ (.inl Z) e,c⟩,r⟩
 |JI lo hi=>obtain⟨t,u,v,e⟩:=x;exact⟨t,u,v,k _ _ (.inl Z) e⟩
 |BZ ob u ih=>obtain⟨e,q⟩:=x;exact⟨k _ _ (.inl Z) e,ih q⟩
 |Jz ps=>have e:h.get? a=U {cls:=.none,data:=.fields ps}:=x;show h'.get? a=U {cls:=.none,data:=.fields ps};exact k a _ (.inl Z) e
 |met f y=>have e:h.get? a=U (methodObj (.ref f) (.ref y)):=x;show h'.get? a=U (methodObj (.ref f) (.ref y));exact k a _ (.inl Z) e
 |ext φ=>obtain⟨p,⟨o,e⟩,st⟩:=x;exact⟨st _ _ p λo q=>k _ _ (.inl Z) q,⟨o,k _ _ (.inl Z) e⟩,st⟩
theorem CA.lt(x:CA P w H h)(e:H a=U o):a<h.objs.size:=(x a o e).lt
def CA.fresh(x:CA P w H h)(e:h.objs.size<=a):H a=J:=by
 cases q:H a with
 |none=>rfl
 |some u=>exact absurd (C7 (x.lt q) e) (M8 _)
def CA.kept(x:CA P w H h)(k:∀b u,h.get? b=U u->h'.get? b=U u):CA P w H h':=λa o e=>(x a o e).Eo (λb u _ q=>k b u q) (λ_ q=>q) λ_ _ q=>q
def CA.laid(x:CA P w H h)(k:∀b u,h.get? b=U u->h'.get? b=U u)(hp:h.objs.size<=a)(new:BY P w (upd H a o) h' a o):CA P w (upd H a o) h':=λb u e=>by
 have hn:=x.fresh hp;by_cases hb:b=a
 .subst hb;rw[AN] at e;cases e;exact new
 .rw[AO hb] at e;exact(x b u e).Eo (λc v _ q=>k c v q) (λc q=>by rw[AO (A8 q hn)];exact q) λc xs q=>by rw[AO (A8 q hn)];exact q
end
def Rd(H:Hp)(a:OK)(u:HO):Prop:=H a=U u\/∃o,H a=U (.BZ o u)
def Rd.ok{u:HO}(r:Rd H a u)(x:CA P w H h):BY P w H h a u:=by
 rcases r with r|⟨o,r⟩
 .exact x a u r
 .obtain⟨_,q⟩:=x a _ r;exact q
def OS:Option HO->Prop
 |some (.lst _)=>True
 |some (.dK _)=>True
 |some (.dT _)=>True
 |some (.set _ _)=>True
 |some (.ins _ _ _)=>True
 |some (.ext _)=>True
 |_=>False
section
variable{x e:OK}{o':HO}
def CA.write(ok:CA P w H h)(mu:OS (H x))(he:e=x\/H e=U (.own x))(k:∀b u,b≠e->h.get? b=U u->h'.get? b=U u)(heo:∃u,h'.get? e=U u)
 (new:BY P w (upd H x o') h' x o'):CA P w (upd H x o') h':=λb u q=>by
 have nown:∀c y,H c=U (.own y)->c≠x:=λc y r z=>by subst z;rw[r] at mu;exact mu
 have ntup:∀c xs,H c=U (.tup xs)->c≠x:=λc xs r z=>by subst z;rw[r] at mu;exact mu
 by_cases hb:b=x
 .subst hb;rw[AN] at q;cases q;exact new
 .rw[AO hb] at q;by_cases hbe:b=e
  .have q':H b=U (.own x):=by
    rcases he with z|z
    .exact absurd (hbe.trans z) hb
    .rw[hbe];exact z
   rw[q] at q';cases q';obtain⟨v,hv⟩:=heo;exact⟨v,by rw[hbe];exact hv⟩
  .refine(ok b u q).Eo (λc v hc r=>k c v ?_ r) (λc r=>by rw[AO (nown c b r)];exact r) λc xs r=>by rw[AO (ntup c xs r)];exact r
   rcases hc with rfl|hc
   .exact hbe
   .rintro rfl;rcases he with z|z
    .exact nown c b hc z
    .rw[hc] at z;cases z;exact hb Z
end
structure Un(fs ex:List OK)(H H':Hp)(h h':sf):Prop where
 keep:∀b o,h.get? b=U o->H b=J->b∉fs->b∉ex->h'.get? b=U o
 slot:∀b o,h.get? b=U o->H b=J->b∈fs->b∉ex->∃sl,h'.get? b=U {o with slots:=sl}
 free:∀b o,h.get? b=U o->H b=J->b∉ex->H' b=J
 there:∀b o,h.get? b=U o->b∉ex->∃o',h'.get? b=U o'
 FC:∀b xs,H b=U (.tup xs)->H' b=U (.tup xs)
 EW:∀b o u,H b=U (.BZ o u)->H' b=U (.BZ o u)
 E9:∀b ps,H b=U (.Jz ps)->∃more,H' b=U (.Jz (ps++more))
variable{H1:Hp}
section
variable{fs fs' ex ex':List OK}{h1 h2:sf}{x e:OK}{o:HO}
def Un.any(u:Un fs ex H H1 h h1){ob:Obj}(q:h.get? b=U ob)(n:H b=J)(hx:b∉ex):∃sl,h1.get? b=U {ob with slots:=sl}:=by
 by_cases hb:b∈fs
 .exact u.slot b ob q n hb hx
 .exact⟨ob.slots,u.keep b ob q n hb hx⟩
def Un.kept(k:∀b u,h.get? b=U u->h'.get? b=U u):Un fs ex H H h h':=
 ⟨λb ob q _ _ _=>k b ob q,λb ob q _ _ _=>⟨ob.slots,k b ob q⟩,λ_ _ _ n _=>n,λb ob q _=>⟨ob,k b ob q⟩,λ_ _ q=>q,λ_ _ _ q=>q,λ_ ps q=>⟨#[],by rw[q];simp⟩⟩
def Un.refl:Un fs ex H H h h:=Un.kept λ_ _ q=>q
def Un.laid(k:∀b u,h.get? b=U u->h'.get? b=U u)(hp:h.objs.size<=a)(hn:H a=J):Un fs ex H (upd H a o) h h' where
 keep:=λb u q _ _ _=>k b u q
 slot:=λb u q _ _ _=>⟨u.slots,k b u q⟩
 free:=λb u q n _=>by rw[AO (BS (C7 (A7 q) hp))];exact n
 there:=λb u q _=>⟨u,k b u q⟩
 FC:=λb xs q=>by rw[AO (A8 q hn)];exact q
 EW:=λb u xs q=>by rw[AO (A8 q hn)];exact q
 E9:=λb ps q=>⟨#[],by rw[AO (A8 q hn),q];simp⟩
def Un.write(mu:OS (H x))(he:e=x\/H e=U (.own x))(k:∀b u,b≠e->h.get? b=U u->h'.get? b=U u)(heo:∃u,h'.get? e=U u):Un fs ex H (upd H x o) h h':=by
 have hx:∀b,H b=J->b≠x:=λb n z=>by subst z;rw[n] at mu;exact mu
 have hb:∀b,H b=J->b≠e:=λb n z=>by
  subst z;rcases he with r|r
  .exact hx b n r
  .rw[n] at r;cases r
 have hm:∀b u,H b=U u->¬OS (U u)->b≠x:=λb u q nm z=>by subst z;rw[q] at mu;exact nm mu
 refine⟨λb u q n _ _=>k b u (hb b n) q,λb u q n _ _=>⟨u.slots,k b u (hb b n) q⟩,λb u q n _=>by rw[AO (hx b n)];exact n,λb u q _=>?_,
  λb xs q=>by rw[AO (hm b _ q λz=>z)];exact q,λb u xs q=>by rw[AO (hm b _ q λz=>z)];exact q,λb ps q=>⟨#[],by rw[AO (hm b _ q λz=>z),q];simp⟩⟩;by_cases hbe:b=e
 .subst hbe;exact heo
 .exact⟨u,k b u hbe q⟩
end
noncomputable def Qu(h:sf)(H:Hp):List OK:=(List.range h.objs.size).filter λa=>(H a).isSome
def JD(h:sf)(H:Hp):sf:=hideAll h (Qu h H)
def fc(h:sf)(H:Hp):(JD h H).objs.size=h.objs.size:=hideAll_size _ _
variable{o:Obj}
def i3(e:h.get? b=U o)(n:H b=J):(JD h H).get? b=U o:=
 hideAll_get _ e λhm=>by have q:(H b).isSome=Y:=(Eg.mp hm).2;rw[n] at q;simp at q
def jz(e:(JD h H).get? b=U o):h.get? b=U o/\H b=J:=by
 have e':h.get? b=U o:=of_hideAll (Qu h H) e;refine⟨e',?_⟩
 cases q:H b with
 |none=>rfl
 |some x=>have hm:b∈Qu h H:=Eg.mpr ⟨Hu.mpr (A7 e'),by simp[q]⟩;have z:(JD h H).get? b=J:=hideAll_none (Qu h H) hm;rw[z] at e;cases e
structure Mod(K:vH)(mg:Str->Option AB)(base:sf):Prop where
 OL:K.In base
 glob:base.Ns dy mg
 blt:∃mb,base.Ns uz mb/\∀x:Str,x≠ "__name__" ->mb x=sq x
 nolimit:base.NoLimit
structure Cx where
 prog:sY
 w:si
 K:vH
 mg:Str->Option AB
 base:sf
 A:tU
 N:List Str
 s₀:Ya
 H₀:Hp
 env:Env
 outer:List Env
 stack:List Env
 ex:List OK
 fn:Str->Bool
 calm:Bool
 pn:List (OK×Obj)
 xe:AB->Ya->Prop
noncomputable def Cr(l:List Env):List OK:=l.filterMap (·.frame)
abbrev Cx.fs(X:Cx):List OK:=Cr X.outer
def Qs(sc:uX)(x:Str):Prop:=sc.names.lookup x=U .local\/sc.names.lookup x=U .cell\/sc.names.lookup x=U .free
def Loc(sc:uX)(x:Str):Prop:=sc.names.lookup x=U .local\/sc.names.lookup x=U .cell
def Look(env:Env)(h:sf)(m:Str->Option AB)(x:Str)(u:AB):Prop:=
 (env.kindOf x=U .local/\m x=U u)\/((env.kindOf x=U .cell\/env.kindOf x=U .free)/\∃c,env.cells.lookup x=U c/\h.IsCell c (U u))
structure Cx.Ok(X:Cx):Prop where
 mod:Mod X.K X.mg X.base
 kind:X.env.scope.kind=.function
 glob:X.env.globals=dy
 blt:X.env.builtins=uz
 above:X.s₀.heap.objs.size<=X.env.locals
 inj:∀x y c,X.env.cells.lookup x=U c->X.env.cells.lookup y=U c->x=y
 has:∀x,(X.env.kindOf x=U .cell\/X.env.kindOf x=U .free)->∃c,X.env.cells.lookup x=U c
 K8:∀x c,X.fn x=Y->X.env.cells.lookup x=U c->X.s₀.heap.objs.size<=c
 hd:X.calm=Y->X.A.handled=J
 frames:X.A.frames=U X.stack
 MX:X.stack=X.outer\/(X.stack=X.env::X.outer/\X.env.frame=U X.env.locals)
 Qn:∀b∈X.ex,b≠X.env.locals/\∀x c,X.env.cells.lookup x=U c->c≠b
 bs:∀b o,X.base.get? b=U o->X.s₀.heap.get? b=U o/\X.H₀ b=J
 Gx:X.base.objs.size<=X.s₀.heap.objs.size
 K0:∀b o,X.base.get? b=U o->b∉X.ex
 K3:∀b∈X.ex,b∉X.fs
 FA:X.s₀.heap.FunFrames X.base X.outer
 IX:∀b∈X.fs,X.H₀ b=J
structure Inv(X:Cx)(pins:List (OK×Obj))(S:List (Option V))(H:Hp)(s:Ya):Prop where
 ok:X.Ok
 os:s.os=X.s₀.os
 bare:uD s.gens
 base:Un X.fs X.ex X.H₀ H X.s₀.heap s.heap
 loc:∃m,s.heap.Ns X.env.locals m/\∀(i:Nat)(x:Str)(v:V),X.N[i]? =U x->S[i]? =U (U v)->Qs X.env.scope x->∃u,RelV v u/\Look X.env s.heap m x u
 cell:∀x c,X.env.cells.lookup x=U c->∃v,s.heap.IsCell c v
 free:H X.env.locals=J
 DK:∀x c,X.env.cells.lookup x=U c->H c=J
 pin:∀p∈X.pn++pins,s.heap.get? p.1=U p.2/\H p.1=J/\p.1≠X.env.locals/\p.1∉X.fs/\∀v,p.2.data≠.cell v
 hok:CA X.prog X.w H s.heap
 len:S.length=X.N.length
variable{X:Cx}
section
variable{S:List (Option V)}
def Cx.Ok.qT(ok:X.Ok)(e:X.base.get? b=U o):b∉X.fs:=λhb=>by have:=(ok.FA.mem hb).1;rw[e] at this;cases this
end
variable{pins:List (OK×Obj)}
section
variable{S:List (Option V)}
theorem Inv.bs(I:Inv X pins S H s):∀b o,X.base.get? b=U o->s.heap.get? b=U o/\H b=J:=λb o e=>⟨I.base.keep b o (I.ok.bs b o e).1 (I.ok.bs b o e).2 (I.ok.qT e) (I.ok.K0 b o e),I.base.free b o (I.ok.bs b o e).1 (I.ok.bs b o e).2 (I.ok.K0 b o e)⟩
def Inv.bk(I:Inv X pins S H s):∀b o,X.base.get? b=U o->s.heap.get? b=U o:=λb o e=>(I.bs b o e).1
theorem Inv.mod(I:Inv X pins S H s):Mod X.K X.mg X.base:=I.ok.mod
def Inv.Bb(I:Inv X pins S H s):X.K.In s.heap:=I.ok.mod.OL.keeps I.bk
def Inv.fr(I:Inv X pins S H s):∃m,Fr X.base X.env.locals s.heap m:=
 let⟨m,hn,_⟩:=I.loc
 ⟨m,hn,I.bk,BI I.ok.Gx I.ok.above⟩
theorem Inv.lt(I:Inv X pins S H s):X.env.locals<s.heap.objs.size:=let⟨_,hn,_⟩:=I.loc;hn.lt
def Inv.sz(I:Inv X pins S H s):X.s₀.heap.objs.size<=s.heap.objs.size:=BI I.ok.above (Ge I.lt)
def Inv.rH(I:Inv X pins S H s)(h:s.heap.objs.size<=a):a∉X.fs:=λhb=>by obtain⟨_,o,ho,_⟩:=I.ok.FA.mem hb;exact absurd (C7 (A7 ho) (BI I.sz h)) (M8 _)
def Inv.J0(I:Inv X pins S H s):∀x c,X.env.cells.lookup x=U c->c≠X.env.locals:=λx c e z=>by obtain⟨v,o,ho,hd⟩:=I.cell x c e;obtain⟨m,⟨o',es,ep,ho',hd',_⟩,_⟩:=I.loc;rw[z,ho'] at ho;cases ho;rw[hd'] at hd;cases hd
theorem Inv.FA(I:Inv X pins S H s):s.heap.FunFrames X.base X.outer:=by
 have all:∀(l:List Env),(∀b∈Cr l,b∈X.fs)->X.s₀.heap.FunFrames X.base l->s.heap.FunFrames X.base l:=by
  intro l
  induction l with
  |nil=>intro _ _;trivial
  |cons env r ih=>intro hs hl;obtain⟨hk,⟨L,o,hf,hn,ho,hd⟩,hr⟩:=hl;have hL:L∈X.fs:=hs L (by delta Cr;rw[RM,hf];exact CV);obtain⟨sl,e⟩:=I.base.slot L o ho (I.ok.IX L hL) hL λz=>I.ok.K3 L z hL;exact⟨hk,⟨L,_,hf,hn,e,hd⟩,ih (λb hb=>hs b (by delta Cr;rw[RM,hf];exact Ce _ hb)) hr⟩
 exact all X.outer (λ_ hb=>hb) I.ok.FA
theorem Inv.stack(I:Inv X pins S H s):s.heap.FunFrames X.base X.stack:=by
 rcases I.ok.MX with e|⟨e,hf⟩
 .rw[e];exact I.FA
 .rw[e];obtain⟨m,hn,_⟩:=I.loc;refine .cons (by rw[I.ok.kind];decide) hf hn ?_ I.FA;exact Heap.get?_none_of_le (BI I.ok.Gx I.ok.above)
def Inv.Nv(I:Inv X pins S H s):∀b∈Cr X.stack,b∈X.env.locals::X.fs:=λb hb=>by
 rcases I.ok.MX with e|⟨e,hf⟩
 .rw[e] at hb;exact Ce _ hb
 .rw[e] at hb;delta Cr at hb;rw[RM,hf] at hb;exact hb
def Inv.Pz(I:Inv X pins S H s):∀b∈Cr X.stack,H b=J:=λb hb=>by
 rcases BM.mp (I.Nv b hb) with e|hb
 .rw[e];exact I.free
 .obtain⟨_,o,ho,_⟩:=I.ok.FA.mem hb;exact I.base.free b o ho (I.ok.IX b hb) λz=>I.ok.K3 b z hb
end
variable{g':Array uH}{t':Nat}{ch:List OK}
section
variable{S:List (Option V)}
def Inv.step{d':Drawn}(I:Inv X pins S H s)
 (hch:∀b∈ch,(b∈X.ex\/X.s₀.heap.objs.size<=b)/\b≠X.env.locals/\(∀x c,X.env.cells.lookup x=U c->c≠b)/\∀p∈X.pn++pins,p.1≠b)
 (keep:∀b o,b≠X.env.locals->b∉X.fs->b∉ch->s.heap.get? b=U o->H b=J->h'.get? b=U o)
 (slot:∀b o,b≠X.env.locals->b∈X.fs->b∉ch->s.heap.get? b=U o->H b=J->∃sl,h'.get? b=U {o with slots:=sl})(free:∀b o,b∉ch->s.heap.get? b=U o->H b=J->H' b=J)
 (there:∀b o,b∉ch->s.heap.get? b=U o->∃o',h'.get? b=U o')
 (FC:∀b xs,H b=U (.tup xs)->H' b=U (.tup xs))(EW:∀b o u,H b=U (.BZ o u)->H' b=U (.BZ o u))(E9:∀b ps,H b=U (.Jz ps)->∃more,H' b=U (.Jz (ps++more)))
 (ns:∀m,s.heap.Ns X.env.locals m->h'.Ns X.env.locals m)(hok:CA X.prog X.w H' h')(hg:uD g'):
 Inv X pins S H' {s with heap:=h',gens:=g',drawn:=d',toks:=t'}:=by
 have neL:∀b o,X.s₀.heap.get? b=U o->b≠X.env.locals:=λb o e=>BS (C7 (A7 e) I.ok.above);have neC:∀b o,X.s₀.heap.get? b=U o->b∉X.ex->b∉ch:=λb o e hx hb=>by
  rcases(hch b hb).1 with z|z
  .exact hx z
  .exact absurd (C7 (A7 e) z) (M8 _)
 have cellK:∀x c,X.env.cells.lookup x=U c->∀v,s.heap.IsCell c v->h'.IsCell c v:=λx c e v ⟨o,ho,hd⟩=>by
  have nch:c∉ch:=λz=>(hch c z).2.2.1 x c e Z;by_cases hc:c∈X.fs
  .obtain⟨sl,q⟩:=slot c o (I.J0 x c e) hc nch ho (I.DK x c e);exact⟨_,q,hd⟩
  .exact⟨o,keep c o (I.J0 x c e) hc nch ho (I.DK x c e),hd⟩
 refine⟨I.ok,I.os,hg,⟨λb o e n hb hx=>?_,λb o e n hb hx=>?_,λb o e n hx=>?_,λb o e hx=>?_,λb xs e=>FC b xs (I.base.FC b xs e),λb o xs e=>EW b o xs (I.base.EW b o xs e),λb ps e=>?_⟩,?_,λx c e=>?_,?_,λx c e=>?_,λp hp=>?_,hok,I.len⟩
 .exact keep b o (neL b o e) hb (neC b o e hx) (I.base.keep b o e n hb hx) (I.base.free b o e n hx)
 .obtain⟨sl,e1⟩:=I.base.slot b o e n hb hx;obtain⟨sl',e2⟩:=slot b _ (neL b o e) hb (neC b o e hx) e1 (I.base.free b o e n hx);exact⟨sl',e2⟩
 .obtain⟨o',e1⟩:=I.base.there b o e hx;exact free b o' (neC b o e hx) e1 (I.base.free b o e n hx)
 .obtain⟨o',e1⟩:=I.base.there b o e hx;exact there b o' (neC b o e hx) e1
 .obtain⟨m1,e1⟩:=I.base.E9 b ps e;obtain⟨m2,e2⟩:=E9 b _ e1;exact⟨m1++m2,by rw[e2,Array.append_assoc]⟩
 .obtain⟨m,hn,hl⟩:=I.loc;refine⟨m,ns m hn,λi x v e1 e2 e3=>?_⟩;obtain⟨u,r,l⟩:=hl i x v e1 e2 e3;refine⟨u,r,?_⟩;rcases l with l|⟨k,c,e,z⟩
  .exact .inl l
  .exact .inr ⟨k,c,e,cellK x c e _ z⟩
 .obtain⟨v,z⟩:=I.cell x c e;exact⟨v,cellK x c e v z⟩
 .obtain⟨m,⟨o,_,_,ho,_⟩,_⟩:=I.loc;exact free _ o (λz=>(hch _ z).2.1 Z) ho I.free
 .obtain⟨v,o,ho,hd⟩:=I.cell x c e;exact free c o (λz=>(hch c z).2.2.1 x c e Z) ho (I.DK x c e)
 .obtain⟨e,n,ne,nf,d⟩:=I.pin p hp;have nch:p.1∉ch:=λz=>(hch p.1 z).2.2.2 p hp Z;exact⟨keep p.1 p.2 ne nf nch e n,free p.1 p.2 nch e n,ne,nf,d⟩
def Inv.un(I:Inv X pins S H s)(u:Un X.fs [] H H' s.heap h')(hok:CA X.prog X.w H' h'):Inv X pins S H' {s with heap:=h',toks:=t'}:=by
 obtain⟨m,⟨o,es,ep,ho,r⟩,_⟩:=id I.loc;obtain⟨sl,hL⟩:=u.any ho I.free (by simp);exact I.step (g':=s.gens) (d':=s.drawn) (ch:=[]) (λ_ z=>nomatch z) (λb o _ hb _ e n=>u.keep b o e n hb (by simp)) (λb o _ hb _ e n=>u.slot b o e n hb (by simp)) (λb o _ e n=>u.free b o e n (by simp)) (λb o _ e=>u.there b o e (by simp)) u.FC u.EW u.E9 (λm' hm=>by obtain⟨o',es',ep',ho',r'⟩:=hm;rw[ho] at ho';cases ho';exact⟨_,es',ep',hL,r'⟩) hok I.bare
def Inv.call{d':Drawn}(I:Inv X pins S H s)(u:Un (Cr X.stack) ch H H' s.heap h')(hok:CA X.prog X.w H' h')(hg:uD g')
 (hch:∀b∈ch,(b∈X.ex\/X.s₀.heap.objs.size<=b)/\b≠X.env.locals/\(∀x c,X.env.cells.lookup x=U c->c≠b)/\∀p∈X.pn++pins,p.1≠b):
 Inv X pins S H' {s with heap:=h',gens:=g',drawn:=d',toks:=t'}:=by
 obtain⟨m,⟨o,es,ep,ho,r⟩,_⟩:=id I.loc;obtain⟨sl,hL⟩:=u.any ho I.free λz=>(hch _ z).2.1 Z;exact I.step (ch:=ch) hch (λb o hL hb hc e n=>u.keep b o e n (λz=>(BM.mp (I.Nv b z)).elim hL hb) hc) (λb o _ _ hc e n=>u.any e n hc) (λb o hc e n=>u.free b o e n hc) (λb o hc e=>u.there b o e hc) u.FC u.EW u.E9 (λm' hm=>by obtain⟨o',es',ep',ho',r'⟩:=hm;rw[ho] at ho';cases ho';exact⟨_,es',ep',hL,r'⟩) hok hg
def Inv.turned{it:OK}(I:Inv X pins S H s)(k:∀b o,b≠it->s.heap.get? b=U o->h'.get? b=U o)(hn:H it=J)(hL:it≠X.env.locals)
 (h1:it∈X.ex\/X.s₀.heap.objs.size<=it)(h2:∀x c,X.env.cells.lookup x=U c->c≠it)(h3:∀p∈X.pn++pins,p.1≠it):Inv X pins S H {s with heap:=h',toks:=t'}:=by
 have nit:∀b u,H b=U u->b≠it:=λb u e z=>by rw[z,hn] at e;cases e
 refine I.step (g':=s.gens) (d':=s.drawn) (ch:=[it]) (λb hb=>?_) (λb o _ _ hc e _=>k b o (λz=>hc (by simp[z])) e) (λb o _ _ hc e _=>⟨o.slots,k b o (λz=>hc (by simp[z])) e⟩) (λ_ _ _ _ n=>n)
  (λb o hc e=>⟨o,k b o (λz=>hc (by simp[z])) e⟩) (λ_ _ e=>e) (λ_ _ _ e=>e) (λb ps e=>⟨#[],by rw[e];simp⟩) (λm hm=>?_) (λb u e=>?_) I.bare
 .have e:b=it:=by simpa using hb
  subst e;exact⟨h1,hL,h2,h3⟩
 .obtain⟨o,es,ep,ho,r⟩:=hm;exact⟨o,es,ep,k _ o (DI hL) ho,r⟩
 .refine(I.hok b u e).Eo (λc v hc q=>k c v ?_ q) (λ_ q=>q) λ_ _ q=>q;rcases hc with z|z
  .rw[z];exact nit b u e
  .exact nit c _ z
def Inv.tok(I:Inv X pins S H s)(t:Nat):Inv X pins S H {s with toks:=t}:=I.un (h':=s.heap) (t':=t) Un.refl I.hok
theorem Inv.kept{t':Nat}(I:Inv X pins S H s)(k:∀b u,s.heap.get? b=U u->h'.get? b=U u):Inv X pins S H {s with heap:=h',toks:=t'}:=I.un (Un.kept k) (I.hok.kept k)
theorem Inv.laid{a:OK}{o:HO}{t':Nat}(I:Inv X pins S H s)(k:∀b u,s.heap.get? b=U u->h'.get? b=U u)(hp:s.heap.objs.size<=a)(new:BY X.prog X.w (upd H a o) h' a o):
 Inv X pins S (upd H a o) {s with heap:=h',toks:=t'}:=I.un (Un.laid k hp (I.hok.fresh hp)) (I.hok.laid k hp new)
theorem Inv.write{x e:OK}{o:HO}{t':Nat}(I:Inv X pins S H s)(mu:OS (H x))(he:e=x\/H e=U (.own x))(k:∀b u,b≠e->s.heap.get? b=U u->h'.get? b=U u)(heo:∃u,h'.get? e=U u)
 (new:BY X.prog X.w (upd H x o) h' x o):Inv X pins S (upd H x o) {s with heap:=h',toks:=t'}:=I.un (Un.write mu he k heo) (I.hok.write mu he k heo new)
def Inv.weak{S':List (Option V)}(I:Inv X pins S H s)(hl:S'.length=S.length)(w:∀(i:Nat) v,S'[i]? =U (U v)->S[i]? =U (U v)):Inv X pins S' H s:=
 ⟨I.ok,I.os,I.bare,I.base,let⟨m,hn,hl'⟩:=I.loc;⟨m,hn,λi x v e1 e2 e3=>hl' i x v e1 (w i v e2) e3⟩,I.cell,I.free,I.DK,I.pin,I.hok,hl.trans I.len⟩
def Inv.YL{pins':List (OK×Obj)}(I:Inv X pins S H s)(h:∀p∈pins',s.heap.get? p.1=U p.2/\H p.1=J/\p.1≠X.env.locals/\p.1∉X.fs/\∀v,p.2.data≠.cell v):Inv X pins' S H s:=
 ⟨I.ok,I.os,I.bare,I.base,I.loc,I.cell,I.free,I.DK,λp hp=>(Be.mp hp).elim (λz=>I.pin p (GZ _ z)) (h p),I.hok,I.len⟩
end
variable{N:List Str}{i j:Nat}{x:Str}
section
variable{S:List (Option V)}
def X2(hN:N.Nodup)(a:N[i]? =U x)(b:N[j]? =U x):i=j:=by obtain⟨h1,e1⟩:=BP.mp a;obtain⟨h2,e2⟩:=BP.mp b;exact(List.getElem_inj hN).mp (e1.trans e2.symm)
end
variable{M:Model}{A:tU}{E:AB->Ya->Prop}{v:V}{u:AB}
section
variable{S:List (Option V)}
def Wr{Q:Unit->Ya->Prop}(I:Inv X pins S H s)(hN:X.N.Nodup)(hi:X.N[i]? =U x)(hx:Loc X.env.scope x)(r:RelV v u)
 (h:∀s',Inv X pins (S.set i (U v)) H s'->(∃a,Heap.SameBut a s.heap s'.heap/\(a=X.env.locals\/X.env.cells.lookup x=U a))->Q () s')(hf:X.fn x=Y\/X.env.scope.names.lookup x=U .local):ax M A (storeName X.env x u) Q E s:=by
 obtain⟨m,hn,hl⟩:=id I.loc;have hcls:(X.env.scope.kind==.class||(X.env.scope.kind==.module&&X.env.locals !=X.env.globals))=vc:=by rw[I.ok.kind];rfl
 have hiσ:i<S.length:=by rw[I.len];exact(BP.mp hi).1
 have J0:=I.J0;have tracked:∀{a:OK}{h':sf},(∃o,s.heap.get? a=U o/\H a=J)->Heap.SameBut a s.heap h'->CA X.prog X.w H h':=λ{a h'} ha hs b ob e=>by
  obtain⟨_,_,hfree⟩:=ha;refine(I.hok b ob e).Eo (λc w' hc q=>(hs.2 c ?_).trans q) (λ_ q=>q) λ_ _ q=>q;rintro rfl;rcases hc with rfl|hc
  .rw[hfree] at e;cases e
  .rw[hfree] at hc;cases hc
 rcases hx with hk|hk
 .refine wpAny_storeName_local hk hn (λh' hn' hs=>?_) hcls;obtain⟨oL,_,_,hoL,_⟩:=id hn;refine h _ ⟨I.ok,I.os,I.bare,⟨λb o e n hb hx=>?_,λb o e n hb hx=>?_,I.base.free,λb o e hx=>?_,I.base.FC,I.base.EW,I.base.E9⟩,⟨_,hn',λj y v' e1 e2 e3=>?_⟩,λy c e=>?_,I.free,I.DK,λp hp=>?_,tracked ⟨oL,hoL,I.free⟩ hs,by simpa using I.len⟩ ⟨_,hs,.inl Z⟩
  .exact(hs.2 b (BS (C7 (A7 e) I.ok.above))).trans (I.base.keep b o e n hb hx)
  .obtain⟨sl,e1⟩:=I.base.slot b o e n hb hx;exact⟨sl,(hs.2 b (BS (C7 (A7 e) I.ok.above))).trans e1⟩
  .obtain⟨o',e1⟩:=I.base.there b o e hx;exact⟨o',(hs.2 b (BS (C7 (A7 e) I.ok.above))).trans e1⟩
  .by_cases hj:j=i
   .subst hj;rw[hi] at e1;cases e1;rw[Og hiσ] at e2;cases e2;exact⟨u,r,.inl ⟨hk,by simp⟩⟩
   .rw[Ol (DI hj)] at e2;obtain⟨u',r',q⟩:=hl j y v' e1 e2 e3;refine⟨u',r',?_⟩;rcases q with⟨k,e⟩|⟨k,c,e,z⟩
    .refine .inl ⟨k,?_⟩;have:y≠x:=λe=>hj (X2 hN e1 (e▸hi));simp[this,e]
    .exact .inr ⟨k,c,e,z.sameBut hs (J0 y c e)⟩
  .obtain⟨w',z⟩:=I.cell y c e;exact⟨w',z.sameBut hs (J0 y c e)⟩
  .obtain⟨e,n,ne,nf,d⟩:=I.pin p hp;exact⟨(hs.2 p.1 ne).trans e,n,ne,nf,d⟩
 .have hfn:X.fn x=Y:=by
   rcases hf with z|z
   .exact z
   .rw[z] at hk;cases hk
  obtain⟨c,hc⟩:=I.ok.has x (.inl hk);obtain⟨w',z⟩:=I.cell x c hc;refine wpAny_storeName_cell I.ok.kind hk hc z (λh' hc' hs=>?_);obtain⟨oc,hoc,hocd⟩:=id z;refine h {s with heap:=h'} ⟨I.ok,I.os,I.bare,⟨λb o e n hb hx=>?_,λb o e n hb hx=>?_,I.base.free,λb o e hx=>?_,I.base.FC,I.base.EW,I.base.E9⟩,⟨m,hn.sameBut hs (DI (J0 x c hc)),λj y v' e1 e2 e3=>?_⟩,λy c' e=>?_,I.free,I.DK,λp hp=>?_,tracked ⟨oc,hoc,I.DK x c hc⟩ hs,by simpa using I.len⟩ ⟨c,hs,.inr hc⟩
  .exact(hs.2 b (BS (C7 (A7 e) (I.ok.K8 x c hfn hc)))).trans (I.base.keep b o e n hb hx)
  .obtain⟨sl,e1⟩:=I.base.slot b o e n hb hx;exact⟨sl,(hs.2 b (BS (C7 (A7 e) (I.ok.K8 x c hfn hc)))).trans e1⟩
  .obtain⟨o',e1⟩:=I.base.there b o e hx;exact⟨o',(hs.2 b (BS (C7 (A7 e) (I.ok.K8 x c hfn hc)))).trans e1⟩
  .by_cases hj:j=i
   .subst hj;rw[hi] at e1;cases e1;rw[Og hiσ] at e2;cases e2;exact⟨u,r,.inr ⟨.inl hk,c,hc,hc'⟩⟩
   .rw[Ol (DI hj)] at e2;obtain⟨u',r',q⟩:=hl j y v' e1 e2 e3;refine⟨u',r',?_⟩;rcases q with q|⟨k,c',e,z'⟩
    .exact .inl q
    .refine .inr ⟨k,c',e,z'.sameBut hs ?_⟩;rintro rfl;exact hj (X2 hN e1 (I.ok.inj _ _ _ e hc▸hi))
  .by_cases hcc:c'=c
   .subst hcc;exact⟨_,hc'⟩
   .obtain⟨w2,z2⟩:=I.cell y c' e;exact⟨w2,z2.sameBut hs hcc⟩
  .obtain⟨e,n,ne,nf,d⟩:=I.pin p hp;refine⟨(hs.2 p.1 ?_).trans e,n,ne,nf,d⟩;intro q;rw[q,hoc] at e;have q':oc=p.2:=AZ e;exact d w' (by rw[<-q'];exact hocd)
def Se{Q:Unit->Ya->Prop}(I:Inv X pins S H s)(hN:X.N.Nodup)(hi:X.N[i]? =U x)(hx:Loc X.env.scope x)(r:RelV v u)
 (h:∀s',Inv X pins (S.set i (U v)) H s'->Q () s')(hf:X.fn x=Y\/X.env.scope.names.lookup x=U .local):ax M A (storeName X.env x u) Q E s:=
 Wr I hN hi hx r (λs' I' _=>h s' I') hf
def Inv.QQ{s':Ya}(I:Inv X pins S H s)(ho:s'.os=s.os)(u:Un (Cr X.stack) ch H H' s.heap s'.heap)(hok:CA X.prog X.w H' s'.heap)(hg:uD s'.gens)
 (hch:∀b∈ch,(b∈X.ex\/X.s₀.heap.objs.size<=b)/\b≠X.env.locals/\(∀x c,X.env.cells.lookup x=U c->c≠b)/\∀p∈X.pn++pins,p.1≠b):Inv X pins S H' s':=by
 obtain⟨h',g',d',t',o'⟩:=s';have e:o'=s.os:=ho;subst e;exact I.call (g':=g') (t':=t') (d':=d') u hok hg hch
end
abbrev XK:=AB->Option OK->Hp->Prop
abbrev St:=List (Option V)
abbrev VK:=V->Hp->Prop
abbrev TE:=St->Hp->VK->Prop
abbrev TT:=St->Hp->(Bool->Hp->Prop)->Prop
abbrev TA:=St->Hp->(List V->Hp->Prop)->Prop
structure Ends where
 nx:St->Hp->Prop
 rt:VK
 bk:St->Hp->Prop:=λ_ _=>False
 ct:St->Hp->Prop:=λ_ _=>False
abbrev TS:=Ends->St->Hp->Prop
def EP(X:Cx)(pins:List (OK×Obj))(S:St)(Q:VK)(u:AB)(s':Ya):Prop:=∃v H',Inv X pins S H' s'/\RelV v u/\Q v H'
def TP(X:Cx)(pins:List (OK×Obj))(S:St)(Q:Bool->Hp->Prop)(b:Bool)(s':Ya):Prop:=∃H',Inv X pins S H' s'/\Q b H'
def AP(X:Cx)(pins:List (OK×Obj))(S:St)(Q:List V->Hp->Prop)(us:List AB)(s':Ya):Prop:=∃vs H',Inv X pins S H' s'/\Vals vs us/\Q vs H'
def SP(X:Cx)(pins:List (OK×Obj))(D:Ends)(f:Flow)(s':Ya):Prop:=
 match f with
 |.next=>∃S' H',Inv X pins S' H' s'/\D.nx S' H'
 |.brk=>∃S' H',Inv X pins S' H' s'/\D.bk S' H'
 |.cont=>∃S' H',Inv X pins S' H' s'/\D.ct S' H'
 |.ret u=>∃v S' H',Inv X pins S' H' s'/\RelV v u/\D.rt v H'
def PE(X:Cx)(e:hY)(t:TE):Prop:=
 ∀(pins:List (OK×Obj))(s:Ya)(S:St)(H:Hp)(Q:VK),Inv X pins S H s->t S H Q->ax (Yf X.prog X.w) X.A (sd e X.env) (EP X pins S Q) X.xe s
def PT(X:Cx)(e:hY)(t:TT):Prop:=
 ∀(pins:List (OK×Obj))(s:Ya)(S:St)(H:Hp)(Q:Bool->Hp->Prop),Inv X pins S H s->t S H Q->ax (Yf X.prog X.w) X.A (isTrue e X.env (sd e X.env)) (TP X pins S Q) X.xe s
def PW(X:Cx)(e:hY)(t:TT):Prop:=
 ∀(whole:Sem AB)(pins:List (OK×Obj))(s:Ya)(S:St)(H:Hp)(Q:Bool->Hp->Prop),Inv X pins S H s->t S H Q->ax (Yf X.prog X.w) X.A (isTrue e X.env whole) (TP X pins S Q) X.xe s
variable{e:hY}
def PW.pt{t:TT}(h:PW X e t):PT X e t:=h _
def PA(X:Cx)(es:List hY)(t:TA):Prop:=
 ∀(pos:Pos)(pins:List (OK×Obj))(s:Ya)(S:St)(H:Hp)(Q:List V->Hp->Prop),Inv X pins S H s->t S H Q->ax (Yf X.prog X.w) X.A (spliced (tF pos (dq es X.env))) (AP X pins S Q) X.xe s
def PS(X:Cx)(st:hX)(t:TS):Prop:=
 ∀(pins:List (OK×Obj))(s:Ya)(S:St)(H:Hp)(D:Ends),Inv X pins S H s->t D S H->ax (Yf X.prog X.w) X.A (exec st X.env) (SP X pins D) X.xe s
def Et(X:Cx)(st:List hX)(t:TS):Prop:=
 ∀(pins:List (OK×Obj))(s:Ya)(S:St)(H:Hp)(D:Ends),Inv X pins S H s->t D S H->ax (Yf X.prog X.w) X.A (execs st X.env) (SP X pins D) X.xe s
def Ad{t:Sem α}{Q Q':α->Ya->Prop}(h:ax M A t Q E s)(hQ:∀a s,Q a s->Q' a s):ax M A t Q' E s:=DA h hQ λ_ _ x=>x
section
variable{a b:hY}{tb:TE}{tA tB':TT}{rest:List hY}
def Es(i:Nat):TE:=λS H Q=>∃v,S[i]? =U (U v)/\Q v H
def tC(v:V):TE:=λ_ H Q=>Q v H
end
variable{pos:Pos}
section
variable{a b:hY}{tb:TE}{tA tB':TT}{rest:List hY}
def ZQ(hN:X.N[i]? =U x)(hv:Qs X.env.scope x)(hd:(x==("__debug__" :Str))=vc:=by decide)(hcd:(x==("__classdict__" :Str))=vc:=by decide):PE X (.Name x pos) (Es i):=by
 intro pins s S H Q I h;obtain⟨v,e,h⟩:=h;obtain⟨m,hn,hl⟩:=I.loc;obtain⟨u,r,l⟩:=hl i x v hN e hv;have fin:EP X pins S Q u s:=⟨v,H,I,r,h⟩;rcases l with⟨hk,hm⟩|⟨hk,c,hc,hcell⟩
 .exact wpAny_Name (wpAny_loadName_local I.ok.kind hk hn hm fin) hd
 .rcases hk with hk|hk
  .exact wpAny_Name (wpAny_loadName_cell I.ok.kind hk hc hcell fin) hd
  .exact wpAny_Name (wpAny_loadName_free I.ok.kind hk hc hcell fin hcd) hd
def Aa{X:Cx}{i j pos}:PE X (.Constant (.int i) j pos) (tC (.int i)):=λ_ _ _ H _ I h=>wpAny_Constant_int ⟨.int i,H,I.tok _,⟨_,Z⟩,h⟩
def IF{b j pos}:PE X (.Constant (.bool b) j pos) (tC (.bl b)):=λ_ _ _ H _ I h=>Constant_bool ⟨.bl b,H,I,Z,h⟩
def ZF{j pos}:PE X (.Constant .none j pos) (tC .BB):=λ_ _ _ H _ I h=>vG ⟨.BB,H,I,Z,h⟩
def Ab{X:Cx}{x j pos}:PE X (.Constant (.str x) j pos) (tC (.str x)):=λ_ _ _ H _ I h=>Vs ⟨.str x,H,I.tok _,⟨_,Z⟩,h⟩
def Gl(X:Cx)(x:Str):Prop:=X.env.kindOf x=U .globalImplicit
end
variable{S:St}{Q:AB->Ya->Prop}
section
variable{a b:hY}{tb:TE}{tA tB':TT}{rest:List hY}
def Lp(I:Inv X pins S H s)(hg:Gl X x)(hm:X.mg x=U u)(h:Q u s)
 (hd:(x==("__debug__" :Str))=vc:=by decide):ax (Yf X.prog X.w) X.A (sd (.Name x pos) X.env) Q E s:=
 Calls.Name_function_global I.ok.kind hg (Calls.loadGlobal_global (by rw[I.ok.glob];exact I.mod.glob.keeps I.bk) hm h) hd
def L3(I:Inv X pins S H s)(hg:Gl X x)(hm:X.mg x=J)(hv:sq x=U u)(h:Q u s)
 (hn:x≠ "__name__" :=by decide)(hd:(x==("__debug__" :Str))=vc:=by decide):ax (Yf X.prog X.w) X.A (sd (.Name x pos) X.env) Q E s:=by
 obtain⟨mb,h1,h2⟩:=I.mod.blt;exact Calls.Name_function_global I.ok.kind hg (Calls.loadGlobal_builtin (by rw[I.ok.glob];exact I.mod.glob.keeps I.bk) hm (by rw[I.ok.blt];exact h1.keeps I.bk) ((h2 x hn).trans hv) h) hd
def F2(hg:Gl X x)(hm:X.mg x=J)(hv:sq x=U u)(r:RelV v u)(hn:x≠ "__name__" :=by decide)(hd:(x==("__debug__" :Str))=vc:=by decide):PE X (.Name x pos) (tC v):=
 λ_ _ _ H _ I h=>L3 I hg hm hv ⟨v,H,I,r,h⟩ hn hd
def PC(X:Cx)(op:CmpOp)(a b:hY)(t:TE):Prop:=
 ∀(pins:List (OK×Obj))(s:Ya)(S:St)(H:Hp)(Q:VK),Inv X pins S H s->t S H Q->
  ax (Yf X.prog X.w) X.A (sd a X.env) (λv s₁=>ax (Yf X.prog X.w) X.A (sd b X.env) (λu s₂=>ax (Yf X.prog X.w) X.A (sZ op v u) (EP X pins S Q) X.xe s₂) X.xe s₁) X.xe s
end
variable{op:CmpOp}
section
variable{a b:hY}{tb:TE}{tA tB':TT}{rest:List hY}
def jZ(b:hY)(h:op≠.In)(h2:op≠.NotIn):behindInMarks op b=vc:=by
 have e1:(op==CmpOp.In)=vc:=by cases op<;>first|rfl|exact absurd Z h
 have e2:(op==CmpOp.NotIn)=vc:=by cases op<;>first|rfl|exact absurd Z h2
 cases b<;>simp[behindInMarks,e1,e2]
end
variable{ta:TE}
section
variable{a b:hY}{tb:TE}{tA tB':TT}{rest:List hY}
def qz(ta:TE):TE:=λS H Q=>ta S H λx H1=>Q (.bl (decide (x=.BB))) H1
def oG(ta:TE):TE:=λS H Q=>ta S H λx H1=>Q (.bl (!decide (x=.BB))) H1
def RelV.XE{x:V}{v:AB}(r:RelV x v):(v==Value.none)=decide (x=.BB):=by
 cases x with
 |BB=>cases r;rfl
 |bl _=>cases r;rfl
 |int _=>obtain⟨t,rfl⟩:=r;rfl
 |str _=>obtain⟨t,rfl⟩:=r;rfl
 |GG _=>obtain⟨t,rfl⟩:=r;rfl
 |JG _=>obtain⟨t,rfl⟩:=r;rfl
 |ref _=>cases r;rfl
 |ty _=>cases r;rfl
def lP{j pos'}(ha:PE X a ta):PC X .Is a (.Constant .none j pos') (qz ta):=by intro pins s S H Q I h;refine Ad (ha pins s S H _ I h) λv s1 ⟨x,H1,I1,r1,q1⟩=>?_;exact vG (is_none_gen ⟨.bl _,H1,I1,by rw[r1.XE];rfl,q1⟩)
def kf{j pos'}(ha:PE X a ta):PC X .IsNot a (.Constant .none j pos') (oG ta):=by intro pins s S H Q I h;refine Ad (ha pins s S H _ I h) λv s1 ⟨x,H1,I1,r1,q1⟩=>?_;exact vG (isnot_none_gen ⟨.bl _,H1,I1,by rw[r1.XE];rfl,q1⟩)
def tB(t:TE):TT:=λS H Q=>t S H λx H1=>∃c,x=.bl c/\Q c H1
def Jj{t:TE}(h:PC X op a b t)(h1:behindInMarks op b=vc:=by rfl):PT X (.Compare a [op] [b] pos) (tB t):=by intro pins s S H Q I hw;refine wpAny_isTrue_Compare1 (Ad (h pins s S H _ I hw) λv s1 h1=>Ad h1 λu s2 h2=>Ad h2 λc s3 ⟨x,H1,I1,r1,q1⟩=>?_) h1;obtain⟨d,rfl,q⟩:=q1;cases r1;exact Mw ⟨H1,I1,q⟩
def Ej{t:TE}(h:PE X e t)(he:∀whole,isTrue e X.env whole=(do let v<-whole;standAt e.pos;uP [v] (truthy v)):=by intro _;rfl):PT X e (tB t):=by intro pins s S H Q I hw;refine isTrue_plain (Ad (h pins s S H _ I hw) λv s1 ⟨x,H1,I1,r1,q1⟩=>?_) (he _);obtain⟨d,rfl,q⟩:=q1;cases r1;exact Mw ⟨H1,I1,q⟩
def Uy(t u:TT):TT:=λS H Q=>t S H λc H1=>if c=Y then u S H1 Q else Q vc H1
def sP(t u:TT):TT:=λS H Q=>t S H λc H1=>if c=Y then Q Y H1 else u S H1 Q
def rK(t:TT):TT:=λS H Q=>t S H λc H1=>Q (!c) H1
def HV(ha:PT X a tA):PW X (.BoolOp .And [a] pos) tA:=by
 intro wh pins s S H Q I h;refine isTrue_and (Ad (ha pins s S H Q I h) λc s1 e=>?_)
 cases c with
 |true=>exact isTrue_and_nil e
 |false=>exact e
def Io(ha:PT X a tA):PW X (.BoolOp .Or [a] pos) tA:=by
 intro wh pins s S H Q I h;refine isTrue_or (Ad (ha pins s S H Q I h) λc s1 e=>?_)
 cases c with
 |false=>exact isTrue_or_nil e
 |true=>exact e
def FY(ha:PT X a tA)(hb:PW X (.BoolOp .And (b::rest) pos) tB'):PW X (.BoolOp .And (a::b::rest) pos) (Uy tA tB'):=by
 intro wh pins s S H Q I h;refine isTrue_and (Ad (ha pins s S H _ I h) λc s1 ⟨H1,I1,q1⟩=>?_)
 cases c with
 |true=>exact hb wh pins s1 S H1 Q I1 q1
 |false=>exact⟨H1,I1,q1⟩
def Iw(ha:PT X a tA)(hb:PW X (.BoolOp .Or (b::rest) pos) tB'):PW X (.BoolOp .Or (a::b::rest) pos) (sP tA tB'):=by
 intro wh pins s S H Q I h;refine isTrue_or (Ad (ha pins s S H _ I h) λc s1 ⟨H1,I1,q1⟩=>?_)
 cases c with
 |true=>exact⟨H1,I1,q1⟩
 |false=>exact hb wh pins s1 S H1 Q I1 q1
def Ip(ha:PT X a tA):PT X (.UnaryOp .Not a pos) (rK tA):=by intro pins s S H Q I h;exact isTrue_not (ha pins s S H (λc H1=>Q (!c) H1) I h)
def oS(ta tb:TE):TE:=λS H Q=>ta S H λx H1=>∃c,x=.bl c/\if c=Y then tb S H1 Q else Q (.bl vc) H1
def pq(ta:TE):TE:=λS H Q=>ta S H λx H1=>∃c,x=.bl c/\Q (.bl (!c)) H1
def QC{op}{t:TE}(h:PE X a t):PE X (.BoolOp op [a] pos) t:=λpins s S H Q I hw=>BoolOp_one (h pins s S H Q I hw)
def P7(ha:PE X a ta)(hb:PE X (.BoolOp .And (b::rest) pos) tb):PE X (.BoolOp .And (a::b::rest) pos) (oS ta tb):=by
 intro pins s S H Q I h;refine BoolOp_and (Ad (ha pins s S H _ I h) λv s1 ⟨x,H1,I1,r1,q1⟩=>?_);obtain⟨c,rfl,q1⟩:=q1;cases r1;refine Mw ?_
 cases c with
 |true=>exact hb pins s1 S H1 Q I1 q1
 |false=>exact⟨.bl vc,H1,I1,Z,q1⟩
def nF(ha:PE X a ta):PE X (.UnaryOp .Not a pos) (pq ta):=by intro pins s S H Q I h;refine UnaryOp_ (Ad (ha pins s S H _ I h) λv s1 ⟨x,H1,I1,r1,q1⟩=>?_);obtain⟨c,rfl,q1⟩:=q1;cases r1;exact not_of (Mw ⟨.bl (!c),H1,I1,Z,q1⟩)
def sL(t:TT)(ta tb:TE):TE:=λS H Q=>t S H λc H1=>if c=Y then ta S H1 Q else tb S H1 Q
end
variable{c:hY}
section
variable{a b:hY}{tb:TE}{tA tB':TT}{rest:List hY}
def jD(hc:PT X c tA)(ha:PE X a ta)(hb:PE X b tb):PE X (.IfExp c a b pos) (sL tA ta tb):=by
 intro pins s S H Q I h;refine wpAny_IfExp (Ad (hc pins s S H _ I h) λd s1 ⟨H1,I1,q1⟩=>?_)
 cases d with
 |true=>exact ha pins s1 S H1 Q I1 q1
 |false=>exact hb pins s1 S H1 Q I1 q1
end
def AL(K:vH)(H:Hp)(a:OK)(xs:List V):Prop:=
 Rd H a (.lst xs)\/
  ∃(o:Obj)(AV:Array AB)(n:Nat),K.lookup a=U o/\o.cls=.type "list" /\o.dict=J/\o.data=.seq AV n/\AV.size<=sizeLine/\Vals xs AV.toList
def AS(K:vH)(H:Hp)(a:OK)(xs:List V):Prop:=
 Rd H a (.tup xs)\/
  ∃(o:Obj)(AV:Array AB)(n:Nat),K.lookup a=U o/\o.cls=.type "tuple" /\o.data=.seq AV n/\AV.size<=sizeLine/\Vals xs AV.toList
noncomputable def qZ:AB->Option V
 |.none=>U .BB
 |.bool b=>U (.bl b)
 |.int i _=>U (.int i)
 |.str x _=>U (.str x)
 |.bytes b _=>U (.GG b)
 |.float b _=>U (.JG b)
 |.ref a=>U (.ref a)
 |.type n=>U (.ty n)
 |_=>J
def RelV.abs{x:V}(r:RelV x u):qZ u=U x:=by
 cases x with
 |BB=>cases r;rfl
 |bl _=>cases r;rfl
 |int _=>obtain⟨t,rfl⟩:=r;rfl
 |str _=>obtain⟨t,rfl⟩:=r;rfl
 |GG _=>obtain⟨t,rfl⟩:=r;rfl
 |JG _=>obtain⟨t,rfl⟩:=r;rfl
 |ref _=>cases r;rfl
 |ty _=>cases r;rfl
def RelV.inj{x y:V}{u:AB}(r:RelV x u)(q:RelV y u):x=y:=AZ (r.abs.symm.trans q.abs)
theorem Vals.inj:∀{xs ys:List V}{us:List AB},Vals xs us->Vals ys us->xs=ys
 |_,_,_,.nil,.nil=>rfl
 |_,_,_,.cons r t,.cons r' t'=>by rw[r.inj r',Vals.inj t t']
variable{K:vH}
section
variable{xs:List V}
def AL.of(h:H a=U (.lst xs)):AL K H a xs:=.inl (.inl h)
def AS.of(h:H a=U (.tup xs)):AS K H a xs:=.inl (.inl h)
def Inv.list(I:Inv X pins S H s)(h:AL X.K H a xs):∃AV:List AB,Vals xs AV/\PlainL s.heap a AV.toArray/\xs.length<=sizeLine:=by
 rcases h with h|⟨o,AV,n,hk,hc,hd,hs,hz,r⟩
 .obtain⟨z,AV,n,r,e⟩:=h.ok I.hok;exact⟨AV,r,⟨_,n,e,Z,Z,Z⟩,z⟩
 .refine⟨AV.toList,r,⟨o,n,I.Bb a o hk,hc,hd,by simpa using hs⟩,?_⟩;have e:=r.length;simp only[FH] at e
  lia
def Inv.tuple(I:Inv X pins S H s)(h:AS X.K H a xs):∃AV:List AB,Vals xs AV/\IsTup s.heap a AV.toArray/\xs.length<=sizeLine:=by
 rcases h with h|⟨o,AV,n,hk,hc,hs,hz,r⟩
 .obtain⟨z,AV,r,p⟩:=h.ok I.hok;exact⟨AV,r,p,z⟩
 .refine⟨AV.toList,r,⟨o,I.Bb a o hk,hc,n,by simpa using hs⟩,?_⟩;have e:=r.length;simp only[FH] at e
  lia
end
variable{ys:List V}
section
variable{xs:List V}
def Inv.XG(I:Inv X pins S H s)(h:AL X.K H a xs)(h':AL X.K H a ys):xs=ys:=by
 obtain⟨AV,r,⟨o,n,e,_,_,d⟩,_⟩:=I.list h;obtain⟨its',r',⟨o',n',e',_,_,d'⟩,_⟩:=I.list h';rw[e] at e';cases e';rw[d] at d';injection d' with d1 _;have:AV=its':=by simpa using A2 Array.toList d1
 subst this;exact r.inj r'
def Inv.fF(I:Inv X pins S H s)(h:AS X.K H a xs)(h':AS X.K H a ys):xs=ys:=by
 obtain⟨AV,r,⟨o,e,_,n,d⟩,_⟩:=I.tuple h;obtain⟨its',r',⟨o',e',_,n',d'⟩,_⟩:=I.tuple h';rw[e] at e';cases e';rw[d] at d';injection d' with d1 _;have:AV=its':=by simpa using A2 Array.toList d1
 subst this;exact r.inj r'
end
abbrev Cx.IK(X:Cx)(E:AB->Ya->Prop):Cx:={X with xe:=E}
abbrev Cx.Qt(X:Cx):Cx:=X.IK λ_ _=>False
theorem Cx.Ok.IK(ok:X.Ok)(E:AB->Ya->Prop):(X.IK E).Ok:=
 ⟨ok.mod,ok.kind,ok.glob,ok.blt,ok.above,ok.inj,ok.has,ok.K8,ok.hd,ok.frames,ok.MX,ok.Qn,ok.bs,ok.Gx,ok.K0,ok.K3,ok.FA,ok.IX⟩
def Cx.Ok.Jl(ok:(X.IK E).Ok):X.Ok:=
 ⟨ok.mod,ok.kind,ok.glob,ok.blt,ok.above,ok.inj,ok.has,ok.K8,ok.hd,ok.frames,ok.MX,ok.Qn,ok.bs,ok.Gx,ok.K0,ok.K3,ok.FA,ok.IX⟩
theorem Inv.IK(I:Inv X pins S H s)(E:AB->Ya->Prop):Inv (X.IK E) pins S H s:=⟨I.ok.IK E,I.os,I.bare,I.base,I.loc,I.cell,I.free,I.DK,I.pin,I.hok,I.len⟩
theorem Inv.Jl(I:Inv (X.IK E) pins S H s):Inv X pins S H s:=⟨I.ok.Jl,I.os,I.bare,I.base,I.loc,I.cell,I.free,I.DK,I.pin,I.hok,I.len⟩
theorem SP.Jl{D:Ends}{f:Flow}{s':Ya}(h:SP (X.IK E) pins D f s'):SP X pins D f s':=by
 cases f with
 |next=>obtain⟨S',H',I,q⟩:=h;exact⟨S',H',I.Jl,q⟩
 |brk=>obtain⟨S',H',I,q⟩:=h;exact⟨S',H',I.Jl,q⟩
 |cont=>obtain⟨S',H',I,q⟩:=h;exact⟨S',H',I.Jl,q⟩
 |ret u=>obtain⟨v,S',H',I,r,q⟩:=h;exact⟨v,S',H',I.Jl,r,q⟩
theorem Et.Qt{st:List hX}{t:TS}(h:Et X.Qt st t):Et X st t:=λpins s S H D I hw=>DA (h pins s S H D (I.IK _) hw) (λ_ _ q=>q.Jl) λ_ _ z=>False.elim z
section
variable{st:hX}{rest:List hX}{t u:TS}
def Ku:TS:=λD S H=>D.nx S H
def Jw(t u:TS):TS:=λD S H=>t {D with nx:=u D} S H
def BC:Et X [] Ku:=λ_ _ S H _ I h=>O1 ⟨S,H,I,h⟩
def AU{X:Cx}{st:hX}{rest:List hX}{t:TS}{u:TS}(h1:PS X st t)(h2:Et X rest u):Et X (st::rest) (Jw t u):=by
 intro pins s S H D I h;refine wpAny_execs_cons (Ad (h1 pins s S H {D with nx:=u D} I h) λf s1 q=>?_)
 cases f with
 |next=>obtain⟨S',H',I',q⟩:=q;exact h2 pins s1 S' H' D I' q
 |ret v=>exact q
 |brk=>exact q
 |cont=>exact q
def AR{X:Cx}{st:hX}{t:TS}(h1:PS X st t):Et X [st] t:=by
 intro pins s S H D I h;refine wpAny_execs_cons (Ad (h1 pins s S H D I h) λf s1 q=>?_)
 cases f with
 |next=>exact O1 q
 |ret v=>exact q
 |brk=>exact q
 |cont=>exact q
def mC:TS:=λD S H=>D.bk S H
def jC:PS X (.Break pos) mC:=λ_ _ S H _ I h=>wpAny_Break ⟨S,H,I,h⟩
def Inv.quiet(I:Inv X pins S H s):interactive X.env=vc:=by simp[interactive,I.ok.kind]
end
variable{te:TE}
section
variable{st:hX}{rest:List hX}{t u:TS}
def pW(te:TE):TS:=λD S H=>te S H λ_ H1=>D.nx S H1
def Bq(he:PE X e te)(hs:uN e J pos.line X.env=pure vc:=by rfl):PS X (.Expr e pos) (pW te):=by intro pins s S H D I h;exact wpAny_Expr_any (Ad (he pins s S H _ I h) λv s1 ⟨x,H1,I1,r1,q1⟩=>⟨S,H1,I1,q1⟩) I.quiet hs
def bZ(te:TE):TS:=λD S H=>te S H D.rt
def An{X:Cx}{e:hY}{te:TE}{pos:Pos}(he:PE X e te):PS X (.Return (U e) pos) (bZ te):=by intro pins s S H D I h;exact wpAny_Return_some (Ad (he pins s S H _ I h) λv s1 ⟨x,H1,I1,r1,q1⟩=>⟨x,S,H1,I1,r1,q1⟩)
def Hf(c:TT)(t u:TS):TS:=λD S H=>c S H λb H1=>if b=Y then t D S H1 else u D S H1
def Ay{a b:List hX}{tc:TT}(hc:PT X c tc)(ha:Et X a t)(hb:Et X b u):PS X (.If c a b pos) (Hf tc t u):=by
 intro pins s S H D I h;refine wpAny_If (Ad (hc pins s S H _ I h) λd s1 ⟨H1,I1,q1⟩=>?_)
 cases d with
 |true=>exact ha pins s1 S H1 D I1 q1
 |false=>exact hb pins s1 S H1 D I1 q1
end
abbrev TG:=V->St->Hp->(St->Hp->Prop)->Prop
abbrev LA:=List V->St->Hp->(St->Hp->Prop)->Prop
def PG(X:Cx)(target:hY)(t:TG):Prop:=
 ∀(pins:List (OK×Obj))(s:Ya)(S:St)(H:Hp)(v:V)(u:AB)(Q:St->Hp->Prop),Inv X pins S H s->RelV v u->t v S H Q->
  ax (Yf X.prog X.w) X.A (vB target X.env u) (λ_ s'=>∃S' H',Inv X pins S' H' s'/\Q S' H') X.xe s
def Qz(X:Cx)(ts:List hY)(t:LA):Prop:=
 ∀(pins:List (OK×Obj))(s:Ya)(S:St)(H:Hp)(vs:List V)(us:List AB)(Q:St->Hp->Prop),Inv X pins S H s->Vals vs us->t vs S H Q->
  ax (Yf X.prog X.w) X.A (assignInOrder ((uJ ts X.env).map (·.2)) us) (λ_ s'=>∃S' H',Inv X pins S' H' s'/\Q S' H') X.xe s
abbrev Ub:=V->V->V->Hp->(Hp->Prop)->Prop
def bC(X:Cx)(t:Ub):Prop:=
 ∀(pins:List (OK×Obj))(s:Ya)(S:St)(H:Hp)(o i v:V)(ov iv u:AB)(Q:Hp->Prop),Inv X pins S H s->RelV o ov->RelV i iv->RelV v u->t o i v H Q->
  ax (Yf X.prog X.w) X.A (setItem ov iv u) (λ_ s'=>∃H',Inv X pins S H' s'/\Q H') X.xe s
def EA(i:Nat):TG:=λv S H Q=>Q (S.set i (U v)) H
def Bg(hN:X.N.Nodup)(hi:X.N[i]? =U x)(hx:Loc X.env.scope x)(hf:X.fn x=Y\/X.env.scope.names.lookup x=U .local:=by exact .inl Z):PG X (.Name x pos) (EA i):=by intro pins s S H v u Q I r h;exact wpAny_assign_Name (Se I hN hi hx r (λs' I'=>⟨_,H,I',h⟩) hf)
noncomputable def Ui:LA:=λvs S H Q=>vs=[]/\Q S H
noncomputable def MC(t:TG)(u:LA):LA:=λvs S H Q=>∃v r,vs=v::r/\t v S H λS' H'=>u r S' H' Q
def Nd:Qz X [] Ui:=by intro pins s S H vs us Q I r h;obtain⟨e,h⟩:=h;subst e;cases r;exact assignInOrder_nil ⟨S,H,I,h⟩
def HU{es:List hY}{t:TG}{u:LA}(h1:PG X e t)(h2:Qz X es u)
 (hs:(uJ (e::es) X.env).map (·.2)=vB e X.env::(uJ es X.env).map (·.2):=by rfl):Qz X (e::es) (MC t u):=by
 intro pins s S H vs us Q I r h;obtain⟨v,vr,e1,h⟩:=h;subst e1
 cases r with
 |cons r rr=>rw[hs];refine assignInOrder_cons (Ad (h1 pins s S H _ _ _ I r h) λ_ s1 ⟨vk,H1,I1,q1⟩=>?_);exact h2 pins s1 vk H1 _ _ Q I1 rr q1
def Uu(K:vH)(n:Nat)(t:LA):TG:=λv S H Q=>∃a xs,v=.ref a/\AS K H a xs/\xs.length=n/\t xs S H Q
variable{k:Nat}
def Nw{es:List hY}{t:LA}(hc:X.calm=Y)(h:Qz X es t)
 (hn:(uJ es X.env).length=n:=by rfl)(hst:(uJ es X.env).findIdx? (·.1)=J:=by rfl):PG X (.Tuple es k pos) (Uu X.K n t):=by
 intro pins s S H v u Q I r hw;obtain⟨a,xs,e1,hq,hl,hw⟩:=hw;subst e1;cases r;obtain⟨AV,rv,ht,hz⟩:=I.tuple hq;refine assign_Tuple_tuple (I.ok.hd hc) ht (by simp[hn,<-hl,rv.length]) hst λh' hx=>?_;have I1:Inv X pins S H {s with heap:=h'}:=I.kept (t':=s.toks) λb o e=>hx b o (BS (A7 e)) e;exact h pins _ S H xs _ Q I1 (by simpa using rv) hw
def qb(to ti:TE)(t:Ub):TG:=λv S H Q=>to S H λo H1=>ti S H1 λi H2=>t o i v H2 λH3=>Q S H3
def Tz{o i:hY}{to ti:TE}{t:Ub}(ho:PE X o to)(hi:PE X i ti)(hs:bC X t)
 (ha:∀v,vB (.Subscript o i pos) X.env v=(do
  let ov<-uP [v] (sd o X.env);let iv<-uP [v,ov] (sd i X.env)
  standAt pos
  uP [v,ov,iv] (setItem ov iv v)
  release [v,ov,iv] []):=by intro _;rfl):PG X (.Subscript o i pos) (qb to ti t):=by
 intro pins s S H v u Q I r h;rw[ha];refine AK (Gb (Ad (ho pins s S H _ I h) λov s1 ⟨x,H1,I1,r1,q1⟩=>?_));refine AK (Gb (Ad (hi pins s1 S H1 _ I1 q1) λiv s2 ⟨y,H2,I2,r2,q2⟩=>?_));refine AK (O8 (AK (Gb (Ad (hs pins s2 S H2 x y v ov iv u _ I2 r1 r2 r q2) λ_ s3 ⟨H3,I3,q3⟩=>?_))));exact wpAny_release ⟨S,H3,I3,q3⟩
def Qj(te:TE)(g:TG):TS:=λD S H=>te S H λx H1=>g x S H1 D.nx
variable{tg:hY}{g:TG}
def T6(he:PE X e te)(hg:PG X tg g)(hs:swapsWithSole [tg] e pos.line X.env=pure vc:=by rfl)(hw:swappedStores [tg] e X.env=pure J:=by rfl)
 (h1:(uJ [tg] X.env).map (·.2)=[vB tg X.env]:=by rfl):PS X (.Assign [tg] e pos) (Qj te g):=by
 intro pins s S H D I h;refine wpAny_Assign_stores (Ad (he pins s S H _ I h) λv s1 ⟨x,H1,I1,r1,q1⟩=>?_) hs hw;rw[h1];exact Ad (hg pins s1 S H1 x v _ I1 r1 q1) λ_ s2 q=>q
def Ax{pos':Pos}(hN:X.N.Nodup)(hi:X.N[i]? =U x)(hx:Loc X.env.scope x)(he:PE X e te)(hs:uN e (U (.Name x pos')) pos.line X.env=pure vc:=by rfl)(hf:X.fn x=Y\/X.env.scope.names.lookup x=U .local:=by exact .inl Z):
 PS X (.Assign [.Name x pos'] e pos) (Qj te (EA i)):=by
 intro pins s S H D I h;refine wpAny_Assign_Name (Ad (he pins s S H _ I h) λv s1 ⟨y,H1,I1,r1,q1⟩=>?_) hs;exact Se I1 hN hi hx r1 (λs2 I2=>⟨_,H1,I2,q1⟩) hf
def nG(c:TT)(tb:TS):TS:=λD S H=>∃W:Nat->St->Hp->Prop,(∃m,W m S H)/\∀m S H,W m S H->
 c S H λb H1=>if b=Y then∃N:St->Hp->Prop,(∀S' H',N S' H'->∃m',m'<m/\W m' S' H')/\tb {D with nx:=N,ct:=N,bk:=D.nx} S H1 else D.nx S H1
variable{body:List hX}{tb:TS}
def jR{tc:TT}(hp:PassesOwn (Yf X.prog X.w) X.A X.env X.xe)(hc:PT X c tc)(hb:Et X body tb):PS X (.While c body [] pos) (nG tc tb):=by
 intro pins s S H D I h;obtain⟨W,⟨m0,w0⟩,turn⟩:=h;refine wpAny_While (codeAny_whileLoop (λn s'=>∃S' H',Inv X pins S' H' s'/\W n S' H') ?_ m0 ⟨S,H,I,w0⟩);rintro n s1 ⟨vk,H1,I1,w1⟩;refine LP hp (Ad (hc pins s1 vk H1 _ I1 (turn n vk H1 w1)) λb s2 ⟨H2,I2,q2⟩=>?_)
 cases b with
 |true=>
  obtain⟨N,hN,q2⟩:=q2;rw[AG Z];refine LP hp (Ad (hb pins s2 vk H2 _ I2 q2) λf s3 q3=>?_)
  cases f with
  |next=>obtain⟨vm,H3,I3,n3⟩:=q3;obtain⟨m',hm,w3⟩:=hN vm H3 n3;exact⟨m',hm,vm,H3,I3,w3⟩
  |cont=>obtain⟨vm,H3,I3,n3⟩:=q3;obtain⟨m',hm,w3⟩:=hN vm H3 n3;exact⟨m',hm,vm,H3,I3,w3⟩
  |brk=>exact q3
  |ret v=>exact q3
 |false=>rw[AF Ck];exact O1 ⟨vk,H2,I2,q2⟩
structure It where
 go:Nat->Hp->Prop
 JJ:Nat->Hp->V->Hp->Prop
 stop:Nat->Hp->Prop
def F9(X:Cx)(pins:List (OK×Obj))(H:Hp)(b:OK):Prop:=
 H b=J/\b≠X.env.locals/\b∉X.fs/\(b∈X.ex\/X.s₀.heap.objs.size<=b)/\(∀x c,X.env.cells.lookup x=U c->c≠b)/\∀p∈X.pn++pins,p.1≠b
def Inv.Jv(I:Inv X pins S H s)(hb:s.heap.objs.size<=b)(hn:H' b=J):F9 X pins H' b:=by
 refine⟨hn,Fu (C7 I.lt hb),I.rH hb,.inr (BI I.sz hb),λx c e z=>?_,λp hp z=>?_⟩
 .obtain⟨v,q⟩:=I.cell x c e;exact absurd (C7 q.lt (by rw[z];exact hb)) (M8 _)
 .exact absurd (C7 (A7 (I.pin p hp).1) (by rw[z];exact hb)) (M8 _)
structure Turn(P:sY)(w:si)(K:vH)(tg:hY)(vg:It)(fp:List OK)(it:OK)(tn:Nat->sf->Prop):Prop where
 mem:it∈fp
 obj:∀i h,tn i h->∀b∈fp,∃o,h.get? b=U o/\∀v,o.data≠.cell v
 keep:∀i h h',tn i h->(∀b∈fp,∀o,h.get? b=U o->h'.get? b=U o)->tn i h'
 item:∀(X:Cx),X.prog=P->X.w=w->X.K=K->X.calm=Y->∀(i:Nat)(pins:List (OK×Obj))(s:Ya)(S:St)(H:Hp)(E:AB->Ya->Prop),Inv X pins S H s->(∀b∈fp,F9 X pins H b)->tn i s.heap->vg.go i H->
  ax (Yf P w) X.A (tH (.ref it)) (λr s1=>∃u,r=U u/\
   ax (Yf P w) X.A (tZ tg (.ref it) u) (λ_ s2=>∃x H',Inv X pins S H' s2/\RelV x u/\vg.JJ i H x H'/\tn (i+1) s2.heap/\∀b∈fp,H' b=J) E s1) E s
 done:∀(X:Cx),X.prog=P->X.w=w->X.K=K->X.calm=Y->∀(i:Nat)(pins:List (OK×Obj))(s:Ya)(S:St)(H:Hp)(E:AB->Ya->Prop),Inv X pins S H s->(∀b∈fp,F9 X pins H b)->tn i s.heap->vg.stop i H->
  ax (Yf P w) X.A (tH (.ref it)) (λr s1=>r=J/\Inv X pins S H s1) E s
 self:∀(A:tU)(i:Nat)(s:Ya)(Q:AB->Ya->Prop)(E:AB->Ya->Prop),tn i s.heap->Q (.ref it) s->ax (Yf P w) A (pyIter (.ref it)) Q E s
abbrev TI:=St->Hp->(It->Hp->Prop)->Prop
def cX(X:Cx)(pins:List (OK×Obj))(S:St)(tg:hY)(R:It->Hp->Prop)(itv:AB)(s2:Ya):Prop:=
 ∃(it:OK)(fp:List OK)(tn:Nat->sf->Prop)(vg:It)(H':Hp),itv=.ref it/\Inv X pins S H' s2/\Turn X.prog X.w X.K tg vg fp it tn/\tn 0 s2.heap/\(∀b∈fp,F9 X pins H' b)/\R vg H'
def PI(X:Cx)(tg iter:hY)(wi:TI):Prop:=
 ∀(pins:List (OK×Obj))(s:Ya)(S:St)(H:Hp)(R:It->Hp->Prop),Inv X pins S H s->wi S H R->
  ax (Yf X.prog X.w) X.A (sd iter X.env) (λv s1=>ax (Yf X.prog X.w) X.A (pyIter v) (cX X pins S tg R) X.xe s1) X.xe s
variable{vs:Array AB}
def N6{it:OK}{n:String}{Q:Unit->Ya->Prop}(ho:s.heap.get? it=U o)(hc:o.cls=.type n)(hd:o.data=.fields vs)
 (hn:["enumerate","zip","dict_itemiterator","dict_reverseitemiterator","odict_iterator","itertools.zip_longest","itertools.pairwise"].contains n=vc)(hQ:Q () s):ax M A (tZ tg (.ref it) u) Q E s:=by
 delta tZ;cases tg<;>first
  |exact Ae hQ
  |(cases u<;>first
   |exact Ae hQ
   |(refine AK (wpAny_load ho ?_)
     rw[hc,hd];show ax M A (if(["enumerate","zip","dict_itemiterator","dict_reverseitemiterator","odict_iterator","itertools.zip_longest","itertools.pairwise"].contains n&&vs[0]? ==U (tR _))=Y then _ else _) Q E s;rw[AF (by intro h;rw[hn,M7] at h;cases h)];exact Ae hQ))
def Hj(K:vH)(a:OK):It:=
 ⟨λi H=>∃xs x,AL K H a xs/\xs[i]? =U x,λi H x H'=>H'=H/\∀xs,AL K H a xs->xs[i]? =U x,λi H=>∃xs,AL K H a xs/\xs.length<=i⟩
def OO(K:vH)(a:OK):It:=
 ⟨λi H=>∃xs x,AS K H a xs/\xs[i]? =U x,λi H x H'=>H'=H/\∀xs,AS K H a xs->xs[i]? =U x,λi H=>∃xs,AS K H a xs/\xs.length<=i⟩
def K9(lo:Int)(n:Nat):It:=⟨λi _=>i<n,λi H x H'=>H'=H/\x=.int (lo+i),λi _=>n<=i⟩
def gL(a it:OK):Turn P w K tg (Hj K a) [it] it (λi h=>h.IsListIter it a i) where
 mem:=by simp
 obj:=λi h st b hb=>by
  have e:b=it:=by simpa using hb
  subst e;obtain⟨o,e,c,d⟩:=st;exact⟨o,e,λv z=>by rw[d] at z;cases z⟩
 keep:=λi h h' st k=>st.at λo e=>k it (by simp) o e
 item:=by intro X hP hw hK hc i pins s S H E I hf st hg;subst hP hw hK;obtain⟨xs,x,hq,hx⟩:=hg;obtain⟨AV,rv,p,hz⟩:=I.list hq;obtain⟨u,hu,ru⟩:=rv.get hx;obtain⟨f0,f1,f2,f3,f4,f5⟩:=hf it (by simp);refine wpAny_pyNext_list_item st p.isList (x:=u) (by simpa using hu) λh' st' sb=>?_;have I1:Inv X pins S H {s with heap:=h'}:=I.turned (t':=s.toks) (λb o hb e=>(sb.2 b hb).trans e) f0 f1 f3 f4 f5;obtain⟨o,e,c,d⟩:=id st';exact⟨u,Z,N6 (s:={s with heap:=h'}) e c d (by decide) ⟨x,H,I1,ru,⟨Z,λys hy=>by rw[I.XG hy hq];exact hx⟩,st',λb hb=>(hf b hb).1⟩⟩
 done:=by intro X hP hw hK hc i pins s S H E I hf st hg;subst hP hw hK;obtain⟨xs,hq,hx⟩:=hg;obtain⟨AV,rv,p,hz⟩:=I.list hq;obtain⟨f0,f1,f2,f3,f4,f5⟩:=hf it (by simp);have hl:=rv.length;exact wpAny_pyNext_list_end (I.ok.hd hc) st p.isList (by simp;lia) λh' eb=>⟨Z,I.turned (t':=s.toks) (λb o hb e=>eb b o hb e) f0 f1 f3 f4 f5⟩
 self:=λ_ _ _ _ _ st h=>wpAny_pyIter_listiter st h
def eI(a it:OK):Turn P w K tg (OO K a) [it] it (λi h=>h.IsTupleIter it a i) where
 mem:=by simp
 obj:=λi h st b hb=>by
  have e:b=it:=by simpa using hb
  subst e;obtain⟨o,e,c,d⟩:=st;exact⟨o,e,λv z=>by rw[d] at z;cases z⟩
 keep:=λi h h' st k=>st.at λo e=>k it (by simp) o e
 item:=by intro X hP hw hK hc i pins s S H E I hf st hg;subst hP hw hK;obtain⟨xs,x,hq,hx⟩:=hg;obtain⟨AV,rv,p,hz⟩:=I.tuple hq;obtain⟨u,hu,ru⟩:=rv.get hx;obtain⟨f0,f1,f2,f3,f4,f5⟩:=hf it (by simp);refine wpAny_pyNext_tuple_item st (show s.heap.IsTuple a AV.toArray from p) (x:=u) (by simpa using hu) λh' st' sb=>?_;have I1:Inv X pins S H {s with heap:=h'}:=I.turned (t':=s.toks) (λb o hb e=>(sb.2 b hb).trans e) f0 f1 f3 f4 f5;obtain⟨o,e,c,d⟩:=id st';exact⟨u,Z,N6 (s:={s with heap:=h'}) e c d (by decide) ⟨x,H,I1,ru,⟨Z,λys hy=>by rw[I.fF hy hq];exact hx⟩,st',λb hb=>(hf b hb).1⟩⟩
 done:=by intro X hP hw hK hc i pins s S H E I hf st hg;subst hP hw hK;obtain⟨xs,hq,hx⟩:=hg;obtain⟨AV,rv,p,hz⟩:=I.tuple hq;obtain⟨f0,f1,f2,f3,f4,f5⟩:=hf it (by simp);have hl:=rv.length;exact wpAny_pyNext_tuple_end (I.ok.hd hc) st (show s.heap.IsTuple a AV.toArray from p) (by simp;lia) λh' eb=>⟨Z,I.turned (t':=s.toks) (λb o hb e=>eb b o hb e) f0 f1 f3 f4 f5⟩
 self:=λ_ _ _ _ _ st h=>wpAny_pyIter_tupleiter st h
def eR(it:OK)(lo:Int)(n:Nat):Turn P w K tg (K9 lo n) [it] it (λi h=>IsRangeIter h it (lo+(i:Nat)*1) ((n:Int)-(i:Nat)) 1) where
 mem:=by simp
 obj:=λi h st b hb=>by
  have e:b=it:=by simpa using hb
  subst e;exact⟨_,st,λv z=>by have z':Data.fields _=Data.cell v:=z;cases z'⟩
 keep:=λi h h' st k=>k it (by simp) _ st
 item:=by intro X hP hw hK hc i pins s S H E I hf st hg;subst hP hw hK;obtain⟨f0,f1,f2,f3,f4,f5⟩:=hf it (by simp);have W:=Walks.range (prog:=X.prog) (w:=X.w) (I.ok.hd hc) it lo 1 n;refine W.item i s _ _ hg st λv h' tk hv st' kk=>?_;obtain⟨t,rfl⟩:=hv;have I1:Inv X pins S H {s with heap:=h',toks:=tk}:=I.turned (λb o hb e=>kk b o (by simpa using hb) e) f0 f1 f3 f4 f5;refine⟨_,Z,N6 (s:={s with heap:=h',toks:=tk}) (n:="range_iterator") st' Z Z (by decide) ⟨.int (lo+i),H,I1,⟨t,?_⟩,⟨Z,Z⟩,st',λb hb=>(hf b hb).1⟩⟩;rw[Int.mul_one]
 done:=by intro X hP hw hK hc i pins s S H E I hf st hg;subst hP hw hK;obtain⟨f0,f1,f2,f3,f4,f5⟩:=hf it (by simp);exact wpAny_pyNext_range_end (I.ok.hd hc) st (by have:n<=i:=hg;lia) λh' eb=>⟨Z,I.turned (t':=s.toks) (λb o hb e=>eb b o hb e) f0 f1 f3 f4 f5⟩
 self:=λ_ _ _ _ _ st h=>wpAny_pyIter_rangeiter st h
def Ko(K:vH)(tl:TE):TI:=λS H R=>tl S H λx H1=>∃a,x=.ref a/\(∃xs,AL K H1 a xs)/\R (Hj K a) H1
def qu(K:vH)(tl:TE):TI:=λS H R=>tl S H λx H1=>∃a,x=.ref a/\(∃xs,AS K H1 a xs)/\R (OO K a) H1
variable{tl:TE}
def HY{l:hY}(hl:PE X l tl):PI X tg l (Ko X.K tl):=by
 intro pins s S H R I h;refine Ad (hl pins s S H _ I h) λv s1 ⟨x,H1,I1,r1,q1⟩=>?_;obtain⟨a,e,⟨xs,hq⟩,q⟩:=q1;subst e;cases r1;obtain⟨AV,rv,p,hz⟩:=I1.list hq;refine wpAny_pyIter_list p.isList ?_;refine⟨s1.heap.objs.size,[s1.heap.objs.size],_,_,H1,Z,I1.kept (t':=s1.toks) λb o e=>BD _ e,gL a _,⟨_,CG _ Z,Z,Z⟩,λb hb=>?_,q⟩;have e:b=s1.heap.objs.size:=by simpa using hb
 subst e;exact I1.Jv (Ac _) (I1.hok.fresh (Ac _))
def nW{l:hY}(hl:PE X l tl):PI X tg l (qu X.K tl):=by
 intro pins s S H R I h;refine Ad (hl pins s S H _ I h) λv s1 ⟨x,H1,I1,r1,q1⟩=>?_;obtain⟨a,e,⟨xs,hq⟩,q⟩:=q1;subst e;cases r1;obtain⟨AV,rv,p,hz⟩:=I1.tuple hq;refine wpAny_pyIter_tuple (show s1.heap.IsTuple a AV.toArray from p) ?_;refine⟨s1.heap.objs.size,[s1.heap.objs.size],_,_,H1,Z,I1.kept (t':=s1.toks) λb o e=>BD _ e,eI a _,⟨_,CG _ Z,Z,Z⟩,λb hb=>?_,q⟩;have e:b=s1.heap.objs.size:=by simpa using hb
 subst e;exact I1.Jv (Ac _) (I1.hok.fresh (Ac _))
def XB{R:It->Hp->Prop}{lo hi:Int}{t u v:Tok}{tk:Nat}(I:Inv X pins S H s)(h1: -(2^62)<=lo)(h2:lo<2^62)(h3: -(2^62)<=hi)(h4:hi<2^62)
 (q:R (K9 lo (hi-lo).toNat) H):ax (Yf X.prog X.w) X.A (pyIter (.ref s.heap.objs.size)) (cX X pins S tg R) E {s with heap:=s.heap.push {cls:=.type "range",data:=.fields #[.int lo t,.int hi u,.int 1 v]},toks:=tk}:=by
 refine wpAny_pyIter_range (IsRange.new ..) (small_one h1 h2 h3 h4) ?_;have I1:Inv X pins S H {s with heap:=s.heap.push {cls:=.type "range",data:=.fields #[.int lo t,.int hi u,.int 1 v]},toks:=tk}:=I.kept λb o e=>BD _ e;refine⟨(s.heap.push {cls:=.type "range",data:=.fields #[.int lo t,.int hi u,.int 1 v]}).objs.size,[(s.heap.push {cls:=.type "range",data:=.fields #[.int lo t,.int hi u,.int 1 v]}).objs.size],_,_,H,Z,
  I1.kept (t':=tk) λb o e=>BD _ e,eR _ lo (hi-lo).toNat,?_,λb hb=>?_,q⟩
 .have e1:lo+((0:Nat):Int)*1=lo:=by simp
  have e2:(((hi-lo).toNat:Nat):Int)-((0:Nat):Int)=Builtin.Range.rangeSize lo hi 1:=by rw[rangeSize_one];split<;>lia
  show IsRangeIter _ _ (lo+((0:Nat):Int)*1) ((((hi-lo).toNat:Nat):Int)-((0:Nat):Int)) 1;rw[e1,e2];exact CG _ Z
 .have e:b=(s.heap.push {cls:=.type "range",data:=.fields #[.int lo t,.int hi u,.int 1 v]}).objs.size:=by simpa using hb
  subst e;exact I1.Jv (Ac _) (I1.hok.fresh (Ac _))
def ph(ta:TA):TI:=λS H R=>ta S H λvs H1=>∃j:Int,vs=[.int j]/\ -(2^62)<=j/\j<2^62/\R (K9 0 j.toNat) H1
def pO(ta:TA):TI:=λS H R=>ta S H λvs H1=>∃i j:Int,vs=[.int i,.int j]/\(-(2^62)<=i/\i<2^62/\ -(2^62)<=j/\j<2^62)/\R (K9 i (j-i).toNat) H1
variable{p:Pos}
def PV{a:hY}{ta:TA}(hg:Gl X "range")(hm:X.mg "range" =J)(ha:PA X [a] ta)(hs:dq [a] X.env=[(vc,sd a X.env)]:=by rfl):PI X tg (.Call (.Name "range" p) [a] [] pos) (ph ta):=by
 intro pins s S H R I h;refine Call_ (L3 I hg hm boot_range (RB (Ad (ha pos pins s S H _ I h) λus s1 ⟨vs,H1,I1,r1,q1⟩=>?_) hs Z));obtain⟨j,e,q1,q2,q⟩:=q1;subst e
 cases r1 with
 |cons r rr=>cases rr;obtain⟨t,rfl⟩:=r;exact call_range_1 (XB I1 (by lia) (by lia) q1 q2 (by simpa using q))
def fu{a b:hY}{ta:TA}(hg:Gl X "range")(hm:X.mg "range" =J)(ha:PA X [a,b] ta)(hs:dq [a,b] X.env=[(vc,sd a X.env),(vc,sd b X.env)]:=by rfl)(hs2:dq [b] X.env=[(vc,sd b X.env)]:=by rfl):
 PI X tg (.Call (.Name "range" p) [a,b] [] pos) (pO ta):=by
 intro pins s S H R I h;refine Call_ (L3 I hg hm boot_range (RB (Ad (ha pos pins s S H _ I h) λus s1 ⟨vs,H1,I1,r1,q1⟩=>?_) (by rw[hs,hs2]) (by rw[hs2];rfl)));obtain⟨i,j,e,⟨q1,q2,q3,q4⟩,q⟩:=q1;subst e
 cases r1 with
 |cons r rr=>
  cases rr with
  |cons r' rr=>cases rr;obtain⟨t,rfl⟩:=r;obtain⟨t',rfl⟩:=r';exact call_range_2 (XB I1 q1 q2 q3 q4 q)
def OE(wi:TI)(g:TG)(tb:TS):TS:=λD S H=>wi S H λvg H1=>∃W:Nat->Nat->St->Hp->Prop,(∃m,W 0 m S H1)/\∀i m S H,W i m S H->
 (vg.stop i H/\D.nx S H)\/(vg.go i H/\∃N:St->Hp->Prop,(∀S' H',N S' H'->∃m',m'<m/\W (i+1) m' S' H')/\∀x H',vg.JJ i H x H'->g x S H' λvt H2=>tb {D with nx:=N,ct:=N,bk:=D.nx} vt H2)
noncomputable def Nq(fp:List OK)(h:sf):List (OK×Obj):=fp.filterMap λb=>(h.get? b).map λo=>(b,o)
variable{fp:List OK}
def PQ(hb:b∈fp)(e:h.get? b=U o):(b,o)∈Nq fp h:=Ov.mpr ⟨b,hb,by rw[e];rfl⟩
def gC{p:OK×Obj}(hp:p∈Nq fp h):p.1∈fp/\h.get? p.1=U p.2:=by
 obtain⟨b,hb,e⟩:=Ov.mp hp
 cases q:h.get? b with
 |none=>rw[q] at e;cases e
 |some o=>rw[q] at e;have e':(b,o)=p:=AZ e;subst e';exact⟨hb,q⟩
def Inv.pinned(I:Inv X pins S H s)(hf:∀b∈fp,F9 X pins H b)(ho:∀b∈fp,∃o,s.heap.get? b=U o/\∀v,o.data≠.cell v):Inv X (pins++Nq fp s.heap) S H s:=
 I.YL λp hp=>(Be.mp hp).elim (λz=>I.pin p (Dk _ z)) λz=>by obtain⟨hb,e⟩:=gC z;obtain⟨f0,f1,f2,_⟩:=hf p.1 hb;obtain⟨o,e',d⟩:=ho p.1 hb;rw[e] at e';cases e';exact⟨e,f0,f1,f2,d⟩
def Inv.Pb{pl:List (OK×Obj)}(I:Inv X (pins++pl) S H s):Inv X pins S H s:=I.YL λp hp=>I.pin p (Dk _ (GZ _ hp))
def DC{iter:hY}{wi:TI}(hp:PassesOwn (Yf X.prog X.w) X.A X.env X.xe)(hc:X.calm=Y)(hi:PI X tg iter wi)(hg:PG X tg g)(hb:Et X body tb)
 (hs:∀x,foldedSetIterable iter X.env x=pure x:=by intro _;rfl):PS X (.For tg iter body [] pos) (OE wi g tb):=by
 intro pins s S H D I h;refine wpAny_For (Ad (hi pins s S H _ I h) λv s1 h1=>Ad h1 λitv s2 h2=>?_) hs;obtain⟨it,fp,tn,vg,H2,e,I2,T,st2,f2,W,⟨m0,w0⟩,turn⟩:=h2;subst e;have stat:∀{H':Hp},(∀b∈fp,H' b=J)->∀b∈fp,F9 X pins H' b:=λhn b hb=>⟨hn b hb,(f2 b hb).2⟩;refine codeAny_forLoop_any (λn s'=>∃i S' H',Inv X pins S' H' s'/\tn i s'.heap/\(∀b∈fp,H' b=J)/\W i n S' H') ?_ m0 ⟨0,S,H2,I2,st2,λb hb=>(f2 b hb).1,w0⟩;rintro n s3 ⟨i,vm,H3,I3,st3,fr3,w3⟩;rcases turn i n vm H3 w3 with⟨stop,qn⟩|⟨go,N,hN,step⟩
 .refine LP hp (Ad (T.done X Z Z Z hc i pins s3 vm H3 X.xe I3 (stat fr3) st3 stop) λr s4 ⟨hr,I4⟩=>?_);subst hr;exact O1 ⟨vm,H3,I4,qn⟩
 .refine LP hp (Ad (T.item X Z Z Z hc i pins s3 vm H3 X.xe I3 (stat fr3) st3 go) λr s4 ⟨u,hr,h4⟩=>?_);subst hr;refine LP hp (Ad h4 λ_ s5 ⟨x,H5,I5,r5,y5,st5,fr5⟩=>?_);have I5':=I5.pinned (stat fr5) (T.obj _ _ st5);refine LP hp (Ad (hg _ s5 vm H5 x u _ I5' r5 (step x H5 y5)) λ_ s6 ⟨vy,H6,I6,q6⟩=>?_);refine LP hp (Ad (hb _ s6 vy H6 _ I6 q6) λf s7 q7=>?_);have again:∀{vz:St}{H7:Hp},Inv X (pins++Nq fp s5.heap) vz H7 s7->N vz H7->∃m,m<n/\∃i S' H',Inv X pins S' H' s7/\tn i s7.heap/\(∀b∈fp,H' b=J)/\W i m S' H':=λ{vz H7} I7 n7=>by obtain⟨m',hm,w7⟩:=hN vz H7 n7;refine⟨m',hm,i+1,vz,H7,I7.Pb,T.keep _ _ _ st5 λb hb o e=>(I7.pin (b,o) (Dk _ (Dk _ (PQ hb e)))).1,λb hb=>?_,w7⟩;obtain⟨o,e,d⟩:=T.obj _ _ st5 b hb;exact(I7.pin (b,o) (Dk _ (Dk _ (PQ hb e)))).2.1
  cases f with
  |next=>obtain⟨vz,H7,I7,n7⟩:=q7;exact again I7 n7
  |cont=>obtain⟨vz,H7,I7,n7⟩:=q7;exact again I7 n7
  |brk=>obtain⟨vz,H7,I7,q7⟩:=q7;exact⟨vz,H7,I7.Pb,q7⟩
  |ret v=>obtain⟨x7,vz,H7,I7,r7,q7⟩:=q7;exact⟨x7,vz,H7,I7.Pb,r7,q7⟩
def HN{xs:List V}{D:Ends}(Pv:Nat->St->Hp->Prop)(h0:Pv 0 S H)(hl:∀i S H,i<=xs.length->Pv i S H->AL K H a xs)
 (hs:∀i x S H,xs[i]? =U x->Pv i S H->g x S H λvt H2=>tb {D with nx:=Pv (i+1),ct:=Pv (i+1),bk:=D.nx} vt H2)(hd:∀S H,Pv xs.length S H->D.nx S H):
 ∃W:Nat->Nat->St->Hp->Prop,(∃m,W 0 m S H)/\∀i m S H,W i m S H->
  ((Hj K a).stop i H/\D.nx S H)\/((Hj K a).go i H/\∃N:St->Hp->Prop,(∀S' H',N S' H'->∃m',m'<m/\W (i+1) m' S' H')/\∀x H',(Hj K a).JJ i H x H'->g x S H' λvt H2=>tb {D with nx:=N,ct:=N,bk:=D.nx} vt H2):=by
 refine⟨λi m S H=>m=xs.length-i/\i<=xs.length/\Pv i S H,⟨xs.length,by simp,CB _,h0⟩,?_⟩;rintro i m S H ⟨rfl,hi,p⟩;have q:=hl i S H hi p;by_cases hlt:i<xs.length
 .refine .inr ⟨⟨xs,xs[i],q,by simp[hlt]⟩,Pv (i+1),λS' H' p'=>⟨xs.length-(i+1),by lia,Z,hlt,p'⟩,λx H' y=>?_⟩;obtain⟨e,y⟩:=y;subst e;exact hs i x S _ (y xs q) p
 .have e:i=xs.length:=by lia
  subst e;exact .inl ⟨⟨xs,q,Ac _⟩,hd S H p⟩
def j3{xs:List V}{D:Ends}(Pv:Nat->St->Hp->Prop)(h0:Pv 0 S H)(hl:∀i S H,i<=xs.length->Pv i S H->AS K H a xs)
 (hs:∀i x S H,xs[i]? =U x->Pv i S H->g x S H λvt H2=>tb {D with nx:=Pv (i+1),ct:=Pv (i+1),bk:=D.nx} vt H2)(hd:∀S H,Pv xs.length S H->D.nx S H):
 ∃W:Nat->Nat->St->Hp->Prop,(∃m,W 0 m S H)/\∀i m S H,W i m S H->
  ((OO K a).stop i H/\D.nx S H)\/((OO K a).go i H/\∃N:St->Hp->Prop,(∀S' H',N S' H'->∃m',m'<m/\W (i+1) m' S' H')/\∀x H',(OO K a).JJ i H x H'->g x S H' λvt H2=>tb {D with nx:=N,ct:=N,bk:=D.nx} vt H2):=by
 refine⟨λi m S H=>m=xs.length-i/\i<=xs.length/\Pv i S H,⟨xs.length,by simp,CB _,h0⟩,?_⟩;rintro i m S H ⟨rfl,hi,p⟩;have q:=hl i S H hi p;by_cases hlt:i<xs.length
 .refine .inr ⟨⟨xs,xs[i],q,by simp[hlt]⟩,Pv (i+1),λS' H' p'=>⟨xs.length-(i+1),by lia,Z,hlt,p'⟩,λx H' y=>?_⟩;obtain⟨e,y⟩:=y;subst e;exact hs i x S _ (y xs q) p
 .have e:i=xs.length:=by lia
  subst e;exact .inl ⟨⟨xs,q,Ac _⟩,hd S H p⟩
def Lf{lo:Int}{D:Ends}(Pv:Nat->St->Hp->Prop)(h0:Pv 0 S H)
 (hs:∀i S H,i<n->Pv i S H->g (.int (lo+i)) S H λvt H2=>tb {D with nx:=Pv (i+1),ct:=Pv (i+1),bk:=D.nx} vt H2)(hd:∀S H,Pv n S H->D.nx S H):
 ∃W:Nat->Nat->St->Hp->Prop,(∃m,W 0 m S H)/\∀i m S H,W i m S H->
  ((K9 lo n).stop i H/\D.nx S H)\/((K9 lo n).go i H/\∃N:St->Hp->Prop,(∀S' H',N S' H'->∃m',m'<m/\W (i+1) m' S' H')/\∀x H',(K9 lo n).JJ i H x H'->g x S H' λvt H2=>tb {D with nx:=N,ct:=N,bk:=D.nx} vt H2):=by
 refine⟨λi m S H=>m=n-i/\i<=n/\Pv i S H,⟨n,by simp,CB _,h0⟩,?_⟩;rintro i m S H ⟨rfl,hi,p⟩;by_cases hlt:i<n
 .refine .inr ⟨hlt,Pv (i+1),λS' H' p'=>⟨n-(i+1),by lia,Z,hlt,p'⟩,λx H' y=>?_⟩;obtain⟨e,y⟩:=y;subst e y;exact hs i S _ hlt p
 .have e:i=n:=by lia
  subst e;exact .inl ⟨Ac _,hd S H p⟩
abbrev R2:=V->V->Hp->VK->Prop
def CD(X:Cx)(f:AB->AB->Sem AB)(r:R2):Prop:=
 ∀(pins:List (OK×Obj))(s:Ya)(S:St)(H:Hp)(x y:V)(v u:AB)(Q:VK),Inv X pins S H s->RelV x v->RelV y u->r x y H Q->
  ax (Yf X.prog X.w) X.A (f v u) (EP X pins S Q) X.xe s
def VG(X:Cx)(f:AB->Sem AB)(r:V->Hp->VK->Prop):Prop:=
 ∀(pins:List (OK×Obj))(s:Ya)(S:St)(H:Hp)(x:V)(v:AB)(Q:VK),Inv X pins S H s->RelV x v->r x H Q->
  ax (Yf X.prog X.w) X.A (f v) (EP X pins S Q) X.xe s
def DU(X:Cx)(f:AB)(r:List V->Hp->VK->Prop):Prop:=
 ∀(pins:List (OK×Obj))(s:Ya)(S:St)(H:Hp)(xs:List V)(us:List AB)(Q:VK),Inv X pins S H s->Vals xs us->r xs H Q->
  ax (Yf X.prog X.w) X.A (call f us) (EP X pins S Q) X.xe s
def Fi(r:R2)(ta tb:TE):TE:=λS H Q=>ta S H λx H1=>tb S H1 λy H2=>r x y H2 Q
def rS(r:V->Hp->VK->Prop)(ta:TE):TE:=λS H Q=>ta S H λx H1=>r x H1 Q
def rI(C:Int->Int->Prop)(g:Int->Int->V):R2:=λx y H Q=>∃i j,x=.int i/\y=.int j/\C i j/\Q (g i j) H
def LG(g:Int->Int->V):R2:=λx y H Q=>∃i j,x=.int i/\y=.int j/\Q (g i j) H
def rU(g:Int->V):V->Hp->VK->Prop:=λx H Q=>∃i,x=.int i/\Q (g i) H
section
variable{a b:hY}{tb tc:TE}
def Uj(ha:PE X a ta)(hb:PE X b tb){R:V->V->Hp->Prop}(I:Inv X pins S H s)
 (h:ta S H λx H1=>tb S H1 λy H2=>R x y H2){f:AB->AB->Sem AB}
 (hf:∀v u s2 x y H2,Inv X pins S H2 s2->RelV x v->RelV y u->R x y H2->ax (Yf X.prog X.w) X.A (f v u) Q X.xe s2):
 ax (Yf X.prog X.w) X.A (sd a X.env) (λv s₁=>ax (Yf X.prog X.w) X.A (sd b X.env) (λu s₂=>ax (Yf X.prog X.w) X.A (f v u) Q X.xe s₂) X.xe s₁) X.xe s:=by
 refine Ad (ha pins s S H _ I h) λv s1 ⟨x,H1,I1,r1,q1⟩=>?_;refine Ad (hb pins s1 S H1 _ I1 q1) λu s2 ⟨y,H2,I2,r2,q2⟩=>?_;exact hf v u s2 x y H2 I2 r1 r2 q2
def Al{op:Operator}{r:R2}(ho:CD X (tY op) r)(ha:PE X a ta)(hb:PE X b tb):PE X (.BinOp a op b pos) (Fi r ta tb):=by intro pins s S H Q I h;exact wpAny_BinOp (Uj ha hb I h λv u s2 x y H2 I2 rx ry q=>ho pins s2 S H2 x y v u Q I2 rx ry q)
def Du{op:UnaryOp}{r:V->Hp->VK->Prop}(ho:VG X (unaryOp op) r)(ha:PE X a ta):PE X (.UnaryOp op a pos) (rS r ta):=by intro pins s S H Q I h;exact UnaryOp_ (Ad (ha pins s S H _ I h) λv s1 ⟨x,H1,I1,r1,q1⟩=>ho pins s1 S H1 x v Q I1 r1 q1)
def Qr{f:AB->AB->Sem AB}{C:Int->Int->Prop}{g:Int->Int->Int}
 (rule:∀(i j:Int)(t u:Tok)(s:Ya)(Q:AB->Ya->Prop)(E:AB->Ya->Prop),C i j->Q (.int (g i j) s.toks) {s with toks:=s.toks+1}->ax (Yf X.prog X.w) X.A (f (.int i t) (.int j u)) Q E s):
 CD X f (rI C λi j=>.int (g i j)):=by
 intro pins s S H x y v u Q I rx ry h;obtain⟨i,j,rfl,rfl,hc,q⟩:=h;obtain⟨t,rfl⟩:=rx;obtain⟨t',rfl⟩:=ry;exact rule i j t t' s _ _ hc ⟨.int (g i j),H,I.tok _,⟨_,Z⟩,q⟩
def bf{f:AB->AB->Sem AB}{g:Int->Int->Int}
 (rule:∀(i j:Int)(t u:Tok)(s:Ya)(Q:AB->Ya->Prop)(E:AB->Ya->Prop),Q (.int (g i j) s.toks) {s with toks:=s.toks+1}->ax (Yf X.prog X.w) X.A (f (.int i t) (.int j u)) Q E s):
 CD X f (LG λi j=>.int (g i j)):=by
 intro pins s S H x y v u Q I rx ry h;obtain⟨i,j,rfl,rfl,q⟩:=h;obtain⟨t,rfl⟩:=rx;obtain⟨t',rfl⟩:=ry;exact rule i j t t' s _ _ ⟨.int (g i j),H,I.tok _,⟨_,Z⟩,q⟩
def Ux{f:AB->AB->Sem AB}{g:Int->Int->Bool}
 (rule:∀(i j:Int)(t u:Tok)(s:Ya)(Q:AB->Ya->Prop)(E:AB->Ya->Prop),Q (.bool (g i j)) s->ax (Yf X.prog X.w) X.A (f (.int i t) (.int j u)) Q E s):
 CD X f (LG λi j=>.bl (g i j)):=by
 intro pins s S H x y v u Q I rx ry h;obtain⟨i,j,rfl,rfl,q⟩:=h;obtain⟨t,rfl⟩:=rx;obtain⟨t',rfl⟩:=ry;exact rule i j t t' s _ _ ⟨.bl (g i j),H,I,Z,q⟩
def qa(i j:Int):Prop:=0<j/\j<1073741824
def qv(i j:Int):Prop:=0<=j/\j<=1000000/\i.natAbs<2^64
def Uw(i j:Int):Prop:=(-(2^64)<i/\i<2^64)\/(-(2^64)<j/\j<2^64)
def Uw.ok{i j:Int}(h:Uw i j):IntMulOk i j:=by
 rcases h with⟨h1,h2⟩|⟨h1,h2⟩
 .exact .of_left (intBits_le_64 h1 h2)
 .exact .of_right (intBits_le_64 h1 h2)
def DJ:CD X (tY .Add) (LG λi j=>.int (i+j)):=bf λ_ _ _ _ _ _ _ q=>add_int q
def Lx:CD X (tY .Sub) (LG λi j=>.int (i-j)):=bf λ_ _ _ _ _ _ _ q=>sub_int q
def QE:CD X (tY .Mult) (rI Uw λi j=>.int (i*j)):=Qr λ_ _ _ _ _ _ _ hc q=>mul_int q hc.ok
def Kc:CD X (tY .FloorDiv) (rI qa λi j=>.int (i/j)):=Qr λi j _ _ _ _ _ hc q=>by have h1:(0:Int)<j:=hc.1;have h2:j<1073741824:=hc.2;exact floordiv_int (by lia) (by rw[Int.fdiv_eq_ediv_of_nonneg i (by lia)];exact q) (.inl (PyProof.noPylong_small (by lia)))
def CM:CD X (tY .Mod) (rI (λ_ j=>0<j) λi j=>.int (i%j)):=Qr λi j _ _ _ _ _ hc q=>by have h1:(0:Int)<j:=hc;exact mod_int' (by lia) (by rw[Int.fmod_eq_emod_of_nonneg i (by lia)];exact q)
def UA:CD X (tY .Pow) (rI qv λi j=>.int (i^j.toNat)):=Qr λ_ _ _ _ _ _ _ hc q=>pow_int_small hc.1 hc.2.1 hc.2.2 q
def sO{f:AB->Sem AB}{g:Int->Int}
 (rule:∀(i:Int)(t:Tok)(s:Ya)(Q:AB->Ya->Prop)(E:AB->Ya->Prop),Q (.int (g i) s.toks) {s with toks:=s.toks+1}->ax (Yf X.prog X.w) X.A (f (.int i t)) Q E s):
 VG X f (rU λi=>.int (g i)):=by
 intro pins s S H x v Q I rx h;obtain⟨i,rfl,q⟩:=h;obtain⟨t,rfl⟩:=rx;exact rule i t s _ _ ⟨.int (g i),H,I.tok _,⟨_,Z⟩,q⟩
def Dr:VG X (unaryOp .USub) (rU λi=>.int (-i)):=sO λ_ _ _ _ _ q=>neg_int q
end
noncomputable def bT:V->V->Bool
 |.BB,.BB=>Y|.BB,.int _=>Y|.int _,.BB=>Y|.BB,.bl _=>Y|.bl _,.BB=>Y|.BB,.str _=>Y|.str _,.BB=>Y
 |.int _,.int _=>Y|.bl _,.bl _=>Y|.str _,.str _=>Y|.GG _,.GG _=>Y
 |.int _,.str _=>Y|.str _,.int _=>Y|.bl _,.str _=>Y|.str _,.bl _=>Y
 |_,_=>vc
def MV:R2:=λx y H Q=>bT x y=Y/\Q (.bl (decide (x=y))) H
def cG:R2:=λx y H Q=>bT x y=Y/\Q (.bl (!decide (x=y))) H
def YQ{i j:Int}:decide (V.int i=V.int j)=(i==j):=by rw[O4];simp
def ZW{i j:Bool}:decide (V.bl i=V.bl j)=(i==j):=by rw[O4];simp
def Y1{i j:Str}:decide (V.str i=V.str j)=(i==j):=by rw[O4];simp
def YD{i j:Array UInt8}:decide (V.GG i=V.GG j)=(i.toList==j.toList):=by rw[O4];cases i;cases j;simp
section
variable{a b:hY}{tb tc:TE}
def CJ{Q:VK}{k k':Bool}(I:Inv X pins S H s)(q:Q (.bl k) H)(e:k=k'):EP X pins S Q (.bool k') s:=by subst e;exact⟨.bl k,H,I,Z,q⟩
def BQ:CD X (sZ .Eq) MV:=by
 intro pins s S H x y v u Q I rx ry h;obtain⟨hs,q⟩:=h
 cases x with
 |BB=>
  cases rx
  cases y with
  |BB=>cases ry;exact PySem.EqNone.eq_none_none (CJ I q (by simp))
  |bl j=>cases ry;exact PySem.EqNone.eq_none_bool (CJ I q (by simp))
  |int j=>obtain⟨t',rfl⟩:=ry;exact PySem.EqNone.eq_none_int (CJ I q (by simp))
  |str j=>obtain⟨t',rfl⟩:=ry;exact PySem.EqNone.eq_none_str (CJ I q (by simp))
  |_=>exact absurd (show vc=Y from hs) Ck
 |bl i=>
  cases rx
  cases y with
  |BB=>cases ry;exact PySem.EqNone.eq_bool_none (CJ I q (by simp))
  |bl j=>cases ry;exact eq_bool (CJ I q ZW)
  |str j=>obtain⟨t',rfl⟩:=ry;exact PySem.EqMixed.eq_bool_str (CJ I q (by simp))
  |_=>exact absurd (show vc=Y from hs) Ck
 |int i=>
  obtain⟨t,rfl⟩:=rx
  cases y with
  |BB=>cases ry;exact PySem.EqNone.eq_int_none (CJ I q (by simp))
  |int j=>obtain⟨t',rfl⟩:=ry;exact eq_int (CJ I q YQ)
  |str j=>obtain⟨t',rfl⟩:=ry;exact PySem.EqMixed.eq_int_str (CJ I q (by simp))
  |_=>exact absurd (show vc=Y from hs) Ck
 |str i=>
  obtain⟨t,rfl⟩:=rx
  cases y with
  |BB=>cases ry;exact PySem.EqNone.eq_str_none (CJ I q (by simp))
  |bl j=>cases ry;exact PySem.EqMixed.eq_str_bool (CJ I q (by simp))
  |int j=>obtain⟨t',rfl⟩:=ry;exact PySem.EqMixed.eq_str_int (CJ I q (by simp))
  |str j=>obtain⟨t',rfl⟩:=ry;exact eq_str (CJ I q Y1)
  |_=>exact absurd (show vc=Y from hs) Ck
 |GG i=>
  obtain⟨t,rfl⟩:=rx
  cases y with
  |GG j=>obtain⟨t',rfl⟩:=ry;exact eq_bytes (CJ I q YD)
  |_=>exact absurd (show vc=Y from hs) Ck
 |_=>cases y<;>exact absurd (show vc=Y from hs) Ck
def Gp:CD X (sZ .NotEq) cG:=by
 intro pins s S H x y v u Q I rx ry h;obtain⟨hs,q⟩:=h
 cases x with
 |BB=>
  cases rx
  cases y with
  |BB=>cases ry;exact PySem.EqNone.ne_none_none (CJ I q (by simp))
  |bl j=>cases ry;exact PySem.EqNone.ne_none_bool (CJ I q (by simp))
  |int j=>obtain⟨t',rfl⟩:=ry;exact PySem.EqNone.ne_none_int (CJ I q (by simp))
  |str j=>obtain⟨t',rfl⟩:=ry;exact PySem.EqNone.ne_none_str (CJ I q (by simp))
  |_=>exact absurd (show vc=Y from hs) Ck
 |bl i=>
  cases rx
  cases y with
  |BB=>cases ry;exact PySem.EqNone.ne_bool_none (CJ I q (by simp))
  |bl j=>cases ry;exact ne_bool (CJ I q (A2 not ZW))
  |str j=>obtain⟨t',rfl⟩:=ry;exact PySem.EqMixed.ne_bool_str (CJ I q (by simp))
  |_=>exact absurd (show vc=Y from hs) Ck
 |int i=>
  obtain⟨t,rfl⟩:=rx
  cases y with
  |BB=>cases ry;exact PySem.EqNone.ne_int_none (CJ I q (by simp))
  |int j=>obtain⟨t',rfl⟩:=ry;exact ne_int (CJ I q (A2 not YQ))
  |str j=>obtain⟨t',rfl⟩:=ry;exact PySem.EqMixed.ne_int_str (CJ I q (by simp))
  |_=>exact absurd (show vc=Y from hs) Ck
 |str i=>
  obtain⟨t,rfl⟩:=rx
  cases y with
  |BB=>cases ry;exact PySem.EqNone.ne_str_none (CJ I q (by simp))
  |bl j=>cases ry;exact PySem.EqMixed.ne_str_bool (CJ I q (by simp))
  |int j=>obtain⟨t',rfl⟩:=ry;exact PySem.EqMixed.ne_str_int (CJ I q (by simp))
  |str j=>obtain⟨t',rfl⟩:=ry;exact ne_str (CJ I q (A2 not Y1))
  |_=>exact absurd (show vc=Y from hs) Ck
 |GG i=>
  obtain⟨t,rfl⟩:=rx
  cases y with
  |GG j=>obtain⟨t',rfl⟩:=ry;exact ne_bytes (CJ I q (A2 not YD))
  |_=>exact absurd (show vc=Y from hs) Ck
 |_=>cases y<;>exact absurd (show vc=Y from hs) Ck
def Iq:CD X (sZ .Lt) (LG λi j=>.bl (decide (i<j))):=Ux λ_ _ _ _ _ _ _ q=>lt_int q
def aQ:CD X (sZ .LtE) (LG λi j=>.bl (decide (i<=j))):=Ux λ_ _ _ _ _ _ _ q=>le_int q
def QO:CD X (sZ .Gt) (LG λi j=>.bl (decide (j<i))):=Ux λ_ _ _ _ _ _ _ q=>gt_int q
def gK:CD X (sZ .Lt) (λx y H Q=>∃i j,x=.str i/\y=.str j/\Q (.bl (decide (i.cps.toList<j.cps.toList))) H):=by intro pins s S H x y v u Q I rx ry h;obtain⟨i,j,rfl,rfl,q⟩:=h;obtain⟨t,rfl⟩:=rx;obtain⟨t',rfl⟩:=ry;exact lt_str (CJ I q Z)
def Am(b:hY)(h:op≠.In:=by decide)(h2:op≠.NotIn:=by decide):behindInMarks op b=vc:=by
 have e1:(op==CmpOp.In)=vc:=by cases op<;>first|rfl|exact absurd Z h
 have e2:(op==CmpOp.NotIn)=vc:=by cases op<;>first|rfl|exact absurd Z h2
 cases b<;>simp[behindInMarks,e1,e2]
def IB{r:R2}(ho:CD X (sZ op) r)(ha:PE X a ta)(hb:PE X b tb)(hm:behindInMarks op b=vc):PE X (.Compare a [op] [b] pos) (Fi r ta tb):=by intro pins s S H Q I h;exact wpAny_Compare1 (Uj ha hb I h λv u s2 x y H2 I2 rx ry q=>ho pins s2 S H2 x y v u Q I2 rx ry q) hm
def Ks(t:TE):TT:=λS H Q=>t S H λx H'=>∃k,x=.bl k/\Q k H'
def As{r:R2}(ho:CD X (sZ op) r)(ha:PE X a ta)(hb:PE X b tb)(hm:behindInMarks op b=vc):PT X (.Compare a [op] [b] pos) (Ks (Fi r ta tb)):=by
 intro pins s S H Q I h;refine wpAny_isTrue_Compare1 (Ad (ha pins s S H _ I h) λv s1 ⟨x,H1,I1,r1,q1⟩=>Ad (hb pins s1 S H1 _ I1 q1) λu s2 ⟨y,H2,I2,r2,q2⟩=>Ad (ho pins s2 S H2 x y v u _ I2 r1 r2 q2) λc s3 ⟨z,H3,I3,r3,k,e,q3⟩=>?_) hm;subst e;cases r3;exact Mw ⟨H3,I3,q3⟩
def nu(r r':R2)(ta tb tc:TE):TE:=λS H Q=>ta S H λx H1=>tb S H1 λy H2=>r x y H2 λz H3=>∃k,z=.bl k/\
 (if k=Y then tc S H3 λw' H4=>r' y w' H4 Q else Q (.bl vc) H3)
def iU{op':CmpOp}{r r':R2}(ho:CD X (sZ op) r)(ho':CD X (sZ op') r')(ha:PE X a ta)(hb:PE X b tb)(hc:PE X c tc)
 (hm:lastMarks [op,op'] [b,c]=vc):PE X (.Compare a [op,op'] [b,c] pos) (nu r r' ta tb tc):=by
 intro pins s S H Q I h;refine Compare_chain (Ad (ha pins s S H _ I h) λv s1 ⟨x,H1,I1,r1,q1⟩=>chain_link (Ad (hb pins s1 S H1 _ I1 q1) λu s2 ⟨y,H2,I2,r2,q2⟩=>Ad (ho pins s2 S H2 x y v u _ I2 r1 r2 q2) λd s3 ⟨z,H3,I3,r3,k,e,q3⟩=>?_)) hm;subst e;cases r3;refine Mw ?_
 cases k with
 |false=>exact ite_ff ⟨.bl vc,H3,I3,Z,q3⟩
 |true=>exact ite_tt (chain_last (Ad (hc pins s3 S H3 _ I3 q3) λw' s4 ⟨z',H4,I4,r4,q4⟩=>ho' pins s4 S H4 y z' u w' Q I4 r2 r4 q4))
def Nr:(sizeLine:Nat)<2^63:=by rw[BA];decide
def Hx:CD X (tY .Add) (λx y H Q=>∃i j,x=.str i/\y=.str j/\i.length+j.length<=sizeLine/\Q (.str (i++j)) H):=by intro pins s S H x y v u Q I rx ry h;obtain⟨i,j,rfl,rfl,hz,q⟩:=h;obtain⟨t,rfl⟩:=rx;obtain⟨t',rfl⟩:=ry;exact add_str (λt' tk=>⟨.str (i++j),H,I.tok _,⟨_,Z⟩,q⟩) hz
end
variable{us:List AB}
section
variable{a b:hY}{tb tc:TE}
def vals1{x:V}(r:Vals [x] us):∃u,us=[u]/\RelV x u:=by
 cases r with
 |cons r1 r2=>cases r2;exact⟨_,Z,r1⟩
end
variable{y:V}
section
variable{a b:hY}{tb tc:TE}
def vals2{x:V}(r:Vals [x,y] us):∃u w',us=[u,w']/\RelV x u/\RelV y w':=by
 cases r with
 |cons r1 r2=>
  cases r2 with
  |cons r3 r4=>cases r4;exact⟨_,_,Z,r1,r3⟩
def NG:DU X (.type "int") (λxs H Q=>(∃i,xs=[.int i]/\Q (.int i) H)\/∃k,xs=[.bl k]/\Q (.int (if k then 1 else 0)) H):=by
 intro pins s S H xs us Q I r h;rcases h with⟨i,rfl,q⟩|⟨k,rfl,q⟩
 .obtain⟨u,rfl,t,rfl⟩:=vals1 r;exact call_int_int ⟨.int i,H,I,⟨_,Z⟩,q⟩
 .obtain⟨u,rfl,r1⟩:=vals1 r;cases r1;exact call_int_bool ⟨.int (if k then 1 else 0),H,I.tok _,⟨_,Z⟩,q⟩
end
structure K1(h:sf)(x dx C:OK)(mA:Str->Option AB):Prop where
 obj:h.get? x=U (uO C dx)
 ns:h.Ns1 dx mA
 ne:dx≠x
variable{dx:OK}{mA:Str->Option AB}
def Ws(n:h.Ns1 dx mA):∃od,h.get? dx=U od/\∀name,lookIn name od=U (mA name):=by
 obtain⟨o,es,ep,ho,hd,hk,_,hm⟩:=n;refine⟨o,ho,λname=>?_⟩;have e:=hm name;unfold nsFind findBy at e;rw[<-Array.find?_toList] at e;delta lookIn;rw[hd];dsimp only;split
 .rename_i y q;rw[q] at e;exact A2 U e
 .rename_i q;rw[q] at e;have a:es.toList.any (·.refKey)=vc:=by rw[List.any_eq_false];intro y hy;obtain⟨z,t,hkey⟩:=hk y (Array.mem_toList_iff.mp hy);simp[DictEntry.refKey,hkey]
  have a':¬es.toList.any (·.refKey)=Y:=by rw[a];exact Ck
  rw[AF a'];exact A2 U e
variable{C:OK}
def K1.look{x:OK}(I:K1 h x dx C mA):∃od,InstAt h x (uO C dx) C (U od)/\∀name,lookIn name od=U (mA name):=
 let⟨od,ho,hl⟩:=Ws I.ns
 ⟨od,⟨I.obj,Z,Z,ho⟩,hl⟩
variable{prog:sY}{name:Str}
section
variable{x:OK}{v:AB}
def get_map{expr:Bool}(X:K.In s.heap)(I:K1 s.heap x dx C mA)(hg:uV K C name=Y)(hh:tm K C=Y)
 (ha:sk K (.ref C) name=U J)(hv:mA name=U v)(hv':handedIn v=Y)(h:Q v {s with toks:=s.toks+1}):
 ax (Yf prog w) A (ur (.ref x) name expr) Q E s:=by
 obtain⟨od,vg,hl⟩:=I.look;exact get_value X vg (Vi hg).1 (findObj_own hh ha Z (by rw[hl,hv])) hv' h
end
variable{pl:Sem Bool}{f:OK}
section
variable{x:OK}{v:AB}
def iS{Q:AB×List AB->Ya->Prop}(X:K.In s.heap)(I:K1 s.heap x dx C mA)(hg:uV K C name=Y)
 (hf:sk K (.ref C) name=U (U (.ref f)))(ht:isFn K (.ref f)=Y)(hv:mA name=J)(h:Q (.ref f,[.ref x]) s):
 ax (Yf prog w) A (uf (.ref x) name pl) Q E s:=by
 obtain⟨od,vg,hl⟩:=I.look;exact method_fn X vg (Vi hg).1 (Vi hg).2 hf (Fw.mp ht) (by show(lookIn name od).map (·.isSome)=U vc;rw[hl,hv];rfl) h
def ku{ns:List Str}{Q:Unit->Ya->Prop}(X:K.In s.heap)(I:K1 s.heap x dx C mA)
 (hs:sk K (.ref C) "__setattr__" =U (U (.builtin "object.__setattr__")))(hp:plainOver K C=Y)(ht:takerIn K C name=U J)(hh:tm K C=Y)
 (hw:vK mA ns)(hsz:ns.length<=sizeLine)
 (h:∀h',K1 h' x dx C (λy=>if y=name then U v else mA y)->Heap.SameBut dx s.heap h'->Q () {s with heap:=h',toks:=s.toks+2}):
 ax (Yf prog w) A (setAttr (.ref x) name v) Q E s:=by
 obtain⟨od,vg,hl⟩:=I.look;refine set_plain X vg hs (osa_open (s:={s with toks:=s.toks+1}) (r:=J) X vg hp ht λb=>?_);obtain⟨cd,hc,hd'⟩:=any_some hh;have hx:s.heap.get? x=U ⟨.ref C,U dx,.plain,#[]⟩:=I.obj;refine AK (Ae (AK (AK (wpAny_loadPart hx (AK (PySem.W.Looks.here (s:={s with toks:=s.toks+1}) (Vj X hc) ?_))))));rw[hd'];refine Ae (a:=U dx) (AK (Ae (AK ?_)));refine wpAny_nsSet1 (s:={s with toks:=s.toks+1}) I.ns λh' hn2 hs2=>?_;obtain⟨oD,esD,epD,hoD,hdD,hcD⟩:=hn2.count (PySem.Within.cons name v hw);refine AK (wpAny_lookBehind hoD (by rw[hdD];exact pastItsLine_dict (BI hcD (by rw[Bw];lia))) ?_);exact Ae (h _ ⟨(hs2.2 _ (DI I.ne)).trans I.obj,hn2,I.ne⟩ hs2)
end
variable{R:Result->Ya->Prop}{kw:List (Str×AB)}
section
variable{x:OK}{v:AB}
def jJ{vs:List AB}(X:K.In s.heap)(hm:makesIn K C=Y)
 (hi:sk K (.ref C) "__init__" =U (U (.ref f)))(hf:typeIn K (.ref f)=U (.type "function"))
 (h:tS (Yf prog w) (A.under (.builtin "type.__call__" ⟨.ref C::vs,kw⟩)) (.call (.ref f) ⟨.ref (s.heap.objs.size+1)::vs,kw⟩) (InitBack (s.heap.objs.size+1) R)
  {s with heap:=(s.heap.push tW).push (uO C s.heap.objs.size)}):
 tS (Yf prog w) A (.call (.ref C) ⟨vs,kw⟩) R s:=by
 obtain⟨hh,g,d,t,os⟩:=s;exact make_core (makes_of X hm) (Oj X hi) (λself=>bind_fn X self hf) (.inl Z) h
end
noncomputable def En(f:Str)(v:V):List (Str×V)->List (Str×V)
 |[]=>[(f,v)]
 |(g,x)::r=>if g=f then(g,v)::r else(g,x)::En f v r
theorem V3(f g:Str)(v:V):∀fs:List (Str×V),(En f v fs).lookup g=if g=f then U v else fs.lookup g
 |[]=>by
  show List.lookup g [(f,v)]=_;by_cases h:g=f
  .have hb:(g==f)=Y:=Fw.mpr h;simp only[List.lookup,hb,AG h]
  .have hb:(g==f)=vc:=Oq.mpr h;simp only[List.lookup,hb,AF h]
 |(k,x)::r=>by
  have ih:=V3 f g v r;rw[show En f v ((k,x)::r)=(if k=f then(k,v)::r else(k,x)::En f v r) from Z];by_cases hk:k=f
  .rw[AG hk];by_cases h:g=k
   .have hb:(g==k)=Y:=Fw.mpr h;simp only[List.lookup,hb,AG (h.trans hk)]
   .have hb:(g==k)=vc:=Oq.mpr h;simp only[List.lookup,hb,AF (λe:g=f=>h (e.trans hk.symm))]
  .rw[AF hk];by_cases h:g=k
   .have hb:(g==k)=Y:=Fw.mpr h;simp only[List.lookup,hb,AF (λe:g=f=>hk (h.symm.trans e))]
   .have hb:(g==k)=vc:=Oq.mpr h;simp only[List.lookup,hb];exact ih
theorem SW(f:Str)(v:V):∀fs:List (Str×V),f∈(En f v fs).map (·.1)/\∀g,g∈fs.map (·.1)->g∈(En f v fs).map (·.1)
 |[]=>⟨by simp[En],λg h=>by simp at h⟩
 |(k,x)::r=>by
  obtain⟨i1,i2⟩:=SW f v r;rw[show En f v ((k,x)::r)=(if k=f then(k,v)::r else(k,x)::En f v r) from Z];by_cases hk:k=f
  .rw[AG hk];subst hk;exact⟨by simp,λg h=>by simpa using h⟩
  .rw[AF hk];refine⟨?_,λg h=>?_⟩
   .rw[Au];exact Ce _ i1
   .rw[Au] at h⊢;rcases BM.mp h with e|e
    .exact BM.mpr (.inl e)
    .exact Ce _ (i2 g e)
theorem V1(f:Str)(v:V):∀fs:List (Str×V),(En f v fs).length<=fs.length+1
 |[]=>by simp[En]
 |(k,x)::r=>by
  have ih:=V1 f v r;rw[show En f v ((k,x)::r)=(if k=f then(k,v)::r else(k,x)::En f v r) from Z];by_cases hk:k=f
  .rw[AG hk,Bw,Bw];lia
  .rw[AF hk,Bw,Bw];lia
def DV.some_of{o:Option AB}(r:DV (U v) o):∃u,o=U u/\RelV v u:=by
 cases o with
 |none=>exact(show False from r).elim
 |some u=>exact⟨u,Z,r⟩
def DV.none_of{o:Option AB}(r:DV J o):o=J:=by
 cases o with
 |none=>rfl
 |some u=>exact(show False from r).elim
def Wj(r:RelV v u):handedIn u=Y:=by
 cases v with
 |BB=>cases(show u=Value.none from r);rfl
 |bl b=>cases(show u=Value.bool b from r);rfl
 |int i=>obtain⟨t,e⟩:=(show∃t,u=Value.int i t from r);cases e;rfl
 |str x=>obtain⟨t,e⟩:=(show∃t,u=Value.str x t from r);cases e;rfl
 |GG b=>obtain⟨t,e⟩:=(show∃t,u=Value.bytes b t from r);cases e;rfl
 |JG b=>obtain⟨t,e⟩:=(show∃t,u=Value.float b t from r);cases e;rfl
 |ref a=>cases(show u=Value.ref a from r);rfl
 |ty n=>cases(show u=Value.type n from r);rfl
section
variable{fs fs':List (Str×V)}
def Nf(hok:CA P w H h)(e:H a=U (.ins C dx fs)):∃mA,K1 h a dx C mA/\(∀f,DV (fs.lookup f) (mA f))/\vK mA (fs.map (·.1))/\fs.length<=1000/\H dx=U (.own a):=by obtain⟨d,z,ne,ob,mA,n,r,q⟩:=(show BY P w H h a (.ins C dx fs) from hok a _ e);exact⟨mA,⟨ob,n,ne⟩,r,q,z,d⟩
end
structure IW(K:vH)(C:OK):Prop where
 pg:uV K C Str.empty=Y
 hd:tm K C=Y
 po:plainOver K C=Y
 sa:sk K (.ref C) "__setattr__" =U (U (.builtin "object.__setattr__"))
def IW.get(c:IW K C)(f:Str):uV K C f=Y:=c.pg
def Kk(K:vH)(C:OK)(f:Str):Prop:=sk K (.ref C) f=U J
def Kk.oR{f:Str}(n:Kk K C f):takerIn K C f=U J:=by delta takerIn;rw[show sk K (.ref C) f=U J from n];rfl
structure Meth(K:vH)(C:OK)(m:Str)(f:OK):Prop where
 at_:sk K (.ref C) m=U (U (.ref f))
 fn:isFn K (.ref f)=Y
 kp:tM K (.ref f)=Y
section
variable{fs:List (Str×V)}{f:Str}
def dj{b:Bool}(I:Inv X pins S H s)(e:H a=U (.ins C dx fs))(c:IW X.K C)(n:Kk X.K C f)(l:fs.lookup f=U v)
 (h:∀u s',Inv X pins S H s'->RelV v u->Q u s'):ax (Yf X.prog X.w) A (ur (.ref a) f b) Q E s:=by
 obtain⟨mA,O,r,_,_,_⟩:=Nf I.hok e;obtain⟨u,hu,ru⟩:=DV.some_of (v:=v) (o:=mA f) (by rw[<-l];exact r f);exact get_map I.Bb O (c.get f) c.hd n hu (Wj ru) (h u _ (I.tok _) ru)
def dr{m:Str}{g:OK}{Q:AB×List AB->Ya->Prop}(I:Inv X pins S H s)(e:H a=U (.ins C dx fs))(c:IW X.K C)(k:Meth X.K C m g)(l:fs.lookup m=J)
 (h:Q (.ref g,[.ref a]) s):ax (Yf X.prog X.w) A (uf (.ref a) m pl) Q E s:=by
 obtain⟨mA,O,r,_,_,_⟩:=Nf I.hok e;have hn:mA m=J:=DV.none_of (by rw[<-l];exact r m);exact iS I.Bb O (c.get m) k.at_ k.fn hn h
def eV{Q:Unit->Ya->Prop}(I:Inv X pins S H s)(e:H a=U (.ins C dx fs))(c:IW X.K C)(n:Kk X.K C f)(hl:fs.length<1000)(ry:RelV y u)
 (h:∀s',Inv X pins S (upd H a (.ins C dx (En f y fs))) s'->Q () s'):ax (Yf X.prog X.w) A (setAttr (.ref a) f u) Q E s:=by
 obtain⟨mA,O,r,wi,_,ho⟩:=Nf I.hok e;have hz:(fs.map (·.1)).length<=sizeLine:=by rw[AI,BA];lia
 refine ku I.Bb O c.sa c.po n.oR c.hd wi hz λh' O' sb=>h _ ?_;have hd:∃o,h'.get? dx=U o:=let⟨o,_,_,e',_⟩:=O'.ns;⟨o,e'⟩;refine I.write (x:=a) (e:=dx) (by rw[e];exact Cy) (.inr ho) (λb q hb z=>(sb.2 b hb).trans z) hd ?_;refine⟨by rw[AO O.ne];exact ho,?_,O.ne,O'.obj,_,O'.ns,λg=>?_,λg hg=>?_⟩
 .have:=V1 f y fs;lia
 .show DV ((En f y fs).lookup g) (if g=f then U u else mA g);rw[V3];by_cases q:g=f
  .rw[AG q,AG q];exact ry
  .rw[AF q,AF q];exact r g
 .by_cases q:g=f
  .rw[q];exact(SW f y fs).1
  .refine(SW f y fs).2 g (wi g λz=>hg ?_);show(if g=f then U u else mA g)=J;rw[AF q];exact z
def Inv.made(I:Inv X pins S H s):Inv X pins S (upd (upd H s.heap.objs.size (.own (s.heap.objs.size+1))) (s.heap.objs.size+1) (.ins C s.heap.objs.size []))
 {s with heap:=(s.heap.push tW).push (uO C s.heap.objs.size)}:=by
 have e1:(s.heap.push tW).get? s.heap.objs.size=U tW:=CG s.heap Z;have e2:((s.heap.push tW).push (uO C s.heap.objs.size)).get? (s.heap.objs.size+1)=U (uO C s.heap.objs.size):=by
  have:=CG (s.heap.push tW) (o:=uO C s.heap.objs.size) Z
  rwa [HI] at this
 have e3:(s.heap.push tW).Ns s.heap.objs.size (λ_=>J):=⟨tW,#[],_,e1,Z,(λe he=>absurd he (by simp)),λ_=>rfl⟩;have I1:=I.laid (a:=s.heap.objs.size) (o:=.own (s.heap.objs.size+1)) (h':=s.heap.push tW) (t':=s.toks) (λb u q=>BD _ q) (Ac _) ⟨_,e1⟩;refine I1.laid (a:=s.heap.objs.size+1) (o:=.ins C s.heap.objs.size []) (t':=s.toks) (λb u q=>BD _ q) (Nat.le_of_eq (HI _ _)) ?_;have ne:s.heap.objs.size≠s.heap.objs.size+1:=BS (M5 _);refine⟨by rw[AO ne,AN],CB _,ne,e2,λ_=>J,(Heap.Ns1.of_empty e3).at λo q=>BD _ q,λ_=>Cy,λy hy=>absurd Z hy⟩
end
variable{env:Env}
section
variable{fs:List (Str×V)}{f:Str}
def YN{f:Str}(hb:sr e f env (sd e env)=sd e env)
 (h:ax (Yf prog w) A (sd e env) (λo s₁=>ax (Yf prog w) A (ur o f Y) Q E s₁) E s):ax (Yf prog w) A (sd (.Attribute e f pos) env) Q E s:=
 Attribute_any_ h (by rw[arm_eval_Attribute,hb])
end
def ql(K:vH)(ta:TE)(f:Str):TE:=λS H Q=>ta S H λx H1=>∃a C dx fs v,x=.ref a/\H1 a=U (.ins C dx fs)/\IW K C/\Kk K C f/\fs.lookup f=U v/\Q v H1
def qi(K:vH)(ta tv:TE)(f:Str):TS:=λD S H=>tv S H λy H1=>ta S H1 λx H2=>∃a C dx fs,x=.ref a/\H2 a=U (.ins C dx fs)/\IW K C/\Kk K C f/\fs.length<1000/\
 D.nx S (upd H2 a (.ins C dx (En f y fs)))
section
variable{o value:hY}{f:Str}{pos':Pos}{tv:TE}
def DD(he:PE X e ta)(hb:sr e f X.env (sd e X.env)=sd e X.env):PE X (.Attribute e f pos) (ql X.K ta f):=by intro pins s S H Q I h;refine YN hb (Ad (he pins s S H _ I h) λu s1 ⟨x,H1,I1,rx,a,C,dx,fs,v,ex,ea,c,n,l,q⟩=>?_);subst ex;obtain rfl:u=Value.ref a:=rx;exact dj I1 ea c n l λu' s2 I2 ru=>⟨v,H1,I2,ru,q⟩
def mw(ha:PE X o ta)(hv:PE X value tv)(hs:uN value (U (.Attribute o f pos')) pos.line X.env=pure vc):PS X (.Assign [.Attribute o f pos'] value pos) (qi X.K ta tv f):=by intro pins s S H D I h;refine uY (Ad (hv pins s S H _ I h) λu s1 ⟨y,H1,I1,ry,q⟩=>Ad (ha pins s1 S H1 _ I1 q) λov s2 ⟨x,H2,I2,rx,a,C,dx,fs,ex,ea,c,n,l,q2⟩=>?_) hs;subst ex;obtain rfl:ov=Value.ref a:=rx;exact eV I2 ea c n l ry λs3 I3=>⟨S,_,I3,q2⟩
end
section
variable{c:AB}{b:Bool}
inductive Bp(K:vH)(H:Hp):V->AB->Prop where
 |BB:Bp K H .BB (.type "NoneType")
 |bl (x:Bool):Bp K H (.bl x) (.type "bool")
 |int (i:Int):Bp K H (.int i) (.type "int")
 |str (x:Str):Bp K H (.str x) (.type "str")
 |JG (x:UInt64):Bp K H (.JG x) (.type "float")
 |lst {a:OK} {xs:List V} (e:H a=U (.lst xs)):Bp K H (.ref a) (.type "list")
 |BZ {a:OK} {o:Obj} {xs:List V} (e:H a=U (.BZ o (.lst xs))):Bp K H (.ref a) (.type "list")
 |tup {a:OK} {xs:List V} (e:H a=U (.tup xs)):Bp K H (.ref a) (.type "tuple")
 |dK {a:OK} {AA:List (Key×V)} (e:H a=U (.dK AA)):Bp K H (.ref a) (.type "dict")
 |dT {a:OK} {AA:List (List Key×V)} (e:H a=U (.dT AA)):Bp K H (.ref a) (.type "dict")
 |ins {a C dx:OK} {fs:List (Str×V)} (e:H a=U (.ins C dx fs)) (cl:IW K C) (ha:sk K (.ref C) "__class__" =U (U (.builtin "object.__class__")))
  (hn:uc K (.builtin "object.__class__") "__get__" =U (U (.builtin "getset_descriptor.__get__"))) (htk:takesIn K (.builtin "object.__class__")=U Y)
  (hm:mroIn K C (.type "object")=U Y):Bp K H (.ref a) (.ref C)
def fQ{x:V}{t:AB}(I:Inv X pins S H s)(rx:RelV x u)(ty:Bp X.K H x t)(e:uL X.K t c=U b)(h:∀tk,Q (.bool b) {s with toks:=tk}):
 ax (Yf X.prog X.w) A (call (.builtin "isinstance") [u,c]) Q E s:=by
 cases ty with
 |BB=>cases(show u=Value.none from rx);exact Hs kitx_none I.Bb Cy e (λz=>nomatch z) h
 |bl y=>cases(show u=Value.bool y from rx);exact Hs kitx_bool I.Bb Cy e (λz=>nomatch z) h
 |int i=>obtain⟨t,q⟩:=(show∃t,u=Value.int i t from rx);cases q;exact Hs kitx_int I.Bb Cy e (λz=>nomatch z) h
 |str y=>obtain⟨t,q⟩:=(show∃t,u=Value.str y t from rx);cases q;exact Hs kitx_str I.Bb Cy e (λz=>nomatch z) h
 |JG y=>obtain⟨t,q⟩:=(show∃t,u=Value.float y t from rx);cases q;exact Hs kitx_float I.Bb Cy e (λz=>nomatch z) h
 |@lst a xs ea=>cases(show u=Value.ref a from rx);obtain⟨_,_,n,_,h1⟩:=(show BY X.prog X.w H s.heap a (.lst xs) from I.hok a _ ea);exact Hs RX I.Bb ⟨_,h1,Z⟩ e (λz=>nomatch z) h
 |@BZ a ob xs ea=>cases(show u=Value.ref a from rx);obtain⟨_,_,_,n,_,h1⟩:=(show BY X.prog X.w H s.heap a (.BZ ob (.lst xs)) from I.hok a _ ea);exact Hs RX I.Bb ⟨_,h1,Z⟩ e (λz=>nomatch z) h
 |@tup a xs ea=>cases(show u=Value.ref a from rx);obtain⟨_,_,_,p⟩:=(show BY X.prog X.w H s.heap a (.tup xs) from I.hok a _ ea);obtain⟨o,h1,h2,_⟩:=p;exact Hs kitx_tuple I.Bb ⟨o,h1,h2⟩ e (λz=>nomatch z) h
 |@dK a AA ea=>cases(show u=Value.ref a from rx);obtain⟨_,_,vs,_,p⟩:=(show BY X.prog X.w H s.heap a (.dK AA) from I.hok a _ ea);obtain⟨o,es,ep,h1,h2,_⟩:=p;exact Hs RY I.Bb ⟨o,h1,h2.1⟩ e (λz=>nomatch z) h
 |@dT a AA ea=>cases(show u=Value.ref a from rx);obtain⟨_,_,xs,_,o,es,ep,h1,h2,_⟩:=(show BY X.prog X.w H s.heap a (.dT AA) from I.hok a _ ea);exact Hs RY I.Bb ⟨o,h1,h2.1⟩ e (λz=>nomatch z) h
 |@ins a C dx fs ea cl ha hn htk hm=>cases(show u=Value.ref a from rx);obtain⟨mA,O,_⟩:=Nf I.hok ea;obtain⟨od,vg,_⟩:=O.look;exact Hs (kitx_own (cl.get _) cl.hd ha hn htk hm) I.Bb vg e (λz=>nomatch z) h
end
structure Br(k:Nat)(A:tU):Prop where
 hd:A.handled=J
 dp:A.depth+3*k+5<recursionLimit
 un:A.units+16*k+200<tE
def Br.mono(r:Br k A)(h:j<=k):Br j A:=⟨r.hd,by have:=r.dp;lia,by have:=r.un;lia⟩
theorem Br.deeper(r:Br (k+1) A)(env:Env):Br k (A.deeper env):=
 ⟨r.hd,by have:=r.dp;show A.depth+1+3*k+5<_;lia,by have:=r.un;show A.units+3+16*k+200<_;lia⟩
def eZ:(A.under (.builtin "type.__call__" ⟨.ref C::us,kw⟩)).depth=A.depth+1:=by first|rfl|simp[Around.under,Code.weight,Code.isCreation,Code.isGuard,Code.isCaller,Code.frames,Code.isFrame,guardIds]
def eF:(A.under (.builtin "type.__call__" ⟨.ref C::us,kw⟩)).units=A.units+1:=by first|rfl|simp[Around.under,Code.cUnits,Code.frames,Code.isFrame]
def Br.make(r:Br (k+1) A)(C:OK)(us:List AB)(kw:List (Str×AB)):Br k (A.under (.builtin "type.__call__" ⟨.ref C::us,kw⟩)):=
 ⟨r.hd,by have:=r.dp;rw[eZ];lia,by have:=r.un;rw[eF];lia⟩
theorem Br.depth(r:Br k A):A.depth<recursionLimit:=by have:=r.dp;lia
theorem Br.units(r:Br k A):A.units+64<tE:=by have:=r.un;lia
def Br.Tv(r:Br k A):A.units<tE:=by have:=r.un;lia
def MF:TA:=λ_ H Q=>Q [] H
def N4(ta:TE)(tr:TA):TA:=λS H Q=>ta S H λx H1=>tr S H1 λxs H2=>Q (x::xs) H2
section
variable{es:List hY}{t:TA}
def AJ:PA X [] MF:=λ_ _ _ _ H Q I h=>Ra ⟨[],H,I,.nil,h⟩
def AE(ha:PE X e te)(hr:PA X es t)(hs:dq (e::es) X.env=(vc,sd e X.env)::dq es X.env:=by rfl):PA X (e::es) (N4 te t):=by intro pos pins s S H Q I h;rw[hs];show ax _ _ (spliced ((vc,sd e X.env)::tF pos (dq es X.env))) _ _ s;refine Mu (Ad (ha pins s S H _ I h) λu s1 ⟨x,H1,I1,r1,q1⟩=>?_);exact Ad (hr pos pins s1 S H1 _ I1 q1) λus s2 ⟨xs,H2,I2,r2,q2⟩=>⟨x::xs,H2,I2,.cons r1 r2,q2⟩
def qy(t:TA):TE:=λS H Q=>t S H λxs H1=>xs.length<=sizeLine/\∀p,H1 p=J->Q (.ref p) (upd H1 p (.tup xs))
def bB(t:TA):TE:=λS H Q=>t S H λxs H1=>xs.length<=sizeLine/\∀p,H1 p=J->Q (.ref p) (upd H1 p (.lst xs))
def Cm{X:Cx}{es:List hY}{t:TA}{pos:Pos}{x1}(h:PA X es t):PE X (.Tuple es x1 pos) (qy t):=by intro pins s S H Q I hq;refine wpAny_Tuple_spliced (Ad (h pos pins s S H _ I hq) λus s1 ⟨xs,H1,I1,r,z,q⟩=>⟨by rw[<-r.length];exact z,?_⟩);have hf:H1 s1.heap.objs.size=J:=I1.hok.fresh (Ac _);refine⟨.ref s1.heap.objs.size,upd H1 s1.heap.objs.size (.tup xs),I1.laid (t':=s1.toks) (λb u e=>BD _ e) (Ac _) ?_,Z,q _ hf⟩;exact⟨z,us,r,⟨_,CG _ Z,Z,_,Z⟩⟩
def CY(h:PA X es t):PE X (.List es pos) (bB t):=by intro pins s S H Q I hq;refine wpAny_List_spliced (Ad (h pos pins s S H _ I hq) λus s1 ⟨xs,H1,I1,r,z,q⟩=>⟨by rw[<-r.length];exact z,?_⟩);have hf:H1 s1.heap.objs.size=J:=I1.hok.fresh (Ac _);refine⟨.ref s1.heap.objs.size,upd H1 s1.heap.objs.size (.lst xs),I1.laid (t':=s1.toks) (λb u e=>BD _ e) (Ac _) ?_,Z,q _ hf⟩;exact⟨z,us,0,r,CG _ Z⟩
end
abbrev Sp:=List V->Hp->VK->XK->Prop
abbrev J1:=List Env->Hp->Ya->XK->AB->Ya->Prop
structure Kx(P:sY)(w:si)(K:vH)(mg:Str->Option AB)(base:sf)(A:tU)(outer:List Env)(s:Ya)(H:Hp):Prop where
 frames:A.frames=U outer
 mod:Mod K mg base
 bs:∀b o,base.get? b=U o->s.heap.get? b=U o/\H b=J
 Gx:base.objs.size<=s.heap.objs.size
 FA:s.heap.FunFrames base outer
 IX:∀b∈Cr outer,H b=J
 hok:CA P w H s.heap
 bare:uD s.gens
def CE(outer:List Env)(P:sY)(w:si)(H:Hp)(s:Ya)(Q:VK)(u:AB)(s':Ya):Prop:=
 ∃v H',s'.os=s.os/\uD s'.gens/\Un (Cr outer) [] H H' s.heap s'.heap/\CA P w H' s'.heap/\RelV v u/\Q v H'
def CR(CX:J1)(outer:List Env)(P:sY)(w:si)(H:Hp)(s:Ya)(Q:VK)(E:XK)(r:Result)(s':Ya):Prop:=
 match r with
 |.ok (.ret u)=>CE outer P w H s Q u s'
 |.ok _=>False
 |.error e=>CX outer H s E e s'
structure AX(P:sY)(w:si)(K:vH)(mg:Str->Option AB)(base:sf)(CX:J1)(k:Nat)(f:OK)(fd:sj)(ps:List Str)(sp:Sp):Prop where
 len:∀vs H Q E,sp vs H Q E->vs.length=ps.length
 run:∀(A:tU)(outer:List Env)(s:Ya)(H:Hp)(args:Args)(us:List AB)(vs:List V)(Q:VK)(E:XK),Br k A->Kx P w K mg base A outer s H->uu s fd args (ps.zip us)->Vals vs us->sp vs H Q E->
  tS (Yf P w) A (.call (.ref f) args) (CR CX outer P w H s Q E) s
theorem AX.mono{P:sY}{w:si}{K:vH}{mg:Str->Option AB}{base:sf}{CX:J1}{j k:Nat}{f:OK}{fd:sj}{ps:List Str}{sp:Sp}(F:AX P w K mg base CX j f fd ps sp)(h:j<=k):
 AX P w K mg base CX k f fd ps sp:=⟨F.len,λA outer s H args us vs Q E hr=>F.run A outer s H args us vs Q E (hr.mono h)⟩
variable{mg:Str->Option AB}{base:sf}{outer:List Env}
def Kx.make(e:Kx P w K mg base A outer s H)(C:OK)(us:List AB)(kw:List (Str×AB)):
 Kx P w K mg base (A.under (.builtin "type.__call__" ⟨.ref C::us,kw⟩)) outer s H:=⟨by first|exact e.frames|(simpa[Around.under,Code.envs,Code.isFrame,pushEnvs] using e.frames),e.mod,e.bs,e.Gx,e.FA,e.IX,e.hok,e.bare⟩
section
variable{s':Ya}
def Inv.Uz(I:Inv X pins S H s):Kx X.prog X.w X.K X.mg X.base X.A X.stack s H:=
 ⟨I.ok.frames,I.ok.mod,I.bs,BI I.ok.Gx I.sz,I.stack,I.Pz,I.hok,I.bare⟩
def Inv.after{Q:VK}(I:Inv X pins S H s)(h:CE X.stack X.prog X.w H s Q u s'):EP X pins S Q u s':=by obtain⟨v,H',os,bare,un,hok,r,q⟩:=h;obtain⟨hh,g,d,t,os'⟩:=s';obtain rfl:os'=s.os:=os;exact⟨v,H',I.call (h':=hh) (g':=g) (d':=d) (t':=t) (ch:=[]) un hok bare (λb z=>absurd z (by simp)),r,q⟩
end
def Nz(sp:Sp)(dvs:List V)(E:XK)(t:TA):TE:=λS H Q=>t S H λvs H1=>sp (vs++dvs) H1 Q E
def pD(C:OK)(m:Str)(sp:Sp)(dvs:List V)(E:XK)(ta:TE)(t:TA):TE:=λS H Q=>ta S H λx H1=>∃a dx fs,x=.ref a/\H1 a=U (.ins C dx fs)/\fs.lookup m=J/\
 t S H1 λvs H2=>sp (x::(vs++dvs)) H2 Q E
def qD(C:OK)(sp:Sp)(dvs:List V)(E:XK)(t:TA):TE:=λS H Q=>t S H λvs H1=>∀x dx,H1 x=J->H1 dx=J->dx≠x->
 sp (.ref x::(vs++dvs)) (upd (upd H1 dx (.own x)) x (.ins C dx [])) (λv H2=>v=.BB/\Q (.ref x) H2) E
def Binds(K:vH)(fd:sj)(ps:List Str)(ds:List AB):Prop:=
 ∀(s:Ya)(us:List AB),K.In s.heap->(us++ds).length=ps.length->uu s fd ⟨us,[]⟩ (ps.zip (us++ds))
variable{fd:sj}{ps:List Str}
def Binds.all(h:∀us:List AB,us.length=ps.length->bindArgs fd ⟨us,[]⟩=pure (ps.zip us)):Binds K fd ps []:=λs us _ hl=>by rw[CW] at hl⊢;exact .of_eq (h us hl)
def Passes(CX:J1)(X:Cx)(E:XK):Prop:=∀(pins:List (OK×Obj))(S:St)(H:Hp)(s:Ya)(e:AB)(s':Ya),Inv X pins S H s->CX X.stack H s E e s'->X.xe e s'
variable{CX:J1}{sp:Sp}
section
variable{dvs:List V}{ds:List AB}{E:XK}{m:Str}{o:hY}{es:List hY}{t:TA}
def QD{Q:VK}{vs:List V}(F:AX X.prog X.w X.K X.mg X.base CX k f fd ps sp)(hr:Br k X.A)(hb:Binds X.K fd ps ds)(hd:Vals dvs ds)(hx:Passes CX X E)
 (I:Inv X pins S H s)(r:Vals vs us)(h:sp (vs++dvs) H Q E):ax (Yf X.prog X.w) X.A (call (.ref f) us) (EP X pins S Q) X.xe s:=by
 have r2:Vals (vs++dvs) (us++ds):=r.append hd;have hl:(us++ds).length=ps.length:=by rw[<-r2.length];exact F.len _ _ _ _ h
 refine ND (LZ (F.run X.A X.stack s H ⟨us,[]⟩ (us++ds) (vs++dvs) Q E hr I.Uz (hb s us I.Bb hl) r2 h) λr s' hq=>?_)
 cases r with
 |error e=>exact hx pins S H s e s' I hq
 |ok fl=>
  cases fl with
  |ret u=>exact I.after hq
  |next=>exact False.elim hq
  |brk=>exact False.elim hq
  |cont=>exact False.elim hq
def Cs(F:AX X.prog X.w X.K X.mg X.base CX k f fd ps sp)(hr:Br k X.A)(hg:Gl X x)(hm:X.mg x=U (.ref f))(hk:tM X.K (.ref f)=Y)(hb:Binds X.K fd ps ds)(hd:Vals dvs ds)(hx:Passes CX X E)
 (ha:PA X (e::es) t)(hdb:(x==("__debug__" :Str))=vc:=by decide)(he:dq (e::es) X.env=(vc,sd e X.env)::dq es X.env:=by rfl)(hpl:(tF pos (dq es X.env)).any (·.1)=vc:=by rfl):
 PE X (.Call (.Name x p) (e::es) [] pos) (Nz sp dvs E t):=by
 intro pins s S H Q I h;refine Ms (Lp I hg hm ?_ hdb);refine Vo (h₀:=X.base) I.ok.mod.OL hk (Ad (ha pos pins s S H _ I h) λus s1 ⟨vs,H1,I1,r,q⟩=>⟨I1.Bb,?_⟩) he hpl;exact QD F hr hb hd hx I1 r q
def Xz(F:AX X.prog X.w X.K X.mg X.base CX k f fd ps sp)(hr:Br k X.A)(hg:Gl X x)(hm:X.mg x=U (.ref f))(hk:tM X.K (.ref f)=Y)(hb:Binds X.K fd ps ds)(hd:Vals dvs ds)(hx:Passes CX X E)
 (hdb:(x==("__debug__" :Str))=vc:=by decide):PE X (.Call (.Name x p) [] [] pos) (Nz sp dvs E MF):=by
 intro pins s S H Q I h;refine Ms (Lp I hg hm ?_ hdb);exact Vk I.Bb hk (QD (us:=[]) F hr hb hd hx I .nil h)
end
variable{apos:Pos}
section
variable{dvs:List V}{ds:List AB}{E:XK}{m:Str}{o:hY}{es:List hY}{t:TA}
def D8(he:PE X o ta)(c:IW X.K C)(hm:Meth X.K C m f)(F:AX X.prog X.w X.K X.mg X.base CX k f fd ps sp)(hr:Br k X.A)(hb:Binds X.K fd ps ds)(hd:Vals dvs ds)(hx:Passes CX X E)(ha:PA X (e::es) t)
 (hst:dq (e::es) X.env=(vc,sd e X.env)::dq es X.env:=by rfl)(hpl:(tF pos (dq es X.env)).any (·.1)=vc:=by rfl)
 (ht:sd (.Call (.Attribute o m apos) (e::es) [] pos) X.env=(do
  let ov<-sd o X.env
  standAt apos.atName
  let(f,first)<-uP [ov] (uf ov m pl)
  callWith pos f first (tF pos (dq (e::es) X.env)) (uG pos (tP [] X.env))):=by rfl):
 PE X (.Call (.Attribute o m apos) (e::es) [] pos) (pD C m sp dvs E ta t):=by
 intro pins s S H Q I h;refine methodCall_KW (pl:=pl) (Ad (he pins s S H _ I h) λu s1 ⟨x,H1,I1,rx,a,dx,fs,ex,ea,l,q⟩=>?_) ht;subst ex;obtain rfl:u=Value.ref a:=rx;refine dr I1 ea c hm l ?_;refine Vo (first:=[.ref a]) (h₀:=X.base) I.ok.mod.OL hm.kp (Ad (ha pos pins s1 S H1 _ I1 q) λus s2 ⟨vs,H2,I2,r,q2⟩=>⟨I2.Bb,?_⟩) hst hpl;exact QD (us:=.ref a::us) (vs:=.ref a::vs) F hr hb hd hx I2 (.cons Z r) q2
structure Mk(K:vH)(C f:OK):Prop where
 makes:makesIn K C=Y
 init:sk K (.ref C) "__init__" =U (U (.ref f))
 fn:isFn K (.ref f)=Y
 kp:tM K (.ref C)=Y
def ij{Q:VK}{vs:List V}(M:Mk X.K C f)(F:AX X.prog X.w X.K X.mg X.base CX k f fd ps sp)(hr:Br (k+1) X.A)(hb:Binds X.K fd ps ds)(hd:Vals dvs ds)
 (hx:Passes CX X E)(I:Inv X pins S H s)(r:Vals vs us)
 (h:∀x dx,H x=J->H dx=J->dx≠x->sp (.ref x::(vs++dvs)) (upd (upd H dx (.own x)) x (.ins C dx [])) (λv H2=>v=.BB/\Q (.ref x) H2) E):
 ax (Yf X.prog X.w) X.A (call (.ref C) us) (EP X pins S Q) X.xe s:=by
 have hq:=h (s.heap.objs.size+1) s.heap.objs.size (I.hok.fresh (E2 _)) (I.hok.fresh (Ac _)) (BS (M5 _));have I2:=Inv.made (C:=C) I;have r2:Vals (V.ref (s.heap.objs.size+1)::(vs++dvs)) (Value.ref (s.heap.objs.size+1)::(us++ds)):=.cons Z (r.append hd);have hl:(Value.ref (s.heap.objs.size+1)::us++ds).length=ps.length:=by have e:=r2.length;rw[F.len _ _ _ _ hq] at e;exact e.symm
 refine ND (jJ (f:=f) I.Bb M.makes M.init (Fw.mp M.fn) (LZ (F.run _ X.stack _ _ ⟨Value.ref (s.heap.objs.size+1)::us,[]⟩ (Value.ref (s.heap.objs.size+1)::(us++ds)) _ _ E (hr.make C us [])
  (I2.Uz.make C us []) (hb _ (Value.ref (s.heap.objs.size+1)::us) I2.Bb hl) r2 hq) λr s' hq'=>?_))
 cases r with
 |error e=>exact hx pins S _ _ e s' I2 hq'
 |ok fl=>
  cases fl with
  |ret u=>obtain⟨v,H',I3,rv,ev,q3⟩:=I2.after hq';subst ev;exact⟨rv,⟨V.ref (s.heap.objs.size+1),H',I3,Z,q3⟩⟩
  |next=>exact False.elim hq'
  |brk=>exact False.elim hq'
  |cont=>exact False.elim hq'
def iQ(M:Mk X.K C f)(F:AX X.prog X.w X.K X.mg X.base CX k f fd ps sp)(hr:Br (k+1) X.A)(hg:Gl X x)(hm:X.mg x=U (.ref C))(hb:Binds X.K fd ps ds)(hd:Vals dvs ds)(hx:Passes CX X E)
 (hdb:(x==("__debug__" :Str))=vc:=by decide):PE X (.Call (.Name x p) [] [] pos) (qD C sp dvs E MF):=by
 intro pins s S H Q I h;refine Ms (Lp I hg hm ?_ hdb);exact Vk I.Bb M.kp (ij (us:=[]) M F hr hb hd hx I .nil h)
end
structure A3(N P:List Str)(sc:uX):Prop where
 kind:sc.kind=.function
 co:sc.isCoroutine=vc
 gen:sc.isGenerator=vc
 nd:N.Nodup
 pre:N.take P.length=P
 par:∀x∈P,sc.names.lookup x=U .local\/sc.names.lookup x=U .cell
 nr:∀y∈sc.names,y.2≠.free
theorem Wx{kindOf:Str->Option vC}{x:Str}:∀{binds:List (Str×AB)}{m:Str->Option AB},(∀v,(x,v)∉binds)->bindL kindOf binds m x=m x
 |[],_,_=>rfl
 |(n,v)::r,m,h=>by
  unfold bindL;rw[Wx λw hw=>h w (Ce _ hw)];split
  .have:x≠n:=by rintro rfl;exact h v CV
   simp[this]
  .rfl
theorem Wu{kindOf:Str->Option vC}{x:Str}:∀{binds:List (Str×AB)}{m:Str->Option AB},(∀v,(x,v)∉binds)->bindC kindOf binds m x=m x
 |[],_,_=>rfl
 |(n,v)::r,m,h=>by
  unfold bindC;rw[Wu λw hw=>h w (Ce _ hw)];split
  .rfl
  .have:x≠n:=by rintro rfl;exact h v CV
   simp[this]
theorem Wa{kindOf:Str->Option vC}{x:Str}{v:AB}:∀{P:List Str}{vs:List AB}{i:Nat}{m:Str->Option AB},P.Nodup->P[i]? =U x->vs[i]? =U v->kindOf x=U .local->
 bindL kindOf (P.zip vs) m x=U v
 |[],_,_,_,_,h,_,_=>by simp at h
 |_::_,[],_,_,_,_,h,_=>by simp at h
 |p::P,w::vs,0,m,nd,h1,h2,hk=>by simp at h1 h2;subst h1;subst h2;show bindL kindOf ((p,w)::P.zip vs) m p=_;unfold bindL;rw[Wx λv hv=>(E1.mp nd).1 (List.of_mem_zip hv).1,AG hk];simp
 |p::P,w::vs,i+1,m,nd,h1,h2,hk=>by show bindL kindOf ((p,w)::P.zip vs) m x=_;unfold bindL;exact Wa (i:=i) (E1.mp nd).2 (by simpa using h1) (by simpa using h2) hk
theorem Wg{kindOf:Str->Option vC}{x:Str}{v:AB}:∀{P:List Str}{vs:List AB}{i:Nat}{m:Str->Option AB},P.Nodup->P[i]? =U x->vs[i]? =U v->kindOf x≠U .local->
 bindC kindOf (P.zip vs) m x=U v
 |[],_,_,_,_,h,_,_=>by simp at h
 |_::_,[],_,_,_,_,h,_=>by simp at h
 |p::P,w::vs,0,m,nd,h1,h2,hk=>by simp at h1 h2;subst h1;subst h2;show bindC kindOf ((p,w)::P.zip vs) m p=_;unfold bindC;rw[Wu λv hv=>(E1.mp nd).1 (List.of_mem_zip hv).1,AF hk];simp
 |p::P,w::vs,i+1,m,nd,h1,h2,hk=>by show bindC kindOf ((p,w)::P.zip vs) m x=_;unfold bindC;exact Wg (i:=i) (E1.mp nd).2 (by simpa using h1) (by simpa using h2) hk
noncomputable def start(N:List Str)(vs:List V):St:=vs.map U++List.replicate (N.length-vs.length) J
noncomputable def Jy(CX:J1)(P:sY)(w:si)(K:vH)(mg:Str->Option AB)(base:sf)(N:List Str)(qual:Str)(scope:uX)(f:OK)(cd:AB)(A:tU)(outer:List Env)(s:Ya)(H:Hp)(E:XK):Cx where
 prog:=P
 w:=w
 K:=K
 mg:=mg
 base:=base
 A:=A.deeper (tu qual scope s.heap.objs.size f cd)
 N:=N
 s₀:=s
 H₀:=H
 env:=tu qual scope s.heap.objs.size f cd
 outer:=outer
 stack:=tu qual scope s.heap.objs.size f cd::outer
 ex:=[]
 calm:=Y
 fn:=λ_=>Y
 pn:=[]
 xe:=λe s'=>ax (Yf P w) (A.deeper (tu qual scope s.heap.objs.size f cd)) (leaving (tu qual scope s.heap.objs.size f cd) e) (λ_ s''=>CX outer H s E e s'') (λe' s''=>CX outer H s E e' s'') s'
def Xu{sc:uX}(h:sc.names.lookup x=U .cell):∃c,(cellsFrom n sc.names []).lookup x=U c:=by have q:=cellsFrom_some sc.names n [] (.inl h);exact Option.isSome_iff_exists.mp q
variable{qual:Str}{scope:uX}{cd:AB}
def gN{s1:Ya}{E:XK}{vs:List V}
 (vj:A3 N ps scope)(hd:A.handled=J)(e0:Kx P w K mg base A outer s H)(hl:vs.length=ps.length)(r:Vals vs us)
 (x:InCallC s s.heap.objs.size (bindL (tu qual scope s.heap.objs.size f cd).kindOf (ps.zip us) λ_=>J) (cellsFrom (s.heap.objs.size+1) scope.names []) (bindC (tu qual scope s.heap.objs.size f cd).kindOf (ps.zip us) λ_=>J) s1):
 Inv (Jy CX P w K mg base N qual scope f cd A outer s H E) [] (start N vs) H s1:=by
 have hpl:ps.length<=N.length:=by have:=A2 List.length vj.pre;rw[Bk] at this;lia
 obtain⟨h1,tk,rfl,hk⟩:=x.done;have J8:∀b:OK,b∉(Jy CX P w K mg base N qual scope f cd A outer s H E).ex:=λb z=>absurd (show b∈([]:List OK) from z) (by simp);refine⟨⟨e0.mod,vj.kind,Z,Z,Ac _,λy z c h1 h2=>?_,λy hy=>?_,λy c _ h=>?_,λ_=>hd,Around.frames_deeper e0.frames,.inr ⟨Z,Z⟩,λb z=>absurd z (J8 b),e0.bs,e0.Gx,λb _ _=>J8 b,λb z=>absurd z (J8 b),e0.FA,e0.IX⟩,
  rfl,e0.bare,Un.kept hk,⟨_,x.toInCall.ns,λi y v h1 h2 h3=>?_⟩,λy c h=>⟨_,x.cell y c h⟩,e0.hok.fresh (Ac _),λy c h=>?_,λp hp=>absurd (show p∈([]:List (OK×Obj)) from hp) (by simp),e0.hok.kept hk,?_⟩
 .exact name_of_addr x.apart (JO h1) (JO h2)
 .have hy:scope.names.lookup y=U .cell\/scope.names.lookup y=U .free:=hy;rcases hy with hy|hy
  .exact Xu hy
  .exact absurd Z (vj.nr _ (JO hy))
 .exact Ge (x.above y c (JO h))
 .have hi:i<vs.length:=by
   unfold start at h2;by_cases hi:i<vs.length
   .exact hi
   .rw[C6 (by simpa using hi)] at h2;rw[List.getElem?_replicate] at h2;split at h2<;>cases h2
  have ha:vs[i]? =U v:=by
   unfold start at h2;rw[DH (by simpa using hi),A1] at h2
   cases e:vs[i]?with
   |none=>rw[e] at h2;cases h2
   |some a=>rw[e] at h2;cases h2;rfl
  obtain⟨u,hu,rv⟩:=r.get ha;have hp:ps[i]? =U y:=by rw[<-vj.pre,List.getElem?_take_of_lt (by lia)];exact h1
  have ndP:ps.Nodup:=by rw[<-vj.pre];exact vj.nd.sublist (List.take_sublist _ _)
  refine⟨u,rv,?_⟩;rcases vj.par y (Bv hp) with k|k
  .exact .inl ⟨k,Wa ndP hp hu k⟩
  .obtain⟨c,e⟩:=Xu (n:=s.heap.objs.size+1) k;refine .inr ⟨.inl k,c,e,?_⟩;have q:=x.cell y c e;rw[Wg ndP hp hu (by show scope.names.lookup y≠_;rw[k];decide)] at q;exact q
 .exact e0.hok.fresh (Ge (x.above y c (JO h)))
 .delta start;show _=N.length;rw[A9,AI,List.length_replicate]
  lia
variable{od:Option OK}{osl:Array (Option AB)}
def aT{params:Arguments}{dV kV doc pm cdv ct oc:AB}{an:Option OK}
 (lk:K.lookup f=U ⟨oc,od,.func (fnOf name qual params body scope dV kV doc pm an cdv ct),osl⟩)(hcd:codeIn K cdv qual=Y)(vj:A3 N ps scope)
 (len:∀vs H Q E,sp vs H Q E->vs.length=ps.length)
 (hbody:∀(A:tU)(outer:List Env)(s:Ya)(H:Hp)(vs:List V)(Q:VK)(E:XK),Br k (A.deeper (tu qual scope s.heap.objs.size f cdv))->sp vs H Q E->
  ∃t,Et (Jy CX P w K mg base N qual scope f cdv A outer s H E) body t/\t {nx:=λ_ H'=>Q .BB H',rt:=Q} (start N vs) H):
 AX P w K mg base CX (k+1) f (fnOf name qual params body scope dV kV doc pm an cdv ct) ps sp:=by
 refine⟨len,λA outer s H args us vs Q E hr e0 hb r hsp=>?_⟩;have hl:=len _ _ _ _ hsp;have KX:K.In s.heap:=e0.mod.OL.keeps λb o e=>(e0.bs b o e).1;have lim:s.heap.NoLimit:=e0.mod.nolimit.keeps λb o e=>(e0.bs b o e).1;have hkind:∀y∈ps.zip us,scope.names.lookup y.1=U .local\/(scope.names.lookup y.1=U .cell/\((cellsFrom (s.heap.objs.size+1) scope.names []).lookup y.1).isSome=Y):=λ⟨n,v⟩ hy=>by
  rcases vj.par n (List.of_mem_zip hy).1 with q|q
  .exact .inl q
  .exact .inr ⟨q,cellsFrom_some _ _ _ (.inl q)⟩
 refine codeAny_call_function hr.depth (KX _ _ lk) Z vj.co vj.gen Z (codeRec_of KX hcd) (hb _ _ _ _ ?_);refine wpAny_newFunctionEnv_cells vj.kind hkind λenv he s1 x=>?_;subst he;refine⟨lim.keeps x.toInCall.keep,codeAny_func ?_⟩;obtain⟨t,ht,hq⟩:=hbody A outer s H vs Q E (hr.deeper _) hsp;have I:Inv (Jy CX P w K mg base N qual scope f cdv A outer s H E) [] (start N vs) H s1:=gN vj hr.hd e0 hl r x;refine DA (ht [] s1 (start N vs) H _ I hq) (λfl s' hs=>?_) λe s' hs=>hs;have fin:∀{S':St}{H':Hp}{v:V}{u:AB},Inv (Jy CX P w K mg base N qual scope f cdv A outer s H E) [] S' H' s'->RelV v u->Q v H'->CE outer P w H s Q u s':=
  λ{S' H' v u} vg rv q=>⟨v,H',vg.os,vg.bare,vg.base,vg.hok,rv,q⟩
 cases fl with
 |ret u=>obtain⟨v,S',H',vg,rv,q⟩:=hs;exact fin vg rv q
 |next=>obtain⟨S',H',vg,q⟩:=hs;exact fin (v:=V.BB) (u:=Value.none) vg Z q
 |brk=>obtain⟨_,_,_,q⟩:=hs;exact False.elim q
 |cont=>obtain⟨_,_,_,q⟩:=hs;exact False.elim q
section
variable{es:List hY}{t:TA}{id:String}{r:List V->Hp->VK->Prop}
def Q4(r:List V->Hp->VK->Prop)(t:TA):TE:=λS H Q=>t S H λvs H1=>r vs H1 Q
def Bh(hc:DU X (.builtin id) r)(hg:Gl X x)(hm:X.mg x=J)(hv:sq x=U (.builtin id))(ha:PA X (e::es) t)(hn:x≠ "__name__" :=by decide)(hdb:(x==("__debug__" :Str))=vc:=by decide)
 (he:dq (e::es) X.env=(vc,sd e X.env)::dq es X.env:=by rfl)(hpl:(tF pos (dq es X.env)).any (·.1)=vc:=by rfl):PE X (.Call (.Name x p) (e::es) [] pos) (Q4 r t):=by
 intro pins s S H Q I h;refine Ms (L3 I hg hm hv ?_ hn hdb);exact PyProof.Rows.callWith_builtin1 (Ad (ha pos pins s S H _ I h) λus s1 ⟨vs,H1,I1,r1,q1⟩=>hc pins s1 S H1 vs us Q I1 r1 q1) he hpl
end
variable{T:String}
section
variable{es:List hY}{t:TA}{id:String}{r:List V->Hp->VK->Prop}
def E3(hc:DU X (.type T) r)(hg:Gl X x)(hm:X.mg x=J)(hv:sq x=U (.type T))(ha:PA X (e::es) t)(hn:x≠ "__name__" :=by decide)(hdb:(x==("__debug__" :Str))=vc:=by decide)
 (he:dq (e::es) X.env=(vc,sd e X.env)::dq es X.env:=by rfl)(hpl:(tF pos (dq es X.env)).any (·.1)=vc:=by rfl):PE X (.Call (.Name x p) (e::es) [] pos) (Q4 r t):=by
 intro pins s S H Q I h;refine Ms (L3 I hg hm hv ?_ hn hdb);exact RB (Ad (ha pos pins s S H _ I h) λus s1 ⟨vs,H1,I1,r1,q1⟩=>hc pins s1 S H1 vs us Q I1 r1 q1) he hpl
end
noncomputable def BE(n d:Nat):Option Int->Nat
 |none=>d
 |some v=>if v<0 then(v+(n:Int)).toNat else min v.toNat n
def X6(n d k:Nat):BE n d (U (k:Int))=min k n:=by show(if(k:Int)<0 then((k:Int)+(n:Int)).toNat else min (k:Int).toNat n)=min k n;rw[AF (by lia),Hq]
def mG(n d:Nat)(hd:d<=n)(o:Option Int):BE n d o<=n:=by
 cases o with
 |none=>exact hd
 |some v=>
  show(if v<0 then(v+(n:Int)).toNat else min v.toNat n)<=n;by_cases hv:v<0
  .rw[AG hv];lia
  .rw[AF hv];exact Nat.min_le_right _ _
def Y2(v:Int)(n d:Nat):(if v<0 then max (v+(n:Int)) 0 else min v (n:Int))=((BE n d (U v):Nat):Int):=by
 show(if v<0 then max (v+(n:Int)) 0 else min v (n:Int))=(((if v<0 then(v+(n:Int)).toNat else min v.toNat n):Nat):Int);by_cases hv:v<0
 .simp only[AG hv];lia
 .simp only[AF hv];lia
def eW(lo hi:Option Int)(n:Nat):Builtin.Slice.sliceAdjust lo hi 1 (n:Int)=(((BE n 0 lo:Nat):Int),((BE n n hi:Nat):Int)):=by
 have h1:¬((1:Int)<0):=by lia
 delta Builtin.Slice.sliceAdjust;simp only[h1,Bx];refine Prod.ext ?_ ?_
 .cases lo with
  |none=>rfl
  |some v=>exact Y2 v n 0
 .cases hi with
  |none=>rfl
  |some v=>exact Y2 v n n
def df(i j:Nat):Builtin.Slice.slicePlaces (i:Int) (j:Int) 1=j-i:=by
 delta Builtin.Slice.slicePlaces;have h1:(1:Int)>0:=by lia
 simp only[h1,CL,Int.ediv_one];split<;>lia
def WA{v:AB}{o:Option Int}{Q:Option Int->Ya->Prop}(p:ug v o)(h:Q o s):ax (Yf prog w) A (Builtin.Slice.slicePartIndex v) Q E s:=by
 cases p with
 |none=>exact slicePart_none h
 |int i t=>exact slicePart_int h
def cp{sl:OK}{vl vu:AB}{lo hi:Option Int}{Q:Int×Int×Nat->Ya->Prop}(hs:s.heap.IsSliceOf sl vl vu .none)(pl:ug vl lo)(pu:ug vu hi)
 (h:Q (((BE n 0 lo:Nat):Int),1,BE n n hi-BE n 0 lo) s):ax (Yf prog w) A (Builtin.Slice.sliceApplied (.ref sl) (pure (n:Int))) Q E s:=by
 obtain⟨os,hos,hcs,hds⟩:=id hs;delta Builtin.Slice.sliceApplied Builtin.Slice.sliceFields;refine AK (AK (KQ hos hds (x:=vl) Z (AK (KQ hos hds (x:=vu) Z (AK (KQ hos hds (x:=.none) Z (Ae ?_)))))));refine AK (slicePart_none ?_);show ax _ _ (if((1:Int)==0)=Y then _ else _) _ _ s;rw[AF (by decide)];refine AK (WA pl (AK (WA pu (AK (Ae ?_)))));show ax _ _ (match Builtin.Slice.sliceAdjust lo hi 1 (n:Int) with|(lo,hi)=>pure (lo,(1:Int),Builtin.Slice.slicePlaces lo hi 1)) _ _ s;rw[eW lo hi n];show ax _ _ (pure (((BE n 0 lo:Nat):Int),(1:Int),Builtin.Slice.slicePlaces ((BE n 0 lo:Nat):Int) ((BE n n hi:Nat):Int) 1)) _ _ s;rw[df];exact Ae h
def iA(xs:Array AB)(i k:Nat):((List.range k).filterMap λ(m:Nat)=>xs[((i:Int)+(m:Int)*1).toNat]?).toArray=((xs.toList.drop i).take k).toArray:=by
 have e:(λ(m:Nat)=>xs[((i:Int)+(m:Int)*1).toNat]?)=λm=>xs[i+m]? :=by
  funext m;have:((i:Int)+(m:Int)*1).toNat=i+m:=by lia
  rw[this]
 rw[e];have:=pick_run xs i k;rw[List.filterMap_map] at this;have e2:((λx=>xs[x]?)∘λx=>i+x)=λm=>xs[i+m]? :=Z;rw[e2] at this;rw[this]
def cn{t sl:OK}{items:Array AB}{vl vu:AB}{lo hi:Option Int}(ht:IsTup s.heap t items)(hs:s.heap.IsSliceOf sl vl vu .none)(pl:ug vl lo)(pu:ug vu hi)
 (hw:¬(BE items.size 0 lo=0/\BE items.size items.size hi=items.size))
 (h:Q (.ref s.heap.objs.size) {s with heap:=s.heap.push {cls:=.type "tuple",data:=.seq ((items.toList.drop (BE items.size 0 lo)).take (BE items.size items.size hi-BE items.size 0 lo)).toArray}})
 (hsz:items.size<=sizeLine):ax (Yf prog w) A (uQ (.ref t) (.ref sl)) Q E s:=by
 have htake:sizeOk (.seq ((items.toList.drop (BE items.size 0 lo)).take (BE items.size items.size hi-BE items.size 0 lo)).toArray):=by
  show((items.toList.drop (BE items.size 0 lo)).take (BE items.size items.size hi-BE items.size 0 lo)).toArray.size<=sizeLine;rw[Cg,Bk,EK,FH]
  lia
 have hj:BE items.size items.size hi<=items.size:=mG _ _ (Ac _) hi;obtain⟨os,hos,hcs,hds⟩:=id hs;have hTs:s.TypeIs (.ref sl) "slice" :=⟨os,hos,hcs⟩;delta uQ;try with_reducible refine Gb ?_
 first|refine AK (Ae ?_)|skip
 refine AK (wpAny_sequenceKey ht.typeIs (by decide) ?_);refine AK (LH (name:=Str.ofString "__getitem__") ht.typeIs VR
  (Ib VR ht.typeIs entry_tuple_getitem ?_ (args_tuple_getitem _ _)));show ax _ _ (Builtin.Tuple.tupleItemsOf (.ref t)>>=_) _ _ s;refine AK (tupleItemsOf_ ht ?_);refine AK (uT hTs ?_);rw[AG (by decide)];refine AK (cp hs pl pu ?_);have hno:¬((((BE items.size 0 lo:Nat):Int)==0&&(1:Int)==1&&(BE items.size items.size hi-BE items.size 0 lo)==items.size)=Y):=by
  intro q;rw[Ft,Ft] at q;have q1:((BE items.size 0 lo:Nat):Int)=0:=eq_of_beq q.1.1;have q2:BE items.size items.size hi-BE items.size 0 lo=items.size:=eq_of_beq q.2;exact hw ⟨by lia,by lia⟩
 show ax _ _ (if(((BE items.size 0 lo:Nat):Int)==0&&(1:Int)==1&&(BE items.size items.size hi-BE items.size 0 lo)==items.size)=Y then _ else _) _ _ s;rw[AF hno,iA];first
  |exact AK (m:=Builtin.Tuple.tupleExact _) (Ia (Ae ⟨_,Z,Ae h⟩) htake)
  |exact AK (m:=Builtin.Tuple.tupleExact _) (Ia (AK (Ae (Ae ⟨_,Z,Ae h⟩))) htake)
  |exact AK (AK (m:=Builtin.Tuple.tupleExact _) (Ia (Ae (Ae ⟨_,Z,Ae h⟩)) htake))
  |exact AK (AK (m:=Builtin.Tuple.tupleExact _) (Ia (Ae ⟨_,Z,Ae h⟩) htake))
abbrev TO:=St->Hp->(Option Int->Hp->Prop)->Prop
def PO(X:Cx)(e:Option hY)(t:TO):Prop:=
 ∀(pins:List (OK×Obj))(s:Ya)(S:St)(H:Hp)(Q:Option Int->Hp->Prop),Inv X pins S H s->t S H Q->
  ax (Yf X.prog X.w) X.A (evalPart e X.env) (λu s'=>∃o H',Inv X pins S H' s'/\ug u o/\Q o H') X.xe s
def kg:TO:=λ_ H Q=>Q J H
def pK(t:TE):TO:=λS H Q=>t S H λx H1=>∃i,x=.int i/\Q (U i) H1
section
variable{lo hi:Option hY}{tl th:TO}{p2:Pos}
def Lu:PO X J kg:=by intro pins s S H Q I h;rw[evalPart_none];exact Ae ⟨J,H,I,.none,h⟩
def DY(h:PE X e te):PO X (U e) (pK te):=by intro pins s S H Q I hw;rw[evalPart_some];refine Ad (h pins s S H _ I hw) λu s1 ⟨x,H1,I1,r1,q1⟩=>?_;obtain⟨i,rfl,q⟩:=q1;obtain⟨t,rfl⟩:=r1;exact⟨U i,H1,I1,.int i t,q⟩
def MZ(X:Cx)(r:V->Option Int->Option Int->Hp->VK->Prop):Prop:=
 ∀(pins:List (OK×Obj))(s:Ya)(S:St)(H:Hp)(x:V)(v vl vu:AB)(lo hi:Option Int)(sl:OK)(Q:VK),Inv X pins S H s->RelV x v->s.heap.IsSliceOf sl vl vu .none->ug vl lo->ug vu hi->r x lo hi H Q->
  ∃T id,typeLookup (.type T) "__getitem__" =pure (U (.builtin id))/\s.TypeIs v T/\ax (Yf X.prog X.w) X.A (uQ v (.ref sl)) (EP X pins S Q) X.xe s
def rN(r:V->Option Int->Option Int->Hp->VK->Prop)(te:TE)(tl th:TO):TE:=λS H Q=>te S H λx H1=>tl S H1 λl H2=>th S H2 λu H3=>r x l u H3 Q
def F0{r:V->Option Int->Option Int->Hp->VK->Prop}(hr:MZ X r)(he:PE X e te)(hl:PO X lo tl)(hu:PO X hi th):PE X (.Subscript e (.Slice lo hi J p2) pos) (rN r te tl th):=by intro pins s S H Q I h;refine Subscript_ (Ad (he pins s S H _ I h) λv s1 ⟨x,H1,I1,r1,q1⟩=>?_);refine wpAny_Slice (Ad (hl pins s1 S H1 _ I1 q1) λvl s2 ⟨l,H2,I2,pl,q2⟩=>Ad (hu pins s2 S H2 _ I2 q2) λvu s3 ⟨u,H3,I3,pu,q3⟩=>?_);rw[evalPart_none];refine Ae ?_;have I4:Inv X pins S H3 {s3 with heap:=s3.heap.push {cls:=.type "slice",data:=.fields #[vl,vu,.none]}}:=I3.kept (t':=s3.toks) λb ob q=>BD _ q;obtain⟨T,id,hT,ht,hg⟩:=hr pins {s3 with heap:=s3.heap.push {cls:=.type "slice",data:=.fields #[vl,vu,.none]}} S H3 x v vl vu l u s3.heap.objs.size Q I4 r1 (Heap.IsSliceOf.new ..) pl pu q3;show ax (Yf X.prog X.w) X.A (vE e (.Slice lo hi J p2) v (.ref s3.heap.objs.size)) (EP X pins S Q) X.xe {s3 with heap:=s3.heap.push {cls:=.type "slice",data:=.fields #[vl,vu,.none]}};exact tail_any (ops:=[.ref s3.heap.objs.size,v]) ht hT hg (by with_unfolding_all rfl)
def Er(xs:List V)(lo hi:Option Int):List V:=(xs.drop (BE xs.length 0 lo)).take (BE xs.length xs.length hi-BE xs.length 0 lo)
def V7(xs:List V)(lo hi:Option Int):(Er xs lo hi).length<=xs.length:=by
 delta Er;rw[Bk,EK]
 lia
def aq(K:vH):V->Option Int->Option Int->Hp->VK->Prop:=λx lo hi H Q=>∃a xs,x=.ref a/\AS K H a xs/\
 ¬(BE xs.length 0 lo=0/\BE xs.length xs.length hi=xs.length)/\∀p,H p=J->Q (.ref p) (upd H p (.tup (Er xs lo hi)))
def lX:MZ X (aq X.K):=by
 intro pins s S H x v vl vu lo hi sl Q I rx hs pl pu h;obtain⟨a,xs,rfl,hx,hw,q⟩:=h;cases rx;obtain⟨AV,r,ht,hz⟩:=I.tuple hx;have hlen:AV.toArray.size=xs.length:=by rw[Cg];exact r.length.symm
 refine⟨"tuple",_,VR.lookup,ht.typeIs,?_⟩;refine cn ht hs pl pu (by rw[hlen];exact hw) ?_ (by rw[hlen];exact hz);rw[hlen];refine⟨.ref s.heap.objs.size,_,I.laid (t':=s.toks) (o:=.tup (Er xs lo hi)) (λb ob q=>BD _ q) (Ac _) ?_,Z,q _ (I.hok.fresh (Ac _))⟩;exact⟨BI (V7 xs lo hi) hz,_,(r.drop (BE xs.length 0 lo)).take (BE xs.length xs.length hi-BE xs.length 0 lo),IsTup.new _ _⟩
end
noncomputable def LD(n:Nat)(i:Int):Option Nat:=if 0<=i then(if i<n then U i.toNat else J) else if-(n:Int)<=i then U (i+n).toNat else J
def GN{α:Type}(xs:List α)(i:Int):Option α:=(LD xs.length i).bind λj=>xs[j]?
def YR{i:Int}(h:LD n i=U j):seqIndex? i n=U j/\j<n/\ -(n:Int)<=i/\i<n:=by
 delta LD at h;by_cases h0:0<=i
 .rw[AG h0] at h;by_cases h1:i<n
  .rw[AG h1] at h;have e:i.toNat=j:=AZ h;exact⟨by rw[seqIndex_of h0 h1,e],by lia,by lia,h1⟩
  .rw[AF h1] at h;cases h
 .rw[AF h0] at h;by_cases h1: -(n:Int)<=i
  .rw[AG h1] at h;have e:(i+n).toNat=j:=AZ h;exact⟨by rw[seqIndex_neg (by lia) h1,e],by lia,h1,by lia⟩
  .rw[AF h1] at h;cases h
def Te{xs:List α}{i:Int}{v:α}(h:GN xs i=U v):∃j,seqIndex? i xs.length=U j/\xs[j]? =U v/\j<xs.length/\ -(xs.length:Int)<=i/\i<xs.length:=by
 delta GN at h
 cases e:LD xs.length i with
 |none=>rw[e] at h;cases h
 |some j=>rw[e] at h;obtain⟨h1,h2,h3,h4⟩:=YR e;exact⟨j,h1,h,h2,h3,h4⟩
def BX{xs:List α}{v:α}(h:xs[j]? =U v):GN xs (j:Int)=U v:=by
 have hj:j<xs.length:=(BP.mp h).1;have e:LD xs.length (j:Int)=U j:=by delta LD;rw[AG (by lia),AG (by lia)];simp
 delta GN;rw[e];exact h
def j0(b:hY):Prop:=∀o i,uh b vc o i=operate [o,i] (uQ o i)
def Hk(X:Cx)(r:R2):Prop:=
 ∀(value slice:hY)(pins:List (OK×Obj))(s:Ya)(S:St)(H:Hp)(x y:V)(v u:AB)(Q:VK),Inv X pins S H s->RelV x v->RelV y u->r x y H Q->
  uh slice vc v u=operate [v,u] (uQ v u)->ax (Yf X.prog X.w) X.A (vE value slice v u) (EP X pins S Q) X.xe s
def OX(X:Cx)(id:String)(r:V->List V->Hp->VK->Prop):Prop:=
 ∀(pins:List (OK×Obj))(s:Ya)(S:St)(H:Hp)(x:V)(xs:List V)(v:AB)(us:List AB)(Q:VK),Inv X pins S H s->RelV x v->Vals xs us->r x xs H Q->
  ax (Yf X.prog X.w) X.A (call (.builtin id) (v::us)) (EP X pins S Q) X.xe s
variable{r:V->List V->Hp->VK->Prop}
section
variable{a b:hY}{tb:TE}{o:hY}{es:List hY}{to:TE}{t:TA}{id:String}
def Hk.or{r r':R2}(h:Hk X r)(h':Hk X r'):Hk X (λx y H Q=>r x y H Q\/r' x y H Q):=by
 intro value slice pins s S H x y v u Q I rx ry q hs;rcases q with q|q
 .exact h value slice pins s S H x y v u Q I rx ry q hs
 .exact h' value slice pins s S H x y v u Q I rx ry q hs
def CK{r:R2}(hr:Hk X r)(ha:PE X a ta)(hb:PE X b tb)(hs:j0 b):PE X (.Subscript a b pos) (Fi r ta tb):=by intro pins s S H Q I h;exact Subscript_ (Uj ha hb I h λv u s2 x y H2 I2 rx ry q=>hr a b pins s2 S H2 x y v u Q I2 rx ry q (hs _ _))
def QZ(K:vH):R2:=λx y H Q=>∃p xs i v,x=.ref p/\y=.int i/\AL K H p xs/\GN xs i=U v/\Q v H
def ML(K:vH):R2:=λx y H Q=>∃p xs i v,x=.ref p/\y=.int i/\AS K H p xs/\GN xs i=U v/\Q v H
def af:R2:=λx y H Q=>∃z i c,x=.str z/\y=.int i/\z.length<=sizeLine/\GN z.cps.toList i=U c/\Q (.str ⟨#[c]⟩) H
def kU:Hk X (QZ X.K):=by
 intro value slice pins s S H x y v u Q I rx ry h hs;obtain⟨p,xs,i,z,rfl,rfl,hq,he,q⟩:=h;cases rx;obtain⟨t,rfl⟩:=ry;obtain⟨AV,r,pl,hz⟩:=I.list hq;obtain⟨j,h1,h2,h3,h4,h5⟩:=Te he;obtain⟨w,ew,rw'⟩:=r.get h2;have hl:=r.length;have hn:=Nr;have fin:EP X pins S Q w s:=⟨z,H,I,rw',q⟩;by_cases h0:0<=i
 .have hj:i.toNat=j:=by rw[seqIndex_of h0 h5] at h1;exact AZ h1
  exact item_listR pl.isList h0 (by lia) (by rw[hj];simpa using ew) fin hs
 .have hj:(i+(AV.toArray.size:Int)).toNat=j:=by rw[seqIndex_neg (by lia) h4] at h1;rw[Cg,<-hl];exact AZ h1
  exact subscriptTail_builtinR (x:=w) pl.isList.typeIs slot_list_getitem.lookup
   (wpAny_getItem_list_neg (Q:=λr s'=>r=w/\EP X pins S Q r s') pl.isList (by lia) (by rw[Cg]<;>lia) (by lia) (by rw[hj];simpa using ew) ⟨Z,fin⟩) hs
def nB:Hk X (ML X.K):=by
 intro value slice pins s S H x y v u Q I rx ry h hs;obtain⟨p,xs,i,z,rfl,rfl,hq,he,q⟩:=h;cases rx;obtain⟨t,rfl⟩:=ry;obtain⟨AV,r,pl,hz⟩:=I.tuple hq;obtain⟨j,h1,h2,h3,h4,h5⟩:=Te he;obtain⟨w,ew,rw'⟩:=r.get h2;have hl:=r.length;have hn:=Nr;have fin:EP X pins S Q w s:=⟨z,H,I,rw',q⟩;exact subscriptTail_builtinR (x:=w) pl.typeIs slot_tuple_getitem.lookup
  (getItem_tuple (j:=j) (Q:=λr s'=>r=w/\EP X pins S Q r s') pl (by lia) (by lia) (by rw[Cg,<-hl];exact h1) (by simpa using ew) ⟨Z,fin⟩) hs
def QB:Hk X af:=by
 intro value slice pins s S H x y v u Q I rx ry h hs;obtain⟨z,i,c,rfl,rfl,hz,he,q⟩:=h;obtain⟨t,rfl⟩:=rx;obtain⟨t',rfl⟩:=ry;obtain⟨j,h1,h2,h3,h4,h5⟩:=Te he;have hl:z.cps.toList.length=z.length:=by simp[Str.length]
 rw[hl] at h1 h4 h5;have hn:=Nr;exact tail_any (Le s z t) slot_str_getitem.lookup (getItem_str (c:=c) (by have e1:decide (i< -(2^63:Int))=vc:=BG (by lia);have e2:decide (i>=2^63)=vc:=BG (by lia);rw[e1,e2,Bool.or_false]) (by rw[h1];simpa using h2) ⟨.str ⟨#[c]⟩,H,I.tok _,⟨_,Z⟩,q⟩) hs
def rR(K:vH):R2:=λx y H Q=>QZ K x y H Q\/ML K x y H Q\/af x y H Q
def eJ(AV:List AB)(n j:Nat)(u:AB):Obj.mapSeq (·.setIfInBounds j u) {cls:=.type "list",data:=.seq AV.toArray n}={cls:=.type "list",data:=.seq (AV.set j u).toArray n}:=by simp[Obj.mapSeq]
theorem Inv.lst{X:Cx}{pins:List (OK×Obj)}{S:St}{H:Hp}{s:Ya}{p:OK}{xs:List V}(I:Inv X pins S H s)(h:H p=U (.lst xs)):
 ∃(AV:List AB)(n:Nat),Vals xs AV/\s.heap.get? p=U {cls:=.type "list",data:=.seq AV.toArray n}/\xs.length<=sizeLine:=by
 obtain⟨z,AV,n,r,e⟩:=I.hok p _ h;exact⟨AV,n,r,e,z⟩
end
variable{AV:List AB}
section
variable{a b:hY}{tb:TE}{o:hY}{es:List hY}{to:TE}{t:TA}{id:String}
def Inv.ni{p:OK}{xs:List V}{its':List AB}{n':Nat}{f:Obj->Obj}(I:Inv X pins S H s)(h:H p=U (.lst xs))
 (ho:s.heap.get? p=U {cls:=.type "list",data:=.seq AV.toArray n})(hf:f {cls:=.type "list",data:=.seq AV.toArray n}={cls:=.type "list",data:=.seq its'.toArray n'})(r:Vals ys its')(hz:ys.length<=sizeLine)(t:Nat):
 Inv X pins S (upd H p (.lst ys)) {s with heap:=s.heap.update p f,toks:=t}:=by
 have e:(s.heap.update p f).get? p=U {cls:=.type "list",data:=.seq its'.toArray n'}:=by rw[JN f ho (by rw[hf]<;>rfl),hf]
 refine I.write (x:=p) (e:=p) (by rw[h];trivial) (.inl Z) (λb u hb q=>(EH _ _ (DI hb)).trans q) ⟨_,e⟩ ?_;exact⟨hz,its',n',r,e⟩
def pZ:V->V->V->Hp->(Hp->Prop)->Prop:=λo i v H Q=>∃p xs k j,o=.ref p/\i=.int k/\H p=U (.lst xs)/\LD xs.length k=U j/\Q (upd H p (.lst (xs.set j v)))
def set_list:bC X pZ:=by
 intro pins s S H o i v ov iv u Q I ro ri rv h;obtain⟨p,xs,k,j,rfl,rfl,hp,hj,q⟩:=h;cases ro;obtain⟨t,rfl⟩:=ri;obtain⟨AV,n,r,ho,hz⟩:=I.lst hp;obtain⟨h1,h2,h3,h4⟩:=YR hj;have hl:=r.length;have hn:=Nr;have I':Inv X pins S (upd H p (.lst (xs.set j v))) {s with heap:=s.heap.update p (Obj.mapSeq (·.setIfInBounds j u))}:=
  I.ni hp ho (eJ AV n j u) (r.set rv j) (by rw[List.length_set];exact hz) s.toks;by_cases h0:0<=k
 .have hk:k.toNat=j:=by rw[seqIndex_of h0 h4] at h1;exact AZ h1
  exact ki_setAt ho h0 (by lia) (by rw[Cg,<-hl];exact h4) (by rw[hk];exact⟨_,I',q⟩)
 .have hk:(k+(AV.toArray.size:Int)).toNat=j:=by rw[seqIndex_neg (by lia) h3] at h1;rw[Cg,<-hl];exact AZ h1
  exact ki_setBack ho (by lia) (by rw[Cg,<-hl];exact h3) (by lia) (by rw[hk];exact⟨_,I',q⟩)
def dF(lo hi:Option Int)(n:Nat):(tX lo hi J n).1=((BE n 0 lo:Nat):Int)/\(tX lo hi J n).2.1=((BE n n hi:Nat):Int)/\(tX lo hi J n).2.2=1:=by
 refine⟨?_,?_,Z⟩
 .cases lo with
  |none=>simp[tX,BE]
  |some i=>
   simp only[tX,BE,Option.getD_none,show(1:Int)>0 by decide,CL];by_cases h:i<0
   .simp only[h,CL]<;>lia
   .simp only[h,Bx]<;>lia
 .cases hi with
  |none=>simp[tX,BE]
  |some i=>
   simp only[tX,BE,Option.getD_none,show(1:Int)>0 by decide,CL];by_cases h:i<0
   .simp only[h,CL]<;>lia
   .simp only[h,Bx]<;>lia
def dB(AV:List AB)(lo hi:Option Int):slicePick AV.toArray lo hi J=((AV.drop (BE AV.length 0 lo)).take (BE AV.length AV.length hi-BE AV.length 0 lo)).toArray:=by obtain⟨h1,h2,h3⟩:=dF lo hi AV.toArray.size;delta slicePick;rw[h1,h2,h3];simp only[sliceRange_one,pick_run,Cg]<;>rfl
def az(K:vH):V->Option Int->Option Int->Hp->VK->Prop:=λx lo hi H Q=>∃a xs,x=.ref a/\AL K H a xs/\∀p,H p=J->Q (.ref p) (upd H p (.lst (Er xs lo hi)))
def Pl:MZ X (az X.K):=by intro pins s S H x v vl vu lo hi sl Q I rx hs pl pu h;obtain⟨a,xs,rfl,hx,q⟩:=h;cases rx;obtain⟨AV,r,ht,hz⟩:=I.list hx;have hlen:=r.length;refine⟨"list",_,slot_list_getitem.lookup,ht.isList.typeIs,?_⟩;refine wpAny_getItem_list_slice ht.isList hs pl pu .none (by simp) ?_ (by rw[Cg]<;>lia);rw[dB,<-hlen];refine⟨.ref s.heap.objs.size,_,I.laid (t':=s.toks) (o:=.lst (Er xs lo hi)) (λb ob q=>BD _ q) (Ac _) ?_,Z,q _ (I.hok.fresh (Ac _))⟩;exact⟨BI (V7 xs lo hi) hz,_,0,(r.drop (BE xs.length 0 lo)).take (BE xs.length xs.length hi-BE xs.length 0 lo),CG _ Z⟩
noncomputable def Iy:V->Bool
 |.BB=>Y
 |.bl _=>Y
 |.int _=>Y
 |.str _=>Y
 |_=>vc
noncomputable def KC:V->V->Bool
 |.BB,.BB=>Y
 |.bl a,.bl b=>a==b
 |.bl a,.int b=>(if a then 1 else 0)==b
 |.int a,.bl b=>a==(if b then 1 else 0)
 |.int a,.int b=>a==b
 |.str a,.str b=>a==b
 |_,_=>vc
def nR{x:V}{v:AB}(ry:RelV y u)(rx:RelV x v)(fy:Iy y=Y)(fx:Iy x=Y):SeqAt.EqAt A s u v (KC y x):=by
 cases y with
 |BB=>
  cases ry
  cases x with
  |BB=>cases rx;exact SeqAt.EqAt.same _
  |bl b=>cases rx;exact SeqAt.EqAt.none_bool b
  |int b=>obtain⟨t,rfl⟩:=rx;exact SeqAt.EqAt.none_int b t
  |str b=>obtain⟨t,rfl⟩:=rx;exact SeqAt.EqAt.none_str b t
  |_=>exact absurd (show vc=Y from fx) Ck
 |bl a=>
  cases ry
  cases x with
  |BB=>cases rx;exact SeqAt.EqAt.bool_none a
  |bl b=>cases rx;exact SeqAt.EqAt.bool_bool a b
  |int b=>obtain⟨t,rfl⟩:=rx;exact SeqAt.EqAt.bool_int a b t
  |str b=>obtain⟨t,rfl⟩:=rx;exact SeqAt.EqAt.bool_str a b t
  |_=>exact absurd (show vc=Y from fx) Ck
 |int a=>
  obtain⟨t',rfl⟩:=ry
  cases x with
  |BB=>cases rx;exact SeqAt.EqAt.int_none a t'
  |bl b=>cases rx;exact SeqAt.EqAt.int_bool a t' b
  |int b=>obtain⟨t,rfl⟩:=rx;exact SeqAt.EqAt.int_int a t' b t
  |str b=>obtain⟨t,rfl⟩:=rx;exact SeqAt.EqAt.int_str a t' b t
  |_=>exact absurd (show vc=Y from fx) Ck
 |str a=>
  obtain⟨t',rfl⟩:=ry
  cases x with
  |BB=>cases rx;exact SeqAt.EqAt.str_none a t'
  |bl b=>cases rx;exact SeqAt.EqAt.str_bool a t' b
  |int b=>obtain⟨t,rfl⟩:=rx;exact SeqAt.EqAt.str_int a t' b t
  |str b=>obtain⟨t,rfl⟩:=rx;exact SeqAt.EqAt.str_str a t' b t
  |_=>exact absurd (show vc=Y from fx) Ck
 |_=>exact absurd (show vc=Y from fy) Ck
def JH(x:V)(u:AB):Bool:=match u with
 |.none=>KC .BB x
 |.bool b=>KC (.bl b) x
 |.int i _=>KC (.int i) x
 |.str z _=>KC (.str z) x
 |_=>vc
def ZL{x:V}(r:RelV y u)(f:Iy y=Y):JH x u=KC y x:=by
 cases y with
 |BB=>cases r;rfl
 |bl b=>cases r;rfl
 |int i=>obtain⟨t,rfl⟩:=r;rfl
 |str z=>obtain⟨t,rfl⟩:=r;rfl
 |_=>exact absurd (show vc=Y from f) Ck
theorem Tf{x:V}:∀{xs:List V}{us:List AB},Vals xs us->xs.all Iy=Y->us.any (JH x)=xs.any λy=>KC y x
 |_,_,.nil,_=>rfl
 |y::xs,u::us,.cons r t,f=>by rw[LW,Ft] at f;rw[Ie,Ie,ZL r f.1,Tf t f.2]
theorem S3{A:tU}{s:Ya}{x:V}{v:AB}(rx:RelV x v)(fx:Iy x=Y):∀{xs:List V}{us:List AB},Vals xs us->xs.all Iy=Y->∀u∈us,SeqAt.EqAt A s u v (JH x u)
 |_,_,.nil,_=>λu hu=>by cases hu
 |y::xs,u::us,.cons r t,f=>λu' hu=>by
  rw[LW,Ft] at f;rcases BM.mp hu with rfl|hu
  .rw[ZL r f.1];exact nR r rx f.1 fx
  .exact S3 rx fx t f.2 u' hu
def Fo(x:V)(xs:List V):Bool:=xs.any λy=>KC y x
def cK(K:vH)(neg:Bool):R2:=λx y H Q=>∃p xs,y=.ref p/\(AL K H p xs\/AS K H p xs)/\Iy x=Y/\xs.all Iy=Y/\Q (.bl (if neg then !Fo x xs else Fo x xs)) H
def fk:CD X (sZ .In) (cK X.K vc):=by
 intro pins s S H x y v u Q I rx ry h;obtain⟨p,xs,rfl,hq,fx,fs,q⟩:=h;cases ry;rcases hq with hq|hq
 .obtain⟨AV,r,pl,hz⟩:=I.list hq;refine SeqAt.in_listAt (JH x) pl.isList (λw hw=>S3 rx fx r fs w (by simpa using hw)) ⟨.bl _,H,I,Z,?_⟩;rw[show AV.toArray.any (JH x)=AV.any (JH x) by simp,Tf r fs];exact q
 .obtain⟨AV,r,pl,hz⟩:=I.tuple hq;refine SeqAt.in_tupleAt (JH x) pl (λw hw=>S3 rx fx r fs w (by simpa using hw)) ⟨.bl _,H,I,Z,?_⟩;rw[show AV.toArray.any (JH x)=AV.any (JH x) by simp,Tf r fs];exact q
def JW:DU X (.builtin "len") (λxs H Q=>∃p ys,xs=[.ref p]/\(AL X.K H p ys\/AS X.K H p ys)/\Q (.int ys.length) H):=by
 intro pins s S H xs us Q I r h;obtain⟨p,ys,rfl,hq,q⟩:=h;obtain⟨u,rfl,rx⟩:=vals1 r;cases rx;have hn:=Nr;rcases hq with hq|hq
 .obtain⟨AV,r',pl,hz⟩:=I.list hq;have hlen:=r'.length;exact Calls.call_len_list pl.isList (by simp only[Cg]<;>lia) ⟨.int ys.length,H,I.tok _,⟨s.toks+1,by rw[Cg,hlen]⟩,q⟩
 .obtain⟨AV,r',pl,hz⟩:=I.tuple hq;have hlen:=r'.length;exact len_tuple pl (by simp only[Cg]<;>lia) ⟨.int ys.length,H,I.tok _,⟨s.toks+1,by rw[Cg,hlen]⟩,q⟩
def dE:DU X (.type "list") (λxs H Q=>∃p ys,xs=[.ref p]/\(AL X.K H p ys\/AS X.K H p ys)/\∀l,H l=J->Q (.ref l) (upd H l (.lst ys))):=by
 intro pins s S H xs us Q I r h;obtain⟨p,ys,rfl,hq,q⟩:=h;obtain⟨u,rfl,rx⟩:=vals1 r;cases rx;have fin:∀(AV:List AB),Vals ys AV->ys.length<=sizeLine->∀(h':sf)(c':Nat),(∀b o',s.heap.get? b=U o'->h'.get? b=U o')->
  h'.get? s.heap.objs.size=U {cls:=.type "list",dict:=J,data:=.seq AV.toArray c',slots:= #[]}->EP X pins S Q (.ref s.heap.objs.size) {s with heap:=h'}:=λAV r' hz h' c' kp e=>
  ⟨.ref s.heap.objs.size,_,I.laid (t':=s.toks) kp (Ac _) (show BY X.prog X.w _ h' _ (.lst ys) from⟨hz,AV,c',r',e⟩),Z,q _ (I.hok.fresh (Ac _))⟩;rcases hq with hq|hq
 .obtain⟨AV,r',pl,hz⟩:=I.list hq;have hlen:=r'.length;obtain⟨o,ho,hc,n,hd⟩:=pl.isList;exact call_list_seq p (.inl Z) ho hc hd (λh' c' kp e=>fin AV r' hz h' c' kp e) (by simp only[Cg]<;>lia)
 .obtain⟨AV,r',pl,hz⟩:=I.tuple hq;have hlen:=r'.length;obtain⟨o,ho,hc,n,hd⟩:=pl;exact call_list_seq p (.inr Z) ho hc hd (λh' c' kp e=>fin AV r' hz h' c' kp e) (by simp only[Cg]<;>lia)
def OM(K:vH)(T:String)(x:V)(H:Hp):Prop:=match x with
 |.str _=>T="str"
 |.int _=>T="int"
 |.ref p=>(T="list" /\∃xs,AL K H p xs)\/(T="tuple" /\∃o,K.lookup p=U o/\o.cls=.type "tuple" /\o.dict=J)\/
  (T="dict" /\((∃AA,H p=U (.dK AA))\/∃AA,H p=U (.dT AA)))\/(T="set" /\∃vj n,H p=U (.set vj n))
 |_=>False
def Zk{x:V}{v:AB}(I:Inv X pins S H s)(r:RelV x v)(ty:OM X.K T x H):
 s.TypeIs v T/\∀a,v=.ref a->∃ob,s.heap.get? a=U ob/\ob.dict=J:=by
 cases x with
 |str z=>obtain⟨t,rfl⟩:=r;cases(show T="str" from ty);exact⟨Le s z t,λ_ e=>nomatch e⟩
 |int i=>obtain⟨t,rfl⟩:=r;cases(show T="int" from ty);exact⟨typeIs_int s i t,λ_ e=>nomatch e⟩
 |ref p=>
  cases r;rcases ty with⟨rfl,xs,hq⟩|⟨rfl,o,hk,hc,hd⟩|⟨rfl,hk⟩|⟨rfl,vj,n,hk⟩
  .obtain⟨AV,_,pl,_⟩:=I.list hq;refine⟨pl.isList.typeIs,λa e=>?_⟩;cases e;obtain⟨o,n,e,c,hd,_⟩:=pl;exact⟨o,e,hd⟩
  .refine⟨⟨o,I.Bb p o hk,hc⟩,λa e=>?_⟩;cases e;exact⟨o,I.Bb _ o hk,hd⟩
  .have z:∃o,s.heap.get? p=U o/\o.ExactDict:=by
    rcases hk with⟨AA,hk⟩|⟨AA,hk⟩
    .obtain⟨_,_,_,_,o,_,_,e,ex,_⟩:=I.hok p _ hk;exact⟨o,e,ex⟩
    .obtain⟨_,_,_,_,o,_,_,e,ex,_⟩:=I.hok p _ hk;exact⟨o,e,ex⟩
   obtain⟨o,e,ex⟩:=z;refine⟨⟨o,e,ex.1⟩,λa e2=>?_⟩;cases e2;exact⟨o,e,ex.2.1⟩
  .obtain⟨o,_,_,_,e,ex,_⟩:=I.hok p _ hk;refine⟨⟨o,e,ex.1⟩,λa e2=>?_⟩;cases e2;exact⟨o,e,ex.2.1⟩
 |_=>exact False.elim ty
def ay(K:vH)(T:String)(r:V->List V->Hp->VK->Prop)(to:TE):TE:=λS H Q=>to S H λx H1=>OM K T x H1/\r x [] H1 Q
def VC(K:vH)(T:String)(r:V->List V->Hp->VK->Prop)(to:TE)(t:TA):TE:=λS H Q=>to S H λx H1=>OM K T x H1/\t S H1 λxs H2=>r x xs H2 Q
end
variable{cpos:Pos}
section
variable{a b:hY}{tb:TE}{o:hY}{es:List hY}{to:TE}{t:TA}{id:String}
def Ny(pa:uR T)(slot:Slot T name id)(hty:typeOf (.builtin id)=pure (.type "method_descriptor"))(hm:OX X id r)(ho:PE X o to)
 (hbase:sr o name X.env (sd o X.env)=sd o X.env:=by rfl)(hline:(apos.endLine==cpos.line)=Y:=by rfl):PE X (.Call (.Attribute o name apos) [] [] cpos) (ay X.K T r to):=by
 intro pins s S H Q I h;refine wpAny_Call_method0_late hbase hline (Ad (ho pins s S H _ I h) λv s1 ⟨x,H1,I1,r1,ty,q1⟩=>?_);obtain⟨h1,h2⟩:=Zk I1 r1 ty;exact⟨T,id,pa,slot,hty,h1,h2,Oi Z (PySem.evalArgs_none (hm pins s1 S H1 x [] v [] Q I1 r1 .nil q1))⟩
def Jq(pa:uR T)(slot:Slot T name id)(hty:typeOf (.builtin id)=pure (.type "method_descriptor"))(hm:OX X id r)(ho:PE X o to)(ha:PA X (e::es) t)
 (hbase:sr o name X.env (sd o X.env)=sd o X.env:=by rfl)
 (hfew:((tF cpos (dq (e::es) X.env)).all (λx=> !x.1)&&(uG cpos (tP [] X.env)).all (λx=>x.1.isSome)
  &&decide ((e::es).length+([]:List uC).length+(if([]:List uC).isEmpty then 0 else 1)<30))=Y:=by rfl)
 (hline:(apos.endLine==cpos.line)=Y:=by rfl)(hs:dq (e::es) X.env=(vc,sd e X.env)::dq es X.env:=by rfl)(hplain:(tF cpos (dq es X.env)).any (·.1)=vc:=by rfl):
 PE X (.Call (.Attribute o name apos) (e::es) [] cpos) (VC X.K T r to t):=by
 intro pins s S H Q I h;refine wpAny_Call_method_late hbase hfew hline Z (Ad (ho pins s S H _ I h) λv s1 ⟨x,H1,I1,r1,ty,q1⟩=>?_);obtain⟨h1,h2⟩:=Zk I1 r1 ty;refine⟨T,id,pa,slot,hty,h1,h2,?_⟩;have hA:=ha cpos pins s1 S H1 _ I1 q1;rw[hs] at hA⊢;refine Oi (by show(vc||(tF cpos (dq es X.env)).any (·.1))=vc;rw[hplain]<;>rfl) (RI ?_);exact Ad hA λus s2 ⟨vs,H2,I2,r2,q2⟩=>hm pins s2 S H2 x vs v us Q I2 r1 r2 q2
end
def IY(X:Cx)(id:String)(r:V->List V->Hp->VK->Prop):Prop:=
 ∀(pins:List (OK×Obj))(s:Ya)(S:St)(H:Hp)(x:V)(xs:List V)(v:AB)(us:List AB)(Q:VK),Inv X pins S H s->RelV x v->Vals xs us->r x xs H Q->
  ax (Yf X.prog X.w) X.A (call (.builtin id) (v::us)) (EP X pins S Q) X.xe s
def Vals.one{x:V}(h:Vals [x] us):∃u,us=[u]/\RelV x u:=by
 cases h with
 |cons r t=>cases t;exact⟨_,Z,r⟩
def Vals.two{x:V}(h:Vals [x,y] us):∃u v,us=[u,v]/\RelV x u/\RelV y v:=by
 cases h with
 |cons r t=>obtain⟨_,rfl,q⟩:=Vals.one t;exact⟨_,_,Z,r,q⟩
def Vals.zero:∀{us:List AB},Vals [] us->us=[]
 |_,.nil=>rfl
theorem Vals.dropLast{xs:List V}(h:Vals xs us):Vals xs.dropLast us.dropLast:=by
 induction h with
 |nil=>exact .nil
 |cons r t ih=>
  cases t with
  |nil=>exact .nil
  |cons q t'=>exact .cons r ih
def eS(l:List α):l.eraseIdx (l.length-1)=l.dropLast:=by
 induction l with
 |nil=>rfl
 |cons a r ih=>
  cases r with
  |nil=>rfl
  |cons b r=>
   have e:(a::b::r).length-1=((b::r).length-1)+1:=by
    have h1:(a::b::r).length=r.length+2:=Z;have h2:(b::r).length=r.length+1:=rfl
    lia
   rw[e,List.eraseIdx_cons_succ,ih];all_goals rfl
section
variable{l:OK}{xs zs:List V}
def Inv.Ue{its':List AB}{f:Array AB->Array AB}(I:Inv X pins S H s)(hH:H l=U (.lst xs))
 (e:s.heap.get? l=U {cls:=.type "list",data:=.seq AV.toArray n})(hf:f AV.toArray=its'.toArray)(hv:Vals ys its')(hz:ys.length<=sizeLine):
 Inv X pins S (upd H l (.lst ys)) {s with heap:=s.heap.update l (Obj.mapSeq f),toks:=t'}:=by
 have q:=PySem.IsL.update e f;rw[hf] at q;refine I.write (x:=l) (e:=l) (by rw[hH];exact trivial) (.inl Z) (λb' u hb hu=>(EH s.heap (Obj.mapSeq f) (DI hb)).trans hu) ⟨_,q⟩ ?_;exact⟨hz,its',_,hv,q⟩
def Inv.UZ(I:Inv X pins S H s)(hv:Vals ys AV)(hz:ys.length<=sizeLine):
 Inv X pins S (upd H s.heap.objs.size (.lst ys)) {s with heap:=s.heap.push {cls:=.type "list",data:=.seq AV.toArray},toks:=t'}:=
 I.laid (λ_ _ q=>BD _ q) (Ac _) ⟨hz,AV,0,hv,CG _ Z⟩
theorem Inv.fresh(I:Inv X pins S H s):H s.heap.objs.size=J:=I.hok.fresh (Ac _)
def Inv.K5(I:Inv X pins S H s)(hH:H l=U (.lst xs)):xs.length<=sizeLine/\∃(AV:List AB)(n:Nat),Vals xs AV/\xs.length=AV.length/\s.heap.get? l=U {cls:=.type "list",data:=.seq AV.toArray n}:=by obtain⟨z,AV,n,r,e⟩:=I.hok l _ hH;exact⟨z,AV,n,r,r.length,e⟩
def jV(h:n<=sizeLine):Builtin.List.listTooLong n=vc:=by delta Builtin.List.listTooLong;exact BG (by lia)
end
def jd:V->List V->Hp->VK->Prop:=λx vs H Q=>∃l xs y,x=.ref l/\vs=[y]/\H l=U (.lst xs)/\xs.length<sizeLine/\Q .BB (upd H l (.lst (xs++[y])))
def EM:IY X "list.append" jd:=by
 intro pins s S H x vs v us Q I rx rv h;obtain⟨l,xs,y,rfl,rfl,hH,hz,q⟩:=h;cases rx;obtain⟨u,rfl,ru⟩:=rv.one;obtain⟨z,AV,n,r,hl,e⟩:=I.K5 hH;refine KS F.slot_list_append ⟨_,e,Z⟩ F.entry_list_append (F.args_list_append_2 _ _) (PySem.list_append l AV.toArray n u (by rw[Cg];lia)) ⟨e,?_⟩;refine⟨.BB,_,I.Ue (its':=AV++[u]) hH e (by simp) (r.append (.cons ru .nil)) ?_,Z,q⟩;rw[A9,Ey]
 lia
def kb:V->List V->Hp->VK->Prop:=λx vs H Q=>∃l b xs zs,x=.ref l/\vs=[.ref b]/\H l=U (.lst xs)/\H b=U (.lst zs)/\xs.length+zs.length<=sizeLine/\Q .BB (upd H l (.lst (xs++zs)))
def gI:IY X "list.extend" kb:=by
 intro pins s S H x vs v us Q I rx rv h;obtain⟨l,b,xs,zs,rfl,rfl,hH,hB,hz,q⟩:=h;cases rx;obtain⟨u,rfl,ru⟩:=rv.one;cases ru;obtain⟨z,AV,n,r,hl,e⟩:=I.K5 hH;obtain⟨z2,its2,n2,r2,hl2,e2⟩:=I.K5 hB;have hsz:AV.toArray.size+its2.toArray.size<=sizeLine:=by rw[Cg,Cg];lia
 have hlong:¬(!AV.toArray.isEmpty&&Builtin.List.listTooLong (AV.toArray.size+its2.toArray.size))=Y:=by rw[jV hsz,LS];exact Ck
 refine KS F.slot_list_extend ⟨_,e,Z⟩ F.entry_list_extend (F.args_list_extend_2 _ _)
  (AutoSeq1.list_extend_list_list_0 l AV.toArray n b its2.toArray n2 hlong (by rw[Cg];lia) (by lia)) ⟨e,e2,?_⟩;refine⟨.BB,_,I.Ue (its':=AV++its2) hH e (by simp) (r.append r2) ?_,Z,q⟩;rw[A9]
 lia
def qO:V->List V->Hp->VK->Prop:=λx vs H Q=>∃l xs y,x=.ref l/\vs=[]/\H l=U (.lst xs)/\xs[xs.length-1]? =U y/\Q y (upd H l (.lst xs.dropLast))
def mX:IY X "list.pop" qO:=by
 intro pins s S H x vs v us Q I rx rv h;obtain⟨l,xs,y,rfl,rfl,hH,hy,q⟩:=h;cases rx;have hus:=rv.zero;subst hus;obtain⟨z,AV,n,r,hl,e⟩:=I.K5 hH;obtain⟨u,hu,ru⟩:=r.get hy;have hy':AV.toArray[AV.toArray.size-1]? =U u:=by show AV.toArray[AV.length-1]? =U u;rw[<-HE,<-hl];exact hu
 refine KS F.slot_list_pop ⟨_,e,Z⟩ F.entry_list_pop (F.args_list_pop_1 _) (MeetsSeq.list_pop_last l AV.toArray n u hy' (by rw[Cg];lia)) ⟨e,?_⟩;refine⟨y,_,I.Ue (its':=AV.dropLast) hH e ?_ r.dropLast ?_,ru,q⟩
 .show AV.toArray.eraseIdxIfInBounds (AV.toArray.size-1)=AV.dropLast.toArray;rw[Cg,List.eraseIdxIfInBounds_toArray,eS]
 .rw[List.length_dropLast]
  lia
def qk:R2:=λx y H Q=>∃l b xs zs,x=.ref l/\y=.ref b/\H l=U (.lst xs)/\H b=U (.lst zs)/\xs.length+zs.length<=sizeLine/\∀p,H p=J->Q (.ref p) (upd H p (.lst (xs++zs)))
theorem L0:CD X (tY .Add) qk:=by
 intro pins s S H x y v u Q I rx ry h;obtain⟨l,b,xs,zs,rfl,rfl,hH,hB,hz,q⟩:=h;cases rx;cases ry;obtain⟨z,AV,n,r,hl,e⟩:=I.K5 hH;obtain⟨z2,its2,n2,r2,hl2,e2⟩:=I.K5 hB;refine PySem.P.add_list e e2 ?_ (by rw[Cg,Cg];lia);have ea:AV.toArray++its2.toArray=(AV++its2).toArray:=by simp
 rw[ea];exact⟨.ref _,_,I.UZ (t':=s.toks) (r.append r2) (by rw[A9];lia),Z,q _ I.fresh⟩
section
open PySem.W PySem.Calls
def cq{P:Params}:∀(ns:List Int)(vs:List AB),WellAll P h vs (ns.map WData.int)->IntsAre vs ns:=by
 intro ns
 induction ns with
 |nil=>intro vs w;rw[La] at w;cases w;exact .nil
 |cons n ns ih=>
  intro vs w;rw[Au] at w
  cases w with
  |cons a b=>cases a;exact .cons _ _ (ih _ b)
def gY{l:OpenLaw}(hn:l.most=U n){P:Params}{args:List WData}{vals:List AB}
 (hpre:l.row.toRowW.claim.pre args=Y)(hwl:WellAll P h vals args):
 ∃a vs ns,vals=[Value.ref a]/\args=[WData.list (ns.map WData.int)]/\h.get? a=U {cls:=.type "list",data:=.seq vs.toArray}/\IntsAre vs ns/\ns.length<=n:=by
 have hsh:WShape.hasAll [] args [.list .int]=Y:=(pre_splitW hpre).1;have hc:l.pre.holds [] {args:=args}=Y:=(pre_splitW hpre).2;obtain⟨d,r,rfl,h1,h2⟩:=hasAllW_cons hsh;obtain rfl:=hasAllW_nil h2;obtain⟨xs,rfl,h3⟩:=hasW_list h1;obtain⟨ns,rfl⟩:=items_int h3;have hlen:ns.length<=n:=by
  delta OpenLaw.pre at hc;have h4:(WTm.not (.lt (.lit (.int (n:Int))) (.len (.arg 0)))).holds [] {args:=[.list (ns.map .int)]}=Y:=by have h4:=(holds_andW hc).1;rw[hn] at h4;exact h4
  have h5:=condW_of h4 (w_not (w_lt w_lit (w_len_list (w_arg Z))));rw[AI] at h5;refine Oz λq=>?_;have q':(n:Int)<((ns.length:Nat):Int):=by lia
  first
   |(rw[Bc q'] at h5;exact absurd h5 (by decide))
   |(simp at h5;lia)
 cases hwl with
 |cons w1 w2=>
  cases w2
  cases w1 with
  |list ho hall=>exact⟨_,_,ns,Z,Z,ho,cq ns _ hall,hlen⟩
def gq(l:OpenLaw)(args:List WData):l.row.toRowW.claim.post args (.bool Y) args=Y:=
 postW_of (r:=l.row.toRowW) (X:=(Y==Y))
  (show WShape.has [] (.bool Y) .bool=Y by first|rfl|decide|simp[WShape.has,WShape.arms,WShape.armsAll])
  (show(WTm.eq .res (.lit (.bool Y))).value [] {args:=args,res:=U (.bool Y),after:=args}=U (.bool (Y==Y)) from w_eq_bool (w_res Z) w_lit) Z
end
variable{XP:(Str->Option AB)->sf->Prop}
section
open PySem.W PySem.Calls
def dM{l:OpenLaw}{q:sY}{loose:List Str}{YP:si->sf->Prop}{d:DefRec}
 (hn:l.most=U n)(hdf:d.params.defaults=[])
 (call:∀(w:si)(s₀ s₁:Ya)(mg mb:Str->Option AB)(fa:OK)(o:Obj)(pm cd doc:AB)(a:OK)(vs:List AB)(ns:List Int),
  Ground q loose [] XP w s₀ mg mb s₁.heap->YP w s₁.heap->
  s₁.heap.get? fa=U o->o.data=.func (docDef d.name d.params d.body d.scope pm cd doc)->s₁.heap.CodeRec cd d.name->mg d.name=U (.ref fa)->
  s₁.heap.get? a=U {cls:=.type "list",data:=.seq vs.toArray}->IntsAre vs ns->ns.length<=n->s₁.gens= #[]->
  tS (Yf l.prog w) uW (.call (.ref fa) ⟨[.ref a],[]⟩) (λr s'=>r=.ok (.ret (.bool Y))/\OldK s₁.heap s'.heap/\s'.os=s₁.os/\uD s'.gens) s₁):
 WalkO q loose XP YP l.row.toRowW d [] (λf vs=>PySem.call f vs):=by
 intro w s₀ s₁ mg mb G vh fa o pm cd doc dV kV ho hd hcd hD hmg hg args vals as hpre hlay hrd hwl hlo;obtain rfl:dV=.none:=Dflts.none hD hdf;obtain rfl:kV=.none:=Dflts.noKw hD;obtain⟨a,vs,ns,rfl,rfl,hobj,hints,hlen⟩:=gY hn hpre hwl;refine enter_call (LZ (call w s₀ s₁ mg mb fa o pm cd doc a vs ns G vh ho (fd_plain hd) hcd hmg hobj hints hlen hg) λr s' hq=>?_);obtain⟨rfl,h2,h3,h4⟩:=hq;exact⟨.inl ⟨.bool Y,.bool Y,[],Z,λ_=>rfl,.bool Y,gq l _,λ_=>⟨List.Pairwise.nil,λ_ hm=>(nomatch hm)⟩⟩,h2,h3,h4⟩
end
theorem Wz:∀{vs:List AB}{ns:List Int},IntsAre vs ns->Vals (ns.map V.int) vs
 |_,_,.nil=>.nil
 |_,_,.cons n t h=>.cons ⟨t,Z⟩ (Wz h)
def Uh(H:Hp):Prop:=∀b,H b=J\/∃o xs,H b=U (.BZ o (.lst xs))
variable{ns:List Int}
def iO{mb:Str->Option AB}{fa:OK}{s₁:Ya}{vs:List AB}
 (KX:K.In s₁.heap)(hns:s₁.heap.Ns dy mg)(hb:s₁.heap.Ns uz mb)(hbb:∀x:Str,x≠ "__name__" ->mb x=sq x)(hlim:s₁.heap.NoLimit)(hg:s₁.gens= #[])
 (ha:s₁.heap.get? a=U {cls:=.type "list",data:=.seq vs.toArray})(hi:IntsAre vs ns)(hl:ns.length<=sizeLine)(hr:Br k uW)
 (F:∀base:sf,K.In base->base.Ns dy mg->AX P w K mg base CX k fa fd [x] sp)(hbind:∀(s:Ya)(u:AB),uu s fd ⟨[u],[]⟩ [(x,u)])
 (hsp:∀H:Hp,Uh H->AL K H a (ns.map V.int)->sp [.ref a] H (λv _=>v=.bl Y) λ_ _ _=>False)
 (hCX:∀H e s',CX [] H s₁ (λ_ _ _=>False) e s'->False):
 tS (Yf P w) uW (.call (.ref fa) ⟨[.ref a],[]⟩) (λr s'=>r=.ok (.ret (.bool Y))/\OldK s₁.heap s'.heap/\s'.os=s₁.os/\uD s'.gens) s₁:=by
 have rv:=Wz hi;have lenV:=hi.length;have core:∀H:Hp,Uh H->AL K H a (ns.map V.int)->CA P w H s₁.heap->(∀b,H b≠J->b=a)->(H a≠J->K.lookup a=J)->
  tS (Yf P w) uW (.call (.ref fa) ⟨[.ref a],[]⟩) (λr s'=>r=.ok (.ret (.bool Y))/\OldK s₁.heap s'.heap/\s'.os=s₁.os/\uD s'.gens) s₁:=by
  intro H hO hS hok hA hK;have base_of:∀{b:OK}{o:Obj},s₁.heap.get? b=U o->H b=J->(JD s₁.heap H).get? b=U o:=λe n=>i3 e n;have J8:∀{b:OK}{o:Obj}{es:Array DictEntry}{ep:Nat},s₁.heap.get? b=U o->o.data=.dict es ep->H b=J:=λ{b o es ep} e d=>by
   cases q:H b with
   |none=>rfl
   |some u=>have e':b=a:=hA b (by rw[q];simp);subst e';rw[ha] at e;cases e;have d':Data.seq vs.toArray _=Data.dict es ep:=d;cases d'
  have nsK:∀{b:OK}{m:Str->Option AB},s₁.heap.Ns b m->(JD s₁.heap H).Ns b m:=λ{b m} ⟨o,es,ep,e,d,r⟩=>⟨o,es,ep,base_of e (J8 e d),d,r⟩;have hKb:K.In (JD s₁.heap H):=λb o e=>base_of (KX b o e) (by
   cases q:H b with
   |none=>rfl
   |some u=>have e':b=a:=hA b (by rw[q];simp);subst e';rw[hK (by rw[q];simp)] at e;cases e);have hM:Mod K mg (JD s₁.heap H):=⟨hKb,nsK hns,⟨mb,nsK hb,hbb⟩,let⟨mc,h1,h2⟩:=hlim;⟨mc,nsK h1,h2⟩⟩;have e0:Kx P w K mg (JD s₁.heap H) uW [] s₁ H:=⟨Z,hM,λb o e=>jz e,Nat.le_of_eq (fc _ _),trivial,λb hb=>absurd (show b∈([]:List OK) from hb) (by simp),hok,.of_eq hg⟩;refine LZ ((F _ hKb (nsK hns)).run uW [] s₁ H ⟨[.ref a],[]⟩ [.ref a] [.ref a] _ _ hr e0 (hbind s₁ (.ref a)) (.cons Z .nil) (hsp H hO hS)) λr s' h=>?_
  cases r with
  |error e=>exact(hCX H e s' h).elim
  |ok fl=>
   cases fl with
   |next=>exact False.elim h
   |brk=>exact False.elim h
   |cont=>exact False.elim h
   |ret u=>
    obtain⟨v,H',os,bare,un,hok',r',q⟩:=h;have q':v=.bl Y:=q;subst q';obtain rfl:u=Value.bool Y:=r';refine⟨Z,OldK.of_keep λb o e=>?_,os,bare⟩
    cases q:H b with
    |none=>exact un.keep b o e q (by intro z;exact absurd (show b∈([]:List OK) from z) (by simp)) (by simp)
    |some u=>
     rcases hO b with z|⟨ob,xs,z⟩
     .rw[q] at z;cases z
     .have z2:=un.EW b ob _ z;obtain⟨e1,_⟩:=hok b _ z;obtain⟨e2,_⟩:=hok' b _ z2;rw[e] at e1;cases e1;exact e2
 cases hk:K.lookup a with
 |some o=>have e:=KX a o hk;rw[ha] at e;cases e;refine core (λ_=>J) (λ_=>.inl Z) (.inr ⟨_,vs.toArray,_,hk,Z,Z,Z,by rw[Cg,lenV];exact hl,by simpa using rv⟩) (λb u z=>by have z':(J:Option HO)=U u:=z;cases z') (λb z=>absurd Z z) λz=>absurd Z z
 |none=>
  refine core (λb=>if b=a then U (.BZ {cls:=.type "list",data:=.seq vs.toArray} (.lst (ns.map V.int))) else J) (λb=>?_) (.inl (.inr ⟨{cls:=.type "list",data:=.seq vs.toArray},AG Z⟩)) (λb u z=>?_) (λb z=>?_) λ_=>hk
  .by_cases hb:b=a
   .exact .inr ⟨_,_,AG hb⟩
   .exact .inl (AF hb)
  .by_cases hb:b=a
   .have z':=(AG hb).symm.trans z;cases z';subst hb;exact⟨ha,by rw[AI];exact hl,vs,_,rv,ha⟩
   .have z':=(AF hb).symm.trans z;cases z'
  .by_cases hb:b=a
   .exact hb
   .exact absurd (AF hb) z
abbrev Ai:J1:=λ_ _ _ _ _ _=>False
abbrev E0:XK:=λ_ _ _=>False
def BF:Passes Ai X E0:=λ_ _ _ _ _ _ _ h=>h.elim
structure Ak(K:vH)(x qual:Str)(st:hX)(f:OK)(fd:sj):Prop where
 ex:∃(oc:AB)(od:Option OK)(kV doc pm:AB)(an:Option OK)(cdv ct:AB)(osl:Array (Option AB)),
  fd=fnOf x qual (Jd st) (F3 st) (Aq st) .none kV doc pm an cdv ct/\K.lookup f=U ⟨oc,od,.func fd,osl⟩/\codeIn K cdv qual=Y
 kp:tM K (.ref f)=Y
def Ak.ok{st:hX}(F:Ak K x qual st f fd)(vj:A3 N ps (Aq st))(len:∀vs H Q E,sp vs H Q E->vs.length=ps.length)
 (hbody:∀(cdv:AB)(A:tU)(outer:List Env)(s:Ya)(H:Hp)(vs:List V)(Q:VK)(E:XK),Br k (A.deeper (tu qual (Aq st) s.heap.objs.size f cdv))->sp vs H Q E->
  ∃t,Et (Jy Ai P w K mg base N qual (Aq st) f cdv A outer s H E).Qt (F3 st) t/\t {nx:=λ_ H'=>Q .BB H',rt:=Q} (start N vs) H):AX P w K mg base Ai (k+1) f fd ps sp:=by
 obtain⟨oc,od,kV,doc,pm,an,cdv,ct,osl,rfl,lk,hcd⟩:=F.ex;refine aT lk hcd vj len λA outer s H vs Q E hr hsp=>?_;obtain⟨t,h,q⟩:=hbody cdv A outer s H vs Q E hr hsp;exact⟨t,h.Qt,q⟩
def Ak.binds{st:hX}(F:Ak K x qual st f fd)
 (h:∀(kV doc pm:AB)(an:Option OK)(cdv ct:AB)(us:List AB),us.length=ps.length->bindArgs (fnOf x qual (Jd st) (F3 st) (Aq st) .none kV doc pm an cdv ct) ⟨us,[]⟩=pure (ps.zip us)):Binds K fd ps []:=by
 obtain⟨oc,od,kV,doc,pm,an,cdv,ct,osl,rfl,lk,hcd⟩:=F.ex;exact .all (h kV doc pm an cdv ct)
def nh{st:hX}{oc:AB}{an:Option OK}{kV doc pm cdv ct:AB}(l:K.lookup f=U ⟨oc,od,.func (fnOf x qual (Jd st) (F3 st) (Aq st) .none kV doc pm an cdv ct),osl⟩)
 (c:codeIn K cdv qual=Y)(k:tM K (.ref f)=Y):Ak K x qual st f (fnOf x qual (Jd st) (F3 st) (Aq st) .none kV doc pm an cdv ct):=⟨⟨oc,od,kV,doc,pm,an,cdv,ct,osl,Z,l,c⟩,k⟩
def CZ(hr:Br k A):A.units+1<tE:=RO (Nat.add_le_add_left (by decide:1<=64) _) hr.units
def pv(i:Nat)(hN:X.N[i]? =U x:=by rfl)(hv:Qs X.env.scope x:=by first|exact AY Z|exact Cn (AY Z)|exact Cn (Cn Z))(hd:(x==("__debug__" :Str))=vc:=by decide)
 (hcd:(x==("__classdict__" :Str))=vc:=by decide):PE X (.Name x pos) (Es i):=ZQ hN hv hd hcd
variable{B:Prop}
def BV{A:Prop}(h:B):if vc=Y then A else B:=by rw[AF Ck];exact h
def Bs{A:Prop}(h:A):if Y=Y then A else B:=by rw[AG Z];exact h
def GB{c A:Prop}[Decidable c](h1:c->A)(h2:¬c->B):if c then A else B:=by
 by_cases h:c
 .rw[AG h];exact h1 h
 .rw[AF h];exact h2 h
def El{c A:Prop}[Decidable c](hc:c)(h:B):if(!decide c)=Y then A else B:=by rw[Bc hc];exact BV h
def AM(H H':Hp):Prop:=∀b o,H b=U o->H' b=U o
def AM.refl(H:Hp):AM H H:=λ_ _ h=>h
variable{H2:Hp}
def AM.trans(a:AM H H1)(b:AM H1 H2):AM H H2:=λc o h=>b c o (a c o h)
def AM.free(e:AM H H'){l:OK}(h:H' l=Option.none):H l=Option.none:=by
 cases q:H l with
 |none=>rfl
 |some o=>rw[e l o q] at h;cases h
def AM.seq{xs:List V}(e:AM H H')(h:AL K H a xs):AL K H' a xs:=by
 rcases h with(h|⟨o,h⟩)|h
 .exact .inl (.inl (e _ _ h))
 .exact .inl (.inr ⟨o,e _ _ h⟩)
 .exact .inr h
section
variable{κ:Type}[DecidableEq κ]
noncomputable def BU(AA:List (κ×V))(k:κ):Option V:=(AA.find? λkv=>decide (kv.1=k)).map (·.2)
noncomputable def putK(AA:List (κ×V))(k:κ)(v:V):List (κ×V):=
 if(AA.any λkv=>decide (kv.1=k))=Y then AA.map (λkv=>if kv.1=k then(kv.1,v) else kv) else AA++[(k,v)]
noncomputable def I0(AA:List (κ×V))(k:κ):List (κ×V):=AA.filter λkv=>decide (kv.1≠k)
def Fz{p:κ×V}{r:List (κ×V)}{k:κ}(e:p.1=k):BU (p::r) k=U p.2:=by simp[BU,C9,e]
def Fx{p:κ×V}{r:List (κ×V)}{k:κ}(e:¬p.1=k):BU (p::r) k=BU r k:=by simp[BU,C9,e]
theorem Ka(k:κ):∀AA:List (κ×V),(AA.any λkv=>decide (kv.1=k))=(BU AA k).isSome
 |[]=>rfl
 |p::r=>by
  rw[Ie];by_cases e:p.1=k
  .simp only[Fz e,Bc e,Bool.true_or,Option.isSome_some]
  .rw[Fx e,BG e,Ry];exact Ka k r
theorem Xk(k j:κ)(y:V):∀AA:List (κ×V),BU (AA.map λkv=>if kv.1=k then(kv.1,y) else kv) j=(BU AA j).map λx=>if j=k then y else x
 |[]=>rfl
 |p::r=>by
  have ih:=Xk k j y r;rw[Au];by_cases h:p.1=k
  .rw[AG h];by_cases e:p.1=j
   .rw[Fz (p:=(p.1,y)) e,Fz e,O2,AG (e.symm.trans h)]
   .rw[Fx (p:=(p.1,y)) e,Fx e,ih]
  .rw[AF h];by_cases e:p.1=j
   .rw[Fz (p:=p) e,Fz e,O2,AF (λz=>h (e.trans z))]
   .rw[Fx (p:=p) e,Fx e,ih]
theorem Wn(k j:κ)(y:V):∀AA:List (κ×V),BU AA k=J->BU (AA++[(k,y)]) j=if j=k then U y else BU AA j
 |[],_=>by
  by_cases e:k=j
  .rw[AG e.symm];exact Fz (p:=(k,y)) e
  .rw[AF (λz=>e z.symm)];exact Fx (p:=(k,y)) e
 |p::r,hn=>by
  rw[O0];have hk:¬p.1=k:=λz=>by rw[Fz z] at hn;cases hn
  rw[Fx hk] at hn;have ih:=Wn k j y r hn;by_cases e:p.1=j
  .rw[Fz e,Fz e,AF (λz=>hk (e.trans z))]
  .rw[Fx e,Fx e,ih]
def il(AA:List (κ×V))(k j:κ)(y:V):BU (putK AA k y) j=if j=k then U y else BU AA j:=by
 delta putK;by_cases a:(AA.any λkv=>decide (kv.1=k))=Y
 .rw[AG a,Xk];rw[Ka] at a;by_cases e:j=k
  .obtain⟨x,hx⟩:=Option.isSome_iff_exists.mp a;rw[AG e,e,hx,O2,AG Z]
  .rw[AF e]
   cases BU AA j with
   |none=>rfl
   |some x=>rw[O2,AF e]
 .rw[AF a];refine Wn k j y AA ?_;rw[Ka] at a
  cases q:BU AA k with
  |none=>rfl
  |some x=>rw[q] at a;exact(a Z).elim
def SE(AA:List (κ×V))(k:κ)(v:V):(putK AA k v).length<=AA.length+1:=by
 delta putK;split
 .rw[AI];lia
 .rw[A9,Bw,Ht];lia
def DV.NI{o:Option V}{u:Option AB}(r:DV o u):o.isSome=u.isSome:=by
 cases o with
 |none=>cases u with
  |none=>rfl
  |some _=>exact(show False from r).elim
 |some _=>cases u with
  |none=>exact(show False from r).elim
  |some _=>rfl
theorem DV.getD{o:Option V}{u:Option AB}{d:V}{d':AB}(r:DV o u)(rd:RelV d d'):RelV (o.getD d) (u.getD d'):=by
 cases o with
 |none=>cases u with
  |none=>exact rd
  |some _=>exact(show False from r).elim
 |some _=>cases u with
  |none=>exact(show False from r).elim
  |some _=>exact r
def KV.val{AA:List (κ×V)}{vs:List (κ×AB)}(r:KV AA vs)(k:κ):DV (BU AA k) (uI vs k):=by
 delta KV at r
 induction r with
 |nil=>exact Cy
 |@cons p q ps qs h t ih=>
  obtain⟨h1,h2⟩:=h;by_cases e:p.1=k
  .have e':q.1=k:=h1.symm.trans e;have b:uI (q::qs) k=U q.2:=by simp[uI,C9,e']
   rw[Fz e,b];exact h2
  .have e':¬q.1=k:=λz=>e (h1.trans z);have b:uI (q::qs) k=uI qs k:=by simp[uI,C9,e']
   rw[Fx e,b];exact ih
theorem KV.any{AA:List (κ×V)}{vs:List (κ×AB)}(r:KV AA vs)(k:κ):(AA.any λkv=>decide (kv.1=k))=vs.any λkv=>decide (kv.1=k):=by
 delta KV at r
 induction r with
 |nil=>rfl
 |cons h t ih=>rw[Ie,Ie,ih,h.1]
def KV.Uk{AA:List (κ×V)}{vs:List (κ×AB)}(r:KV AA vs)(k:κ)(ry:RelV y u):
 KV (AA.map λkv=>if kv.1=k then(kv.1,y) else kv) (vs.map λkv=>if kv.1=k then(kv.1,u) else kv):=by
 delta KV at r⊢
 induction r with
 |nil=>exact .nil
 |@cons p q ps qs h t ih=>
  rw[Au,Au];refine .cons ?_ ih;obtain⟨h1,h2⟩:=h;by_cases e:p.1=k
  .rw[AG e,AG (h1.symm.trans e)];exact⟨h1,ry⟩
  .rw[AF e,AF (λz=>e (h1.trans z))];exact⟨h1,h2⟩
def KV.put{AA:List (κ×V)}{vs:List (κ×AB)}(r:KV AA vs)(k:κ)(ry:RelV y u):KV (putK AA k y) (stored vs k u):=by
 delta putK stored;rw[r.any k];by_cases e:(vs.any λkv=>decide (kv.1=k))=Y
 .rw[AG e,AG e];exact r.Uk k ry
 .rw[AF e,AF e];exact Paired.snoc r ⟨Z,ry⟩
def KV.drop{AA:List (κ×V)}{vs:List (κ×AB)}(r:KV AA vs)(k:κ):KV (I0 AA k) (without vs k):=by
 delta KV at r⊢;delta I0 without
 induction r with
 |nil=>exact .nil
 |@cons p q ps qs h t ih=>
  obtain⟨h1,h2⟩:=h;rw[List.filter_cons,List.filter_cons];by_cases e:p.1=k
  .have a:¬decide (p.1≠k)=Y:=by simp[e]
   have b:¬decide (q.1≠k)=Y:=by simp[h1.symm.trans e]
   rw[AF a,AF b];exact ih
  .have e':¬q.1=k:=λz=>e (h1.trans z);have a:decide (p.1≠k)=Y:=by simp[e]
   have b:decide (q.1≠k)=Y:=by simp[e']
   rw[AG a,AG b];exact .cons ⟨h1,h2⟩ ih
def KV.keys{AA:List (κ×V)}{vs:List (κ×AB)}(r:KV AA vs):AA.map (·.1)=vs.map (·.1):=by
 delta KV at r
 induction r with
 |nil=>rfl
 |cons h t ih=>rw[Au,Au,ih,h.1]
theorem KV.length{AA:List (κ×V)}{vs:List (κ×AB)}(r:KV AA vs):AA.length=vs.length:=JU r
def jY(AA:List (κ×V))(k:κ):(I0 AA k).length<=AA.length:=Ee _ _
end
def I8{k:Key}(r:RelV (kV k) u):(Cc P w).is k u=Y:=by
 cases k with
 |inl i=>obtain⟨t,e⟩:=(show∃t,u=Value.int i t from r);subst e;exact dW P w i t
 |inr x=>obtain⟨t,e⟩:=(show∃t,u=Value.str x t from r);subst e;exact dI P w x t
def mF{a b:Key}(e:kV a=kV b):a=b:=by
 cases a with
 |inl i=>cases b with
  |inl j=>have e':V.int i=V.int j:=e;injection e' with e';rw[e']
  |inr y=>exact nomatch (show V.int i=V.str y from e)
 |inr x=>cases b with
  |inl j=>exact nomatch (show V.str x=V.int j from e)
  |inr y=>have e':V.str x=V.str y:=e;injection e' with e';rw[e']
theorem Yk:∀{a b:List Key},a.map kV=b.map kV->a=b
 |[],[],_=>rfl
 |[],_::_,e=>by simp at e
 |_::_,[],e=>by simp at e
 |x::xs,y::ys,e=>by rw[Au,Au] at e;injection e with e1 e2;rw[mF e1,Yk e2]
theorem Wk{P:sY}{w:si}:∀{ks:List Key}{us:List AB},Vals (ks.map kV) us->ItemsAre (Cc P w) ks us
 |[],_,r=>by rw[La] at r;cases r;exact .nil
 |k::ks,_,r=>by
  rw[Au] at r
  cases r with
  |cons h t=>exact .cons (I8 h) (Wk t)
abbrev KT(H:Hp):List (List Key×V)->List (List Key×OK×AB)->Prop:=Paired λp q=>p.1=q.1/\H q.2.1=U (.tup (p.1.map kV))/\RelV p.2 q.2.2
def KT.val{AA:List (List Key×V)}{xs:List (List Key×OK×AB)}(r:KT H AA xs)(k:List Key):DV (BU AA k) ((vA xs k).map (·.2)):=by
 induction r with
 |nil=>exact Cy
 |@cons p q ps qs h t ih=>
  obtain⟨h1,_,h2⟩:=h;by_cases e:p.1=k
  .have e':q.1=k:=h1.symm.trans e;have b:vA (q::qs) k=U q.2:=by simp[vA,C9,e']
   rw[Fz e,b];exact h2
  .have e':¬q.1=k:=λz=>e (h1.trans z);have b:vA (q::qs) k=vA qs k:=by simp[vA,C9,e']
   rw[Fx e,b];exact ih
def KT.Uk{AA:List (List Key×V)}{xs:List (List Key×OK×AB)}(r:KT H AA xs)(k:List Key)(ry:RelV y u):
 KT H (AA.map λkv=>if kv.1=k then(kv.1,y) else kv) (xs.map (putAt k u)):=by
 induction r with
 |nil=>exact .nil
 |@cons p q ps qs h t ih=>
  rw[Au,Au];refine .cons ?_ ih;obtain⟨h1,h2,h3⟩:=h;delta putAt;by_cases e:p.1=k
  .rw[AG e,AG (h1.symm.trans e)];exact⟨h1,h2,ry⟩
  .rw[AF e,AF (λz=>e (h1.trans z))];exact⟨h1,h2,h3⟩
def KT.put{AA:List (List Key×V)}{xs:List (List Key×OK×AB)}(r:KT H AA xs)(k:List Key)(hb:H b=U (.tup (k.map kV)))(ry:RelV y u):
 KT H (putK AA k y) (storedH xs k b u):=by
 have e:(AA.any λkv=>decide (kv.1=k))=(vA xs k).isSome:=by rw[Ka,(r.val k).NI,Option.isSome_map]
 delta putK storedH;rw[e];by_cases q:(vA xs k).isSome=Y
 .rw[AG q,AG q];exact r.Uk k ry
 .rw[AF q,AF q];exact Paired.snoc r ⟨Z,hb,ry⟩
def KT.keeps{AA:List (List Key×V)}{xs:List (List Key×OK×AB)}(r:KT H AA xs)(ht:∀b ys,H b=U (.tup ys)->H' b=U (.tup ys)):KT H' AA xs:=
 Paired.Ua r λ_ _ z=>⟨z.1,ht _ _ z.2.1,z.2.2⟩
def aO{u:HO}(ok:CA P w H h)(e:Rd H a u):BY P w H h a u:=e.ok ok
variable{AA:List (Key×V)}
def Jo(ok:CA P w H h)(e:Rd H a (.dK AA)):AA.length<=sizeLine/\(a==tJ)=vc/\∃vs,KV AA vs/\h.DictOf (Cc P w) a vs:=
 show BY P w H h a (.dK AA) from aO ok e
def Jr(ok:CA P w H h)(e:H a=U (.dK AA)):AA.length<=sizeLine/\(a==tJ)=vc/\∃vs,KV AA vs/\h.DictOf (Cc P w) a vs:=Jo ok (.inl e)
def L5{ks:List Key}(ok:CA P w H h)(e:H a=U (.tup (ks.map kV))):(uM (Cc P w)).is h ks a:=by obtain⟨_,AV,r,o,h1,h2,n,h3⟩:=(show BY P w H h a (.tup (ks.map kV)) from ok a _ e);exact⟨o,AV.toArray,n,h1,h2,h3,by simpa using Wk r⟩
def Kn{AA:List (List Key×V)}(ok:CA P w H h)(e:Rd H a (.dT AA)):AA.length<=sizeLine/\(a==tJ)=vc/\
 ∃xs,KT H AA xs/\h.DictOfH (uM (Cc P w)) a xs:=by
 obtain⟨z,y,xs,r,o,es,ep,h1,h2,h3,h4,h5⟩:=(show BY P w H h a (.dT AA) from aO ok e);refine⟨z,y,xs,r,o,es,ep,h1,h2,h3,h4,λx hx=>?_,h5⟩;have all:∀{l:List (List Key×V)}{m:List (List Key×OK×AB)},KT H l m->∀x∈m,(uM (Cc P w)).is h x.1 x.2.1:=by
  intro l m q
  induction q with
  |nil=>intro x hx;exact nomatch hx
  |@cons p q ps qs hq t ih=>
   intro x hx;rcases BM.mp hx with e|hx
   .subst e;exact L5 ok (by rw[<-hq.1];exact hq.2.1)
   .exact ih x hx
 exact all r x hx
def oK{AA:List (List Key×V)}(ok:CA P w H h)(e:H a=U (.dT AA)):AA.length<=sizeLine/\(a==tJ)=vc/\
 ∃xs,KT H AA xs/\h.DictOfH (uM (Cc P w)) a xs:=Kn ok (.inl e)
def BN(H:Hp)(a:OK)(y:V)(r:Option V):Prop:=
 (∃AA k,Rd H a (.dK AA)/\y=kV k/\r=BU AA k)\/∃AA k b,Rd H a (.dT AA)/\y=.ref b/\H b=U (.tup (k.map kV))/\r=BU AA k
def DO(H:Hp)(a:OK)(y v:V)(H':Hp):Prop:=
 (∃AA k,H a=U (.dK AA)/\y=kV k/\AA.length<sizeLine/\H'=upd H a (.dK (putK AA k v)))\/
 ∃AA k b,H a=U (.dT AA)/\y=.ref b/\H b=U (.tup (k.map kV))/\AA.length<sizeLine/\H'=upd H a (.dT (putK AA k v))
def BN.kq{k:Key}(e:H a=U (.dK AA)):BN H a (kV k) (BU AA k):=.inl ⟨AA,k,.inl e,Z,Z⟩
def BN.tq{AA:List (List Key×V)}{k:List Key}(e:H a=U (.dT AA))(eb:H b=U (.tup (k.map kV))):BN H a (.ref b) (BU AA k):=.inr ⟨AA,k,b,.inl e,Z,eb,Z⟩
def DO.kq{k:Key}(e:H a=U (.dK AA))(hl:AA.length<sizeLine):DO H a (kV k) v (upd H a (.dK (putK AA k v))):=.inl ⟨AA,k,e,Z,hl,Z⟩
def DO.tq{AA:List (List Key×V)}{k:List Key}(e:H a=U (.dT AA))(eb:H b=U (.tup (k.map kV)))(hl:AA.length<sizeLine):
 DO H a (.ref b) v (upd H a (.dT (putK AA k v))):=.inr ⟨AA,k,b,e,Z,eb,hl,Z⟩
section
variable{r:AB}{o:Option V}
def Inv.big(I:Inv X pins S H s):tJ<s.heap.objs.size:=by have h:dy<s.heap.objs.size:=(I.mod.glob.keeps I.bk).lt;exact Nat.lt_trans (by decide) h
def fJ(hu:A.units+1<tE)(I:Inv X pins S H s)(g:BN H a y (U v))(ry:RelV y u)(h:∀w' s',Inv X pins S H s'->RelV v w'->Q w' s'):
 ax (Yf X.prog X.w) A (uQ (.ref a) u) Q E s:=by
 rcases g with⟨AA,k,e,ey,l⟩|⟨AA,k,b,e,ey,eb,l⟩
 .subst ey;obtain⟨z,hd,vs,rel,dd⟩:=Jo I.hok e;obtain⟨w',hw,rw'⟩:=DV.some_of (v:=v) (o:=uI vs k) (by rw[l];exact rel.val k);exact wpAny_getItem_of (I8 ry) dd.mapOf hw (h w' _ (I.tok _) rw')
 .subst ey;cases(show u=Value.ref b from ry);obtain⟨z,hd,xs,rel,dd⟩:=Kn I.hok e;obtain⟨w',hw,rw'⟩:=DV.some_of (v:=v) (o:=(vA xs k).map (·.2)) (by rw[l];exact rel.val k);obtain⟨p,hp,hp2⟩:=KD.mp hw;refine wpAny_getItem_heap (Ot hu) (L5 I.hok eb) dd hp ?_;rw[hp2];exact h w' _ (I.tok _) rw'
def qS(hu:A.units+1<tE)(I:Inv X pins S H s)(g:BN H a y o)(ry:RelV y u)(h:∀s',Inv X pins S H s'->Q (.bool o.isSome) s'):
 ax (Yf X.prog X.w) A (sZ .In u (.ref a)) Q E s:=by
 rcases g with⟨AA,k,e,ey,l⟩|⟨AA,k,b,e,ey,eb,l⟩
 .subst ey;obtain⟨z,hd,vs,rel,dd⟩:=Jo I.hok e;refine wpAny_in_of (I8 ry) hd dd.mapOf ?_;rw[<-(rel.val k).NI,<-l];exact h _ (I.tok _)
 .subst ey;cases(show u=Value.ref b from ry);obtain⟨z,hd,xs,rel,dd⟩:=Kn I.hok e;refine wpAny_in_heap (Ot hu) (L5 I.hok eb) hd dd ?_;have q:=(rel.val k).NI;rw[Option.isSome_map] at q;rw[<-q,<-l];exact h _ (I.tok _)
def jq(hu:A.units+1<tE)(I:Inv X pins S H s)(g:BN H a y o)(ry:RelV y u)(h:∀s',Inv X pins S H s'->Q (.bool (!o.isSome)) s'):
 ax (Yf X.prog X.w) A (sZ .NotIn u (.ref a)) Q E s:=by
 rcases g with⟨AA,k,e,ey,l⟩|⟨AA,k,b,e,ey,eb,l⟩
 .subst ey;obtain⟨z,hd,vs,rel,dd⟩:=Jo I.hok e;refine wpAny_notIn_of (I8 ry) hd dd.mapOf ?_;rw[<-(rel.val k).NI,<-l];exact h _ (I.tok _)
 .subst ey;cases(show u=Value.ref b from ry);obtain⟨z,hd,xs,rel,dd⟩:=Kn I.hok e;refine wpAny_notIn_heap (Ot hu) (L5 I.hok eb) hd dd ?_;have q:=(rel.val k).NI;rw[Option.isSome_map] at q;rw[<-q,<-l];exact h _ (I.tok _)
def Pr{ob:HO}(I:Inv X pins S H s)(mu:OS (H a))(hs:Heap.SameBut a s.heap h')(he:∃q,h'.get? a=U q)(new:BY X.prog X.w (upd H a ob) h' a ob):
 Inv X pins S (upd H a ob) {s with heap:=h',toks:=t'}:=
 I.write (x:=a) (e:=a) mu (.inl Z) (λb q hb z=>(hs.2 b hb).trans z) he new
def Tt{vs:List (Key×AB)}(z:AA.length<=sizeLine)(hd:(a==tJ)=vc)(rel:KV AA vs)(dd:h'.DictOf (Cc P w) a vs):
 BY P w H' h' a (.dK AA):=⟨z,hd,vs,rel,dd⟩
def gP{Q:Unit->Ya->Prop}(hu:A.units+1<tE)(I:Inv X pins S H s)(g:DO H a y v H')(ry:RelV y u)(rv:RelV v r)(h:∀s',Inv X pins S H' s'->Q () s'):
 ax (Yf X.prog X.w) A (setItem (.ref a) u r) Q E s:=by
 rcases g with⟨AA,k,e,ey,l,eH⟩|⟨AA,k,b,e,ey,eb,l,eH⟩
 .subst ey eH;obtain⟨z,hd,vs,rel,dd⟩:=Jr I.hok e;have hz:vs.length<=sizeLine:=by rw[<-rel.length];exact z
  have hl:(putK AA k v).length<=sizeLine:=by have:=SE AA k v;lia
  refine wpAny_setItem_pairs (hsz:=hz) (I8 ry) dd λh' dd' hs=>h _ ?_;have he:∃q,h'.get? a=U q:=let⟨q,_,_,hq,_⟩:=dd';⟨q,hq⟩;exact Pr I (by rw[e];exact Cy) hs he (Tt hl hd (rel.put k rv) dd')
 .subst ey eH;cases(show u=Value.ref b from ry);obtain⟨z,hd,xs,rel,dd⟩:=oK I.hok e;have hz:xs.length<=sizeLine:=by rw[<-JU rel];exact z
  have hl:(putK AA k v).length<=sizeLine:=by have:=SE AA k v;lia
  refine wpAny_setItem_heap (hsz:=hz) (Ot hu) (L5 I.hok eb) dd λh' dd' hs=>h _ ?_;obtain⟨q,es,ep,hq,h2,h3,h4,_,h5⟩:=dd';refine Pr I (by rw[e];exact Cy) hs ⟨q,hq⟩ ⟨hl,hd,_,(rel.put k eb rv).keeps λc ys ec=>?_,q,es,ep,hq,h2,h3,h4,h5⟩;rw[AO (CN ec e (λz=>nomatch z))];exact ec
end
section
variable{k:Key}
def aI{more:List AB}(I:Inv X pins S H s)(e:H a=U (.dK AA))(ry:RelV (kV k) u)(l:BU AA k=U v)(hm:more=[]\/∃x,more=[x])
 (h:∀w' s',Inv X pins S (upd H a (.dK (I0 AA k))) s'->RelV v w'->Q w' s'):ax (Yf X.prog X.w) A (call (.builtin "dict.pop") (.ref a::u::more)) Q E s:=by
 obtain⟨z,hd,vs,rel,dd⟩:=Jr I.hok e;obtain⟨w',hw,rw'⟩:=DV.some_of (v:=v) (o:=uI vs k) (by rw[<-l];exact rel.val k);have hp:(keyPart u).isSome=Y:=by
  cases k with
  |inl i=>obtain⟨t,q⟩:=(show∃t,u=Value.int i t from ry);subst q;rfl
  |inr x=>obtain⟨t,q⟩:=(show∃t,u=Value.str x t from ry);subst q;rfl
 have ha:argsOk "dict.pop" ⟨.ref a::u::more,[]⟩:=by
  rcases hm with q|⟨x,q⟩
  .subst q;exact PySem.F.args_dict_pop_2 _ _
  .subst q;exact vL _ _ _
 refine NA RF dd.typeIs vM ha (meets_dict_pop_there (Cc X.prog X.w) a (I8 ry) more hm hp)
  ⟨vs,w',dd,by rw[<-rel.length];exact z,hw,λh' dd' hs=>h w' _ ?_ rw'⟩;have he:∃q,h'.get? a=U q:=let⟨q,_,_,hq,_⟩:=dd';⟨q,hq⟩;exact Pr I (by rw[e];exact Cy) hs he (Tt (BI (jY AA k) z) hd (rel.drop k) dd')
def ma{r:AB}(I:Inv X pins S H s)(e:H a=U (.dK AA))(ry:RelV (kV k) u)(l:BU AA k=J)(h:∀s',Inv X pins S H s'->Q r s'):
 ax (Yf X.prog X.w) A (call (.builtin "dict.pop") [.ref a,u,r]) Q E s:=by
 obtain⟨z,hd,vs,rel,dd⟩:=Jr I.hok e;have hn:uI vs k=J:=DV.none_of (by rw[<-l];exact rel.val k);have hp:(keyPart u).isSome=Y:=by
  cases k with
  |inl i=>obtain⟨t,q⟩:=(show∃t,u=Value.int i t from ry);subst q;rfl
  |inr x=>obtain⟨t,q⟩:=(show∃t,u=Value.str x t from ry);subst q;rfl
 exact NA RF dd.typeIs vM (vL _ _ _) (meets_dict_pop_default (Cc X.prog X.w) a (I8 ry) hd hp r) ⟨vs,dd,hn,h _ (I.tok _)⟩
def o9(I:Inv X pins S H s)(e:Rd H a (.dK AA))(h:∀t s',Inv X pins S H s'->Q (.int AA.length t) s'):ax (Yf X.prog X.w) A (call (.builtin "len") [.ref a]) Q E s:=by obtain⟨z,hd,vs,rel,dd⟩:=Jo I.hok e;refine call_len_dict hd dd (by rw[<-rel.length];rw[BA] at z;lia) ?_;rw[<-rel.length];exact h _ _ (I.tok _)
end
def bg(i:hY):Prop:=∀ov iv,uh i vc ov iv=operate [ov,iv] (uQ ov iv)
def kF{value slice:hY}{id:String}
 (hl:typeLookup (.type T) "__getitem__" =pure (U (.builtin id)))(hs:bg slice)
 (h:ax (Yf prog w) A (sd value env) (λo s₁=>ax (Yf prog w) A (sd slice env) (λi s₂=>s₂.TypeIs o T/\ax (Yf prog w) A (uQ o i) Q E s₂) E s₁) E s):
 ax (Yf prog w) A (sd (.Subscript value slice pos) env) Q E s:=by
 refine Subscript_ (DA h (λo s₁ h₁=>DA h₁ (λi s₂ h₂=>?_) λ_ _ x=>x) λ_ _ x=>x);obtain⟨hT,h₂⟩:=h₂;delta vE;refine AK ?_;rw[getitemInPython_of_ne hT.not_modules];refine AK (wpAny_specialOf hT hl ?_);have fin:ax (Yf prog w) A (uh slice vc o i) (λr s₃=>ax (Yf prog w) A (letTemporaryGo value o r>>=λ_=>pure r) Q E s₃) E s₂:=by rw[hs o i];exact wpAny_operating (DA h₂ (λr s₃ h₃=>AK (wpAny_letTemporaryGo (Ae h₃))) λ_ _ x=>x)
 first
  |exact Ae (AK fin)
  |exact AK (Ae (AK fin))
  |exact AK fin
def dU{o:Option V}(I:Inv X pins S H s)(g:BN H a y o):s.TypeIs (.ref a) "dict" :=by
 rcases g with⟨AA,k,e,_,_⟩|⟨AA,k,b,e,_,_,_⟩
 .obtain⟨_,_,vs,_,dd⟩:=Jo I.hok e;exact dd.typeIs
 .obtain⟨_,_,xs,_,dd⟩:=Kn I.hok e;exact dd.typeIs
def Jp(td ty:TE):TE:=λS H Q=>td S H λx H1=>ty S H1 λy H2=>∃a v,x=.ref a/\BN H2 a y (U v)/\Q v H2
def qX(ty td:TE):TE:=λS H Q=>ty S H λy H1=>td S H1 λx H2=>∃a o,x=.ref a/\BN H2 a y o/\Q (.bl o.isSome) H2
def je(ty td:TE):TE:=λS H Q=>ty S H λy H1=>td S H1 λx H2=>∃a o,x=.ref a/\BN H2 a y o/\Q (.bl (!o.isSome)) H2
def oz(td ty tv:TE):TS:=λD S H=>tv S H λv H1=>td S H1 λx H2=>ty S H2 λy H3=>∃a H4,x=.ref a/\DO H3 a y v H4/\D.nx S H4
section
variable{o i value:hY}{pos':Pos}{td ty tv:TE}
def DB(hu:X.A.units+1<tE)(ho:PE X o td)(hi:PE X i ty)(hs:bg i):PE X (.Subscript o i pos) (Jp td ty):=by intro pins s S H Q I h;refine kF PySem.F.slot_dict_getitem.lookup hs (Ad (ho pins s S H _ I h) λu s1 ⟨x,H1,I1,rx,q1⟩=>Ad (hi pins s1 S H1 _ I1 q1) λiv s2 ⟨y,H2,I2,ry,a,v,ex,g,q2⟩=>?_);subst ex;obtain rfl:u=Value.ref a:=rx;exact⟨dU I2 g,fJ hu I2 g ry λw' s3 I3 rw'=>⟨v,H2,I3,rw',q2⟩⟩
def ZX(hu:X.A.units+1<tE)(hi:PE X i ty)(ho:PE X o td):PC X .In i o (qX ty td):=by intro pins s S H Q I h;refine Ad (hi pins s S H _ I h) λiv s1 ⟨y,H1,I1,ry,q1⟩=>Ad (ho pins s1 S H1 _ I1 q1) λu s2 ⟨x,H2,I2,rx,a,ov,ex,g,q2⟩=>?_;subst ex;obtain rfl:u=Value.ref a:=rx;exact qS hu I2 g ry λs3 I3=>⟨.bl ov.isSome,H2,I3,Z,q2⟩
def Pa(hu:X.A.units+1<tE)(hi:PE X i ty)(ho:PE X o td):PC X .NotIn i o (je ty td):=by intro pins s S H Q I h;refine Ad (hi pins s S H _ I h) λiv s1 ⟨y,H1,I1,ry,q1⟩=>Ad (ho pins s1 S H1 _ I1 q1) λu s2 ⟨x,H2,I2,rx,a,ov,ex,g,q2⟩=>?_;subst ex;obtain rfl:u=Value.ref a:=rx;exact jq hu I2 g ry λs3 I3=>⟨.bl (!ov.isSome),H2,I3,Z,q2⟩
def Eh(hu:X.A.units+1<tE)(ho:PE X o td)(hi:PE X i ty)(hv:PE X value tv)(hs:uN value (U (.Subscript o i pos')) pos.line X.env=pure vc):
 PS X (.Assign [.Subscript o i pos'] value pos) (oz td ty tv):=by
 intro pins s S H D I h;refine wpAny_Assign_Subscript (Ad (hv pins s S H _ I h) λr s1 ⟨v,H1,I1,rv,q1⟩=>Ad (ho pins s1 S H1 _ I1 q1) λu s2 ⟨x,H2,I2,rx,q2⟩=>Ad (hi pins s2 S H2 _ I2 q2) λiv s3 ⟨y,H3,I3,ry,a,H4,ex,g,q3⟩=>?_) hs;subst ex;obtain rfl:u=Value.ref a:=rx;exact gP hu I3 g ry rv λs4 I4=>⟨S,H4,I4,q3⟩
end
def Xo(h:sf)(hb:tJ<h.objs.size):BY P w H (h.push {cls:=.type "dict",data:=.dict #[]}) h.objs.size (.dK []):=
 ⟨CB _,Oq.mpr (DI (BS hb)),[],.nil,Heap.DictOf.new h⟩
def mq:TE:=λ_ H Q=>∀p,H p=J->Q (.ref p) (upd H p (.dK []))
def Lh{X:Cx}{pos:Pos}:PE X (.Dict [] [] pos) mq:=λpins s S H Q I h=>wpAny_Dict_empty ⟨.ref s.heap.objs.size,_,I.laid (a:=s.heap.objs.size) (o:=.dK []) (t':=s.toks) (λ_ _ q=>BD _ q) (Ac _) (Xo s.heap I.big),Z,h _ (I.hok.fresh (Ac _))⟩
def T5:List (TE×TE)->St->Hp->(List (V×V)->Hp->Prop)->Prop
 |[],_,H,Q=>Q [] H
 |(tk,tv)::r,S,H,Q=>tk S H λx H1=>tv S H1 λy H2=>T5 r S H2 λps H3=>Q ((x,y)::ps) H3
abbrev VV:List (V×V)->List (AB×AB)->Prop:=Paired λp q=>RelV p.1 q.1/\RelV p.2 q.2
def OR(X:Cx)(pos:Pos)(keys:List (Option hY))(values:List hY)(trs:List (TE×TE)):Prop:=
 ∀(pins:List (OK×Obj))(s:Ya)(S:St)(H:Hp)(Q:List (V×V)->Hp->Prop),Inv X pins S H s->T5 trs S H Q->
  ax (Yf X.prog X.w) X.A (evalPairs (pairTrees keys values X.env pos)) (λvs s'=>∃ps H',Inv X pins S H' s'/\VV ps vs/\Q ps H') X.xe s
def kT{X:Cx}{pos:Pos}:OR X pos [] [] []:=λpins s S H Q I h=>pairTrees_nil_walk ⟨[],H,I,.nil,h⟩
def S1{X:Cx}{pos:Pos}{k v:hY}{ks:List (Option hY)}{vs:List hY}{tk tv:TE}{trs:List (TE×TE)}(hk:PE X k tk)(hv:PE X v tv)(hr:OR X pos ks vs trs):
 OR X pos (U k::ks) (v::vs) ((tk,tv)::trs):=λpins s S H Q I h=>
 pairTrees_cons_walk (Ad (hk pins s S H _ I h) λu s1 ⟨x,H1,I1,rx,q1⟩=>Ad (hv pins s1 S H1 _ I1 q1) λw2 s2 ⟨y,H2,I2,ry,q2⟩=>Ad (hr pins s2 S H2 _ I2 q2) λws s3 ⟨ps,H3,I3,rel,q3⟩=>⟨(x,y)::ps,H3,I3,.cons ⟨rx,ry⟩ rel,q3⟩)
def Nu(AA more:List (Key×V)):List (Key×V):=more.foldl (λacc kv=>putK acc kv.1 kv.2) AA
def KV.merge:∀{more:List (Key×V)}{rs:List (Key×AB)}{AA:List (Key×V)}{vs:List (Key×AB)},KV more rs->KV AA vs->KV (Nu AA more) (merged vs rs):=by
 intro more rs AA vs r;delta KV at r
 induction r generalizing AA vs with
 |nil=>intro q;exact q
 |@cons p q ps qs h t ih=>
  intro r0;have e:KV (putK AA p.1 p.2) (stored vs q.1 q.2):=by have:=r0.put p.1 h.2;rw[<-h.1];exact this
  exact ih e
theorem Vv:∀(more AA:List (Key×V)),(Nu AA more).length<=AA.length+more.length
 |[],AA=>by show AA.length<=AA.length+0;lia
 |p::r,AA=>by have h1:=Vv r (putK AA p.1 p.2);have h2:=SE AA p.1 p.2;show(Nu (putK AA p.1 p.2) r).length<=_;rw[Bw];lia
theorem WI{P:sY}{w:si}:∀{AA:List (Key×V)}{ws:List (AB×AB)},VV (AA.map λkv=>(kV kv.1,kv.2)) ws->∃rs,Carries (Cc P w) ws rs/\KV AA rs
 |[],_,r=>by rw[La] at r;cases r;exact⟨[],Cy,.nil⟩
 |p::AA,_,r=>by
  rw[Au] at r
  cases r with
  |@cons a b as bs h t=>obtain⟨rs,c,q⟩:=WI (P:=P) (w:=w) t;obtain⟨b1,b2⟩:=b;exact⟨(p.1,b2)::rs,⟨I8 h.1,Z,c⟩,.cons ⟨Z,h.2⟩ q⟩
def Zt(trs:List (TE×TE)):TE:=λS H Q=>∀p,H p=J->T5 trs S (upd H p (.dK [])) λps H2=>H2 p=U (.dK [])/\∃AA:List (Key×V),ps=AA.map (λkv=>(kV kv.1,kv.2))/\AA.length<=15/\Q (.ref p) (upd H2 p (.dK (Nu [] AA)))
def ko{X:Cx}{pos:Pos}{keys:List (Option hY)}{values:List hY}{trs:List (TE×TE)}(h:OR X pos keys values trs)(hall:keys.all (·.isSome)=Y)(hl:keys.length=values.length)(h0:keys≠[])
 (h15:keys.length<=15):PE X (.Dict keys values pos) (Zt trs):=by
 intro pins s S H Q I q;have hn:=I.hok.fresh (Ac s.heap.objs.size);have I1:=I.laid (a:=s.heap.objs.size) (o:=.dK []) (h':=s.heap.push {cls:=.type "dict",data:=.dict #[]}) (t':=s.toks) (λ_ _ q=>BD _ q) (Ac _) (Xo s.heap I.big);refine wpAny_Dict_walk (knd:=Cc X.prog X.w) hall hl h0 h15 (Ad (h pins _ S _ _ I1 (q _ hn)) λws s2 ⟨ps,H2,I2,rel,e,AA,ep,lk,q2⟩=>?_);subst ep;obtain⟨rs,c,rk⟩:=WI (P:=X.prog) (w:=X.w) rel;obtain⟨z,hd,vs0,r0,dd⟩:=Jr I2.hok e;cases r0;refine⟨rs,c,dd,λh' dd' hs=>⟨.ref s.heap.objs.size,_,?_,Z,q2⟩⟩;have hz:(Nu [] AA).length<=sizeLine:=by have h1:=Vv AA [];rw[Ht] at h1;rw[BA];lia
 have he:∃q,h'.get? s.heap.objs.size=U q:=let⟨q,_,_,hq,_⟩:=dd';⟨q,hq⟩;exact Pr I2 (by rw[e];exact Cy) hs he (Tt hz hd (rk.merge .nil) dd')
structure M1(X:Cx)(o:hY)(m:Str)(apos:Pos)(e:hY)(cpos:Pos):Prop where
 base:sr o m X.env (sd o X.env)=sd o X.env
 Dh:((tF cpos (dq [e] X.env)).all (λx=> !x.1)&&(uG cpos (tP [] X.env)).all (λx=>x.1.isSome)
  &&decide (([e]:List hY).length+([]:List uC).length+(if([]:List uC).isEmpty then 0 else 1)<30))=Y
 line:(apos.endLine==cpos.line)=Y
 trees:tF cpos (dq [e] X.env)=[(vc,sd e X.env)]
structure M2(X:Cx)(o:hY)(m:Str)(apos:Pos)(e f:hY)(cpos:Pos):Prop where
 base:sr o m X.env (sd o X.env)=sd o X.env
 Dh:((tF cpos (dq [e,f] X.env)).all (λx=> !x.1)&&(uG cpos (tP [] X.env)).all (λx=>x.1.isSome)
  &&decide (([e,f]:List hY).length+([]:List uC).length+(if([]:List uC).isEmpty then 0 else 1)<30))=Y
 line:(apos.endLine==cpos.line)=Y
 trees:tF cpos (dq [e,f] X.env)=[(vc,sd e X.env),(vc,sd f X.env)]
def Qw(H:Hp)(a:OK):Prop:=(∃AA,Rd H a (.dK AA))\/∃AA,Rd H a (.dT AA)
def UB(I:Inv X pins S H s)(d:Qw H a):
 s.TypeIs (.ref a) "dict" /\(∀b,Value.ref a=.ref b->∃ob,s.heap.get? b=U ob/\ob.dict=J)/\(a==tJ)=vc:=by
 rcases d with⟨AA,e⟩|⟨AA,e⟩
 .obtain⟨_,hd,vs,_,dd⟩:=Jo I.hok e;refine⟨dd.typeIs,λb q=>?_,hd⟩;cases q;obtain⟨ob,_,_,h1,h2,_⟩:=dd;exact⟨ob,h1,h2.2.1⟩
 .obtain⟨_,hd,xs,_,dd⟩:=Kn I.hok e;refine⟨dd.typeIs,λb q=>?_,hd⟩;cases q;obtain⟨ob,_,_,h1,h2,_⟩:=dd;exact⟨ob,h1,h2.2.1⟩
section
variable{d:V}{r:AB}{o:Option V}
def mV(hu:A.units+1<tE)(I:Inv X pins S H s)(g:BN H a y o)(ry:RelV y u)(rd:RelV d r)(h:∀w' s',Inv X pins S H s'->RelV (o.getD d) w'->Q w' s'):
 ax (Yf X.prog X.w) A (call (.builtin "dict.get") [.ref a,u,r]) Q E s:=by
 rcases g with⟨AA,k,e,ey,l⟩|⟨AA,k,b,e,ey,eb,l⟩
 .subst ey;obtain⟨z,hd,vs,rel,dd⟩:=Jo I.hok e;refine NA Vb dd.typeIs vN (vO _ _ _) (meets_dict_get_default (Cc X.prog X.w) a (I8 ry) hd r) ⟨_,dd.mapOf,h _ _ (I.tok _) ?_⟩;rw[l];exact(rel.val k).getD rd
 .subst ey;cases(show u=Value.ref b from ry);obtain⟨z,hd,xs,rel,dd⟩:=Kn I.hok e;refine NA Vb dd.typeIs vN (vO _ _ _) (meetsH_dict_get_default (uM (Cc X.prog X.w)) a b hd r) ⟨Ot hu,k,xs,L5 I.hok eb,dd,h _ _ (I.tok _) ?_⟩;rw[l];exact(rel.val k).getD rd
end
def lZ(td ty tx:TE):TE:=λS H Q=>td S H λx H1=>∃a,x=.ref a/\Qw H1 a/\ty S H1 λy H2=>tx S H2 λz H3=>∃o,BN H3 a y o/\Q (o.getD z) H3
def mZ(td ty:TE):TE:=λS H Q=>td S H λx H1=>∃a,x=.ref a/\Qw H1 a/\ty S H1 λy H2=>∃AA k v,H2 a=U (.dK AA)/\y=kV k/\BU AA k=U v/\Q v (upd H2 a (.dK (I0 AA k)))
def nH(td ty tx:TE):TE:=λS H Q=>td S H λx H1=>∃a,x=.ref a/\Qw H1 a/\ty S H1 λy H2=>tx S H2 λz H3=>∃AA k,H3 a=U (.dK AA)/\y=kV k/\
 (∀v,BU AA k=U v->Q v (upd H3 a (.dK (I0 AA k))))/\(BU AA k=J->Q z H3)
section
variable{o f:hY}{td ty tx:TE}
def i8(hu:X.A.units+1<tE)(ho:PE X o td)(he:PE X e ty)(hf:PE X f tx)(m:M2 X o "get" apos e f cpos):PE X (.Call (.Attribute o "get" apos) [e,f] [] cpos) (lZ td ty tx):=by
 intro pins s S H Q I h;refine uU m.base m.Dh m.line LJ Vb PySem.F.type_dict_get (Ad (ho pins s S H _ I h) λu s1 ⟨x,H1,I1,rx,a,ex,d,q1⟩=>?_);subst ex;obtain rfl:u=Value.ref a:=rx;obtain⟨t1,t2,_⟩:=UB I1 d;refine⟨t1,t2,?_⟩;rw[m.trees];refine Oi Z (RI (Mu (Ad (he pins s1 S H1 _ I1 q1) λiv s2 ⟨y,H2,I2,ry,q2⟩=>Mu (Ad (hf pins s2 S H2 _ I2 q2) λfv s3 ⟨z,H3,I3,rz,ov,g,q3⟩=>Ra ?_))));exact mV hu I3 g ry rz λw' s4 I4 rw'=>⟨_,H3,I4,rw',q3⟩
def Ja(ho:PE X o td)(he:PE X e ty)(m:M1 X o "pop" apos e cpos):PE X (.Call (.Attribute o "pop" apos) [e] [] cpos) (mZ td ty):=by intro pins s S H Q I h;refine uU m.base m.Dh m.line LJ RF vP (Ad (ho pins s S H _ I h) λu s1 ⟨x,H1,I1,rx,a,ex,d,q1⟩=>?_);subst ex;obtain rfl:u=Value.ref a:=rx;obtain⟨t1,t2,_⟩:=UB I1 d;refine⟨t1,t2,?_⟩;rw[m.trees];refine Oi Z (RI (Mu (Ad (he pins s1 S H1 _ I1 q1) λiv s2 ⟨y,H2,I2,ry,AA,k,v,ea,ey,l,q2⟩=>Ra ?_)));subst ey;exact aI I2 ea ry l (.inl Z) λw' s3 I3 rw'=>⟨v,_,I3,rw',q2⟩
def iZ(ho:PE X o td)(he:PE X e ty)(hf:PE X f tx)(m:M2 X o "pop" apos e f cpos):PE X (.Call (.Attribute o "pop" apos) [e,f] [] cpos) (nH td ty tx):=by
 intro pins s S H Q I h;refine uU m.base m.Dh m.line LJ RF vP (Ad (ho pins s S H _ I h) λu s1 ⟨x,H1,I1,rx,a,ex,d,q1⟩=>?_);subst ex;obtain rfl:u=Value.ref a:=rx;obtain⟨t1,t2,_⟩:=UB I1 d;refine⟨t1,t2,?_⟩;rw[m.trees];refine Oi Z (RI (Mu (Ad (he pins s1 S H1 _ I1 q1) λiv s2 ⟨y,H2,I2,ry,q2⟩=>Mu (Ad (hf pins s2 S H2 _ I2 q2) λfv s3 ⟨z,H3,I3,rz,AA,k,ea,ey,q3,q4⟩=>Ra ?_))));subst ey
 cases l:BU AA k with
 |some v=>exact aI I3 ea ry l (.inr ⟨fv,Z⟩) λw' s4 I4 rw'=>⟨v,_,I4,rw',q3 v l⟩
 |none=>exact ma I3 ea ry l λs4 I4=>⟨z,H3,I4,rz,q4 l⟩
end
section
variable{κ:Type}[DecidableEq κ]
def jU{AA:List (κ×V)}{k:κ}(h:BU AA k=J):¬k∈AA.map (·.1):=by intro m;obtain⟨p,hp,e⟩:=Aw.mp m;have q:(AA.any λkv=>decide (kv.1=k))=Y:=HH.mpr ⟨p,hp,Bc e⟩;rw[Ka,h] at q;exact absurd q (by simp)
def kE{AA:List (κ×V)}{k:κ}(h:BU AA k=U v):k∈AA.map (·.1):=by
 have q:(AA.any λkv=>decide (kv.1=k))=Y:=by rw[Ka,h];all_goals rfl
 obtain⟨p,hp,e⟩:=HH.mp q;exact Aw.mpr ⟨p,hp,HF e⟩
theorem YJ:∀{l:List κ}{k:κ},l.Nodup->¬k∈l->(l++[k]).Nodup
 |[],k,_,_=>by simp
 |a::r,k,h,hk=>by
  obtain⟨h1,h2⟩:=E1.mp h;show(a::(r++[k])).Nodup;refine E1.mpr ⟨λm=>?_,YJ h2 λm=>hk (BM.mpr (Cn m))⟩;rcases Be.mp m with q|q
  .exact h1 q
  .exact hk (BM.mpr (AY (BW.mp q).symm))
end
section
variable{C:List α->Prop}{l:List α}
def len0(h:C [])(e:l.length=0):C l:=by
 cases l with
 |nil=>exact h
 |cons=>cases e
def Qi(h:∀a (r:List α),r.length=n->C (a::r))(e:l.length=n+1):C l:=by
 cases l with
 |nil=>cases e
 |cons a r=>exact h a r (Nat.succ.inj e)
def DM(h:∀a,C [a])(e:l.length=1):C l:=Qi (λa _=>len0 (C:=λr=>C (a::r)) (h a)) e
def MM(h:∀a b,C [a,b])(e:l.length=2):C l:=Qi (λa _=>DM (C:=λr=>C (a::r)) (h a)) e
def Uv(h:∀a b c,C [a,b,c])(e:l.length=3):C l:=Qi (λa _=>MM (C:=λr=>C (a::r)) (h a)) e
def Ul(h:∀a b c d,C [a,b,c,d])(e:l.length=4):C l:=Qi (λa _=>Uv (C:=λr=>C (a::r)) (h a)) e
def oP(h:C [])(h1:∀a,C [a])(e:l.length<2):C l:=by
 cases l with
 |nil=>exact h
 |cons a r=>exact len0 (C:=λr=>C (a::r)) (h1 a) (Nat.lt_one_iff.mp (Nat.lt_of_succ_lt_succ e))
def qM(h:C [])(l:List α)(e:l.length=0):C l:=len0 h e
def all1(h:∀a,C [a])(l:List α)(e:l.length=1):C l:=DM h e
def all2(h:∀a b,C [a,b])(l:List α)(e:l.length=2):C l:=MM h e
def qm(h:∀a b c,C [a,b,c])(l:List α)(e:l.length=3):C l:=Uv h e
def qh(h:∀a b c d,C [a,b,c,d])(l:List α)(e:l.length=4):C l:=Ul h e
end
variable{ifs:List hY}
def dO{elt target iter:hY}{it acc:AB}(vg:Nat->Ya->Prop)
 (turn:∀n s,vg n s->ax (Yf prog w) A (tH it) (λr s1=>match r with
  |none=>R (.ok .next) s1
  |some v=>ax (Yf prog w) A (tZ target it v) (λ_ s1'=>ax (Yf prog w) A (vB target env v) (λ_ s2=>
   ax (Yf prog w) A (forIn ifs Y λc r=>if r=Y then do let ok<-isTrue c env (sd c env);pure (ForInStep.yield ok) else pure (ForInStep.yield r)) (λok s3=>
    if ok=Y then ax (Yf prog w) A (sd elt env) (λx s4=>ax (Yf prog w) A (call (.builtin "list.append") [acc,x]) (λ_ s5=>∃m,m<n/\vg m s5) (λ_ _=>False) s4) (λ_ _=>False) s3
    else∃m,m<n/\vg m s3) (λ_ _=>False) s2) (λ_ _=>False) s1') (λ_ _=>False) s1) (λ_ _=>False) s)
 (n:Nat)(h:vg n s):tS (Yf prog w) A (.compLoop (.ListComp elt [⟨target,iter,ifs,0⟩] scope pos) 0 it acc env) R s:=by
 refine codeAny_loop Z vg (λn s hJ=>?_) n h;show ax (Yf prog w) A ((compTurn (.ListComp elt [⟨target,iter,ifs,0⟩] scope pos) 0 it acc env).onRaise (λx=>do noteFrame x env;theTreesLotGoes x)) _ _ s;refine wpAny_noted ?_;rw[compTurn_list];refine AK (O8 (AK (DA (turn n s hJ) (λr s1 h1=>?_) λ_ _ q=>q.elim)))
 cases r with
 |none=>exact Ae h1
 |some v=>
  refine AK (DA h1 (λ_ s1' h0=>?_) λ_ _ q=>q.elim);refine AK (DA h0 (λ_ s2 h2=>?_) λ_ _ q=>q.elim);refine AK (DA h2 (λok s3 h3=>?_) λ_ _ q=>q.elim)
  cases ok with
  |false=>exact Ae ⟨Z,h3⟩
  |true=>refine AK (AK (DA h3 (λx s4 h4=>?_) λ_ _ q=>q.elim));refine AK (DA h4 (λ_ s5 h5=>?_) λ_ _ q=>q.elim);exact Ae (Ae ⟨Z,h5⟩)
noncomputable def EB(ix:List Nat)(S:St):St:=ix.map λj=>(S[j]?).join
noncomputable def EO(X:Cx)(Nc:List Str)(scope:uX)(cl:List (Str×OK))(C:OK)(s₀:Ya)(H₀:Hp)(fp:List OK)(pins:List (OK×Obj)):Cx:=
 {X with N:=Nc,s₀:=s₀,H₀:=H₀,env:=compEnvC scope cl C X.env,outer:=X.stack,stack:=X.stack,ex:=fp,fn:=λ_=>vc,pn:=X.pn++pins,xe:=λ_ _=>False}
structure Kl(X:Cx)(ts cap:List Str)(ix:List Nat)(scope:uX)(cl:List (Str×OK)):Prop where
 calm:X.calm=Y
 qf:closureFor scope X.env=pure cl
 cell:∀y∈scope.names,y.2≠.cell
 kind:scope.kind=.function
 names:∀y∈scope.names,y.2=.local->scope.names.lookup y.1=U .local
 sub:∀y c,cl.lookup y=U c->X.env.cells.lookup y=U c
 has:∀y,((tj scope X.env).names.lookup y=U .cell\/(tj scope X.env).names.lookup y=U .free)->∃c,cl.lookup y=U c
 len:ix.length=cap.length
 rO:∀(i:Nat)(y:Str)(j:Nat),cap[i]? =U y->ix[i]? =U j->X.N[j]? =U y
 U5:∀y∈cap,Qs X.env.scope y/\X.env.kindOf y≠U .local/\((tj scope X.env).names.lookup y=U .cell\/(tj scope X.env).names.lookup y=U .free)
def JK(ts:List Str)(ix:List Nat)(S:St)(vt:St):Prop:=∃a:St,a.length=ts.length/\vt=a++EB ix S
def MA(ts:List Str)(ix:List Nat)(S:St)(vg:It)(g:TG)(ti:TT)(te:TE)(D:OK)(Q:VK)(H1:Hp):Prop:=∃W:Nat->Nat->Hp->Prop,(∃m,W 0 m (upd H1 D (.lst [])))/\∀i m H,W i m H->
 (vg.stop i H/\Q (.ref D) H)\/(vg.go i H/\∃N:Hp->Prop,(∀H',N H'->∃m',m'<m/\W (i+1) m' H')/\∀x H',vg.JJ i H x H'->g x (ts.map (λ_=>J)++EB ix S) H' λvt H2=>JK ts ix S vt/\ti vt H2 λb H3=>if b=Y then te vt H3 λy H4=>∃ys,H4 D=U (.lst ys)/\ys.length<sizeLine/\N (upd H4 D (.lst (ys++[y]))) else N H3)
def UK(ts:List Str)(ix:List Nat)(wi:TI)(g:TG)(ti:TT)(te:TE):TE:=λS H Q=>wi S H λvg H1=>∀D,H1 D=J->MA ts ix S vg g ti te D Q H1
variable{ts:List Str}{ix:List Nat}{ti:TT}{D:OK}
def Gf{xs:List V}{Q:VK}(Pv:Nat->Hp->Prop)(h0:Pv 0 (upd H1 D (.lst [])))(hl:∀i H,i<=xs.length->Pv i H->AL K H a xs)
 (hs:∀i x H,xs[i]? =U x->Pv i H->g x (ts.map (λ_=>J)++EB ix S) H λvt H2=>JK ts ix S vt/\ti vt H2 λb H3=>if b=Y then te vt H3 λy H4=>∃ys,H4 D=U (.lst ys)/\ys.length<sizeLine/\Pv (i+1) (upd H4 D (.lst (ys++[y]))) else Pv (i+1) H3)
 (hd:∀H,Pv xs.length H->Q (.ref D) H):MA ts ix S (Hj K a) g ti te D Q H1:=by
 refine⟨λi m H=>m=xs.length-i/\i<=xs.length/\Pv i H,⟨xs.length,by simp,CB _,h0⟩,?_⟩;rintro i m H ⟨rfl,hi,p⟩;have q:=hl i H hi p;by_cases h1:i<xs.length
 .refine .inr ⟨⟨xs,xs[i],q,by simp[h1]⟩,Pv (i+1),λH' p'=>⟨xs.length-(i+1),by lia,Z,h1,p'⟩,λx H' y=>?_⟩;obtain⟨e,y⟩:=y;subst e;exact hs i x _ (y xs q) p
 .obtain rfl:i=xs.length:=by lia
  exact .inl ⟨⟨xs,q,Ac _⟩,hd H p⟩
def Ff:JK [x] ix S ((([x]:List Str).map (λ_=>(J:Option V))++EB ix S).set 0 (U v)):=⟨[U v],Z,Z⟩
def OW(X:Cx)(ifs:List hY)(ti:TT):Prop:=
 ∀(h0:List (OK×Obj))(s:Ya)(S:St)(H:Hp)(Q:Bool->Hp->Prop),Inv X h0 S H s->ti S H Q->
  ax (Yf X.prog X.w) X.A (forIn ifs Y λc r=>if r=Y then do let ok<-isTrue c X.env (sd c X.env);pure (ForInStep.yield ok) else pure (ForInStep.yield r)) (TP X h0 S Q) X.xe s
def qe:TT:=λ_ H Q=>Q Y H
def HX:OW X [] qe:=λ_ _ _ H _ I h=>wpAny_tests_nil ⟨H,I,h⟩
def Ls{t:TT}(h:PT X c t):OW X [c] t:=λh0 s S H Q I q=>wpAny_tests_one (h h0 s S H Q I q)
section
variable{cap:List Str}{cl:List (Str×OK)}
def iH(h:(EB ix S)[i]? =U (U v)):∃j,ix[i]? =U j/\S[j]? =U (U v):=by
 delta EB at h;rw[A1] at h
 cases e:ix[i]?with
 |none=>rw[e] at h;cases h
 |some j=>
  rw[e] at h;have h':(S[j]?).join=U v:=AZ h;refine⟨j,Z,?_⟩
  cases e2:S[j]?with
  |none=>rw[e2] at h';cases h'
  |some o=>rw[e2] at h';have h2:o=U v:=h';rw[h2]
def Inv.block{tk:Nat}(ok:Kl X ts cap ix scope cl)(I:Inv X pins S H s)(hf:∀b∈fp,F9 X pins H b)(hfs:∀b∈fp,b<s.heap.objs.size)
 (hn:h'.Ns s.heap.objs.size (λ_=>J))(hk:∀b o,s.heap.get? b=U o->h'.get? b=U o):
 Inv (EO X (ts++cap) scope cl s.heap.objs.size s H fp pins) [] (ts.map (λ_=>J)++EB ix S) H {s with heap:=h',toks:=tk}:=by
 have nC:∀y c,cl.lookup y=U c->c<s.heap.objs.size:=λy c e=>by obtain⟨v,z⟩:=I.cell y c (ok.sub y c e);exact z.lt
 refine⟨⟨I.ok.mod,?_,I.ok.glob,I.ok.blt,Ac _,?_,?_,?_,I.ok.hd,I.ok.frames,.inl Z,?_,?_,?_,?_,?_,I.stack,I.Pz⟩,Z,I.bare,Un.kept hk,⟨_,hn,?_⟩,?_,I.hok.fresh (Ac _),?_,?_,I.hok.kept hk,?_⟩
 .exact ok.kind
 .exact λx y c h1 h2=>I.ok.inj x y c (ok.sub x c h1) (ok.sub y c h2)
 .exact λy hy=>ok.has y hy
 .exact λy c hy=>absurd hy (by simp[EO])
 .intro b hb;exact⟨BS (hfs b hb),λy c e=>(hf b hb).2.2.2.2.1 y c (ok.sub y c e)⟩
 .exact λb o e=>I.bs b o e
 .exact BI I.ok.Gx I.sz
 .intro b o e hb;rcases(hf b hb).2.2.2.1 with z|z
  .exact I.ok.K0 b o e z
  .exact absurd (C7 (A7 e) (BI I.ok.Gx z)) (M8 _)
 .intro b hb hz;rcases BM.mp (I.Nv b hz) with z|z
  .exact(hf b hb).2.1 z
  .exact(hf b hb).2.2.1 z
 .intro i x v e1 e2 e3;have h0:(ts++cap)[i]? =U x:=e1;by_cases hi:i<ts.length
  .rw[DH (by simpa using hi),A1] at e2
   cases e:ts[i]?with
   |none=>rw[e] at e2;cases e2
   |some y=>rw[e] at e2;cases e2
  .rw[C6 (by simpa using hi),AI] at e2;rw[C6 (by lia)] at h0;obtain⟨j,hj,hv⟩:=iH e2;have hm:x∈cap:=Bv h0;obtain⟨m,h5,hl⟩:=I.loc;obtain⟨U5,nl,fr⟩:=ok.U5 x hm;obtain⟨u,r,l⟩:=hl j x v (ok.rO _ x j h0 hj) hv U5;refine⟨u,r,?_⟩;rcases l with⟨k,_⟩|⟨_,c,hc,z⟩
   .exact absurd k nl
   .obtain⟨c',h3⟩:=ok.has x fr;have e:=ok.sub x c' h3;rw[hc] at e;cases e;obtain⟨o,ho,hd⟩:=z;exact .inr ⟨fr,c,h3,o,hk c o ho,hd⟩
 .intro x c e;obtain⟨v,o,ho,hd⟩:=I.cell x c (ok.sub x c e);exact⟨v,o,hk c o ho,hd⟩
 .intro x c e;exact I.DK x c (ok.sub x c e)
 .intro p hp;have h4:p∈X.pn++pins:=by simpa[EO] using hp
  obtain⟨e,n,ne,nf,d⟩:=I.pin p h4;refine⟨hk _ _ e,n,BS (A7 e),λhz=>?_,d⟩;rcases BM.mp (I.Nv p.1 hz) with z|z
  .exact ne z
  .exact nf z
 .show(ts.map (λ_=>J)++EB ix S).length=(ts++cap).length;rw[A9,AI,A9];delta EB;rw[AI,ok.len]
def Inv.X4{Nc:List Str}{σc:St}{s':Ya}{h'':sf}{pc:List (OK×Obj)}(I:Inv X pins S H s)(hf:∀b∈fp,F9 X pins H b)
 (B:Inv (EO X Nc scope cl s.heap.objs.size s H fp pins) pc σc H' s')(hs:Heap.SameBut s.heap.objs.size s'.heap h''):Inv X pins S H' {s' with heap:=h''}:=by
 have e1:(EO X Nc scope cl s.heap.objs.size s H fp pins).fs=Cr X.stack:=Z;have B0:Un (Cr X.stack) fp H H' s.heap s'.heap:=B.base;have nz:∀b o,s.heap.get? b=U o->b≠s.heap.objs.size:=λb o e=>BS (A7 e);have fr:H' s.heap.objs.size=J:=B.free;refine I.QQ (ch:=fp) (s':={s' with heap:=h''}) (show s'.os=s.os from B.os) ⟨λb o e n hb hx=>?_,λb o e n hb hx=>?_,B0.free,λb o e hx=>?_,B0.FC,B0.EW,B0.E9⟩ (λb u e=>?_) B.bare (λb hb=>?_)
 .exact(hs.2 b (nz b o e)).trans (B0.keep b o e n hb hx)
 .obtain⟨sl,q⟩:=B0.slot b o e n hb hx;exact⟨sl,(hs.2 b (nz b o e)).trans q⟩
 .obtain⟨o',q⟩:=B0.there b o e hx;exact⟨o',(hs.2 b (nz b o e)).trans q⟩
 .refine(B.hok b u e).Eo (λc v hc q=>(hs.2 c ?_).trans q) (λ_ q=>q) λ_ _ q=>q;rcases hc with z|z
  .subst z;exact λz=>by rw[z,fr] at e;cases e
  .exact λz'=>by rw[z',fr] at z;cases z
 .obtain⟨_,f1,_,f3,f4,f5⟩:=hf b hb;exact⟨f3,f1,f4,f5⟩
end
variable{use:Option (AB->Sem Unit)}
section
variable{cap:List Str}{cl:List (Str×OK)}
def We{elt iter:hY}{pos2:Pos}{wi:TI}{R:AB->Ya->Prop}{Q:VK}(ok:Kl X ts cap ix scope cl)(hi:PI X tg iter wi)
 (hg:∀C s₀ H₀ fp pins,PG (EO X (ts++cap) scope cl C s₀ H₀ fp pins) tg g)(ht:∀C s₀ H₀ fp pins,OW (EO X (ts++cap) scope cl C s₀ H₀ fp pins) ifs ti)
 (he:∀C s₀ H₀ fp pins,PE (EO X (ts++cap) scope cl C s₀ H₀ fp pins) elt te)(hs:∀x,foldedSetIterable iter X.env x=pure x)(I:Inv X pins S H s)(h:UK ts ix wi g ti te S H Q)
 (fin:∀(D:OK)(H3 H4:Hp)(s3 s5:Ya)(fp:List OK),Inv X pins S H3 s3->(∀b∈fp,F9 X pins H3 b)->Inv (EO X (ts++cap) scope cl s3.heap.objs.size s3 H3 fp pins) [] (ts.map (λ_=>J)++EB ix S) H4 s5->Q (.ref D) H4->
  compPost (Yf X.prog X.w) X.A X.xe use R (.ref D) s3.heap.objs.size (.ok .next) s5):
 ax (Yf X.prog X.w) X.A (comprehension (.ListComp elt [⟨tg,iter,ifs,0⟩] scope pos) scope X.env pos2 (newList []) vc (sd iter X.env) use) R X.xe s:=by
 refine wpAny_comprehension_free (use:=use) Z hs ok.qf ok.kind ok.names (Ad (hi pins s S H _ I h) λv s1 h1=>Ad h1 λq5 s2 h2=>?_);obtain⟨it,fp,tn,vg,H2,e,I2,T,e6,f2,hW⟩:=h2;subst e;refine Ia (wpAny_newFunctionEnv ok.cell (by intro y hy;simp at hy) (λh1 s0 e9=>?_) ok.kind);dsimp only at s0 e9⊢;have nD:H2 s2.heap.objs.size=J:=I2.hok.fresh (Ac _);obtain⟨W,⟨m0,w0⟩,h7⟩:=hW s2.heap.objs.size nD;have I3:=I2.UZ (t':=s2.toks) (ys:=[]) (AV:=[]) .nil (CB _);have h4:∀b∈fp,b<s2.heap.objs.size:=λb hb=>by obtain⟨o,e,_⟩:=T.obj _ _ e6 b hb;exact A7 e
 have e3:∀b∈fp,F9 X pins (upd H2 s2.heap.objs.size (.lst [])) b:=λb hb=>⟨by rw[AO (BS (h4 b hb))];exact(f2 b hb).1,(f2 b hb).2⟩;generalize e1:({s2 with heap:=s2.heap.push {cls:=.type "list",data:=.seq ([]:List AB).toArray},toks:=s2.toks}:Ya)=s3 at I3;have h6:s3.heap=s2.heap.push {cls:=.type "list",data:=.seq ([]:List AB).toArray}:=by rw[<-e1]
 have q6:s3.toks=s2.toks:=by rw[<-e1]
 have e4:s3.heap.objs.size=s2.heap.objs.size+1:=by rw[h6,HI]
 have k3:∀b o,s2.heap.get? b=U o->s3.heap.get? b=U o:=λb o e=>by rw[h6];exact BD _ e
 have r0:∀b o,s3.heap.get? b=U o->h1.get? b=U o:=λb o e=>by have q:=e9.2 b (by rw[<-h6];exact BS (A7 e));rw[q];rw[<-h6];exact BD _ e
 have hC:(s2.heap.push {cls:=.type "list",data:=.seq ([]:List AB).toArray}).objs.size=s3.heap.objs.size:=by rw[h6]
 have B:Inv (EO X (ts++cap) scope cl s3.heap.objs.size s3 (upd H2 s2.heap.objs.size (.lst [])) fp pins) [] (ts.map (λ_=>J)++EB ix S) (upd H2 s2.heap.objs.size (.lst [])) {s3 with heap:=h1,toks:=s2.toks}:=
  I3.block ok e3 (λb hb=>C7 (h4 b hb) (by rw[e4];exact E2 _)) (by rw[<-hC];exact s0) r0;let Xc:=EO X (ts++cap) scope cl s3.heap.objs.size s3 (upd H2 s2.heap.objs.size (.lst [])) fp pins;have h3:∀{H':Hp},(∀b∈fp,H' b=J)->∀b∈fp,F9 Xc [] H' b:=λ{H'} hn b hb=>by
  obtain⟨_,f1,q0,f3,f4,f5⟩:=f2 b hb;refine⟨hn b hb,?_,λhz=>?_,.inl hb,λx c e=>f4 x c (ok.sub x c e),λp hp=>?_⟩
  .have r8:b<s3.heap.objs.size:=C7 (h4 b hb) (by rw[e4];exact E2 _);exact BS r8
  .rcases BM.mp (I2.Nv b hz) with z|z
   .exact f1 z
   .exact q0 z
  .have r7:p∈X.pn++pins:=by
    have r5:p∈(X.pn++pins)++[]:=hp
    rwa [CW] at r5
   exact f5 p r7
 have e8:tn 0 h1:=T.keep 0 s2.heap h1 e6 λb hb o e=>r0 b o (k3 b o e);have e0:∀st:Ya,st={s3 with heap:=h1,toks:=s2.toks}->
  tS (Yf X.prog X.w) X.A (.compLoop (.ListComp elt [⟨tg,iter,ifs,0⟩] scope pos) 0 (.ref it) (.ref s2.heap.objs.size) (compEnvC scope cl s3.heap.objs.size X.env)) (compPost (Yf X.prog X.w) X.A X.xe use R (.ref s2.heap.objs.size) s3.heap.objs.size) st:=by
  rintro st rfl;refine dO (λn s'=>∃i H',Inv Xc [] (ts.map (λ_=>J)++EB ix S) H' s'/\tn i s'.heap/\(∀b∈fp,H' b=J)/\W i n H') ?_ m0 ⟨0,_,B,e8,λb hb=>(e3 b hb).1,w0⟩;rintro n s4 ⟨i,H4,B4,e5,r1,w4⟩;rcases h7 i n H4 w4 with⟨h8,q⟩|⟨go,N,hN,step⟩
  .refine Ad (T.done Xc Z Z Z ok.calm i [] s4 _ H4 _ B4 (h3 r1) e5 h8) λr s5 ⟨hr,B5⟩=>?_;subst hr;exact fin _ _ H4 s3 s5 fp I3 e3 B5 q
  .refine Ad (T.item Xc Z Z Z ok.calm i [] s4 _ H4 (λ_ _=>False) B4 (h3 r1) e5 go) λr s5 ⟨u,hr,h5⟩=>?_;subst hr;refine Ad h5 λ_ s6 ⟨x,H6,B6,r6,y6,h9,r9⟩=>?_;have q2:=B6.pinned (h3 r9) (T.obj _ _ h9);refine Ad (hg _ _ _ _ _ _ s6 _ H6 x u _ q2 r6 (step x H6 y6)) λ_ s7 ⟨vz,H7,B7,r2,q7⟩=>?_;refine Ad (ht _ _ _ _ _ _ s7 vz H7 _ B7 q7) λb s8 ⟨H8,B8,q8⟩=>?_;have h0:∀{H9:Hp}{s9:Ya},Inv Xc ([]++Nq fp s6.heap) vz H9 s9->N H9->
    ∃m,m<n/\∃i H',Inv Xc [] (ts.map (λ_=>J)++EB ix S) H' s9/\tn i s9.heap/\(∀b∈fp,H' b=J)/\W i m H':=λ{H9 s9} B9 hm=>by
    obtain⟨m',lt,w9⟩:=hN _ hm;obtain⟨a,la,e7⟩:=r2;subst e7;refine⟨m',lt,i+1,H9,(B9.Pb).weak ?_ ?_,T.keep _ _ _ h9 λb hb o e=>(B9.pin (b,o) (Dk _ (Dk _ (PQ hb e)))).1,λb hb=>?_,w9⟩
    .rw[A9,A9,AI,la]
    .intro j v e;by_cases hj:j<ts.length
     .rw[DH (by simpa using hj),A1] at e
      cases e2:ts[j]?with
      |none=>rw[e2] at e;cases e
      |some y=>rw[e2] at e;cases e
     .rw[C6 (by simpa using hj),AI] at e;rw[C6 (by lia),la];exact e
    .obtain⟨o,e,d⟩:=T.obj _ _ h9 b hb;exact(B9.pin (b,o) (Dk _ (Dk _ (PQ hb e)))).2.1
   cases b with
   |false=>exact h0 B8 (by simpa using q8)
   |true=>
    have r3:te vz H8 λy H4=>∃ys,H4 s2.heap.objs.size=U (.lst ys)/\ys.length<sizeLine/\N (upd H4 s2.heap.objs.size (.lst (ys++[y]))):=by simpa using q8
    refine Ad (he _ _ _ _ _ _ s8 vz H8 _ B8 r3) λy s9 ⟨yv,H9,B9,ry,ys,hD,hl,q9⟩=>?_;exact Ad (EM _ s9 vz H9 (.ref s2.heap.objs.size) [yv] (.ref s2.heap.objs.size) [y] (λ_ H'=>N H') B9 Z (.cons ry .nil) ⟨_,ys,yv,Z,Z,hD,hl,q9⟩) λ_ q4 ⟨_,t0,q3,_,r4⟩=>h0 q3 r4
 have q1:({s2 with heap:=h1,toks:=s2.toks+([]:List (Str×AB)).length}:Ya)={s3 with heap:=h1,toks:=s2.toks}:=by rw[<-e1];rfl
 have L:=e0 _ q1;rw[<-hC] at L;exact codeAny_compStart_list L (T.self X.A 0 _ _ _ e8 L)
def E6{elt iter:hY}{wi:TI}(ok:Kl X ts cap ix scope cl)(hi:PI X tg iter wi)
 (hg:∀C s₀ H₀ fp pins,PG (EO X (ts++cap) scope cl C s₀ H₀ fp pins) tg g)(ht:∀C s₀ H₀ fp pins,OW (EO X (ts++cap) scope cl C s₀ H₀ fp pins) ifs ti)
 (he:∀C s₀ H₀ fp pins,PE (EO X (ts++cap) scope cl C s₀ H₀ fp pins) elt te)(hs:∀x,foldedSetIterable iter X.env x=pure x:=by intro _;rfl):
 PE X (.ListComp elt [⟨tg,iter,ifs,0⟩] scope pos) (UK ts ix wi g ti te):=by
 intro pins s S H Q I h;rw[eval_ListComp];refine We (use:=J) (Q:=Q) ok hi hg ht he hs I h λD H3 H4 s3 s5 fp I3 h2 B5 q=>?_;obtain⟨m,h1,_⟩:=B5.loc;exact⟨m,h1,λh' h0=>⟨.ref D,H4,I3.X4 h2 B5 h0,Z,q⟩⟩
def Yw{y:Str}{elt iter:hY}{spos py:Pos}{wi:TI}(ok:Kl X ts cap ix scope cl)(hN:X.N.Nodup)(hy:X.N[i]? =U y)(hl:X.env.scope.names.lookup y=U .local)(hi:PI X tg iter wi)
 (hg:∀C s₀ H₀ fp pins,PG (EO X (ts++cap) scope cl C s₀ H₀ fp pins) tg g)(ht:∀C s₀ H₀ fp pins,OW (EO X (ts++cap) scope cl C s₀ H₀ fp pins) ifs ti)
 (he:∀C s₀ H₀ fp pins,PE (EO X (ts++cap) scope cl C s₀ H₀ fp pins) elt te)(hs:∀x,foldedSetIterable iter X.env x=pure x:=by intro _;rfl)
 (hsw:uN (.ListComp elt [⟨tg,iter,ifs,0⟩] scope pos) (U (.Name y py)) spos.line X.env=pure Y:=by rfl):
 PS X (.Assign [.Name y py] (.ListComp elt [⟨tg,iter,ifs,0⟩] scope pos) spos) (Qj (UK ts ix wi g ti te) (EA i)):=by
 intro pins s S H D I h;rw[exec_Assign_Name_used _ _ _ _ hsw];refine AK (O8 (AK ?_));show ax _ X.A (do let _<-comprehension (.ListComp elt [⟨tg,iter,ifs,0⟩] scope pos) scope X.env _ (newList []) vc (sd iter X.env) (U (vB (.Name y py) X.env))) _ _ s;refine AK (DA (We (R:=λ_ s'=>SP X pins D .next s') (Q:=λx H1=>EA i x S H1 D.nx) ok hi hg ht he hs I h λD' H3 H4 s3 s5 fp I3 h2 B5 q=>?_) (λ_ s' hq=>Ae (Ae hq)) λ_ _ e=>e);have I5:Inv X pins S H4 s5:=I3.X4 h2 B5 (Heap.SameBut.refl ..);obtain⟨m,h0,_⟩:=B5.loc;have hC:s3.heap.objs.size<s5.heap.objs.size:=h0.lt;show ax _ X.A (vB (.Name y py) X.env (.ref D')) _ _ s5;refine wpAny_assign_Name (Wr I5 hN hy (.inl hl) (v:=.ref D') Z (λs' I' hb=>?_) (.inr hl));obtain⟨a,sb,ha⟩:=hb;have ea:a≠s3.heap.objs.size:=by
  rcases ha with e|e
  .rw[e];exact BS I3.lt
  .obtain⟨v,z⟩:=I3.cell y a e;exact BS z.lt
 refine⟨m,h0.sameBut sb (DI ea),λh' h1=>?_⟩;refine⟨_,H4,I'.turned (t':=s'.toks) (it:=s3.heap.objs.size) (λb o hb e=>(h1.2 b hb).trans e) B5.free (Fu I3.lt) (.inr I3.sz) (λx c e=>?_) (λp hp=>?_),q⟩
 .obtain⟨v,z⟩:=I3.cell x c e;exact BS z.lt
 .exact BS (A7 (I3.pin p hp).1)
end
def Qv(z:Str):It:=⟨λi _=>i<z.cps.size,λi H v H'=>H'=H/\∃c,z.cps[i]? =U c/\v=.str ⟨#[c]⟩,λi _=>z.cps.size<=i⟩
def Xp(it:OK)(ty:String)(z:Str)(t:Tok)(hty:ty="str_ascii_iterator" \/ty="str_iterator"):
 Turn P w K tg (Qv z) [it] it (λi h=>h.IsStrIter it ty z t i) where
 mem:=by simp
 obj:=λi h st b hb=>by
  obtain rfl:b=it:=by simpa using hb
  obtain⟨o,e,c,d⟩:=st;exact⟨o,e,λv q=>by rw[d] at q;cases q⟩
 keep:=λi h h' st k=>by obtain⟨o,e,r⟩:=st;exact⟨o,k it (by simp) o e,r⟩
 item:=by
  intro X hP hw hK hc i h0 s S H E I hf st hg;subst hP hw hK;obtain⟨f0,f1,f2,f3,f4,f5⟩:=hf it (by simp);have hi:i<z.cps.size:=hg;have h3:∀(c:Nat)(u:Tok)(h':sf)(tk:Nat),z.cps[i]? =U c->h'.IsStrIter it ty z t (i+1)->(∀b o,b≠it->s.heap.get? b=U o->h'.get? b=U o)->
   ∃v,U (Value.str ⟨#[c]⟩ u)=U v/\ax (Yf X.prog X.w) X.A (tZ tg (.ref it) v) (λ_ s2=>∃x H',Inv X h0 S H' s2/\RelV x v/\(Qv z).JJ i H x H'/\s2.heap.IsStrIter it ty z t (i+1)/\∀b∈[it],H' b=J) E {s with heap:=h',toks:=tk}:=by
   intro c u h' tk hc h1 kk;have I1:Inv X h0 S H {s with heap:=h',toks:=tk}:=I.turned (λb o hb e=>kk b o hb e) f0 f1 f3 f4 f5;obtain⟨o,e,ec,d⟩:=id h1;refine⟨_,Z,N6 (s:={s with heap:=h',toks:=tk}) (n:=ty) e ec d ?_ ⟨.str ⟨#[c]⟩,H,I1,⟨u,Z⟩,⟨Z,c,hc,Z⟩,h1,λb hb=>(hf b hb).1⟩⟩;rcases hty with e|e<;>subst e<;>decide
  rcases hty with e|e
  .subst e;have W:=Walks.strAscii (prog:=X.prog) (w:=X.w) (I.ok.hd hc) it z t;refine W.item i s _ _ hi st λv h' tk hv h1 kk=>?_;obtain⟨c,u,h2,rfl⟩:=hv;exact h3 c u h' tk h2 h1 λb o hb e=>kk b o (by simpa using hb) e
  .subst e;have W:=Walks.strWide (prog:=X.prog) (w:=X.w) (I.ok.hd hc) it z t;refine W.item i s _ _ hi st λv h' tk hv h1 kk=>?_;obtain⟨c,u,h2,rfl⟩:=hv;exact h3 c u h' tk h2 h1 λb o hb e=>kk b o (by simpa using hb) e
 done:=by
  intro X hP hw hK hc i h0 s S H E I hf st hg;subst hP hw hK;obtain⟨f0,f1,f2,f3,f4,f5⟩:=hf it (by simp);have hi:z.cps[i]? =J:=by have:z.cps.size<=i:=hg;simp only[Array.getElem?_eq_none_iff];exact this
  rcases hty with e|e
  .subst e;exact wpAny_pyNext_ascii_end (I.ok.hd hc) st hi λh' eb=>⟨Z,I.turned (t':=s.toks) (λb o hb e=>eb b o hb e) f0 f1 f3 f4 f5⟩
  .subst e;exact wpAny_pyNext_wide_end (I.ok.hd hc) st hi λh' eb=>⟨Z,I.turned (t':=s.toks) (λb o hb e=>eb b o hb e) f0 f1 f3 f4 f5⟩
 self:=λ_ _ _ _ _ st h=>by
  rcases hty with e|e
  .subst e;exact wpAny_pyIter_striter_ascii st h
  .subst e;exact wpAny_pyIter_striter_wide st h
def qw(tl:TE):TI:=λS H R=>tl S H λx H1=>∃z,x=.str z/\R (Qv z) H1
def ZS{l:hY}(hl:PE X l tl):PI X tg l (qw tl):=by
 intro h0 s S H R I h;refine Ad (hl h0 s S H _ I h) λv s1 ⟨x,H1,I1,r1,q1⟩=>?_;obtain⟨z,e,q⟩:=q1;subst e;obtain⟨t,rfl⟩:=r1;have fp:∀b∈[s1.heap.objs.size],F9 X h0 H1 b:=λb hb=>by
  obtain rfl:b=s1.heap.objs.size:=by simpa using hb
  exact I1.Jv (Ac _) (I1.hok.fresh (Ac _))
 cases ha:z.cps.all (·<128)
 .exact wpAny_pyIter_wide ha ⟨s1.heap.objs.size,[s1.heap.objs.size],_,_,H1,Z,I1.kept (t':=s1.toks) λb o e=>BD _ e,Xp _ "str_iterator" z t (.inr Z),⟨_,CG _ Z,Z,Z⟩,fp,q⟩
 .exact wpAny_pyIter_ascii ha ⟨s1.heap.objs.size,[s1.heap.objs.size],_,_,H1,Z,I1.kept (t':=s1.toks) λb o e=>BD _ e,Xp _ "str_ascii_iterator" z t (.inl Z),⟨_,CG _ Z,Z,Z⟩,fp,q⟩
theorem WX:CD X (sZ .LtE) (λx y H Q=>∃i j,x=.str i/\y=.str j/\Q (.bl (!decide (j.cps.toList<i.cps.toList))) H):=by intro h0 s S H x y v u Q I rx ry h;obtain⟨i,j,rfl,rfl,q⟩:=h;obtain⟨t,rfl⟩:=rx;obtain⟨t',rfl⟩:=ry;exact P.le_str (CJ I q Z)
def WJ:CD X (tY .Mult) (λx y H Q=>∃z k,x=.str z/\y=.int k/\MulOk z k/\Q (.str (Txt.mul z k)) H):=by intro h0 s S H x y v u Q I rx ry h;obtain⟨z,k,rfl,rfl,hm,q⟩:=h;obtain⟨t,rfl⟩:=rx;obtain⟨t',rfl⟩:=ry;exact SB.mul hm λh1 k'=>⟨.str _,H,I.tok _,⟨_,Z⟩,q⟩
def aM(f:Str->Str->Bool):V->List V->Hp->VK->Prop:=λx vs H Q=>∃z y,x=.str z/\vs=[.str y]/\Q (.bl (f z y)) H
def fL:IY X "str.startswith" (aM Txt.startswith):=by intro h0 s S H x vs v us Q I rx rv h;obtain⟨z,y,rfl,rfl,q⟩:=h;obtain⟨t,rfl⟩:=rx;obtain⟨u,rfl,ru⟩:=rv.one;obtain⟨t',rfl⟩:=ru;exact SC.startswith ⟨.bl _,H,I,Z,q⟩
def j6:IY X "str.endswith" (aM Txt.endswith):=by intro h0 s S H x vs v us Q I rx rv h;obtain⟨z,y,rfl,rfl,q⟩:=h;obtain⟨t,rfl⟩:=rx;obtain⟨u,rfl,ru⟩:=rv.one;obtain⟨t',rfl⟩:=ru;exact SC.endswith ⟨.bl _,H,I,Z,q⟩
theorem Wl:∀l:List (Str×Tok),Vals (l.map λp=>V.str p.1) (strValues l)
 |[]=>.nil
 |p::r=>.cons ⟨p.2,Z⟩ (Wl r)
def nv:V->List V->Hp->VK->Prop:=λx vs H Q=>∃z y,x=.str z/\vs=[.str y]/\(y.length==0)=vc/\z.length+2<=sizeLine/\∀D,H D=J->Q (.ref D) (upd H D (.lst ((Txt.split z y).map V.str)))
def Xr:IY X "str.split" nv:=by
 intro h0 s S H x vs v us Q I rx rv h;obtain⟨z,y,rfl,rfl,hy,hz,q⟩:=h;obtain⟨t,rfl⟩:=rx;obtain⟨u,rfl,ru⟩:=rv.one;obtain⟨t',rfl⟩:=ru;have h3:(Txt.split z y).length<=sizeLine:=by
  have h5:1<=y.length:=by
   rcases Nat.eq_zero_or_pos y.length with e|e
   .rw[e] at hy;cases hy
   .exact e
  have:=M9 z y h5
  lia
 have h4:∀(l:List (Str×Tok))(tk:Nat),l.map (·.1)=Txt.split z y->EP X h0 S Q (.ref s.heap.objs.size) {s with heap:=s.heap.push {cls:=.type "list",data:=.seq (strValues l).toArray},toks:=tk}:=λl tk e=>by
  have el:(l.map λp=>V.str p.1)=(Txt.split z y).map V.str:=by rw[<-e,Bf];rfl
  have hl:(l.map λp=>V.str p.1).length<=sizeLine:=by rw[el,AI];exact h3
  refine⟨.ref s.heap.objs.size,_,I.UZ (t':=tk) (Wl l) hl,Z,?_⟩;rw[el];exact q _ I.fresh
 have hn:(Builtin.Str.partsBetween z (Builtin.Str.occurrences z y 0 z.length (z.length+1)) y.length).length<=sizeLine:=by have e1:=StrLaws.occ_length_le z y 0 z.length (z.length+1);rw[length_partsBetween];lia
 by_cases h1:(decide (z.length<y.length)||decide (Builtin.Str.strKind z<Builtin.Str.strKind y))=Y
 .refine KS F.slot_str_split (Le _ _ _) F.entry_str_split (Vr _ _) (meets_str_split_cannot_occur z y t t' h1) ?_;exact h4 [(z,t)] s.toks (by delta Txt.split;rw[AG h1];rfl)
 .by_cases h2:(Builtin.Str.occurrences z y 0 z.length (z.length+1)).isEmpty=Y
  .refine KS F.slot_str_split (Le _ _ _) F.entry_str_split (Vr _ _) (meets_str_split_not_found z y t t' (by simpa using h1) hy h2) ?_;exact h4 [(z,t)] s.toks (by delta Txt.split;rw[AF h1,AG h2];rfl)
  .refine KS F.slot_str_split (Le _ _ _) F.entry_str_split (Vr _ _) (meets_str_split_sep z y t t' (by simpa using h1) hy (by simpa using h2) (by lia) hn) ?_;have:=h4 (numbered s.toks (Builtin.Str.partsBetween z (Builtin.Str.occurrences z y 0 z.length (z.length+1)) y.length)) (s.toks+(Builtin.Str.partsBetween z (Builtin.Str.occurrences z y 0 z.length (z.length+1)) y.length).length)
    (by rw[numbered_texts];delta Txt.split;rw[AF h1,AF h2]);rw[<-strsFrom_eq] at this;exact this
def qL:V->Option Int->Option Int->Hp->VK->Prop:=λx lo hi H Q=>∃z,x=.str z/\z.length<=sizeLine/\Q (.str (Txt.slice z lo hi)) H
def Kh:MZ X qL:=by
 intro h1 s S H x v vl vu lo hi sl Q I rx hs pl pu h;obtain⟨z,rfl,hz,q⟩:=h;obtain⟨t,rfl⟩:=rx;refine⟨"str",_,F.slot_str_getitem.lookup,Le _ _ _,?_⟩;have h0:∀t' k,EP X h1 S Q (.str (Txt.slice z lo hi) t') {s with toks:=k}:=λt' k=>⟨.str _,H,I.tok _,⟨_,Z⟩,q⟩;have le:=BI (PF z lo hi) hz
 cases pl with
 |none=>
  cases pu with
  |none=>exact RD (l:=J) (u:=J) (st:=J) hs Z (Ro ⟨le,h0⟩)
  |int j uj=>exact RD (l:=J) (u:=U (j,uj)) (st:=J) hs Z (Ro ⟨le,h0⟩)
 |int i ui=>
  cases pu with
  |none=>exact RD (l:=U (i,ui)) (u:=J) (st:=J) hs Z (Ro ⟨le,h0⟩)
  |int j uj=>exact RD (l:=U (i,ui)) (u:=U (j,uj)) (st:=J) hs Z (Ro ⟨le,h0⟩)
def fZ(hu:X.A.units<tE):CD X (sZ .NotEq) (λx y H Q=>∃a b xs,x=.ref a/\y=.ref b/\AL X.K H a xs/\AL X.K H b []/\Q (.bl (!xs.isEmpty)) H):=by
 intro h2 s S H x y v u Q I rx ry h;obtain⟨a,b,xs,rfl,rfl,ha,hb,q⟩:=h;cases rx;cases ry;obtain⟨h4,r,pl,hz⟩:=I.list ha;obtain⟨h3,r2,h0,h5⟩:=I.list hb;cases r2;have hl:=r.length
 cases xs with
 |nil=>cases r;refine SeqAt.RcNeAt.lists (e:=λ_=>Y) pl.isList h0.isList Z hu (λj h1=>absurd h1 (by simp)) _ _ _ _ ?_;exact⟨.bl vc,H,I,Z,q⟩
 |cons x xs=>refine SeqAt.RcNeAt.lists_lengths pl.isList h0.isList ?_ hu _ _ _ _ ⟨.bl Y,H,I,Z,q⟩;cases r;simp
def fg(hu:X.A.units<tE):CD X (sZ .Eq) (λx y H Q=>∃a b xs,x=.ref a/\y=.ref b/\AL X.K H a xs/\AL X.K H b []/\Q (.bl xs.isEmpty) H):=by
 intro h2 s S H x y v u Q I rx ry h;obtain⟨a,b,xs,rfl,rfl,ha,hb,q⟩:=h;cases rx;cases ry;obtain⟨h4,r,pl,hz⟩:=I.list ha;obtain⟨h3,r2,h0,h5⟩:=I.list hb;cases r2;have hl:=r.length
 cases xs with
 |nil=>cases r;refine SeqAt.eq_listAt (e:=λ_=>Y) pl.isList h0.isList Z hu (λj h1=>absurd h1 (by simp)) ?_;exact⟨.bl Y,H,I,Z,q⟩
 |cons x xs=>refine SeqAt.eq_list_lengthsAt pl.isList h0.isList ?_ hu ⟨.bl vc,H,I,Z,q⟩;cases r;simp
def jN:DU X (.builtin "isinstance") (λxs H Q=>∃x c t b,xs=[x,.ty c]/\Bp X.K H x t/\uL X.K t (.type c)=U b/\Q (.bl b) H):=by intro h0 s S H xs us Q I r h;obtain⟨x,c,t,b,rfl,ty,e,q⟩:=h;obtain⟨u,w',rfl,rx,rc⟩:=vals2 r;cases rc;exact fQ I rx ty e λtk=>⟨.bl b,H,I.tok _,Z,q⟩
theorem XN:∀{cs:List String}{us:List AB},Vals (cs.map V.ty) us->us=cs.map Value.type
 |[],_,.nil=>rfl
 |_::_,_,.cons r t=>by rw[Au,<-XN t];cases r;rfl
def fe:DU X (.builtin "isinstance") (λxs H Q=>∃(x:V)(p:OK)(cs:List String)(t:AB)(b:Bool),xs=[x,.ref p]/\H p=U (.tup (cs.map V.ty))/\Bp X.K H x t/\kitAny X.K t (cs.map Value.type)=U b/\Q (.bl b) H):=by
 intro h4 s S H xs us Q I r h;obtain⟨x,p,cs,t,b,rfl,hp,ty,e,q⟩:=h;obtain⟨u,w',rfl,rx,rc⟩:=vals2 r;cases rc;obtain⟨_,h7,rv,o,h1,h2,n,h3⟩:=(show BY X.prog X.w H s.heap p (.tup (cs.map V.ty)) from I.hok p _ hp);have ei:=XN rv;subst ei;obtain⟨oc,od,h6,h5⟩:=o;simp only at h2 h3;subst h2 h3;have h0:∀tk,EP X h4 S Q (.bool b) {s with toks:=tk}:=λtk=>⟨.bl b,H,I.tok _,Z,q⟩
 cases ty with
 |BB=>cases(show u=Value.none from rx);exact Hr kitx_none I.Bb Cy h1 e (λz=>nomatch z) h0
 |bl y=>cases(show u=Value.bool y from rx);exact Hr kitx_bool I.Bb Cy h1 e (λz=>nomatch z) h0
 |int i=>obtain⟨t,q⟩:=(show∃t,u=Value.int i t from rx);cases q;exact Hr kitx_int I.Bb Cy h1 e (λz=>nomatch z) h0
 |str y=>obtain⟨t,q⟩:=(show∃t,u=Value.str y t from rx);cases q;exact Hr kitx_str I.Bb Cy h1 e (λz=>nomatch z) h0
 |JG y=>obtain⟨t,q⟩:=(show∃t,u=Value.float y t from rx);cases q;exact Hr kitx_float I.Bb Cy h1 e (λz=>nomatch z) h0
 |@lst a xs ea=>cases(show u=Value.ref a from rx);obtain⟨_,_,n,_,g1⟩:=(show BY X.prog X.w H s.heap a (.lst xs) from I.hok a _ ea);exact Hr RX I.Bb ⟨_,g1,Z⟩ h1 e (λz=>nomatch z) h0
 |@BZ a ob xs ea=>cases(show u=Value.ref a from rx);obtain⟨_,_,_,n,_,g1⟩:=(show BY X.prog X.w H s.heap a (.BZ ob (.lst xs)) from I.hok a _ ea);exact Hr RX I.Bb ⟨_,g1,Z⟩ h1 e (λz=>nomatch z) h0
 |@tup a xs ea=>cases(show u=Value.ref a from rx);obtain⟨_,_,_,p⟩:=(show BY X.prog X.w H s.heap a (.tup xs) from I.hok a _ ea);obtain⟨o,g1,g2,_⟩:=p;exact Hr kitx_tuple I.Bb ⟨o,g1,g2⟩ h1 e (λz=>nomatch z) h0
 |@dK a AA ea=>cases(show u=Value.ref a from rx);obtain⟨_,_,vs,_,p⟩:=(show BY X.prog X.w H s.heap a (.dK AA) from I.hok a _ ea);obtain⟨o,es,ep,g1,g2,_⟩:=p;exact Hr RY I.Bb ⟨o,g1,g2.1⟩ h1 e (λz=>nomatch z) h0
 |@dT a AA ea=>cases(show u=Value.ref a from rx);obtain⟨_,_,xs,_,o,es,ep,g1,g2,_⟩:=(show BY X.prog X.w H s.heap a (.dT AA) from I.hok a _ ea);exact Hr RY I.Bb ⟨o,g1,g2.1⟩ h1 e (λz=>nomatch z) h0
 |@ins a C dx fs ea cl ha hn htk hm=>cases(show u=Value.ref a from rx);obtain⟨mA,O,_⟩:=Nf I.hok ea;obtain⟨od,vg,_⟩:=O.look;exact Hr (kitx_own (cl.get _) cl.hd ha hn htk hm) I.Bb vg h1 e (λz=>nomatch z) h0
def all_range(bs:List Bool):∀n:Nat,n=bs.length->(List.range n).all (λi=>bs.getD i Y)=bs.all id:=by
 rintro n rfl;rw[O4,M6,M6];constructor
 .intro h b hb;obtain⟨i,hi,e⟩:=GY.mp hb;have:=h i (Hu.mpr hi);rw[C3,Ar hi] at this;rw[<-e];exact this
 .intro h i hi;have h0:=Hu.mp hi;rw[C3,Ar h0];exact h _ (Ez h0)
def hV(hc:X.calm=Y):DU X (.builtin "all") (λxs H Q=>∃(p:OK)(bs:List Bool),xs=[.ref p]/\AL X.K H p (bs.map V.bl)/\Q (.bl (bs.all id)) H):=by
 intro h5 s S H xs us Q I r h;obtain⟨p,bs,rfl,hq,q⟩:=h;obtain⟨u,rfl,rx⟩:=vals1 r;cases rx;obtain⟨h0,rv,pl,hz⟩:=I.list hq;have h1:=rv.length;obtain⟨o,ho,h7,n,h6⟩:=id pl.isList;have ne:p≠s.heap.objs.size:=BS (A7 ho);have hh:X.A.in1.handled=J:=I.ok.hd hc;have tr:TruthOf X.prog X.w X.A.in1 (λi v=>h0.toArray[i]? =U v) (λi=>bs.getD i Y):=by
  intro i v s' Q' E' hv hQ;have h2:h0[i]? =U v:=by simpa using hv
  have hi:i<h0.length:=(BP.mp h2).1;rw[AI] at h1;have hb:bs[i]? =U bs[i]:=Ar (by lia);obtain⟨u',h3,ru⟩:=rv.get (i:=i) (x:=.bl bs[i]) (by rw[A1,hb];rfl);rw[h2] at h3;cases h3;cases ru;have h4:Q' (bs.getD i Y) s':=hQ;rw[C3,hb] at h4;exact Ae h4
 refine call_all_walk (wpAny_pyIter_list pl.isList ?_);refine⟨s.heap.objs.size,[s.heap.objs.size,p],[s.heap.objs.size],h0.toArray.size,λi v=>h0.toArray[i]? =U v,λi h=>h.IsListIter s.heap.objs.size p i/\h.IsList p h0.toArray,λi=>bs.getD i Y,Z,Walks.list hh _ p ne h0.toArray,
  ⟨⟨_,CG _ Z,Z,Z⟩,⟨o,BD _ ho,h7,n,h6⟩⟩,tr,λh' tk kk=>?_⟩;rw[all_range bs h0.toArray.size (by rw[AI] at h1;simp[h1])];exact⟨.bl _,H,I.kept (λb ob e=>kk b ob (by simpa using BS (A7 e)) (BD _ e)),Z,q⟩
section
variable{xs:List V}
def F8(h:AL [] H a xs):AL K H a xs:=h.elim .inl λ⟨_,_,_,e,_⟩=>nomatch e
def ME(h:AS [] H a xs):AS K H a xs:=h.elim .inl λ⟨_,_,_,e,_⟩=>nomatch e
def Cv:Hk X (QZ []):=λ_ _ _ _ _ _ _ _ _ _ _ I r r' ⟨p,xs,i,v,a,b,q,c⟩=>kU _ _ _ _ _ _ _ _ _ _ _ I r r' ⟨p,xs,i,v,a,b,F8 q,c⟩
def Ql:Hk X (ML []):=λ_ _ _ _ _ _ _ _ _ _ _ I r r' ⟨p,xs,i,v,a,b,q,c⟩=>nB _ _ _ _ _ _ _ _ _ _ _ I r r' ⟨p,xs,i,v,a,b,ME q,c⟩
def A0{a:hY}{i:Int}{j}(ha:PE X a ta):PE X (.Subscript a (.Constant (.int i) j p) pos) (Fi (ML []) ta (tC (.int i))):=CK Ql ha Aa λ_ _=>rfl
def ED{a:hY}{i:Int}{j}(ha:PE X a ta):PE X (.Subscript a (.Constant (.int i) j p) pos) (Fi (QZ []) ta (tC (.int i))):=CK Cv ha Aa λ_ _=>rfl
def Br.mn(r:Br k A)(h:j<=k:=by decide):Br j A:=r.mono h
def qR:MZ X (aq []):=λ_ _ _ _ _ _ _ _ _ _ _ _ I r a b c ⟨p,xs,e,q,z⟩=>lX _ _ _ _ _ _ _ _ _ _ _ _ I r a b c ⟨p,xs,e,ME q,z⟩
def au:MZ X (az []):=λ_ _ _ _ _ _ _ _ _ _ _ _ I r a b c ⟨p,xs,e,q,z⟩=>Pl _ _ _ _ _ _ _ _ _ _ _ _ I r a b c ⟨p,xs,e,F8 q,z⟩
def Gq:DU X (.builtin "len") (λxs H Q=>∃p ys,xs=[.ref p]/\(AL [] H p ys\/AS [] H p ys)/\Q (.int ys.length) H):=
 λ_ _ _ _ _ _ _ I r ⟨p,ys,e,q,z⟩=>JW _ _ _ _ _ _ _ I r ⟨p,ys,e,q.imp F8 ME,z⟩
def ah:CD X (sZ .In) (cK [] vc):=λ_ _ _ _ _ _ _ _ _ I r r' ⟨p,xs,e,q,z⟩=>fk _ _ _ _ _ _ _ _ _ I r r' ⟨p,xs,e,q.imp F8 ME,z⟩
def rC(hu:X.A.units<tE):CD X (sZ .Eq) (λx y H Q=>∃a b xs,x=.ref a/\y=.ref b/\AL [] H a xs/\AL [] H b []/\Q (.bl xs.isEmpty) H):=
 λ_ _ _ _ _ _ _ _ _ I r r' ⟨p,b,xs,e,e',q,q',z⟩=>fg hu _ _ _ _ _ _ _ _ _ I r r' ⟨p,b,xs,e,e',F8 q,F8 q',z⟩
def bU{x:V}(h:OM [] T x H):OM K T x H:=by
 cases x;case ref p=>exact h.imp (λ⟨e,xs,q⟩=>⟨e,xs,F8 q⟩) (·.imp (λ⟨_,_,e,_⟩=>nomatch e) id)
 all_goals exact h
def cf(t:TE):TE:=λS H Q=>∃Q0:VK,t S H Q0/\∀v H1,Q0 v H1->Q v H1
def PE.mc{t:TE}(h:PE X e t):PE X e (cf t):=λh0 s S H Q I ⟨Q0,z,m⟩=>Ad (h h0 s S H Q0 I z) λ_ _ ⟨v,H1,i,r,q⟩=>⟨v,H1,i,r,m _ _ q⟩
end
section
variable{o:hY}{es:List hY}{to:TE}{t:TA}{id:String}
def Ea(pa:uR T)(slot:Slot T name id)(hty:typeOf (.builtin id)=pure (.type "method_descriptor"))(hm:OX X id r)(ho:PE X o to)(ha:PA X (e::es) t)
 (hbase:sr o name X.env (sd o X.env)=sd o X.env:=by rfl)
 (hfew:((tF cpos (dq (e::es) X.env)).all (λx=> !x.1)&&(uG cpos (tP [] X.env)).all (λx=>x.1.isSome)
  &&decide ((e::es).length+([]:List uC).length+(if([]:List uC).isEmpty then 0 else 1)<30))=Y:=by rfl)
 (hline:(apos.endLine==cpos.line)=Y:=by rfl)(hs:dq (e::es) X.env=(vc,sd e X.env)::dq es X.env:=by rfl)(hplain:(tF cpos (dq es X.env)).any (·.1)=vc:=by rfl):
 PE X (.Call (.Attribute o name apos) (e::es) [] cpos) (VC [] T r to t):=
 λh0 s S H Q I h=>Jq pa slot hty hm ho.mc ha hbase hfew hline hs hplain h0 s S H Q I ⟨_,h,λ_ _ ⟨y,z⟩=>⟨bU y,z⟩⟩
end
def pL{it:OK}{tn:Nat->sf->Prop}(T:Turn P w K tg (Hj K a) fp it tn):Turn P w K tg (Hj [] a) fp it tn where
 mem:=T.mem
 obj:=T.obj
 keep:=T.keep
 item:=λX a1 a2 a3 a4 i h0 s S H E I f t ⟨xs,x,q,e⟩=>DA (T.item X a1 a2 a3 a4 i h0 s S H E I f t ⟨xs,x,F8 q,e⟩) (λr s1 ⟨u,hu,z⟩=>⟨u,hu,DA z (λ_ s2 ⟨x,H',I',rx,⟨e,y⟩,z⟩=>⟨x,H',I',rx,⟨e,λxs q=>y xs (F8 q)⟩,z⟩) λ_ _ z=>z⟩) λ_ _ z=>z
 done:=λX a1 a2 a3 a4 i h0 s S H E I f t ⟨xs,q,e⟩=>T.done X a1 a2 a3 a4 i h0 s S H E I f t ⟨xs,F8 q,e⟩
 self:=T.self
def EX{l:hY}(hl:PE X l tl):PI X tg l (Ko [] tl):=λh0 s S H R I h=>
 Ad (HY (tg:=tg) hl.mc h0 s S H (λvg H1=>∃a,vg=Hj X.K a/\R (Hj [] a) H1) I (show Ko X.K (cf tl) S H _ from⟨_,h,λ_ _ ⟨a,e,⟨xs,q⟩,z⟩=>⟨a,e,⟨xs,F8 q⟩,⟨a,Z,z⟩⟩⟩)) λ_ _ z=>Ad z λ_ _ ⟨it,fp,tn,_,H',e,i,T,t0,f,a,ej,z⟩=>⟨it,fp,tn,Hj [] a,H',e,i,pL (ej▸T),t0,f,z⟩
structure Hv(P:sY)(w:si)(K:vH)(mg:Str->Option AB)(base:sf)(x:Str)(k:Nat)(ps:List Str)(sp:Sp):Prop where
 ex:∃f fd,AX P w K mg base Ai k f fd ps sp/\Binds K fd ps []/\mg x=U (.ref f)/\tM K (.ref f)=Y
section
variable{E:XK}{es:List hY}{t:TA}
def Cj(h:Hv X.prog X.w X.K X.mg X.base x k ps sp)(hr:Br k X.A)(hg:Gl X x)(hx:Passes Ai X E)(ha:PA X (e::es) t)(hdb:(x==("__debug__" :Str))=vc:=by decide)
 (he:dq (e::es) X.env=(vc,sd e X.env)::dq es X.env:=by rfl)(hpl:(tF pos (dq es X.env)).any (·.1)=vc:=by rfl):PE X (.Call (.Name x p) (e::es) [] pos) (Nz sp [] E t):=by
 obtain⟨_,_,G,b,m,k⟩:=h.ex;exact Cs G hr hg m k b .nil hx ha hdb he hpl
end
inductive Dt where
 |bl (b:Bool)|int (i:Int)|str (x:Str)|lst (xs:List Dt)|tup (xs:List Dt)
mutual
noncomputable def Dt.sz:Dt->Nat
 |.lst xs=>1+Dt.Bz xs
 |.tup xs=>1+Dt.Bz xs
 |_=>1
noncomputable def Dt.Bz:List Dt->Nat
 |[]=>0
 |d::r=>d.sz+Dt.Bz r
end
def Dt.Y8:∀d:Dt,1<=d.sz
 |.lst _=>by delta Dt.sz;lia
 |.tup _=>by delta Dt.sz;lia
 |.bl _=>by delta Dt.sz;lia
 |.int _=>by delta Dt.sz;lia
 |.str _=>by delta Dt.sz;lia
theorem Dt.P2:∀a b:List Dt,Dt.Bz (a++b)=Dt.Bz a+Dt.Bz b
 |[],b=>by rw[O3];simp[Dt.Bz]
 |d::r,b=>by rw[O0];simp only[Dt.Bz];rw[Dt.P2 r b];lia
theorem Dt.Kd:∀a:List Dt,a.length<=Dt.Bz a
 |[]=>by simp
 |d::r=>by
  have h1:=d.Y8;have h2:=Dt.Kd r;simp only[Dt.Bz,Bw]
  lia
inductive Rep(H:Hp):Dt->V->Prop where
 |bl (b:Bool):Rep H (.bl b) (.bl b)
 |int (i:Int):Rep H (.int i) (.int i)
 |str (x:Str):Rep H (.str x) (.str x)
 |lst {ds:List Dt} {a:OK} {xs:List V} (h:H a=U (.lst xs)) (hl:ds.length=xs.length) (r:∀(i:Nat) d x,ds[i]? =U d->xs[i]? =U x->Rep H d x):Rep H (.lst ds) (.ref a)
 |tup {ds:List Dt} {a:OK} {xs:List V} (h:H a=U (.tup xs)) (hl:ds.length=xs.length) (r:∀(i:Nat) d x,ds[i]? =U d->xs[i]? =U x->Rep H d x):Rep H (.tup ds) (.ref a)
def Rep.same(s:AM H H'){d:Dt}{x:V}(r:Rep H d x):Rep H' d x:=by
 induction r with
 |bl b=>exact .bl b
 |int i=>exact .int i
 |str x=>exact .str x
 |lst h hl _ ih=>exact .lst (s _ _ h) hl ih
 |tup h hl _ ih=>exact .tup (s _ _ h) hl ih
def Ag{o:HO}(h:H a=J):AM H (upd H a o):=λb u e=>by rw[AO (A8 e h)];exact e
theorem AM.upd{o:HO}(s:AM H H')(h:H a=J):AM H (upd H' a o):=λb u e=>by rw[AO (A8 e h)];exact s b u e
def Hb{c A:Prop}[Decidable c](hc:¬c)(h:A):if(!decide c)=Y then A else B:=by rw[BG hc];exact Bs h
def Bj{c A:Prop}[Decidable c](hc:c)(h:A):if decide c=Y then A else B:=by rw[Bc hc];exact Bs h
def Bi{c A:Prop}[Decidable c](hc:¬c)(h:B):if decide c=Y then A else B:=by rw[BG hc];exact BV h
def JZ(hc:X.calm=Y)(hk:scope.kind=.function)(h:scope.names.all (λp=>p.2 !=.cell&&p.2 !=.free)=Y)
 (hn:∀y∈scope.names,y.2=.local->scope.names.lookup y.1=U .local):Kl X ts [] [] scope []:=by
 have h0:∀y∈scope.names,y.2≠.cell/\y.2≠.free:=λy hy=>by have:=M6.mp h y hy;simpa using this
 have er:tj scope X.env=scope:=by
  delta tj;have:(scope.names.map λ(p:Str×vC)=>if(p.2==NameKind.free&&X.env.scope.kind==.function&&X.env.kindOf p.1==U .cell)=Y then(p.1,NameKind.cell) else(p.1,p.2))=scope.names:=by
   refine map_eq_self λy hy=>?_;have e:(y.2==NameKind.free)=vc:=by simpa using(h0 y hy).2
   rw[e];rfl
  exact A2 (λn=>{scope with names:=n}) this
 refine⟨hc,closureFor_none λy hy=>(h0 y hy).2,λy hy=>(h0 y hy).1,hk,hn,λy c e=>(nomatch e),λy hy=>?_,Z,λi y j e=>absurd e (by simp),λy hy=>absurd hy (by simp)⟩;rw[er] at hy;rcases hy with hy|hy
 .exact absurd Z (h0 _ (JO hy)).1
 .exact absurd Z (h0 _ (JO hy)).2
variable{z:Str}
def Xh{Q:VK}(Pv:Nat->Hp->Prop)(h0:Pv 0 (upd H1 D (.lst [])))
 (hs:∀i c H,z.cps.toList[i]? =U c->Pv i H->g (.str ⟨#[c]⟩) (ts.map (λ_=>J)++EB ix S) H λvt H2=>JK ts ix S vt/\ti vt H2 λb H3=>if b=Y then te vt H3 λy H4=>∃ys,H4 D=U (.lst ys)/\ys.length<sizeLine/\Pv (i+1) (upd H4 D (.lst (ys++[y]))) else Pv (i+1) H3)
 (hd:∀H,Pv z.cps.toList.length H->Q (.ref D) H):MA ts ix S (Qv z) g ti te D Q H1:=by
 have el:z.cps.toList.length=z.cps.size:=by simp
 rw[el] at hd;refine⟨λi m H=>m=z.cps.size-i/\i<=z.cps.size/\Pv i H,⟨z.cps.size,by simp,CB _,h0⟩,?_⟩;rintro i m H ⟨rfl,hi,p⟩;by_cases hlt:i<z.cps.size
 .refine .inr ⟨hlt,Pv (i+1),λH' p'=>⟨z.cps.size-(i+1),by lia,Z,hlt,p'⟩,λx H' y=>?_⟩;obtain⟨e,c,hc,ex⟩:=y;subst e ex;exact hs i c _ (by simpa using hc) p
 .obtain rfl:i=z.cps.size:=by lia
  exact .inl ⟨Ac _,hd H p⟩
def LB:([x]++[]:List Str).Nodup:=by simp
noncomputable def Ex(H:Hp)(D:OK):Hp:=λb=>if b=D then J else H b
theorem Ex.upd{o:HO}:Ex (upd H D o) D=Ex H D:=by
 funext b;delta Ex;by_cases e:b=D
 .rw[AG e,AG e]
 .rw[AF e,AF e,AO e]
def Ex.sub:AM (Ex H D) H:=λb o e=>by
 delta Ex at e;by_cases z:b=D
 .rw[AG z] at e;cases e
 .rw[AF z] at e;exact e
def Ex.mono(s:AM H H'):AM (Ex H D) (Ex H' D):=λb o e=>by
 delta Ex at e⊢;by_cases z:b=D
 .rw[AG z] at e;cases e
 .rw[AF z] at e⊢;exact s b o e
def Ex.at{o:HO}(h:H b=U o)(n:b≠D):Ex H D b=U o:=by delta Ex;rw[AF n];exact h
def Ex.of_none(s:AM H H')(h:H D=J):AM H (Ex H' D):=λb o e=>by delta Ex;rw[AF (A8 e h)];exact s b o e
def Ah(H:Hp)(ds:List Dt)(xs:List V):Prop:=ds.length=xs.length/\∀(i:Nat) d x,ds[i]? =U d->xs[i]? =U x->Rep H d x
def Ah.nil:Ah H [] []:=⟨Z,λi d x e=>by simp at e⟩
theorem Ah.same{H H':Hp}(s:AM H H'){ds:List Dt}{xs:List V}(r:Ah H ds xs):Ah H' ds xs:=⟨r.1,λi d x h1 h2=>(r.2 i d x h1 h2).same s⟩
variable{ds:List Dt}
def Ah.snoc{xs:List V}{d:Dt}{x:V}(r:Ah H ds xs)(q:Rep H d x):Ah H (ds++[d]) (xs++[x]):=by
 obtain⟨hl,r⟩:=r;refine⟨by rw[A9,A9,hl];rfl,λi d' x' h1 h2=>?_⟩;by_cases hi:i<ds.length
 .rw[DH hi] at h1;rw[DH (by lia)] at h2;exact r i d' x' h1 h2
 .have DG:i<(ds++[d]).length:=(BP.mp h1).1;rw[A9,Ey] at DG;obtain rfl:i=ds.length:=by lia
  rw[C6 (Ac _),FQ] at h1;rw[C6 (by lia),<-hl,FQ] at h2;simp at h1 h2;subst h1 h2;exact q
def Rep.Hi{xs:List V}(h:H a=U (.lst xs))(r:Ah H ds xs):Rep H (.lst ds) (.ref a):=.lst h r.1 r.2
def Rep.MY{xs:List V}(h:H a=U (.tup xs))(r:Ah H ds xs):Rep H (.tup ds) (.ref a):=.tup h r.1 r.2
noncomputable def QU:hY->Option Str
 |.Constant (.str x) _ _=>U x
 |_=>J
def Kp:List hY->Option (List Str)
 |[]=>U []
 |c::r=>(QU c).bind λx=>(Kp r).map (x::·)
def lC(h:QU c=U x):∃k p,c=.Constant (.str x) k p:=by
 cases c;case Constant c k p=>
  cases c;case str y=>cases h;exact⟨_,_,Z⟩
  all_goals cases h
 all_goals cases h
def aD(xs:List Str):TA:=λ_ H Q=>Q (xs.map V.str) H
theorem TQ{X:Cx}:∀{es:List hY}{xs:List Str},Kp es=U xs->PA X es (aD xs)
 |[],xs,h=>by have e:xs=[]:=(AZ h).symm;subst e;exact AJ
 |c::r,xs,h=>by
  have h':(QU c).bind (λx=>(Kp r).map (x::·))=U xs:=h
  cases ec:QU c with
  |none=>rw[ec] at h';cases h'
  |some x=>
   cases e:Kp r with
   |none=>rw[ec,e] at h';cases h'
   |some ys=>rw[ec,e] at h';have e2:xs=x::ys:=(AZ h').symm;subst e2;obtain⟨_,_,rfl⟩:=lC ec;exact AE Ab (TQ e)
def jx{X:Cx}(i:Nat)(es:List hY)(xs:List Str)(h:Kp es=U xs)(x:Str)(p pos pos':Pos)(hN:X.N.Nodup)(hi:X.N[i]? =U x)(hx:Loc X.env.scope x)(hf:X.fn x=Y):
 PS X (.Assign [.Name x pos'] (.List es p) pos) (Qj (bB (aD xs)) (EA i)):=Ax hN hi hx (CY (@TQ X es xs h)) Z (.inl hf)
def Jb{y:Str}{c:OK}(hc:X.calm=Y)(hk:scope.kind=.function)(h:scope.names.all (λp=>p.2 !=.cell&&(p.2 !=.free||p.1==y))=Y)
 (hn:∀z∈scope.names,z.2=.local->scope.names.lookup z.1=U .local)(hcl:closureFor scope X.env=pure [(y,c)])(hce:X.env.cells.lookup y=U c)(hx:X.env.kindOf y=U .cell)(hj:X.N[j]? =U y)
 (hr:(tj scope X.env).names.lookup y=U .cell):Kl X ts [y] [j] scope [(y,c)]:=by
 have h0:∀z∈scope.names,z.2≠.cell/\(z.2=.free->z.1=y):=λz hz=>by have:=M6.mp h z hz;simp only[Ft,Bool.or_eq_true,bne_iff_ne,Fw] at this;exact⟨this.1,λe=>this.2.elim (λq=>absurd e q) id⟩
 have h1:∀z k,(tj scope X.env).names.lookup z=U k->(k=.cell\/k=.free)->z=y:=λz k hz h4=>by
  have hm:=JO hz;obtain⟨q,hq,e⟩:=Aw.mp (show(z,k)∈scope.names.map _ from hm);obtain⟨n,kq⟩:=q;have h3:=h0 (n,kq) hq;by_cases hf:kq=.free
  .have e1:n=y:=h3.2 hf;have e2:n=z:=by have:=A2 Prod.fst e;revert this;dsimp only;split<;>exact id
   rw[<-e2,e1]
  .have e3:(n,kq)=(z,k):=by
    rw[<-e];dsimp only;rw[AF (by
     intro zz;have:(kq==NameKind.free)=Y:=by simp only[Ft] at zz;exact zz.1.1
     exact hf (by simpa using this))]
   have e4:kq=k:=A2 Prod.snd e3;rcases h4 with z1|z1
   .exact absurd (e4.trans z1) h3.1
   .exact absurd (e4.trans z1) hf
 refine⟨hc,hcl,λz hz=>(h0 z hz).1,hk,hn,λz a e=>?_,λz hz=>?_,Z,λi z k e1 e2=>?_,λz hz=>?_⟩
 .by_cases h2:z=y
  .rw[h2] at e⊢;rw[HG,Ic] at e;rw[<-AZ e];exact hce
  .rw[HG,LQ h2] at e;cases e
 .have e:z=y:=hz.elim (λq=>h1 z _ q (.inl Z)) λq=>h1 z _ q (.inr Z);rw[e];exact⟨c,by rw[HG,Ic]⟩
 .cases i with
  |zero=>
   have e3:z=y:=by simpa using e1.symm
   have e4:k=j:=by simpa using e2.symm
   rw[e3,e4];exact hj
  |succ i=>simp at e1
 .have e:z=y:=BW.mp hz;rw[e];exact⟨.inr (.inl hx),(by rw[hx];intro q;cases q),.inl hr⟩
def IS{y:Str}(h:x≠y):([x]++[y]:List Str).Nodup:=by simp[h]
def Y7(a:String)(h:a="list" \/a="tuple"):kitAny K (.type a) (["list","tuple"].map Value.type)=U Y:=by rcases h with e|e<;>subst e<;>kernel_rfl
def TK(a:String)(h:a="str" \/a="int" \/a="bool"):kitAny K (.type a) (["list","tuple"].map Value.type)=U vc:=by rcases h with e|e|e<;>subst e<;>kernel_rfl
def IC(a:String):uL K (.type a) (.type a)=U Y:=by delta uL;rw[AG (by simp)]
def aW:uL K (.type "list") (.type "tuple")=U vc:=by kernel_rfl
def aF:uL K (.type "tuple") (.type "list")=U vc:=by kernel_rfl
def qE:uL K (.type "int") (.type "str")=U vc:=by kernel_rfl
def om:uL K (.type "bool") (.type "str")=U vc:=by kernel_rfl
def Z4:uL K (.type "int") (.type "bool")=U vc:=by kernel_rfl
def Gk:sq "isinstance" =U (.builtin "isinstance"):=by left
def F1:sq "list" =U (.type "list"):=by left
def Sk:sq "tuple" =U (.type "tuple"):=by left
def Zf:sq "str" =U (.type "str"):=by left
def L6:sq "int" =U (.type "int"):=by left
def TH:sq "bool" =U (.type "bool"):=by left
structure Own(mg:Str->Option AB):Prop where
 Gw:mg "isinstance" =J
 lst:mg "list" =J
 tup:mg "tuple" =J
 str:mg "str" =J
 int:mg "int" =J
 bl:mg "bool" =J
 len:mg "len" =J
 JI:mg "range" =J
def EZ(H H':Hp)(ds:List Dt)(ps:List OK):Prop:=ds.length=ps.length/\∀(i:Nat) d p,ds[i]? =U d->ps[i]? =U p->∃x y,H' p=U (.tup [x,y])/\Rep H d x/\Rep H d y
def EZ.same{ps:List OK}(k:∀b xs,H1 b=U (.tup xs)->H2 b=U (.tup xs))(s:EZ H H1 ds ps):EZ H H2 ds ps:=
 ⟨s.1,λi d p h1 h2=>let⟨x,y,a,b,c⟩:=s.2 i d p h1 h2;⟨x,y,k _ _ a,b,c⟩⟩
def EZ.snoc{ps:List OK}{d:Dt}{p:OK}{x:V}(s:EZ H H1 ds ps)(h:H1 p=U (.tup [x,y]))(rx:Rep H d x)(ry:Rep H d y):EZ H H1 (ds++[d]) (ps++[p]):=by
 obtain⟨hl,r⟩:=s;refine⟨by rw[A9,A9,hl];rfl,λi d' x' h1 h2=>?_⟩;by_cases hi:i<ds.length
 .rw[DH hi] at h1;rw[DH (by lia)] at h2;exact r i d' x' h1 h2
 .have DG:i<(ds++[d]).length:=(BP.mp h1).1;rw[A9,Ey] at DG;obtain rfl:i=ds.length:=by lia
  rw[C6 (Ac _),FQ] at h1;rw[C6 (by lia),<-hl,FQ] at h2;simp at h1 h2;subst h1 h2;exact⟨x,y,h,rx,ry⟩
def EZ.oA{ps:List OK}{p:OK}(s:EZ H H1 ds (ps++[p])):∃ds' d x y,ds=ds'++[d]/\EZ H H1 ds' ps/\H1 p=U (.tup [x,y])/\Rep H d x/\Rep H d y:=by
 obtain⟨hl,r⟩:=s;rcases List.eq_nil_or_concat ds with e|⟨ds',d,e⟩
 .subst e;simp at hl
 .rw[List.concat_eq_append] at e;subst e;have h0:ds'.length=ps.length:=by simpa using hl
  obtain⟨x,y,a,b,c⟩:=r ds'.length d p (by simp) (by rw[h0];simp);refine⟨ds',d,x,y,Z,⟨h0,λi d1 p1 h1 h2=>r i d1 p1 ?_ ?_⟩,a,b,c⟩
  .rw[DH (BP.mp h1).1];exact h1
  .rw[DH (BP.mp h2).1];exact h2
def Inv.W5{xs:List V}(I:Inv X pins S H s)(hf:∀b∈fp,F9 X pins H b)
 (k:∀b o,b∉fp->s.heap.get? b=U o->h'.get? b=U o)(th:∀b∈fp,∃o,h'.get? b=U o)(rv:Vals xs us)(hz:xs.length<=sizeLine)(ht:IsTup h' s.heap.objs.size us.toArray):
 Inv X pins S (upd H s.heap.objs.size (.tup xs)) {s with heap:=h',toks:=t'}:=by
 have hn:H s.heap.objs.size=J:=I.hok.fresh (Ac _);have nt:∀b o,s.heap.get? b=U o->b≠s.heap.objs.size:=λb o e=>BS (A7 e);have tf:∀b u,H b=U u->b∉fp:=λb u e z=>by rw[(hf b z).1] at e;cases e
 have tn:∀b u,H b=U u->b≠s.heap.objs.size:=λb u e z=>by rw[z,hn] at e;cases e
 refine I.step (g':=s.gens) (d':=s.drawn) (ch:=fp) (λb hb=>?_) (λb o _ _ hc e _=>k b o hc e) (λb o _ _ hc e _=>⟨o.slots,k b o hc e⟩) (λb o _ e n=>by rw[AO (nt b o e)];exact n)
  (λb o hc e=>⟨o,k b o hc e⟩) (λb ys e=>by rw[AO (tn _ _ e)];exact e) (λb o u e=>by rw[AO (tn _ _ e)];exact e) (λb ps e=>⟨#[],by rw[AO (tn _ _ e),e];simp⟩) (λm hm=>?_) (λb u e=>?_) I.bare
 .obtain⟨_,f1,_,f3,f4,f5⟩:=hf b hb;exact⟨f3,f1,f4,f5⟩
 .obtain⟨o,es,ep,ho,r⟩:=hm;exact⟨o,es,ep,k _ o (λz=>(hf _ z).2.1 Z) ho,r⟩
 .by_cases hb:b=s.heap.objs.size
  .subst hb;rw[AN] at e;cases e;exact⟨hz,us,rv,ht⟩
  .rw[AO hb] at e;refine(I.hok b u e).Eo (λc v hc q=>k c v ?_ q) (λc q=>?_) λc ys q=>?_
   .rcases hc with z|z
    .rw[z];exact tf b u e
    .exact tf c _ z
   .rw[AO (tn _ _ q)];exact q
   .rw[AO (tn _ _ q)];exact q
def Ma(K:vH)(a:OK):It:=
 ⟨λi H=>∃xs x,AL K H a xs/\xs[i]? =U x,λi H v H'=>∃p,v=.ref p/\H p=J/\∀xs,AL K H a xs->∃x,xs[i]? =U x/\H'=upd H p (.tup [.int i,x]),λi H=>∃xs,AL K H a xs/\xs.length<=i⟩
variable{elts:List hY}{tpos:Pos}
def zy:0<=sizeLine:=by decide
def zx:1<=sizeLine:=by decide
def zw:2<=sizeLine:=by decide
def zv:3<=sizeLine:=by decide
def z_0:4<=sizeLine:=by decide
def fU{x1:Nat}(a e it:OK)(hne:e≠it):
 Turn P w K (.Tuple elts x1 tpos) (Ma K a) [e,it] e (λi h=>(∃old,IsEnum h e it i old)/\h.IsListIter it a i) where
 mem:=by simp
 obj:=λi h st b hb=>by
  obtain⟨⟨old,he⟩,o,ho,hc,hd⟩:=st;have h0:b=e\/b=it:=by simpa using hb
  rcases h0 with z|z
  .subst z;exact⟨_,he,λv q=>by have q':Data.fields _=Data.cell v:=q;cases q'⟩
  .subst z;exact⟨o,ho,λv q=>by rw[hd] at q;cases q⟩
 keep:=λi h h' st k=>by obtain⟨⟨old,he⟩,hi⟩:=st;exact⟨⟨old,k e (by simp) _ he⟩,hi.at λo z=>k it (by simp) o z⟩
 item:=by
  intro X hP hw hK hc i h4 s S H E I hf st hg;subst hP hw hK;obtain⟨⟨old,he⟩,hi⟩:=st;obtain⟨xs,x,hq,hx⟩:=hg;obtain⟨h5,rv,p,hz⟩:=I.list hq;obtain⟨u,hu,ru⟩:=rv.get hx;have hn:H s.heap.objs.size=J:=I.hok.fresh (Ac _);have le:e<s.heap.objs.size:=A7 he;obtain⟨oi,h6,_⟩:=id hi;refine wpAny_pyNext_enum_item he hi p.isList (x:=u) (by simpa using hu) hne λh1 eo i1 t1 z1 k1=>⟨_,Z,?_⟩;refine wpAny_letOwnedTupleGo_enum eo λh2 e2 sb=>?_;have h3:Heap.SameBut e h1 h2:=sb;have k2:∀b o,b∉[e,it]->s.heap.get? b=U o->h2.get? b=U o:=λb o hb z=>by
   have h0:b≠e/\b≠it:=by simpa using hb
   exact(h3.2 b h0.1).trans (k1 b o h0.1 h0.2 z)
  have i2:h2.IsListIter it a (i+1):=by obtain⟨o,z,r⟩:=i1;exact⟨o,(h3.2 it (DI hne)).trans z,r⟩
  have t2:IsTup h2 s.heap.objs.size [Value.int i s.toks,u].toArray:=⟨_,(h3.2 _ (Fu le)).trans t1,Z,_,Z⟩;have I2:=I.W5 (h':=h2) (t':=s.toks+1) (xs:=[.int i,x]) hf k2 (λb hb=>by
   have h0:b=e\/b=it:=by simpa using hb
   rcases h0 with z|z
   .rw[z];exact⟨_,e2⟩
   .rw[z];obtain⟨o,z,_⟩:=i2;exact⟨o,z⟩) (.cons ⟨_,Z⟩ (.cons ru .nil)) (by exact zw) t2;refine⟨.ref s.heap.objs.size,_,I2,Z,⟨_,Z,hn,λys hy=>⟨x,by rw[I.XG hy hq];exact hx,Z⟩⟩,⟨⟨u,?_⟩,i2⟩,λb hb=>?_⟩
  .have:IsEnum h2 e it ((i:Int)+1) u:=e2;exact this
  .have h0:b≠s.heap.objs.size:=by
    have h7:b=e\/b=it:=by simpa using hb
    rcases h7 with z|z
    .rw[z];exact BS le
    .rw[z];exact BS (A7 h6)
   rw[AO h0];exact(hf b hb).1
 done:=by intro X hP hw hK hc i h4 s S H E I hf st hg;subst hP hw hK;obtain⟨⟨old,he⟩,hi⟩:=st;obtain⟨xs,hq,hx⟩:=hg;obtain⟨h5,rv,p,hz⟩:=I.list hq;obtain⟨f0,f1,f2,f3,f4,f5⟩:=hf it (by simp);have hl:=rv.length;exact wpAny_pyNext_enum_end (I.ok.hd hc) he hi p.isList (by simp;lia) λh' eb=>⟨Z,I.turned (t':=s.toks) (λb o hb e=>eb b o hb e) f0 f1 f3 f4 f5⟩
 self:=λ_ _ _ _ _ st h=>by obtain⟨⟨old,he⟩,_⟩:=st;exact wpAny_pyIter_enum he h
def pd(K:vH)(ta:TA):TI:=λS H R=>ta S H λvs H1=>∃a,vs=[.ref a]/\(∃xs,AL K H1 a xs)/\R (Ma K a) H1
def Ye{x1:Nat}{a:hY}{ta:TA}(hg:Gl X "enumerate")(hm:X.mg "enumerate" =J)(ha:PA X [a] ta)(hs:dq [a] X.env=[(vc,sd a X.env)]:=by rfl):
 PI X (.Tuple elts x1 tpos) (.Call (.Name "enumerate" p) [a] [] pos) (pd X.K ta):=by
 intro h0 s S H R I h;refine Call_ (L3 I hg hm boot_enumerate (RB (Ad (ha pos h0 s S H _ I h) λus s1 ⟨vs,H1,I1,r1,q1⟩=>?_) hs Z));obtain⟨l,e,⟨xs,hq⟩,q⟩:=q1;subst e;obtain⟨u,rfl,ru⟩:=vals1 r1;cases ru;obtain⟨h2,rv,p,hz⟩:=I1.list hq;refine call_enumerate_list p.isList λh' he hi h3 kk=>wpAny_pyIter_enum he ?_;refine⟨s1.heap.objs.size+1,[s1.heap.objs.size+1,s1.heap.objs.size],_,_,H1,Z,I1.kept (t':=s1.toks) kk,fU l _ _ (Fu (M5 _)),⟨⟨_,he⟩,hi⟩,λb hb=>?_,q⟩;have h1:b=s1.heap.objs.size+1\/b=s1.heap.objs.size:=by simpa using hb
 rcases h1 with z|z
 .rw[z];exact I1.Jv (E2 _) (I1.hok.fresh (E2 _))
 .rw[z];exact I1.Jv (Ac _) (I1.hok.fresh (Ac _))
def jW{xs:List V}{D:Ends}(Pv:Nat->St->Hp->Prop)(h0:Pv 0 S H)(hl:∀i S H,i<=xs.length->Pv i S H->AL K H a xs)
 (hs:∀i x p S H,xs[i]? =U x->H p=J->Pv i S H->g (.ref p) S (upd H p (.tup [.int i,x])) λvt H2=>tb {D with nx:=Pv (i+1),ct:=Pv (i+1),bk:=D.nx} vt H2)(hd:∀S H,Pv xs.length S H->D.nx S H):
 ∃W:Nat->Nat->St->Hp->Prop,(∃m,W 0 m S H)/\∀i m S H,W i m S H->
  ((Ma K a).stop i H/\D.nx S H)\/((Ma K a).go i H/\∃N:St->Hp->Prop,(∀S' H',N S' H'->∃m',m'<m/\W (i+1) m' S' H')/\∀x H',(Ma K a).JJ i H x H'->g x S H' λvt H2=>tb {D with nx:=N,ct:=N,bk:=D.nx} vt H2):=by
 refine⟨λi m S H=>m=xs.length-i/\i<=xs.length/\Pv i S H,⟨xs.length,by simp,CB _,h0⟩,?_⟩;rintro i m S H ⟨rfl,hi,p⟩;have q:=hl i S H hi p;by_cases h1:i<xs.length
 .refine .inr ⟨⟨xs,xs[i],q,by simp[h1]⟩,Pv (i+1),λS' H' p'=>⟨xs.length-(i+1),by lia,Z,h1,p'⟩,λv H' y=>?_⟩;obtain⟨pa,ev,hp,y⟩:=y;obtain⟨x,hx,eH⟩:=y xs q;subst ev eH;exact hs i x pa S H hx hp p
 .obtain rfl:i=xs.length:=by lia
  exact .inl ⟨⟨xs,q,Ac _⟩,hd S H p⟩
theorem KV.vals{κ:Type}:∀{AA:List (κ×V)}{ws:List (κ×AB)},KV AA ws->Vals (AA.map (·.2)) (ws.map (·.2))
 |_,_,.nil=>.nil
 |_,_,.cons r t=>.cons r.2 (KV.vals t)
def dP(r:Vals (ns.map V.int) us){v:AB}(e:us[i]? =U v):∃t,v=.int (ns.getD i 0) t:=by have hl:=r.length;rw[AI] at hl;have hi:i<us.length:=(BP.mp e).1;have hn:ns[i]? =U ns[i]:=Ar (by lia);obtain⟨u,hu,t,et⟩:=r.get (i:=i) (x:=.int ns[i]) (by rw[A1,hn];rfl);rw[e] at hu;cases hu;rw[C3,hn];exact⟨t,et⟩
noncomputable def Hc(p d:OK):HO:=.ext λh=>h.IsValuesView p d
def jv:V->List V->Hp->VK->Prop:=λx vs H Q=>∃d h0,x=.ref d/\vs=[]/\H d=U (.dK h0)/\∀p,H p=J->Q (.ref p) (upd H p (Hc p d))
def Wm:IY X "dict.values" jv:=by intro h0 s S H x vs v us Q I rx rv h;obtain⟨d,h4,rfl,rfl,hd,q⟩:=h;cases rx;cases rv;obtain⟨z,hm,ws,h3,dd⟩:=Jr I.hok hd;refine NA VT dd.typeIs PySem.F.entry_dict_values (PySem.F.args_dict_values_1 _) (meets_dict_values (Cc X.prog X.w) d hm) ⟨⟨ws,dd⟩,?_⟩;refine⟨.ref s.heap.objs.size,_,I.laid (t':=s.toks) (o:=Hc s.heap.objs.size d) (λb o e=>BD _ e) (Ac _) ?_,Z,q _ I.fresh⟩;have hv:(s.heap.push {cls:=.type "dict_values",data:=.fields #[.ref d]}).IsValuesView s.heap.objs.size d:=⟨_,CG _ Z,Z,Z⟩;exact⟨hv,⟨_,CG _ Z⟩,λh1 h2 a k=>let⟨o,e,r⟩:=a;⟨o,k o e,r⟩⟩
def fM(hc:X.calm=Y):DU X (.builtin "min") (λxs H Q=>∃(p d:OK)(AA:List (Key×V))(ns:List Int),xs=[.ref p]/\H p=U (Hc p d)/\H d=U (.dK AA)/\AA.map (·.2)=ns.map V.int/\ns≠[]/\
 ∀m,m∈ns->(∀n∈ns,m<=n)->Q (.int m) H):=by
 intro h5 s S H xs us Q I r h;obtain⟨p,d,AA,ns,rfl,hp,hd,hv,h7,q⟩:=h;obtain⟨u,rfl,rx⟩:=vals1 r;cases rx;obtain⟨z,hm,ws,h4,dd⟩:=Jr I.hok hd;obtain⟨h6,_⟩:=(show BY X.prog X.w H s.heap p (Hc p d) from I.hok p _ hp);have h0:s.heap.IsValuesView p d:=h6;obtain⟨ep,da⟩:=dd.dictAt;have hh:X.A.in1.handled=J:=I.ok.hd hc;have rv:=KV.vals h4;rw[hv] at rv;have h8:ws.length=ns.length:=by
  have h1:=rv.length;rw[AI,AI] at h1
  lia
 have vi:∀(i:Nat)(v:AB),(∃k:Key,ws[i]? =U (k,v))->∃t,v=.int (ns.getD i 0) t:=λi v ⟨k,e⟩=>dP rv (by rw[A1,e];rfl);obtain⟨od,_,h2,_⟩:=id da;have nd:d≠s.heap.objs.size:=BS (A7 h2);have np:0<ns.length:=List.length_pos_iff.mpr h7;refine call_min_walk (wpAny_pyIter_values h0 da ?_);refine⟨s.heap.objs.size,[s.heap.objs.size,d],[s.heap.objs.size],ws.length,λi v=>∃k:Key,ws[i]? =U (k,v),_,λi j=>decide (ns.getD i 0<ns.getD j 0),Z,Walks.dictValues hh _ d nd ws ep,
  ⟨⟨_,CG _ Z,Z,Z⟩,da.at' λo e=>BD _ e⟩,λb hb=>?_,by lia,CmpOf.ints_lt (λi=>ns.getD i 0) vi,λv h' tk hP kk=>?_⟩
 .have h9:b=s.heap.objs.size\/b=d:=by simpa using hb
  rw[HI];rcases h9 with e|e
  .rw[e];exact M5 _
  .rw[e];exact Ox (A7 h2)
 .obtain⟨a1,a2⟩:=argBest_lt (λi=>ns.getD i 0) (ws.length-1);obtain⟨t,et⟩:=vi _ v hP;generalize argBest (λi j=>decide (ns.getD i 0<ns.getD j 0)) (ws.length-1)=ix at a1 a2 et;subst et;have h3:ix<ns.length:=by lia
  refine⟨.int (ns.getD ix 0),H,I.kept (λb ob e=>kk b ob (by simpa using BS (A7 e)) (BD _ e)),⟨t,Z⟩,q _ ?_ λn hn=>?_⟩
  .rw[C3,Ar h3];exact Ez h3
  .obtain⟨j,hj,e⟩:=GY.mp hn;have:=a2 j (by lia);have ej:ns.getD j 0=n:=by rw[C3,Ar hj];exact e
   rw[<-ej];exact this
section
open PySem.W
section
variable(r:Nat->Nat)
noncomputable def Q6(i j:Nat):Bool:=decide (r i<r j)
end
structure N8(α:Type) where
 lt:α->α->Bool
 cV:∀a,lt a a=vc
 tr:∀a b c,lt a b=Y->lt b c=Y->lt a c=Y
 BO:∀a b,lt a b=vc->lt b a=vc->a=b
noncomputable def Ji{α:Type}(O:N8 α)(l:List α)(a:α):Nat:=l.countP λb=>O.lt b a
theorem R7{α:Type}{p q:α->Bool}:∀{l:List α},(∀x∈l,p x=Y->q x=Y)->l.countP p<=l.countP q
 |[],_=>Ac _
 |x::r,h=>by
  have ih:=R7 (l:=r) λy hy=>h y (Ce _ hy);rw[Rj,Rj];have hx:=h x CV
  cases e1:p x with
  |false=>simp;lia
  |true=>rw[hx e1];simp;lia
theorem Vx{α:Type}{p q:α->Bool}:∀{l:List α}{a:α},a∈l->(∀x∈l,p x=Y->q x=Y)->p a=vc->q a=Y->l.countP p<l.countP q
 |x::r,a,ha,h,h1,h2=>by
  rw[Rj,Rj];rcases BM.mp ha with e|e
  .subst e;have ih:=R7 (l:=r) λy hy=>h y (Ce _ hy);rw[h1,h2];simp
   lia
  .have ih:=Vx e (λy hy=>h y (Ce _ hy)) h1 h2;have hx:=h x CV
   cases e1:p x with
   |false=>simp;lia
   |true=>rw[hx e1];simp;lia
def Pu(O:N8 α)(l:List α){a b:α}(ha:a∈l):O.lt a b=decide (Ji O l a<Ji O l b):=by
 cases e:O.lt a b with
 |true=>have:Ji O l a<Ji O l b:=Vx ha (λx _ hx=>O.tr x a b hx e) (O.cV a) e;rw[Bc this]
 |false=>
  have:Ji O l b<=Ji O l a:=R7 λx _ hx=>by
   cases e2:O.lt b a with
   |true=>exact O.tr x b a hx e2
   |false=>rw[O.BO a b e e2];exact hx
  rw[BG (by lia)]
noncomputable def Lr(h:sf)(a:OK)(vs:List AB):sf:=((h.update a (Obj.mapSeq λ_=> #[])).push (tG "tuple" vs.toArray 0)).push (tG "list" #[] 0)
noncomputable def F6(vs:List AB)(p:List Nat):List AB:=p.map λi=>vs.getD i Value.none
def OJ(prog:sY)(w:si)(A:tU)(vs:List AB)(r:Nat->Nat)(s3:Ya):Prop:=
 ax (Yf prog w) A (keyKind' vs.toArray) (λκ s'=>s'=s3/\∀i j C,i<vs.length->j<vs.length->C (Q6 r i j) s3->kas_ask prog w A κ vs i j C s3) (λ_ _=>False) s3
noncomputable def Eb:Key->Key->Bool
 |.inl i,.inl j=>decide (i<j)
 |.inr x,.inr y=>decide (x.cps.toList<y.cps.toList)
 |.inl _,.inr _=>Y
 |.inr _,.inl _=>vc
def Vz{a b:Str}(h:a.cps.toList=b.cps.toList):a=b:=by cases a;cases b;congr 1;exact KH.mp h
def Yx:∀a,Eb a a=vc
 |.inl i=>BG (by lia)
 |.inr x=>BG (List.lt_irrefl _)
def ZY:∀a b c,Eb a b=Y->Eb b c=Y->Eb a c=Y
 |.inl i,.inl j,.inl k,h1,h2=>Bc (Int.lt_trans (HF h1) (HF h2))
 |.inl _,.inl _,.inr _,_,_=>rfl
 |.inl _,.inr _,.inr _,_,_=>rfl
 |.inr x,.inr y,.inr z,h1,h2=>Bc (List.lt_trans (HF h1) (HF h2))
 |.inl _,.inr _,.inl _,_,h2=>by cases h2
 |.inr _,.inl _,_,h1,_=>by cases h1
 |.inr _,.inr _,.inl _,_,h2=>by cases h2
def Yi:∀a b,Eb a b=vc->Eb b a=vc->a=b
 |.inl i,.inl j,h1,h2=>by
  have e1:¬i<j:=Ou h1;have e2:¬j<i:=Ou h2;have e:i=j:=by lia
  rw[e]
 |.inr x,.inr y,h1,h2=>by have e1:¬x.cps.toList<y.cps.toList:=Ou h1;have e2:¬y.cps.toList<x.cps.toList:=Ou h2;rw[Vz (List.le_antisymm (List.not_lt.mp e2) (List.not_lt.mp e1))]
 |.inl _,.inr _,h1,_=>by cases h1
 |.inr _,.inl _,_,h2=>by cases h2
def DN:List Key->List Key->Bool
 |[],[]=>vc
 |[],_::_=>Y
 |_::_,[]=>vc
 |a::r,b::t=>if a=b then DN r t else Eb a b
theorem Xj:∀a,DN a a=vc
 |[]=>rfl
 |a::r=>by show(if a=a then DN r r else Eb a a)=vc;rw[AG Z];exact Xj r
theorem X3:∀a b c,DN a b=Y->DN b c=Y->DN a c=Y
 |[],[],_,h,_=>by cases h
 |[],_::_,[],_,h=>by cases h
 |[],_::_,_::_,_,_=>rfl
 |_::_,[],_,h,_=>by cases h
 |_::_,_::_,[],_,h=>by cases h
 |a::r,b::t,c::u,h1,h2=>by
  have h4:(if a=b then DN r t else Eb a b)=Y:=h1;have h0:(if b=c then DN t u else Eb b c)=Y:=h2;show(if a=c then DN r u else Eb a c)=Y;by_cases e1:a=b
  .rw[AG e1] at h4;by_cases e2:b=c
   .rw[AG e2] at h0;rw[AG (e1.trans e2)];exact X3 r t u h4 h0
   .rw[AF e2] at h0;rw[AF (by rw[e1];exact e2),e1];exact h0
  .rw[AF e1] at h4;by_cases e2:b=c
   .rw[AG e2] at h0;rw[AF (by rw[<-e2];exact e1),<-e2];exact h4
   .rw[AF e2] at h0;have h3:=ZY a b c h4 h0;by_cases e3:a=c
    .rw[e3,Yx] at h3;cases h3
    .rw[AF e3];exact h3
theorem XJ:∀a b,DN a b=vc->DN b a=vc->a=b
 |[],[],_,_=>rfl
 |[],_::_,h,_=>by cases h
 |_::_,[],_,h=>by cases h
 |a::r,b::t,h1,h2=>by
  have h3:(if a=b then DN r t else Eb a b)=vc:=h1;have h0:(if b=a then DN t r else Eb b a)=vc:=h2;by_cases e:a=b
  .rw[AG e] at h3;rw[AG e.symm] at h0;rw[e,XJ r t h3 h0]
  .rw[AF e] at h3;rw[AF (λz=>e z.symm)] at h0;exact absurd (Yi a b h3 h0) e
def lexOrd:N8 (List Key):=⟨DN,Xj,X3,XJ⟩
noncomputable def kd:Key->Bool
 |.inl _=>Y
 |.inr _=>vc
def nZ{a b:Key}{v:AB}(ha:RelV (kV a) u)(hb:RelV (kV b) v)(h:kd a=kd b){Q:Bool->Ya->Prop}(q:Q (decide (a=b)) s):ax (Yf prog w) A (eqBool u v) Q E s:=by
 match a,b,h with
 |.inl i,.inl j,_=>obtain⟨t,rfl⟩:=ha;obtain⟨t',rfl⟩:=hb;refine SeqAt.EqAt.int_int i t j t' prog w E Q ?_;rw[<-ZT];exact q
 |.inr x,.inr y,_=>obtain⟨t,rfl⟩:=ha;obtain⟨t',rfl⟩:=hb;refine SeqAt.EqAt.str_str x t y t' prog w E Q ?_;rw[Zb] at q;rw[Bool.beq_eq_decide_eq];exact q
 |.inl _,.inr _,h=>cases h
 |.inr _,.inl _,h=>cases h
def nQ{a b:Key}{v:AB}(ha:RelV (kV a) u)(hb:RelV (kV b) v)(h:kd a=kd b)(c:Bool){Q:Bool->Ya->Prop}(q:Q (Eb a b) s):ax (Yf prog w) A (oneLt' c u v) Q E s:=by
 match a,b,h with
 |.inl i,.inl j,_=>
  obtain⟨t,rfl⟩:=ha;obtain⟨t',rfl⟩:=hb
  cases c with
  |true=>exact oneLt_int q
  |false=>exact kat_one _ _ (lt_int q)
 |.inr x,.inr y,_=>
  obtain⟨t,rfl⟩:=ha;obtain⟨t',rfl⟩:=hb
  cases c with
  |true=>exact oneLt_str q
  |false=>exact kat_one _ _ (lt_str q)
 |.inl _,.inr _,h=>cases h
 |.inr _,.inl _,h=>cases h
theorem ZA{c:Bool}{Q:Bool->Ya->Prop}:∀(ks ls:List Key)(us vs:List AB)(i:Nat),Vals (ks.map kV) us->Vals (ls.map kV) vs->ks.map kd=ls.map kd->Q (DN ks ls) s->KatLex prog w A c vc Q (us.zip vs) i s
 |[],[],_,_,_,.nil,.nil,_,q=>q
 |[],_::_,_,_,_,_,_,h,_=>by cases h
 |_::_,[],_,_,_,_,_,h,_=>by cases h
 |a::ks,b::ls,_,_,i,.cons ra rs,.cons rb rt,h,q=>by
  have h1:kd a=kd b:=VY h;have h2:ks.map kd=ls.map kd:=List.tail_eq_of_cons_eq h;refine kat_cons (nZ ra rb h1 ?_);have q':Q (if a=b then DN ks ls else Eb a b) s:=q;by_cases e:a=b
  .rw[Bc e];rw[AG e] at q';exact kat_yes (ZA ks ls _ _ (i+1) rs rt h2 q')
  .rw[BG e];rw[AF e] at q';exact kat_no (nQ ra rb h1 _ q')
def Zc(h:sf)(ps:List (OK×List Key)):Prop:=∀p∈ps,∃us:List AB,Vals (p.2.map kV) us/\IsTup h p.1 us.toArray
theorem WK{h:sf}:∀{ps:List (OK×List Key)},Zc h ps->(∀p∈ps,p.2≠[])->∃fs:List AB,KatTups h (ps.map λp=>Value.ref p.1) fs/\fs.length=ps.length/\∀v∈fs,∃p∈ps,∃a r,p.2=a::r/\RelV (kV a) v
 |[],_,_=>⟨[],KatTups.nil,Z,λv hv=>by cases hv⟩
 |p::ps,ht,hne=>by
  obtain⟨fs,t,hl,hf⟩:=WK (ps:=ps) (λq hq=>ht q (Ce _ hq)) λq hq=>hne q (Ce _ hq);obtain⟨us,rv,o,h1,h2,n,h3⟩:=ht p CV
  cases e:p.2 with
  |nil=>exact absurd e (hne p CV)
  |cons a r=>
   rw[e] at rv
   cases rv with
   |@cons _ u _ us' ra rr=>
    refine⟨u::fs,KatTups.cons h1 h2 h3 (by simp) t,by rw[Bw,Bw,hl],λv hv=>?_⟩;rcases BM.mp hv with z|z
    .rw[z];exact⟨p,CV,a,r,e,ra⟩
    .obtain⟨q,hq,x⟩:=hf v z;exact⟨q,Ce _ hq,x⟩
noncomputable def Fb(ps:List (OK×List Key))(i:Nat):List Key:=(ps.getD i (0,[])).2
def K2(ps:List (OK×List Key))(i:Nat):Nat:=Ji lexOrd (ps.map (·.2)) (Fb ps i)
def WS{ps:List (OK×List Key)}(h:i<ps.length):Fb ps i∈ps.map (·.2):=by delta Fb;rw[C3,Ar h];exact Aw.mpr ⟨ps[i],Ez h,Z⟩
def iJ{ps:List (OK×List Key)}{sh:List Bool}(ht:Zc s.heap ps)(hsh:∀p∈ps,p.2.map kd=sh)(hne:sh≠[])(h2:2<=ps.length):
 OJ prog w A (ps.map λp=>Value.ref p.1) (K2 ps) s:=by
 have h0:∀p∈ps,p.2≠[]:=λp hp e=>hne (by rw[<-hsh p hp,e];rfl);obtain⟨fs,t,hl,hf⟩:=WK ht h0;obtain⟨c,cr,ec⟩:∃c cr,sh=c::cr:=by
  cases sh with
  |nil=>exact absurd Z hne
  |cons c cr=>exact⟨c,cr,Z⟩
 have go:∀T:AB,(∀v∈fs,Looks (Yf prog w) s.heap (typeOf v) T)->(T==T)=Y->(T !=Value.type "tuple")=Y->OJ prog w A (ps.map λp=>Value.ref p.1) (K2 ps) s:=λT hT e1 e2=>by
  refine kat_kind t (by lia) hT e1 ⟨Z,λi j C hi hj q=>?_⟩;rw[AI] at hi hj;rw[e2];delta kas_ask;have gi:∀k,k<ps.length->(ps.map λp=>Value.ref p.1).getD k Value.none=Value.ref (ps.getD k (0,[])).1:=λk hk=>by rw[C3,A1,Ar hk,C3,Ar hk];rfl
  have mi:∀k,k<ps.length->ps.getD k (0,[])∈ps:=λk hk=>by rw[C3,Ar hk];exact Ez hk
  rw[gi i hi,gi j hj];obtain⟨us,ru,ox,x1,x2,nx,x3⟩:=ht _ (mi i hi);obtain⟨vs,rv,oy,y1,y2,ny,y3⟩:=ht _ (mi j hj);have hs:(ps.getD i (0,[])).2.map kd=(ps.getD j (0,[])).2.map kd:=by rw[hsh _ (mi i hi),hsh _ (mi j hj)]
  refine kat_lt x1 x3 y1 y3 ?_;have el:decide (us.toArray.size<vs.toArray.size)=vc:=by
   have l1:=ru.length;have l2:=rv.length;have l3:=A2 List.length hs;rw[AI] at l1 l2;rw[AI,AI] at l3;refine BG ?_;rw[Cg,Cg]
   lia
  rw[el];refine ZA _ _ us vs 0 ru rv hs ?_;have e3:=Pu lexOrd (ps.map (·.2)) (a:=Fb ps i) (b:=Fb ps j) (WS hi);have e4:Q6 (K2 ps) i j=DN (Fb ps i) (Fb ps j):=e3.symm;rw[e4] at q;exact q
 cases c with
 |true=>
  refine go (.type "int") (λv hv=>?_) (by decide) (by decide);obtain⟨p,hp,a,r,e,ra⟩:=hf v hv;have:=hsh p hp;rw[e,ec] at this
  match a,VY this with
  |.inl i,_=>obtain⟨t,rfl⟩:=ra;exact Looks.of_pure Z
 |false=>
  refine go (.type "str") (λv hv=>?_) (by decide) (by decide);obtain⟨p,hp,a,r,e,ra⟩:=hf v hv;have:=hsh p hp;rw[e,ec] at this
  match a,VY this with
  |.inr i,_=>obtain⟨t,rfl⟩:=ra;exact Looks.of_pure Z
theorem Wv:∀{ps:List (OK×List Key)}{us:List AB},Vals (ps.map λp=>V.ref p.1) us->us=ps.map λp=>Value.ref p.1
 |[],_,.nil=>rfl
 |_::_,_,.cons r t=>by rw[Au,<-Wv t];cases r;rfl
theorem WN:∀ps:List (OK×List Key),Vals (ps.map λp=>V.ref p.1) (ps.map λp=>Value.ref p.1)
 |[]=>.nil
 |_::r=>.cons Z (WN r)
theorem P1:∀{xs:List V}{us:List AB},xs.length=us.length->(∀(i:Nat) x u,xs[i]? =U x->us[i]? =U u->RelV x u)->Vals xs us
 |[],[],_,_=>.nil
 |x::xs,u::us,hl,h=>.cons (h 0 x u Z Z) (P1 (by simpa using hl) λi x u h1 h2=>h (i+1) x u (by simpa using h1) (by simpa using h2))
 |[],_::_,hl,_=>by cases hl
 |_::_,[],hl,_=>by cases hl
def OV(a b:Str):Bool:=Eb (Sum.inr a) (Sum.inr b)
def ES:N8 Str:=⟨OV,λa=>Yx _,λa b c=>ZY _ _ _,λa b h1 h2=>Sum.inr.inj (Yi _ _ h1 h2)⟩
def MP(zs:List Str)(i:Nat):Nat:=Ji ES zs (zs.getD i "")
end
variable{zs:List Str}
section
open PySem.W
def L4(r:Vals (zs.map V.str) us)(hk:k<zs.length):∃t,us.getD k Value.none=.str (zs.getD k "") t:=by
 have e:(zs.map V.str)[k]? =U (V.str (zs.getD k "")):=by rw[A1,Ar hk,C3,Ar hk];rfl
 obtain⟨u,hu,t,ht⟩:=r.get e;exact⟨t,by rw[C3,hu];exact ht⟩
def XQ(hk:k<zs.length):zs.getD k ""∈zs:=by rw[C3,Ar hk];exact Ez hk
def jT(r:Vals (zs.map V.str) us)(h2:2<=us.length):OJ prog w A us (MP zs) s:=by
 have hl:zs.length=us.length:=by rw[<-r.length,AI]
 refine kas_kind (T:=.type "str") h2 (λv hv=>?_) (by decide) (by decide) ⟨Z,λi j C hi hj q=>?_⟩
 .obtain⟨k,hk,e⟩:=GY.mp hv;obtain⟨t,et⟩:=L4 r (k:=k) (by lia);rw[C3,Ar hk] at et;have:v=.str (zs.getD k "") t:=by rw[<-e];exact et
  rw[this];exact Looks.of_pure Z
 .delta kas_ask;obtain⟨t1,e1⟩:=L4 r (k:=i) (by lia);obtain⟨t2,e2⟩:=L4 r (k:=j) (by lia);rw[e1,e2];refine kas_lt_str ?_;have e3:=Pu ES zs (a:=zs.getD i "") (b:=zs.getD j "") (XQ (by lia));have e4:Q6 (MP zs) i j=decide ((zs.getD i "").cps.toList<(zs.getD j "").cps.toList):=e3.symm;rw[e4] at q;exact q
def mY(K:vH):List V->Hp->VK->Prop:=λxs H Q=>∃(l:OK)(zs:List Str),xs=[.ref l]/\AL K H l (zs.map V.str)/\zs.length<64/\
 ∀(D:OK)(ys:List Str),H D=J->ys.Perm zs->ys.Pairwise (λa b=>OV b a=vc)->Q (.ref D) (upd H D (.lst (ys.map V.str)))
def T4:List V->Hp->VK->Prop:=λxs H Q=>∃(d:OK)(h0:List (Key×V)),xs=[.ref d]/\H d=U (.dK h0)/\∀l,H l=J->Q (.ref l) (upd H l (.lst (h0.map λkv=>kV kv.1)))
def JY(hc:X.calm=Y):DU X (.type "list") T4:=by
 intro h6 s S H xs us Q I r h;obtain⟨d,h3,rfl,hd,q⟩:=h;obtain⟨u,rfl,rx⟩:=vals1 r;cases rx;obtain⟨z,hm,ws,h5,dd⟩:=Jr I.hok hd;obtain⟨ep,da⟩:=dd.dictAt;have hh:X.A.handled=J:=I.ok.hd hc;have h8:=h5.length;refine kdl_call (kdl_dict hm) hh da (by lia) λh' tk h0 c' kp e h4=>?_;have hv:Vals (h3.map λkv=>kV kv.1) h0.toList:=by
  refine P1 (by have h1:h0.toList.length=h0.size:=FH;have h2:=h4.1;rw[AI];lia) λi x u h1 h2=>?_;rw[HE] at h2;obtain⟨k,y,ek,is⟩:=h4.2 i u h2;have hk:(h3.map (·.1))[i]? =U k:=by rw[h5.keys,A1,ek];rfl
  have hx:(h3.map λkv=>kV kv.1)[i]? =U (kV k):=by rw[show(h3.map λkv=>kV kv.1)=(h3.map (·.1)).map kV by rw[Bf];rfl,A1,hk];rfl
  rw[hx] at h1;cases AZ h1;have h7:Kq k u=Y:=is;rcases HK h7 with⟨i,t,rfl,rfl⟩|⟨z,t,rfl,rfl⟩
  .exact⟨t,Z⟩
  .exact⟨t,Z⟩
 refine⟨.ref s.heap.objs.size,_,I.laid (t':=tk) (o:=.lst (h3.map λkv=>kV kv.1)) kp (Ac _) ⟨by rw[AI];lia,h0.toList,c',hv,by rw[Array.toArray_toList];exact e⟩,Z,q _ I.fresh⟩
end
def Ij(a b:Str):(a++b).length=a.length+b.length:=by show(a.cps++b.cps).size=_;simp[Str.length]
def Lk{c:TT}{t u v:TS}{D:Ends}(G:St->Hp->Prop)(hG:∀S H,G S H->v D S H)(h:(∀S H,G S H->v D S H)->Hf c t u {D with nx:=v D} S H):Jw (Hf c t u) v D S H:=h hG
def blank_eq:(" " :Str)=⟨#[32]⟩:=by left
def gr(n:Int):(Txt.mul " " n).cps.toList=List.replicate n.toNat 32:=by rw[blank_eq];exact mul_one_list 32 n
def dD(n:Int)(h0:0<=n)(h:n<=10):MulOk " " n:=mulOk_of 1 10 (by left) (by lia) (by lia) (by decide) (by decide)
def Vw(n:Int):(Txt.mul " " n).length=n.toNat:=by have h:=A2 List.length (gr n);rw[List.length_replicate] at h;simpa[Str.length] using h
def Gh(xs:List α)(n:Nat)(hn:xs.length=n)(h0:0<n)(i:Int):∃v∈xs,GN xs (i%(n:Int))=U v:=by
 have h1:0<=i%(n:Int):=Rp _ (by lia);have h2:i%(n:Int)<n:=RR _ (by lia);have e:i%(n:Int)=((i%(n:Int)).toNat:Int):=by lia
 have hl:(i%(n:Int)).toNat<xs.length:=by lia
 refine⟨xs[(i%(n:Int)).toNat],Ez hl,?_⟩;have:=BX (xs:=xs) (j:=(i%(n:Int)).toNat) (v:=xs[(i%(n:Int)).toNat]) (Ar hl);rw[<-e] at this;exact this
def Zi:Sp:=λvs H Q _=>∃a p m:Int,vs=[.int a,.int p,.int m]/\0<p/\0<m/\∀z:Int,Q (.int z) H
def aG:Sp:=λvs H Q _=>∃s:Int,vs=[.int s]/\∀z:Str,z.length=3->Q (.str z) H
noncomputable def sought:List Str:=["oak","oaks","elm","cat","[]","[a]","Oak","oa","elmelmelm"]
def XU:Sp:=λvs H Q _=>vs=[]/\∀(p:OK)(H':Hp),AM H H'->H' p=U (.tup (sought.map V.str))->Q (.ref p) H'
def Xv:Sp:=λvs H Q _=>∃c k:Int,vs=[.int c,.int k]/\∀(z:Str)(H':Hp),z.length<=1000->AM H H'->Q (.str z) H'
def nq:A3 ["_law_number","_law_prime","_law_many"] ["_law_number","_law_prime","_law_many"] (Aq QJ):=by left
def ju(F:Ak K "_law_draw" "_law_draw" QJ f fd):AX P w K mg base Ai 1 f fd ["_law_number","_law_prime","_law_many"] Zi:=by
 refine F.ok nq ?_ ?_
 .rintro _ _ _ _ ⟨_,_,_,rfl,_⟩;rfl
 .rintro _ A _ s H _ Q E hr ⟨a,p,m,rfl,hp,hm,q⟩;refine⟨_,AR (An (Al CM (Al CM (Al QE (pv 0) Aa) (pv 1)) (pv 2))),?_⟩;exact⟨_,Z,_,_,Z,Z,.inr ⟨by decide,by decide⟩,_,Z,_,_,Z,Z,hp,_,Z,_,_,Z,Z,hm,q _⟩
noncomputable def cQ:Str:="abcdefghijklmnopqrstuvwxyzABCDEFGHIJKLMNOPQRSTUVWXYZ0123456789"
noncomputable def cS:Str:="!#$&()*+,-./:;<=>?\x40[]^_`{|}~'"
def OQ:Str:=cQ++cS
def UU:A3 ["_law_spot","_law_signs"] ["_law_spot"] (Aq Qb):=by left
def UN:("w" :Str).length=1:=by left
def Y0:OQ.cps.toList.length=91:=by left
def lR(F:Ak K "_law_odd_word" "_law_odd_word" Qb f fd):AX P w K mg base Ai 1 f fd ["_law_spot"] aG:=by
 refine F.ok UU ?_ ?_
 .rintro _ _ _ _ ⟨_,rfl,_⟩;rfl
 .rintro _ A _ s H _ Q E hr ⟨i,rfl,q⟩;refine⟨_,AU (Ax (i:=1) UU.nd Z (AY Z) Ab) (AU (Ax (i:=1) UU.nd Z (AY Z) (Al Hx (pv 1) Ab))
   (AR (An (Al Hx (Al Hx Ab (CK QB (pv 1) (Al CM (pv 0) Aa) (λ_ _=>rfl))) (CK QB (pv 1) (Al CM (Al Kc (pv 0) Aa) Aa) (λ_ _=>rfl)))))),?_⟩;refine⟨_,Z,cQ,cS,Z,Z,by left,?_⟩;obtain⟨v1,_,e1⟩:=Gh OQ.cps.toList 91 Y0 (by decide) i;obtain⟨v2,_,e2⟩:=Gh OQ.cps.toList 91 Y0 (by decide) (i/91);refine⟨_,Z,_,Z,_,_,Z,Z,(by show(0:Int)<91;decide),OQ,_,v1,Z,Z,by left,e1,_,_,Z,Z,by rw[UN];show 1+1<=sizeLine;decide,?_⟩;refine⟨_,Z,_,Z,_,_,Z,Z,⟨by decide,by decide⟩,_,_,Z,Z,(by show(0:Int)<91;decide),OQ,_,v2,Z,Z,by left,e2,_,_,Z,Z,by rw[Ij,UN];show 1+1+1<=sizeLine;decide,?_⟩;exact q _ (by rw[Ij,Ij,UN];rfl)
def Th:List hY:=match(F3 Ng).getD 0 (.Pass ⟨0,0,0,0⟩) with|.Return (U (.Tuple v _ _)) _=>v|_=>[]
def eM:Kp Th=U sought:=by left
def i9:A3 [] [] (Aq Ng):=by left
def fj(F:Ak K "_law_sought" "_law_sought" Ng f fd):AX P w K mg base Ai 1 f fd [] XU:=by
 refine F.ok i9 ?_ ?_
 .rintro _ _ _ _ ⟨rfl,_⟩;rfl
 .rintro _ A _ s H _ Q E hr ⟨rfl,q⟩;refine⟨_,@AR _ _ _ (@An _ _ _ _ (@Cm _ Th _ _ _ (@TQ _ Th sought eM))),?_⟩;exact⟨by show 9<=sizeLine;decide,λp hp=>q p _ (Ag hp) AN⟩
noncomputable def UQ:List Str:=["oak","[a]","elm","[b]","ash","[cat]","oak","[catalogue]","[]","a[b]","[zed]","Oak"]
noncomputable def oj:List Str:=["oaks","oa","elmelmelm","oakum"]
def menu:List Str:=UQ++oj
def gz:menu.length=16:=by left
def eK:∀z∈menu,z.length<=11:=by left
def bL:List hY:=match(F3 Pm).getD 0 (.Pass ⟨0,0,0,0⟩) with|.Assign _ (.List v _) _=>v|_=>[]
def kI:Kp bL=U UQ:=by left
def HQ:A3 ["_law_cell","_law_k","_law_menu","_law_rest","_law_text","_law_left","_law_j","_law_word"] ["_law_cell","_law_k"] (Aq Pm):=by left
def fX{fD fO:OK}{fdD fdO:sj}(F:Ak K "_law_penned" "_law_penned" Pm f fd)(O:Own mg)
 (FD:Ak K "_law_draw" "_law_draw" QJ fD fdD)(bD:Binds K fdD ["_law_number","_law_prime","_law_many"] [])(mD:mg "_law_draw" =U (.ref fD))
 (FO:Ak K "_law_odd_word" "_law_odd_word" Qb fO fdO)(bO:Binds K fdO ["_law_spot"] [])(mO:mg "_law_odd_word" =U (.ref fO)):AX P w K mg base Ai 2 f fd ["_law_cell","_law_k"] Xv:=by
 have GD:AX P w K mg base Ai 1 fD fdD ["_law_number","_law_prime","_law_many"] Zi:=ju FD;have GO:AX P w K mg base Ai 1 fO fdO ["_law_spot"] aG:=lR FO;refine F.ok HQ ?_ ?_
 .rintro _ _ _ _ ⟨_,_,rfl,_⟩;rfl
 .rintro _ A _ s H _ Q E hr ⟨c,k,rfl,q⟩;refine⟨_,@AU _ _ _ _ _ (@jx _ 2 bL UQ kI _ _ _ _ HQ.nd Z (AY Z) Z)
   (AU (Ax (i:=2) HQ.nd Z (AY Z) (Al L0 (pv 2) (CY (AE Ab (AE Ab (AE Ab (AE Ab AJ)))))))
   (AU (Ax (i:=3) HQ.nd Z (AY Z) (Al Kc (pv 0) Aa))
   (AU (Ax (i:=4) HQ.nd Z (AY Z) (CK Cv (CY (AE Ab (AE Ab AJ))) (Al CM (pv 3) Aa) (λ_ _=>rfl)))
   (AU (Ax (i:=5) HQ.nd Z (AY Z) (Cs GD hr Z mD FD.kp bD .nil BF (AE (Al DJ (pv 0) (Al QE Aa (pv 1))) (AE Aa (AE Aa AJ)))))
   (AU (DC C8 Z (PV Z O.JI (AE (CK Cv (CY (AE (Al CM (Al DJ (pv 3) (pv 1)) Aa) (AE Aa AJ))) (E3 NG Z O.int L6 (AE (IB BQ (Al CM (pv 0) Aa) Aa (Am _)) AJ)) (λ_ _=>rfl)) AJ)) (Bg (i:=6) HQ.nd Z (AY Z))
    (AU (Ax (i:=7) HQ.nd Z (AY Z) (CK Cv (pv 2) (Al CM (Al DJ (Al DJ (pv 5) (Al QE Aa (pv 6))) (pv 1)) Aa) (λ_ _=>rfl)))
    (AU (Ay (As BQ (Al CM (Al DJ (pv 5) (pv 6)) Aa) Aa (Am _)) (AR (Ax (i:=7) HQ.nd Z (AY Z) (Cs GO hr Z mO FO.kp bO .nil BF (AE (Al DJ (pv 5) (pv 3)) AJ)))) BC)
    (AU (Ax (i:=4) HQ.nd Z (AY Z) (Al Hx (Al Hx (pv 4) (pv 7)) (Al WJ Ab (CK Cv (CY (AE Aa (AE Aa (AE Aa (AE Aa (AE Aa AJ)))))) (Al CM (Al DJ (pv 5) (pv 6)) Aa) (λ_ _=>rfl)))))
    (AR (Ax (i:=5) HQ.nd Z (AY Z) (Al Kc (pv 5) Aa)))))))
   (AR (An (pv 4)))))))),?_⟩;refine⟨by show 12<=sizeLine;decide,λm0 h1=>⟨_,Z,by exact z_0,λl4 h2=>?_⟩⟩;have h9:m0≠l4:=A8 AN h2;refine⟨m0,l4,_,_,Z,Z,(by rw[AO h9];exact AN),AN,by show 16<=sizeLine;decide,λm hm=>?_⟩;generalize h7:upd (upd (upd H m0 _) l4 _) m _=Hm;have e7:H m=J:=((Ag h1).trans (Ag h2)).free hm;have sM:AM H Hm:=by rw[<-h7];exact(((AM.refl H).upd h1).upd ((Ag h1).free h2)).upd e7
  have mM:Hm m=U (.lst (menu.map V.str)):=by rw[<-h7];exact AN
  refine⟨_,Z,_,_,Z,Z,⟨by decide,by decide⟩,by exact zw,λl2 s1=>?_⟩;obtain⟨v0,e4,e0⟩:=Gh [V.str "",V.str " "] 2 Z (by decide) (c/16);have s2:AM Hm (upd Hm l2 (.lst [V.str "",V.str " "])):=Ag s1;have e5:∃t0:Str,v0=.str t0/\t0.length<=1:=by
   rcases BM.mp e4 with e|e
   .exact⟨"",e,by left⟩
   .exact⟨" ",by simpa using e,by left⟩
  obtain⟨t0,rfl,s7⟩:=e5;refine⟨_,Z,_,_,Z,Z,(by show(0:Int)<2;decide),l2,_,_,.str t0,Z,Z,AL.of AN,e0,?_⟩;refine⟨_,Z,_,Z,_,_,Z,Z,.inl ⟨by decide,by decide⟩,_,_,Z,Z,_,_,_,Z,by decide,by decide,λh0=>?_⟩;have h4:=s2 _ _ mM;have h3:=sM.trans s2;generalize upd Hm l2 (.lst [V.str "",V.str " "])=H2 at h4 h3;refine⟨_,Z,_,Z,_,_,Z,Z,_,_,Z,Z,(by show(0:Int)<7;decide),by exact zw,λl3 s0=>?_⟩;have e8:0<=(c/16+k)%7/\(c/16+k)%7<7:=⟨Rp _ (by decide),RR _ (by decide)⟩;have s3:AM H2 (upd H2 l3 (.lst [V.int ((c/16+k)%7),V.int 24])):=Ag s0;have s4:∀b:Bool,∃nn:Int,0<=nn/\nn<=24/\GN [V.int ((c/16+k)%7),V.int 24] (if b=Y then 1 else 0)=U (.int nn):=λb=>by
   cases b with
   |false=>exact⟨((c/16+k)%7),e8.1,by lia,Z⟩
   |true=>exact⟨24,by decide,by decide,Z⟩
  obtain⟨nn,s6,e6,en⟩:=s4 (decide (V.int (c%37)=V.int 4));refine⟨_,Z,_,_,Z,Z,(by show(0:Int)<37;decide),Z,.inr ⟨_,Z,l3,_,_,.int nn,Z,Z,AL.of AN,en,nn,Z,by lia,by lia,?_⟩⟩;have e1:=s3 _ _ h4;have h8:=h3.trans s3;refine Lf (lo:=0) (n:=nn.toNat) (λi S H'=>∃(t:Str)(left:Int)(v6 v7:Option V),S=[U (.int c),U (.int k),U (.ref m),U (.int (c/16)),U (.str t),U (.int left),v6,v7]/\AM (upd H2 l3 (.lst [V.int ((c/16+k)%7),V.int 24])) H'/\t.length<=1+16*i)
   ⟨t0,h0,J,J,Z,AM.refl _,by lia⟩ ?_ ?_
  .rintro i S H' hi ⟨t,left,v6,v7,rfl,sm,tl⟩;obtain⟨vw,e3,ew⟩:=Gh (menu.map V.str) 16 (by rw[AI];exact gz) (by decide) (left+5*(0+(i:Int))+k);obtain⟨wd,e2,rfl⟩:=Aw.mp e3;have h5:=eK wd e2;refine⟨_,Z,_,Z,_,Z,_,_,Z,Z,.inl ⟨by decide,by decide⟩,_,_,Z,Z,_,Z,_,_,Z,Z,_,_,Z,Z,(by show(0:Int)<16;decide),m,_,_,.str wd,Z,Z,AL.of (sm _ _ e1),ew,?_⟩;dsimp only[EA];refine Lk (λS H2=>∃wd:Str,wd.length<=11/\S=[U (.int c),U (.int k),U (.ref m),U (.int (c/16)),U (.str t),U (.int left),U (.int (0+(i:Int))),U (.str wd)]/\H2=H') ?_ ?_
   .rintro S H2 ⟨wd,h5,rfl,rfl⟩;obtain⟨vb,h6,eb⟩:=Gh [V.int 1,V.int 1,V.int 1,V.int 2,V.int 5] 5 Z (by decide) (left+(0+(i:Int)));have hb:∃nb:Int,vb=.int nb/\0<=nb/\nb<=5:=by simp only[BM,JQ,Kb] at h6;rcases h6 with e|e|e|e|e<;>exact⟨_,e,by decide,by decide⟩
    obtain⟨nb,rfl,s5,s8⟩:=hb;refine⟨_,Z,_,Z,t,wd,Z,Z,by rw[BA];lia,by show 5<=sizeLine;decide,λl5 e9=>?_⟩;refine⟨_,Z,_,Z,_,_,Z,Z,_,_,Z,Z,(by show(0:Int)<5;decide),l5,_,_,.int nb,Z,Z,AL.of AN,eb," ",nb,Z,Z,dD nb s5 (by lia),t++wd,_,Z,Z,by rw[Ij,Vw,BA];lia,?_⟩;exact⟨_,Z,_,_,Z,Z,⟨by decide,by decide⟩,_,_,_,_,Z,sm.trans (Ag e9),by rw[Ij,Ij,Vw];lia⟩
   .intro hG;refine⟨_,Z,_,Z,_,_,Z,Z,_,_,Z,Z,(by show(0:Int)<13;decide),Z,_,Z,GB (λ_=>?_) (λ_=>?_)⟩
    .exact⟨_,Z,_,Z,_,_,Z,Z,_,Z,λz hz=>hG _ _ ⟨z,by lia,Z,Z⟩⟩
    .exact hG _ _ ⟨wd,h5,Z,Z⟩
  .rintro S H' ⟨t,left,v6,v7,rfl,sm,tl⟩;exact⟨_,Z,q t H' (by lia) (h8.trans sm)⟩
inductive Ap where
 |write (n t:Str)|rename (n o:Str)|join (n o:Str)|cut (n:Str) (p:Int) (o:Str)|drop (n:Str)|text (n:Str)|back (o:Str)|find (ws:List Str) (far:Int)
noncomputable def Ap.dt:Ap->Dt
 |.write n t=>.tup [.str "write",.str n,.str t]
 |.rename n o=>.tup [.str "rename",.str n,.str o]
 |.join n o=>.tup [.str "join",.str n,.str o]
 |.cut n p o=>.tup [.str "cut",.str n,.int p,.str o]
 |.drop n=>.tup [.str "drop",.str n]
 |.text n=>.tup [.str "text",.str n]
 |.back o=>.tup [.str "back",.str o]
 |.find ws far=>.tup [.str "find",.tup (ws.map Dt.str),.int far]
def Ap.Good:Ap->Prop
 |.write n t=>n.length<=40/\t.length<=1000
 |.rename n o=>n.length<=40/\o.length<=40
 |.join n o=>n.length<=40/\o.length<=40
 |.cut n _ o=>n.length<=40/\o.length<=40
 |.drop n=>n.length<=40
 |.text n=>n.length<=40
 |.back o=>o.length<=40
 |.find ws _=>ws.length<=9/\∀z∈ws,z.length<=9
def X7:Sp:=λvs H Q _=>∃(a:OK)(ns:List Int),vs=[.ref a]/\AL [] H a (ns.map V.int)/\ns.length<=63/\
 ∀(L:OK)(ds:List Ap)(xs:List V)(H':Hp),AM H H'->H L=J->H' L=U (.lst xs)->Ah (Ex H' L) (ds.map Ap.dt) xs->ds.length=ns.length->(∀d∈ds,d.Good)->Q (.ref L) H'
structure LI(H H':Hp)(nm M:OK)(xs:List V)(ds:List Ap):Prop where
 same:AM H H'
 Q2:H' nm=U (.lst [.str "a",.str "b",.str "cat",.str "catalogue"])
 Dg:H' M=U (.lst xs)
 VP:H M=J
 ne:nm≠M
 rep:Ah (Ex H' M) (ds.map Ap.dt) xs
 good:∀d∈ds,d.Good
def LI.ext{nm M:OK}{xs:List V}{ds:List Ap}(h:LI H H' nm M xs ds)(s:AM H' H2):LI H H2 nm M xs ds:=
 ⟨h.same.trans s,s _ _ h.Q2,s _ _ h.Dg,h.VP,h.ne,h.rep.same (Ex.mono s),h.good⟩
def LI.new{nm M l:OK}{o:HO}{xs:List V}{ds:List Ap}(h:LI H H' nm M xs ds)(hl:H' l=J):LI H (upd H' l o) nm M xs ds:=h.ext (Ag hl)
def LI.push{nm M:OK}{xs:List V}{ds:List Ap}{d:Ap}{x:V}(h:LI H H' nm M xs ds)(r:Rep (Ex H' M) d.dt x)(g:d.Good):LI H (upd H' M (.lst (xs++[x]))) nm M (xs++[x]) (ds++[d]):=by
 refine⟨h.same.upd h.VP,by rw[AO h.ne];exact h.Q2,AN,h.VP,h.ne,?_,λe he=>?_⟩
 .rw[Ex.upd,BL];exact h.rep.snoc r
 .rcases Be.mp he with z|z
  .exact h.good e z
  .rw[BW.mp z];exact g
def Sl:∀ws:List Str,Ah H (ws.map Dt.str) (ws.map V.str):=λws=>by
 refine⟨by rw[AI,AI],λi d x h1 h2=>?_⟩;rw[A1] at h1 h2
 cases e:ws[i]?with
 |none=>rw[e] at h1;cases h1
 |some z=>
 rw[e] at h1 h2;cases AZ h1;cases AZ h2;exact .str z
noncomputable def VI:Str:="abcdefghijklmnopqrstuvwxyz"
def kM:VI.cps.toList.length=26:=by left
noncomputable def Qx:Str:=Txt.mul "e" 40
def jh:Qx.length=40:=by left
def mm:MulOk "e" 40:=mulOk_of 1 40 (by left) (by decide) (by decide) (by decide) (by decide)
def dG:∀z∈sought,z.length<=9:=by left
def jE(ws:List Str)(lo hi:Option Int):∃vs:List Str,Er (ws.map V.str) lo hi=vs.map V.str/\vs.length<=ws.length/\∀z∈vs,z∈ws:=by
 delta Er;refine⟨(ws.drop (BE (ws.map V.str).length 0 lo)).take (BE (ws.map V.str).length (ws.map V.str).length hi-BE (ws.map V.str).length 0 lo),by rw[PB,PD],?_,λz hz=>LK (GX hz)⟩;rw[Bk,EK]
 lia
def DZ:A3 ["_law_cells","_law_names","_law_made","_law_k","_law_rest","_law_pick","_law_name","_law_near","_law_other","_law_place","_law_odd","_law_stop","_law_words","_law_far"] ["_law_cells"] (Aq UD):=by left
def iD{fS:OK}{fdS:sj}(F:Ak K "_law_deeds" "_law_deeds" UD f fd)(O:Own mg)
 (HP:Hv P w K mg base "_law_penned" 2 ["_law_cell","_law_k"] Xv)
 (FS:Ak K "_law_sought" "_law_sought" Ng fS fdS)(bS:Binds K fdS [] [])(mS:mg "_law_sought" =U (.ref fS)):AX P w K mg base Ai 3 f fd ["_law_cells"] X7:=by
 have GS:AX P w K mg base Ai 1 fS fdS [] XU:=fj FS;refine F.ok DZ ?_ ?_
 .rintro _ _ _ _ ⟨_,_,rfl,_⟩;rfl
 .rintro _ A _ s H _ Q E hr ⟨a,ns,rfl,hS,a3,q⟩;have t6:Br 1 _:=hr.mono (by decide);refine⟨_,(AU (Ax (i:=1) DZ.nd Z (AY Z) (CY (AE Ab (AE Ab (AE Ab (AE Ab AJ)))))) (AU (Ax (i:=2) DZ.nd Z (AY Z) (CY AJ)) (AU (DC C8 Z (PV Z O.JI (AE (Bh Gq Z O.len DX (AE (pv 0) AJ)) AJ)) (Bg (i:=3) DZ.nd Z (AY Z))
   (AU (Ax (i:=4) DZ.nd Z (AY Z) (Al Kc (CK Cv (pv 0) (pv 3) (λ_ _=>rfl)) Aa)) (AU (Ax (i:=5) DZ.nd Z (AY Z) (Al CM (Al DJ (CK Cv (pv 0) (pv 3) (λ_ _=>rfl)) (Al QE Aa (pv 3))) Aa)) (AU (Ax (i:=6) DZ.nd Z (AY Z) (CK Cv (pv 1) (Al CM (Al DJ (pv 4) (pv 3)) Aa) (λ_ _=>rfl))) (AU (Ax (i:=7) DZ.nd Z (AY Z) (CK Cv (pv 0) (Al CM (Al DJ (pv 3) Aa) (Bh Gq Z O.len DX (AE (pv 0) AJ))) (λ_ _=>rfl))) (AU (Ax (i:=8) DZ.nd Z (AY Z) (CK Cv (Al L0 (pv 1) (CY (AE Ab (AE (Al WJ Ab Aa) AJ)))) (Al CM (Al DJ (pv 7) (Al Kc (pv 3) Aa)) Aa) (λ_ _=>rfl))) (AU (Ax (i:=9) DZ.nd Z (AY Z) (Al CM (Al DJ (Al Kc (pv 7) Aa) (pv 3)) Aa)) (AU (Ay (As BQ (Al CM (CK Cv (pv 0) (pv 3) (λ_ _=>rfl)) Aa) Aa (Am _))
   (AR (Ax (i:=9) DZ.nd Z (AY Z) (CK Cv (CY (AE (Du Dr Aa) (AE (Al UA Aa Aa) (AE (Al Lx (Du Dr Aa) (Al CM (pv 4) (Al UA Aa Aa))) (AE (Al CM (pv 7) Aa) AJ))))) (Al CM (pv 4) Aa) (λ_ _=>rfl))))
   BC) (AU (Ax (i:=10) DZ.nd Z (AY Z) (Al Hx Ab (CK QB Ab (Al CM (pv 4) Aa) (λ_ _=>rfl)))) (AU (Ax (i:=6) DZ.nd Z (AY Z) (CK Cv (CY (AE (pv 6) (AE (pv 10) AJ))) (E3 NG Z O.int L6 (AE (IB BQ (Al CM (CK Cv (pv 0) (pv 3) (λ_ _=>rfl)) Aa) Aa (Am _)) AJ)) (λ_ _=>rfl))) (AU (Ax (i:=8) DZ.nd Z (AY Z) (CK Cv (CY (AE (pv 8) (AE (pv 10) AJ))) (E3 NG Z O.int L6 (AE (IB BQ (Al CM (CK Cv (pv 0) (pv 3) (λ_ _=>rfl)) Aa) Aa (Am _)) AJ)) (λ_ _=>rfl))) (AU (Ay (As BQ (Al CM (CK Cv (pv 0) (pv 3) (λ_ _=>rfl)) Aa) Aa (Am _))
   (AR (Ax (i:=8) DZ.nd Z (AY Z) (CK Cv (CY (AE Ab (AE Ab (AE Ab (AE Ab AJ))))) (Al CM (pv 4) Aa) (λ_ _=>rfl))))
   BC) (AR (Ay (As Iq (pv 5) Aa (Am _))
   (AU (Ay (As BQ (Al CM (CK Cv (pv 0) (pv 3) (λ_ _=>rfl)) Aa) Aa (Am _))
   (AR (Ax (i:=6) DZ.nd Z (AY Z) (pv 8)))
   BC) (AR (Bq (Ea D4 Ew Eu EM (pv 2) (AE (Cm (AE Ab (AE (pv 6) (AE (Cj HP hr Z BF (AE (CK Cv (pv 0) (pv 3) (λ_ _=>rfl)) (AE (pv 3) AJ))) AJ)))) AJ)))))
   (AR (Ay (As Iq (pv 5) Aa (Am _))
   (AR (Bq (Ea D4 Ew Eu EM (pv 2) (AE (Cm (AE Ab (AE (pv 6) (AE (pv 8) AJ)))) AJ))))
   (AR (Ay (As Iq (pv 5) Aa (Am _))
   (AR (Bq (Ea D4 Ew Eu EM (pv 2) (AE (Cm (AE Ab (AE (pv 6) (AE (pv 8) AJ)))) AJ))))
   (AR (Ay (As Iq (pv 5) Aa (Am _))
   (AR (Bq (Ea D4 Ew Eu EM (pv 2) (AE (Cm (AE Ab (AE (pv 6) (AE (pv 9) (AE (pv 8) AJ))))) AJ))))
   (AR (Ay (As BQ (pv 5) Aa (Am _))
   (AR (Bq (Ea D4 Ew Eu EM (pv 2) (AE (Cm (AE Ab (AE (pv 6) AJ))) AJ))))
   (AR (Ay (As BQ (pv 5) Aa (Am _))
   (AR (Bq (Ea D4 Ew Eu EM (pv 2) (AE (Cm (AE Ab (AE (pv 6) AJ))) AJ))))
   (AR (Ay (As BQ (pv 5) Aa (Am _))
   (AR (Bq (Ea D4 Ew Eu EM (pv 2) (AE (Cm (AE Ab (AE (pv 8) AJ))) AJ))))
   (AU (Ax (i:=11) DZ.nd Z (AY Z) (Al DJ (Al CM (pv 4) Aa) (Al CM (Al DJ (pv 7) (pv 3)) Aa))) (AU (Ax (i:=12) DZ.nd Z (AY Z) (F0 qR (Xz GS t6 Z mS FS.kp bS .nil BF) (DY (Al CM (pv 4) Aa)) (DY (pv 11)))) (AU (Ax (i:=13) DZ.nd Z (AY Z) (CY (AE (Al CM (Al DJ (Al Kc (pv 7) Aa) (pv 3)) Aa) (AE (Du Dr Aa) (AE (Al UA Aa Aa) (AE (Al CM (pv 7) Aa) AJ)))))) (AU (Ax (i:=13) DZ.nd Z (AY Z) (CK Cv (pv 13) (Al CM (CK Cv (pv 0) (Al CM (Al DJ (pv 3) Aa) (Bh Gq Z O.len DX (AE (pv 0) AJ))) (λ_ _=>rfl)) Aa) (λ_ _=>rfl))) (AR (Bq (Ea D4 Ew Eu EM (pv 2) (AE (Cm (AE Ab (AE (pv 12) (AE (pv 13) AJ)))) AJ)))))))))))))))))))))))))))))))))) (AR (An (pv 2)))))),?_⟩;refine⟨by exact z_0,λnm a0=>⟨by exact zy,λM hM=>?_⟩⟩;have s1:AM H (upd H nm (.lst [.str "a",.str "b",.str "cat",.str "catalogue"])):=Ag a0;have s8:H M=J:=s1.free hM;have r6:nm≠M:=A8 AN hM;have q4:(ns.map V.int).length=ns.length:=AI ..;have r8:LI H (upd (upd H nm (.lst [.str "a",.str "b",.str "cat",.str "catalogue"])) M (.lst [])) nm M [] []:=
   ⟨s1.upd s8,by rw[AO r6];exact AN,AN,s8,r6,Ah.nil,λd hd=>by cases hd⟩;refine⟨_,Z,a,_,Z,.inl (r8.same.seq hS),((ns.map V.int).length:Int),Z,by lia,by lia,?_⟩;refine Lf (lo:=0) (n:=(ns.map V.int).length) (λi S H'=>∃(xs:List V)(ds:List Ap)(v3 v4 v5 v6 v7 v8 v9 e2 h7 h6 h5:Option V),S=[U (.ref a),U (.ref nm),U (.ref M),v3,v4,v5,v6,v7,v8,v9,e2,h7,h6,h5]/\LI H H' nm M xs ds/\xs.length=i/\ds.length=i)
   ⟨[],[],J,J,J,J,J,J,J,J,J,J,J,Z,r8,Z,Z⟩ ?_ ?_
  .rintro i S H' hi ⟨xs,ds,v3,v4,v5,v6,v7,v8,v9,e2,h7,h6,h5,rfl,li,s5,s7⟩;rw[q4] at hi;have h4:∀{H2:Hp},LI H H2 nm M xs ds->AL [] H2 a (ns.map V.int):=λl=>l.same.seq hS;generalize ev:ns.getD i 0=c;have e0:GN (ns.map V.int) (0+(i:Int))=U (.int c):=by rw[Int.zero_add];refine BX ?_;rw[A1,Ar hi,<-ev,C3,Ar hi];rfl
   have h9:∀j:Int,∃z:Int,GN (ns.map V.int) (j%((ns.map V.int).length:Nat))=U (.int z):=λj=>by obtain⟨v,hv,e⟩:=Gh (ns.map V.int) (ns.map V.int).length Z (by lia) j;obtain⟨z,_,rfl⟩:=Aw.mp hv;exact⟨z,e⟩
   have e7:(0:Int)<((ns.map V.int).length:Nat):=by lia
   refine⟨_,Z,_,Z,a,_,_,.int c,Z,Z,h4 li,e0,_,_,Z,Z,⟨by decide,by decide⟩,?_⟩;refine⟨_,Z,_,Z,a,_,_,.int c,Z,Z,h4 li,e0,_,Z,_,_,Z,Z,.inl ⟨by decide,by decide⟩,_,_,Z,Z,_,_,Z,Z,(by show(0:Int)<16;decide),?_⟩;obtain⟨vn,q2,en⟩:=Gh [V.str "a",V.str "b",V.str "cat",V.str "catalogue"] 4 Z (by decide) (c/16+(0+(i:Int)));have a1:∃n0:Str,vn=.str n0/\n0.length<=40:=by simp only[BM,JQ,Kb] at q2;rcases q2 with e|e|e|e<;>exact⟨_,e,by left⟩
   obtain⟨n0,rfl,t3⟩:=a1;refine⟨_,Z,_,Z,_,Z,_,_,Z,Z,_,_,Z,Z,(by show(0:Int)<4;decide),nm,_,_,.str n0,Z,Z,AL.of li.Q2,en,?_⟩;obtain⟨h0,e9⟩:=h9 (0+(i:Int)+1);refine⟨_,Z,_,Z,_,_,Z,Z,_,Z,a,_,Z,.inl (h4 li),_,_,Z,Z,e7,a,_,_,.int h0,Z,Z,h4 li,e9,?_⟩;refine⟨_,Z,"e",40,Z,Z,mm,by exact zw,λl2 a5=>?_⟩;have s4:=li.new (o:=.lst [V.str "zed",V.str Qx]) a5;refine⟨nm,l2,_,_,Z,Z,s4.Q2,AN,by show 6<=sizeLine;decide,λl6 a4=>?_⟩;have e6:=s4.new (o:=.lst ([V.str "a",V.str "b",V.str "cat",V.str "catalogue"]++[V.str "zed",V.str Qx])) a4;obtain⟨vo,q1,eo⟩:=Gh ([V.str "a",V.str "b",V.str "cat",V.str "catalogue"]++[V.str "zed",V.str Qx]) 6 Z (by decide) (h0+(0+(i:Int))/2);have t9:∃o0:Str,vo=.str o0/\o0.length<=40:=by
    simp only[Be,BM,JQ,Kb] at q1;rcases q1 with(e|e|e|e)|e|e
    .exact⟨_,e,by left⟩
    .exact⟨_,e,by left⟩
    .exact⟨_,e,by left⟩
    .exact⟨_,e,by left⟩
    .exact⟨_,e,by left⟩
    .exact⟨_,e,by rw[jh];exact Ac _⟩
   obtain⟨o0,rfl,t1⟩:=t9;refine⟨_,Z,_,Z,_,_,Z,Z,⟨by decide,by decide⟩,_,_,Z,Z,_,_,Z,Z,(by show(0:Int)<6;decide),l6,_,_,.str o0,Z,Z,AL.of AN,eo,?_⟩;clear li s4;change LI H (upd (upd H' l2 (.lst [V.str "zed",V.str (Txt.mul "e" 40)])) l6 (.lst ([V.str "a",V.str "b",V.str "cat",V.str "catalogue"]++[V.str "zed",V.str (Txt.mul "e" 40)]))) nm M xs ds at e6;generalize upd (upd H' l2 (.lst [V.str "zed",V.str (Txt.mul "e" 40)])) l6 (.lst ([V.str "a",V.str "b",V.str "cat",V.str "catalogue"]++[V.str "zed",V.str (Txt.mul "e" 40)]))=H6 at e6;refine⟨_,Z,_,_,Z,Z,⟨by decide,by decide⟩,_,Z,_,_,Z,Z,_,_,Z,Z,(by show(0:Int)<8;decide),?_⟩;dsimp only[EA];refine Lk (λS H7=>∃pl:Int,S=[U (.ref a),U (.ref nm),U (.ref M),U (.int (0+(i:Int))),U (.int (c/16)),U (.int ((c+5*(0+(i:Int)))%16)),U (.str n0),U (.int h0),U (.str o0),U (.int pl),e2,h7,h6,h5]/\LI H H7 nm M xs ds) ?_ ?_
   .rintro S H7 ⟨pl,rfl,li⟩;have e1:∀(d:Ap)(r0:List Dt)(es:List V)(tp:OK)(H9:Hp)(w3 w4 w5 w6 w7 w8 w9 r5 r4 r3 r2:Option V),LI H H9 nm M xs ds->H9 tp=J->d.dt=.tup r0->Ah (Ex H9 M) r0 es->d.Good->
     ∃(r1:List V)(q8:List Ap)(v3 v4 v5 v6 v7 v8 v9 e2 h7 h6 h5:Option V),([U (.ref a),U (.ref nm),U (.ref M),w3,w4,w5,w6,w7,w8,w9,r5,r4,r3,r2]:St)=[U (.ref a),U (.ref nm),U (.ref M),v3,v4,v5,v6,v7,v8,v9,e2,h7,h6,h5]/\
      LI H (upd (upd H9 tp (.tup es)) M (.lst (xs++[V.ref tp]))) nm M r1 q8/\r1.length=i+1/\q8.length=i+1:=by
     intro d r0 es tp H9 w3 w4 w5 w6 w7 w8 w9 r5 r4 r3 r2 l9 h3 ed rp gd;have s2:tp≠M:=(A8 l9.Dg h3).symm;have lt:=l9.new (o:=.tup es) h3;refine⟨_,_,_,_,_,_,_,_,_,_,_,_,_,Z,lt.push (d:=d) ?_ gd,by rw[A9,s5];rfl,by rw[A9,s7];rfl⟩;rw[ed];exact Rep.MY (Ex.at AN s2) (rp.same (Ex.mono (Ag h3)))
    have h8:xs.length<sizeLine:=by rw[s5,BA];lia
    obtain⟨ch,_,b2⟩:=Gh VI.cps.toList 26 kM (by decide) (c/16);refine⟨_,Z,_,_,Z,Z,(by show(0:Int)<26;decide),VI,_,ch,Z,Z,by left,b2,_,_,Z,Z,by show 1+1<=sizeLine;decide,?_⟩;have e4:(("p" :Str)++(⟨#[ch]⟩:Str)).length<=40:=by rw[Ij];show 1+1<=40;decide
    have e8:∀(b:Bool)(x y:Str),x.length<=40->y.length<=40->∃z:Str,z.length<=40/\GN [V.str x,V.str y] (if b=Y then 1 else 0)=U (V.str z):=λb x y hx hy=>by
     cases b with
     |false=>exact⟨x,hx,Z⟩
     |true=>exact⟨y,hy,Z⟩
    obtain⟨n1,e3,b1⟩:=e8 (decide (V.int (c%23)=V.int 7)) n0 _ t3 e4;obtain⟨o1,lo1,b0⟩:=e8 (decide (V.int (c%23)=V.int 8)) o0 _ t1 e4;refine⟨_,Z,_,Z,by exact zw,λl8 q6=>⟨_,Z,_,Z,a,_,_,.int c,Z,Z,h4 (li.new q6),e0,_,_,Z,Z,(by show(0:Int)<23;decide),Z,.inr ⟨_,Z,l8,_,_,.str n1,Z,Z,AL.of AN,b1,?_⟩⟩⟩;have r7:=li.new (o:=.lst [V.str n0,V.str (("p" :Str)++(⟨#[ch]⟩:Str))]) q6;refine⟨_,Z,_,Z,by exact zw,λl9 q5=>⟨_,Z,_,Z,a,_,_,.int c,Z,Z,h4 (r7.new q5),e0,_,_,Z,Z,(by show(0:Int)<23;decide),Z,.inr ⟨_,Z,l9,_,_,.str o1,Z,Z,AL.of AN,b0,?_⟩⟩⟩;have s3:=r7.new (o:=.lst [V.str o0,V.str (("p" :Str)++(⟨#[ch]⟩:Str))]) q5;dsimp only[EA];refine Lk (λS H7=>∃o2:Str,o2.length<=40/\S=[U (.ref a),U (.ref nm),U (.ref M),U (.int (0+(i:Int))),U (.int (c/16)),U (.int ((c+5*(0+(i:Int)))%16)),U (.str n1),U (.int h0),U (.str o2),U (.int pl),U (.str (("p" :Str)++(⟨#[ch]⟩:Str))),h7,h6,h5]/\LI H H7 nm M xs ds) ?_ ?_
    .rintro S HA ⟨o2,Gz,rfl,li⟩;refine⟨_,Z,_,_,Z,Z,_,Z,GB (λ_=>?_) (λ_=>?_)⟩
     ·
      refine Lk (λS H7=>∃n2:Str,n2.length<=40/\S=[U (.ref a),U (.ref nm),U (.ref M),U (.int (0+(i:Int))),U (.int (c/16)),U (.int ((c+5*(0+(i:Int)))%16)),U (.str n2),U (.int h0),U (.str o2),U (.int pl),U (.str (("p" :Str)++(⟨#[ch]⟩:Str))),h7,h6,h5]/\H7=HA) ?_ ?_
      .rintro S H7 ⟨n2,t2,rfl,rfl⟩;refine⟨_,Z,.inl ⟨Z,_,AL.of li.Dg⟩,_,Z,_,Z,_,Z,a,_,_,.int c,Z,Z,h4 li,e0,_,Z,c,_,Z,λt H9 lt s9=>⟨by exact zv,λtp h3=>⟨M,xs,.ref tp,Z,Z,((li.ext s9).new h3).Dg,h8,?_⟩⟩⟩;exact e1 (.write n2 t) _ _ tp H9 _ _ _ _ _ _ _ _ _ _ _ (li.ext s9) h3 Z (Ah.snoc (Ah.snoc (Ah.snoc Ah.nil (.str _)) (.str _)) (.str _)) ⟨t2,lt⟩
      .intro hG;refine⟨_,Z,_,Z,a,_,_,.int c,Z,Z,h4 li,e0,_,_,Z,Z,(by show(0:Int)<29;decide),Z,_,Z,GB (λ_=>?_) (λ_=>?_)⟩
       .exact⟨_,Z,hG _ _ ⟨o2,Gz,Z,Z⟩⟩
       .exact hG _ _ ⟨n1,e3,Z,Z⟩
     refine⟨_,Z,_,_,Z,Z,_,Z,GB (λ_=>?_) (λ_=>?_)⟩
     .exact⟨_,Z,.inl ⟨Z,_,AL.of li.Dg⟩,_,Z,_,Z,by exact zv,λtp h3=>⟨M,xs,.ref tp,Z,Z,(li.new h3).Dg,h8,e1 (.rename n1 o2) _ _ tp HA _ _ _ _ _ _ _ _ _ _ _ li h3 Z (Ah.snoc (Ah.snoc (Ah.snoc Ah.nil (.str _)) (.str _)) (.str _)) ⟨e3,Gz⟩⟩⟩
     refine⟨_,Z,_,_,Z,Z,_,Z,GB (λ_=>?_) (λ_=>?_)⟩
     .exact⟨_,Z,.inl ⟨Z,_,AL.of li.Dg⟩,_,Z,_,Z,by exact zv,λtp h3=>⟨M,xs,.ref tp,Z,Z,(li.new h3).Dg,h8,e1 (.join n1 o2) _ _ tp HA _ _ _ _ _ _ _ _ _ _ _ li h3 Z (Ah.snoc (Ah.snoc (Ah.snoc Ah.nil (.str _)) (.str _)) (.str _)) ⟨e3,Gz⟩⟩⟩
     refine⟨_,Z,_,_,Z,Z,_,Z,GB (λ_=>?_) (λ_=>?_)⟩
     .exact⟨_,Z,.inl ⟨Z,_,AL.of li.Dg⟩,_,Z,_,Z,_,Z,by exact z_0,λtp h3=>⟨M,xs,.ref tp,Z,Z,(li.new h3).Dg,h8,e1 (.cut n1 pl o2) _ _ tp HA _ _ _ _ _ _ _ _ _ _ _ li h3 Z (Ah.snoc (Ah.snoc (Ah.snoc (Ah.snoc Ah.nil (.str _)) (.str _)) (.int _)) (.str _)) ⟨e3,Gz⟩⟩⟩
     refine⟨_,Z,Z,_,Z,GB (λ_=>?_) (λ_=>?_)⟩
     .exact⟨_,Z,.inl ⟨Z,_,AL.of li.Dg⟩,_,Z,by exact zw,λtp h3=>⟨M,xs,.ref tp,Z,Z,(li.new h3).Dg,h8,e1 (.drop n1) _ _ tp HA _ _ _ _ _ _ _ _ _ _ _ li h3 Z (Ah.snoc (Ah.snoc Ah.nil (.str _)) (.str _)) e3⟩⟩
     refine⟨_,Z,Z,_,Z,GB (λ_=>?_) (λ_=>?_)⟩
     .exact⟨_,Z,.inl ⟨Z,_,AL.of li.Dg⟩,_,Z,by exact zw,λtp h3=>⟨M,xs,.ref tp,Z,Z,(li.new h3).Dg,h8,e1 (.text n1) _ _ tp HA _ _ _ _ _ _ _ _ _ _ _ li h3 Z (Ah.snoc (Ah.snoc Ah.nil (.str _)) (.str _)) e3⟩⟩
     refine⟨_,Z,Z,_,Z,GB (λ_=>?_) (λ_=>?_)⟩
     .exact⟨_,Z,.inl ⟨Z,_,AL.of li.Dg⟩,_,Z,by exact zw,λtp h3=>⟨M,xs,.ref tp,Z,Z,(li.new h3).Dg,h8,e1 (.back o2) _ _ tp HA _ _ _ _ _ _ _ _ _ _ _ li h3 Z (Ah.snoc (Ah.snoc Ah.nil (.str _)) (.str _)) Gz⟩⟩
     have b3:0<=c/16%7/\c/16%7<7:=⟨Rp _ (by decide),RR _ (by decide)⟩;have b4:0<=(h0+(0+(i:Int)))%4/\(h0+(0+(i:Int)))%4<4:=⟨Rp _ (by decide),RR _ (by decide)⟩;refine⟨_,Z,_,_,Z,Z,(by show(0:Int)<7;decide),_,Z,_,Z,_,_,Z,Z,_,_,Z,Z,(by show(0:Int)<4;decide),_,_,Z,Z,?_⟩;refine⟨Z,λp HB sB t8=>⟨_,Z,_,_,Z,Z,(by show(0:Int)<7;decide),_,Z,_,Z,_,Z,p,_,Z,AS.of t8,?_,λt ht=>?_⟩⟩
     .rintro⟨h1,h2⟩;have a8:(if c/16%7<0 then(c/16%7+((9:Nat):Int)).toNat else min (c/16%7).toNat 9)=0:=h1;have a7:(if c/16%7+(h0+(0+(i:Int)))%4<0 then(c/16%7+(h0+(0+(i:Int)))%4+((9:Nat):Int)).toNat else min (c/16%7+(h0+(0+(i:Int)))%4).toNat 9)=9:=h2;rw[AF (by lia)] at a8 a7
      lia
     obtain⟨ws,a9,t0,q9⟩:=jE sought (U (c/16%7)) (U (c/16%7+(h0+(0+(i:Int)))%4));have t4:=(li.ext sB).new (o:=.tup (Er (sought.map V.str) (U (c/16%7)) (U (c/16%7+(h0+(0+(i:Int)))%4)))) ht;have a6:=(li.ext sB).Dg;have s2:t≠M:=(A8 a6 ht).symm;have t5:(upd HB t (.tup (Er (sought.map V.str) (U (c/16%7)) (U (c/16%7+(h0+(0+(i:Int)))%4))))) t=U (.tup (ws.map V.str)):=by rw[AN,a9]
     refine⟨_,Z,_,_,Z,Z,⟨by decide,by decide⟩,_,Z,_,_,Z,Z,_,_,Z,Z,(by show(0:Int)<6;decide),_,Z,_,_,Z,Z,⟨by decide,by decide,by left⟩,_,Z,_,_,Z,Z,(by show(0:Int)<40;decide),by exact z_0,λfl q7=>?_⟩;obtain⟨z,ez⟩:=h9 (0+(i:Int)+2);obtain⟨vf,q3,ef⟩:=Gh [V.int ((h0/4+(0+(i:Int)))%6),V.int (-1),V.int (10^Int.toNat 9),V.int (h0%40)] 4 Z (by decide) z;have s6:∃s0:Int,vf=.int s0:=by simp only[BM,JQ,Kb] at q3;rcases q3 with e|e|e|e<;>exact⟨_,e⟩
     obtain⟨s0,rfl⟩:=s6;have e5:=t4.new (o:=.lst [V.int ((h0/4+(0+(i:Int)))%6),V.int (-1),V.int (10^Int.toNat 9),V.int (h0%40)]) q7;refine⟨_,Z,_,Z,_,Z,_,_,Z,Z,_,Z,a,_,Z,.inl (h4 e5),_,_,Z,Z,e7,a,_,_,.int z,Z,Z,h4 e5,ez,_,_,Z,Z,(by show(0:Int)<4;decide),fl,_,_,.int s0,Z,Z,AL.of AN,ef,?_⟩;refine⟨_,Z,.inl ⟨Z,_,AL.of e5.Dg⟩,_,Z,_,Z,by exact zv,λtp h3=>⟨M,xs,.ref tp,Z,Z,(e5.new h3).Dg,h8,?_⟩⟩;exact e1 (.find ws s0) _ _ tp _ _ _ _ _ _ _ _ _ _ _ _ e5 h3 Z (Ah.snoc (Ah.snoc (Ah.snoc Ah.nil (.str _)) (Rep.MY (Ex.at ((Ag q7) _ _ t5) s2) (Sl ws))) (.int _)) ⟨t0,λz hz=>dG z (q9 z hz)⟩
    .intro hG;refine⟨_,Z,_,Z,a,_,_,.int c,Z,Z,h4 s3,e0,_,_,Z,Z,(by show(0:Int)<29;decide),Z,_,Z,GB (λ_=>?_) (λ_=>?_)⟩
     .obtain⟨vx,r9,ex⟩:=Gh [V.str "",V.str "A",V.str "a1",V.str "[a]"] 4 Z (by decide) (c/16);have hx:∃o2:Str,vx=.str o2/\o2.length<=40:=by simp only[BM,JQ,Kb] at r9;rcases r9 with e|e|e|e<;>exact⟨_,e,by left⟩
      obtain⟨o2,rfl,Gz⟩:=hx;exact⟨by exact z_0,λlx a2=>⟨_,Z,_,_,Z,Z,(by show(0:Int)<4;decide),lx,_,_,.str o2,Z,Z,AL.of AN,ex,hG _ _ ⟨o2,Gz,Z,s3.new a2⟩⟩⟩
     .exact hG _ _ ⟨o1,lo1,Z,s3⟩
   .intro hG;refine⟨_,Z,_,Z,a,_,_,.int c,Z,Z,h4 e6,e0,_,_,Z,Z,(by show(0:Int)<31;decide),Z,_,Z,GB (λ_=>?_) (λ_=>?_)⟩
    .refine⟨_,Z,_,_,Z,Z,⟨by decide,by decide,by left⟩,_,Z,_,Z,_,_,Z,Z,⟨by decide,by decide,by left⟩,_,_,Z,Z,(by show(0:Int)<10^Int.toNat 60;decide+kernel),_,_,Z,Z,_,Z,_,_,Z,Z,(by show(0:Int)<30;decide),by exact z_0,λl hl=>?_⟩;obtain⟨vp,q0,ep⟩:=Gh [V.int (-1),V.int (10^Int.toNat 9),V.int (-2-c/16%10^Int.toNat 60),V.int (h0%30)] 4 Z (by decide) (c/16);have t7:∃pl:Int,vp=.int pl:=by simp only[BM,JQ,Kb] at q0;rcases q0 with e|e|e|e<;>exact⟨_,e⟩
     obtain⟨pl,rfl⟩:=t7;exact⟨_,Z,_,_,Z,Z,(by show(0:Int)<4;decide),l,_,_,.int pl,Z,Z,AL.of AN,ep,hG _ _ ⟨pl,Z,e6.new hl⟩⟩
    .exact hG _ _ ⟨_,Z,e6⟩
  .rintro S H' ⟨xs,ds,v3,v4,v5,v6,v7,v8,v9,e2,h7,h6,h5,rfl,li,s5,s7⟩;exact⟨_,Z,q M ds xs H' li.same s8 li.Dg li.rep (by rw[s7,q4]) li.good⟩
def By{o:hY}{td:TE}{j}(hu:X.A.units+1<tE)(ho:PE X o td):PE X (.Subscript o (.Constant (.str x) j p) pos) (Jp td (tC (.str x))):=DB hu ho Ab λ_ _=>rfl
section
variable[DecidableEq α]{f:α->Key}{g:β->V}(hf:∀a b,f a=f b->a=b)
include hf
noncomputable def AH(l:List (α×β))(k:α):Option β:=(l.find? λp=>decide (p.1=k)).map (·.2)
noncomputable def AW(l:List (α×β))(k:α)(v:β):List (α×β):=if(l.any λp=>decide (p.1=k))=Y then l.map (λp=>if p.1=k then(p.1,v) else p) else l++[(k,v)]
noncomputable def AQ(l:List (α×β))(k:α):List (α×β):=l.filter λp=>decide (p.1≠k)
noncomputable def Fh(f:α->Key)(g:β->V)(l:List (α×β)):List (Key×V):=l.map λp=>(f p.1,g p.2)
def pN(a b:α):decide (f a=f b)=decide (a=b):=by
 by_cases h:a=b
 .rw[h];simp
 .rw[BG h,BG (λz=>h (hf a b z))]
theorem D6(k:α):∀l:List (α×β),BU (Fh f g l) (f k)=(AH l k).map g
 |[]=>rfl
 |p::l=>by
  show BU ((f p.1,g p.2)::Fh f g l) (f k)=_;by_cases h:p.1=k
  .rw[Fz (by rw[h])];delta AH;rw[C9,Bc h];rfl
  .rw[Fx (λz=>h (hf _ _ z)),D6 k l];delta AH;rw[C9,BG h]
def Ii(k:α)(v:β)(l:List (α×β)):putK (Fh f g l) (f k) (g v)=Fh f g (AW l k v):=by
 delta putK AW Fh;have e:((l.map λp=>(f p.1,g p.2)).any λkv=>decide (kv.1=f k))=l.any λp=>decide (p.1=k):=by rw[PH];congr 1;funext p;exact pN hf p.1 k
 rw[e];by_cases h:(l.any λp=>decide (p.1=k))=Y
 .rw[AG h,AG h,Bf,Bf];refine EI λp _=>?_;show(if f p.1=f k then(f p.1,g v) else(f p.1,g p.2))=(f (if p.1=k then(p.1,v) else p).1,g (if p.1=k then(p.1,v) else p).2);by_cases hp:p.1=k
  .rw[AG (by rw[hp]),AG hp]
  .rw[AF (λz=>hp (hf _ _ z)),AF hp]
 .rw[AF h,AF h,BL];rfl
def KU(k:α)(l:List (α×β)):I0 (Fh f g l) (f k)=Fh f g (AQ l k):=by
 delta I0 AQ Fh;rw[List.filter_map];congr 1;refine List.filter_congr λp _=>?_;show decide (f p.1≠f k)=decide (p.1≠k);by_cases h:p.1=k
 .rw[h];simp
 .have h2:f p.1≠f k:=λz=>h (hf _ _ z);rw[Bc h2,Bc (show p.1≠k from h)]
end
def Ei:∀a b:Int,(Sum.inl a:Key)=Sum.inl b->a=b:=λ_ _ h=>PM h
def EN:∀a b:Str,(Sum.inr a:Key)=Sum.inr b->a=b:=λ_ _ h=>Sum.inr.inj h
structure Wd where
 to:Bool
 nm:Str
 no:Int
noncomputable def Wd.vq(w:Wd):List V:=[.str (if w.to then "to" else "word"),.str w.nm,.int w.no]
structure Nk where
 names:List (Str×Int)
 texts:List (Int×List Wd)
 made:Int
abbrev Fs(l:List (Str×Int)):List (Key×V):=Fh Sum.inr V.int l
abbrev CU(l:List (Int×OK×List OK)):List (Key×V):=Fh Sum.inl (λp:OK×List OK=>V.ref p.1) l
noncomputable def Fp(an at_:OK)(made:Int):List (Key×V):=[(.inr "names",.ref an),(.inr "texts",.ref at_),(.inr "made",.int made)]
def Qh(H:Hp)(t:Int×OK×List OK)(p:Int×List Wd):Prop:=t.1=p.1/\H t.2.1=U (.lst (t.2.2.map V.ref))/\t.2.2.length=p.2.length/\∀(j:Nat) w wd,t.2.2[j]? =U w->p.2[j]? =U wd->H w=U (.lst wd.vq)
structure sN(a b c:OK):Prop where
 xy:a≠b
 xz:a≠c
 yz:b≠c
structure Ca(H0 H:Hp)(a an at_:OK)(tx:List (Int×OK×List OK))(n:Nk):Prop where
 same:AM H0 H
 ha:H a=U (.dK (Fp an at_ n.made))
 hn:H an=U (.dK (Fs n.names))
 ht:H at_=U (.dK (CU tx))
 len:tx.length=n.texts.length
 EY:∀(i:Nat) t p,tx[i]? =U t->n.texts[i]? =U p->Qh H t p
 fa:H0 a=J
 fn:H0 an=J
 ft:H0 at_=J
 fw:∀t∈tx,∀w∈t.2.2,H0 w=J
 ap:sN a an at_
def CC(H0 H:Hp)(a:OK)(n:Nk):Prop:=∃an h0 tx,Ca H0 H a an h0 tx n
structure Fits(n:Nk):Prop where
 CO:(n.names.map (·.1)).Nodup
 CF:(n.texts.map (·.1)).Nodup
 names:n.names.length<=1000
 texts:n.texts.length<=1000
 words:∀p∈n.texts,p.2.length<=100000
noncomputable def Nk.I9(n:Nk)(g:Wd->Wd):Nk:={n with texts:=n.texts.map λp=>(p.1,p.2.map g)}
variable{H0:Hp}{an at_:OK}
def Ca.ext{tx:List (Int×OK×List OK)}{n:Nk}(h:Ca H0 H a an at_ tx n)(s:AM H H'):Ca H0 H' a an at_ tx n:=
 ⟨h.same.trans s,s _ _ h.ha,s _ _ h.hn,s _ _ h.ht,h.len,λi t p h1 h2=>let⟨q1,q2,q3,q4⟩:=h.EY i t p h1 h2;⟨q1,s _ _ q2,q3,λj w wd e1 e2=>s _ _ (q4 j w wd e1 e2)⟩,h.fa,h.fn,h.ft,h.fw,h.ap⟩
def Ca.keys{tx:List (Int×OK×List OK)}{n:Nk}(h:Ca H0 H a an at_ tx n):tx.map (·.1)=n.texts.map (·.1):=by
 apply LN;intro i;rw[A1,A1]
 cases e1:tx[i]?with
 |none=>rw[HD (by rw[<-h.len];exact Ob.mp e1)];rfl
 |some t=>
  have hi:i<n.texts.length:=by rw[<-h.len];exact(BP.mp e1).1
  rw[Ar hi];exact A2 U (h.EY i t _ e1 (Ar hi)).1
variable{m:Int}
def NU:BU (Fp an at_ m) (.inr "texts")=U (.ref at_):=rfl
def jQ:BU (Fp an at_ m) (.inr "names")=U (.ref an):=rfl
def kB:BU (Fp an at_ m) (.inr "made")=U (.int m):=rfl
def nE{k:Int}:putK (Fp an at_ m) (.inr "made") (.int k)=Fp an at_ k:=rfl
structure ao(a at_ L:OK)(A:List (Key×V))(tx:List (Int×OK×List OK))(H:Hp):Prop where
 ha:H a=U (.dK A)
 hA:BU A (.inr "texts")=U (.ref at_)
 ht:H at_=U (.dK (CU tx))
 hL:H L=U (.lst (tx.map λt=>V.int t.1))
 hl:∀t∈tx,H t.2.1=U (.lst (t.2.2.map V.ref))
 nd:(tx.map (·.1)).Nodup
theorem Il{α β:Type}[DecidableEq α]:∀{l:List (α×β)}{i:Nat}{p:α×β},(l.map (·.1)).Nodup->l[i]? =U p->AH l p.1=U p.2
 |[],i,p,_,h=>by simp at h
 |q::l,0,p,_,h=>by
  have e:q=p:=by simpa using h
  subst e;delta AH;rw[C9,Bc Z];rfl
 |q::l,i+1,p,nd,h=>by
  have h':l[i]? =U p:=by simpa using h
  have h0:=E1.mp nd;have h1:¬q.1=p.1:=λz=>h0.1 (by have:q.1=p.1:=z;show q.1∈l.map (·.1);rw[this];exact Aw.mpr ⟨p,Bv h',Z⟩);have:=Il h0.2 h';unfold AH at this⊢;rw[C9,BG h1];exact this
def WG{D:Ends}{A:List (Key×V)}{tx:List (Int×OK×List OK)}
 (Iv:OK->Nat->Nat->St->Hp->Prop)(s0:S[0]? =U (U (.ref a)))
 (ha:H a=U (.dK A))(hA:BU A (.inr "texts")=U (.ref at_))(ht:H at_=U (.dK (CU tx)))
 (h0:∀L,H L=J->Iv L 0 0 S (upd H L (.lst (tx.map λt=>V.int t.1))))
 (hw:∀L p q S H,Iv L p q S H->ao a at_ L A tx H/\S[0]? =U (U (.ref a))/\i<S.length)(hi:0<i)
 (st:∀L p t q w S H (D':Ends),tx[p]? =U t->t.2.2[q]? =U w->Iv L p q S H->(∀S' H',Iv L p (q+1) S' H'->D'.nx S' H')->tb D' (S.set j (U (.ref w))) H)
 (set:∀L p t S H,tx[p]? =U t->Iv L p 0 S H->Iv L p 0 (S.set i (U (.int t.1))) H)
 (nxt:∀L p t S H,tx[p]? =U t->Iv L p t.2.2.length S H->Iv L (p+1) 0 S H)(hd:∀L S H,Iv L tx.length 0 S H->D.nx S H):
 OE (Ko [] (Q4 T4 (N4 (Jp (Es 0) (tC (.str "texts"))) MF))) (EA i) (OE (Ko [] (Jp (Jp (Es 0) (tC (.str "texts"))) (Es i))) (EA j) tb) D S H:=by
 have gt:∀{H:Hp},H a=U (.dK A)->BN H a (.str "texts") (U (.ref at_)):=λh=>by have:=BN.kq (k:=.inr "texts") h;rw[hA] at this;exact this
 refine⟨_,s0,a,_,Z,gt ha,at_,_,Z,ht,λL hL=>?_⟩;have ek:((CU tx).map λkv=>kV kv.1)=tx.map λt=>V.int t.1:=by show(tx.map _).map _=_;rw[Bf];rfl
 rw[ek];refine⟨L,Z,⟨_,AL.of AN⟩,?_⟩;refine HN (K:=[]) (a:=L) (xs:=tx.map λt=>V.int t.1) (λp S H=>Iv L p 0 S H) (h0 L hL) (λp S H _ iv=>AL.of (hw _ _ _ _ _ iv).1.hL) ?_ (λS H iv=>hd L S H (by rw[AI] at iv;exact iv));intro p x vk H1 hx iv;rw[A1] at hx
 cases et:tx[p]?with
 |none=>rw[et] at hx;cases hx
 |some t=>
 rw[et] at hx;obtain rfl:V.int t.1=x:=AZ hx;obtain⟨wk,z0,zi⟩:=hw _ _ _ _ _ iv;have h1:=set _ _ _ _ _ et iv;obtain⟨h5,h2,h4⟩:=hw _ _ _ _ _ h1;have gv:BN H1 at_ (.int t.1) (U (.ref t.2.1)):=by have:=BN.kq (k:=.inl t.1) wk.ht;rw[D6 Ei,Il wk.nd et] at this;exact this
 refine⟨_,h2,a,_,Z,gt wk.ha,_,by rw[Og zi],at_,_,Z,gv,t.2.1,Z,⟨_,AL.of (wk.hl t (Bv et))⟩,?_⟩;refine HN (K:=[]) (a:=t.2.1) (xs:=t.2.2.map V.ref) (λq S H=>Iv L p q S H) h1 (λq S H _ iv=>AL.of ((hw _ _ _ _ _ iv).1.hl t (Bv et))) ?_ (λS H iv=>nxt _ _ _ _ _ et (by rw[AI] at iv;exact iv));intro q x vt H2 hx h3;rw[A1] at hx
 cases ew:t.2.2[q]?with
 |none=>rw[ew] at hx;cases hx
 |some w=>
 rw[ew] at hx;obtain rfl:V.ref w=x:=AZ hx;exact st _ _ _ _ _ _ _ _ et ew h3 λS' H' z=>z
def Z2{a b:Wd}(h:a.vq=b.vq):a=b:=by
 obtain⟨t1,n1,k1⟩:=a;obtain⟨t2,n2,k2⟩:=b;delta Wd.vq at h;simp only[List.cons.injEq,V.str.injEq,V.int.injEq,and_true] at h;obtain⟨h1,h2,h3⟩:=h;subst h2 h3;cases t1<;>cases t2
 .rfl
 .exact absurd (show("word" :Str)="to" from h1) (by left)
 .exact absurd (show("to" :Str)="word" from h1) (by left)
 .rfl
def Wy(as:List OK)(w:Wd):as.map V.ref≠w.vq:=λh=>by
 cases as with
 |nil=>cases h
 |cons x xs=>exact absurd (Hw h).1 (by intro z;cases z)
def gO(l:List β)(f:β->Int)(w:Wd):(l.map λt=>V.int (f t))≠w.vq:=λh=>by
 cases l with
 |nil=>cases h
 |cons x xs=>exact absurd (Hw h).1 (by intro z;cases z)
def ZU{o:HO}(h:H a=U o):upd H a o=H:=by
 funext b;delta upd;by_cases e:b=a
 .rw[AG e,e,h]
 .rw[AF e]
structure MI(H0 H:Hp)(a an at_ L:OK)(tx:List (Int×OK×List OK))(n:Nk)(g:Wd->Wd)(p q:Nat)(H':Hp):Prop where
 wk:ao a at_ L (Fp an at_ n.made) tx H'
 same:AM H0 H'
 hn:H' an=U (.dK (Fs n.names))
 c1:∀(i:Nat) t pp (j:Nat) w wd,tx[i]? =U t->n.texts[i]? =U pp->t.2.2[j]? =U w->pp.2[j]? =U wd->H' w=U (.lst wd.vq)\/H' w=U (.lst (g wd).vq)
 c2:∀(i:Nat) t pp (j:Nat) w wd,tx[i]? =U t->n.texts[i]? =U pp->t.2.2[j]? =U w->pp.2[j]? =U wd->(i<p\/(i=p/\j<q))->H' w=U (.lst (g wd).vq)
variable{L:OK}
def MI.set{tx:List (Int×OK×List OK)}{n:Nk}{g:Wd->Wd}{p q:Nat}{w:OK}{wd wc:Wd}{t:Int×OK×List OK}{pp:Int×List Wd}(idem:∀w,g (g w)=g w)(nk:Ca H0 H a an at_ tx n)
 (m:MI H0 H a an at_ L tx n g p q H')(et:tx[p]? =U t)(ep:n.texts[p]? =U pp)(ew:t.2.2[q]? =U w)(ed:pp.2[q]? =U wd)(hc:H' w=U (.lst wc.vq))(hg:g wc=g wd):MI H0 H a an at_ L tx n g p (q+1) (upd H' w (.lst (g wc).vq)):=by
 have h8:H0 w=J:=nk.fw t (Bv et) w (Bv ew);have h0:∀b o,H' b=U o->o≠.lst wc.vq->(upd H' w (.lst (g wc).vq)) b=U o:=λb o h1 h2=>by rw[AO (CN h1 hc h2)];exact h1
 have h7:H w=U (.lst wd.vq):=(nk.EY p t pp et ep).2.2.2 q w wd ew ed;refine⟨⟨h0 _ _ m.wk.ha (by intro z;cases z),m.wk.hA,h0 _ _ m.wk.ht (by intro z;cases z),h0 _ _ m.wk.hL (by intro z;exact gO tx (·.1) wc (HO.lst.inj z)),λt' h9=>h0 _ _ (m.wk.hl t' h9) (by intro z;exact Wy _ wc (HO.lst.inj z)),m.wk.nd⟩,
  m.same.upd h8,h0 _ _ m.hn (by intro z;cases z),λi t' h4 j w' h3 e1 e2 e3 e4=>?_,λi t' h4 j w' h3 e1 e2 e3 e4 e0=>?_⟩
 .by_cases h5:w'=w
  .subst h5;have h6:H w'=U (.lst h3.vq):=(nk.EY i t' h4 e1 e2).2.2.2 j w' h3 e3 e4;rw[h7] at h6;have:wd=h3:=Z2 (HO.lst.inj (AZ h6));subst this;exact .inr (by rw[AN,hg])
  .rw[AO h5];exact m.c1 i t' h4 j w' h3 e1 e2 e3 e4
 .by_cases h5:w'=w
  .subst h5;have h6:H w'=U (.lst h3.vq):=(nk.EY i t' h4 e1 e2).2.2.2 j w' h3 e3 e4;rw[h7] at h6;have:wd=h3:=Z2 (HO.lst.inj (AZ h6));subst this;rw[AN,hg]
  .rw[AO h5];rcases e0 with h|⟨h1,h2⟩
   .exact m.c2 i t' h4 j w' h3 e1 e2 e3 e4 (.inl h)
   .by_cases hj:j<q
    .exact m.c2 i t' h4 j w' h3 e1 e2 e3 e4 (.inr ⟨h1,hj⟩)
    .have e5:j=q:=by lia
     subst h1 e5;rw[et] at e1;cases AZ e1;rw[ew] at e3;exact absurd (AZ e3).symm h5
def Xl{D:Ends}{tx:List (Int×OK×List OK)}{n:Nk}(vj:St->Prop)(g:Wd->Wd)(idem:∀w,g (g w)=g w)
 (hS:vj S)(S0:∀S,vj S->S[0]? =U (U (.ref a))/\i<S.length)(Si:∀S v,vj S->vj (S.set i v))(Sj:∀S v,vj S->vj (S.set j v))(hi:0<i)(nk:Ca H0 H a an at_ tx n)(CF:(n.texts.map (·.1)).Nodup)
 (bd:∀S H' (D':Ends) w wd,vj S->H' w=U (.lst wd.vq)->D'.nx (S.set j (U (.ref w))) (upd H' w (.lst (g wd).vq))->tb D' (S.set j (U (.ref w))) H')
 (hd:∀S H',vj S->Ca H0 H' a an at_ tx (n.I9 g)->D.nx S H'):
 OE (Ko [] (Q4 T4 (N4 (Jp (Es 0) (tC (.str "texts"))) MF))) (EA i) (OE (Ko [] (Jp (Jp (Es 0) (tC (.str "texts"))) (Es i))) (EA j) tb) D S H:=by
 have h0:∀{p t},tx[p]? =U t->∃pp,n.texts[p]? =U pp:=λ{p t} e=>by
  have hp:p<n.texts.length:=by rw[<-nk.len];exact(BP.mp e).1
  exact⟨_,Ar hp⟩
 refine WG (a:=a) (at_:=at_) (A:=Fp an at_ n.made) (tx:=tx) (λL p q S H'=>vj S/\MI H0 H a an at_ L tx n g p q H') (S0 S hS).1 nk.ha NU nk.ht (λL hL=>⟨hS,?_⟩) (λL p q S H' h=>⟨h.2.wk,S0 S h.1⟩) hi
  (λL p t q w S H' D' et ew h kn=>?_) (λL p t S H' et h=>⟨Si _ _ h.1,h.2⟩) (λL p t S H' et h=>⟨h.1,h.2.wk,h.2.same,h.2.hn,h.2.c1,λi t' h6 j w' h5 e1 e2 e3 e4 h3=>?_⟩) (λL S H' h=>hd S H' h.1 ?_)
 .have s:AM H (upd H L (.lst (tx.map λt=>V.int t.1))):=Ag hL;have h1:=nk.ext s;refine⟨⟨h1.ha,NU,h1.ht,AN,λt ht=>?_,by rw[nk.keys];exact CF⟩,h1.same,h1.hn,λi t pp j w wd e1 e2 e3 e4=>.inl ((h1.EY i t pp e1 e2).2.2.2 j w wd e3 e4),λi t pp j w wd e1 e2 e3 e4 h3=>by lia⟩;obtain⟨i,h8,e⟩:=GY.mp ht;have e1:tx[i]? =U t:=by rw[Ar h8,e]
  obtain⟨pp,ep⟩:=h0 e1;exact(h1.EY i t pp e1 ep).2.1
 .obtain⟨pp,ep⟩:=h0 et;have hq:q<pp.2.length:=by rw[<-(nk.EY p t pp et ep).2.2.1];exact(BP.mp ew).1
  have ed:pp.2[q]? =U pp.2[q]:=Ar hq;rcases h.2.c1 p t pp q w _ et ep ew ed with hc|hc
  .exact bd S H' D' w _ h.1 hc (kn _ _ ⟨Sj _ _ h.1,h.2.set idem nk et ep ew ed hc Z⟩)
  .exact bd S H' D' w _ h.1 hc (kn _ _ ⟨Sj _ _ h.1,h.2.set idem nk et ep ew ed hc (idem _)⟩)
 .rcases h3 with h3|⟨_,h3⟩
  .by_cases h7:i=p
   .subst h7;rw[et] at e1;cases AZ e1;exact h.2.c2 i t h6 j w' h5 et e2 e3 e4 (.inr ⟨Z,(BP.mp e3).1⟩)
   .exact h.2.c2 i t' h6 j w' h5 e1 e2 e3 e4 (.inl (by lia))
  .lia
 .have m:=h.2;refine⟨m.same,m.wk.ha,m.hn,m.wk.ht,by show _=(n.texts.map _).length;rw[AI];exact nk.len,λi t p' e1 e2=>?_,nk.fa,nk.fn,nk.ft,nk.fw,nk.ap⟩;have h4:(n.texts.map λp=>(p.1,p.2.map g))[i]? =U p':=e2;rw[A1] at h4;obtain⟨pp,ep⟩:=h0 e1;rw[ep] at h4;cases AZ h4;obtain⟨q1,q2,q3,q4⟩:=nk.EY i t pp e1 ep;refine⟨q1,m.wk.hl t (Bv e1),by show _=(pp.2.map g).length;rw[AI];exact q3,λj w wd e3 e4=>?_⟩;have h2:(pp.2.map g)[j]? =U wd:=e4;rw[A1] at h2
  cases e5:pp.2[j]?with
  |none=>rw[e5] at h2;cases h2
  |some wo=>
  rw[e5] at h2;cases AZ h2;exact m.c2 i t pp j w wo e1 ep e3 e5 (.inl (BP.mp e1).1)
noncomputable def CQ(name:Str)(no:Int)(w:Wd):Wd:=if w.to=Y/\w.no= -1/\w.nm=name then{w with no:=no} else w
noncomputable def CS(no:Int)(name:Str)(other:Int)(w:Wd):Wd:=if w.to=Y/\w.no=no then{w with nm:=name,no:=other} else w
def dz(name:Str)(no:Int)(w:Wd):CQ name no (CQ name no w)=CQ name no w:=by
 delta CQ;by_cases h:w.to=Y/\w.no= -1/\w.nm=name
 .rw[AG h];by_cases h2:w.to=Y/\no= -1/\w.nm=name
  .rw[AG h2]
  .rw[AF h2]
 .rw[AF h,AF h]
def dZ(no:Int)(name:Str)(other:Int)(w:Wd):CS no name other (CS no name other w)=CS no name other w:=by
 delta CS;by_cases h:w.to=Y/\w.no=no
 .rw[AG h];by_cases h2:w.to=Y/\other=no
  .rw[AG h2]
  .rw[AF h2]
 .rw[AF h,AF h]
def Nk.named(n:Nk)(name:Str)(no:Int):Nk:=({n with names:=AW n.names name no}:Nk).I9 (CQ name no)
def Nk.turned(n:Nk)(no:Int)(name:Str)(other:Int):Nk:=n.I9 (CS no name other)
noncomputable def Nk.flat(n:Nk):List Wd:=n.texts.flatMap (·.2)
noncomputable def Em(no:Int)(w:Wd):Bool:=w.to&&decide (w.no=no)
def Nk.led(n:Nk)(no:Int):Nat:=n.flat.countP (Em no)
def Ca.tab{tx:List (Int×OK×List OK)}{n:Nk}{o:HO}(h:Ca H0 H a an at_ tx n)(hb:H b=U (.dK AA)):∀(i:Nat) t p,tx[i]? =U t->n.texts[i]? =U p->Qh (upd H b o) t p:=λi t p h1 h2=>by
 obtain⟨q1,q2,q3,q4⟩:=h.EY i t p h1 h2;exact⟨q1,by rw[AO (CN q2 hb (by intro z;cases z))];exact q2,q3,λj w wd e1 e2=>by have:=q4 j w wd e1 e2;rw[AO (CN this hb (by intro z;cases z))];exact this⟩
def Ca.putN{tx:List (Int×OK×List OK)}{n:Nk}(h:Ca H0 H a an at_ tx n)(nm:List (Str×Int)):Ca H0 (upd H an (.dK (Fs nm))) a an at_ tx {n with names:=nm}:=
 ⟨h.same.upd h.fn,by rw[AO h.ap.xy];exact h.ha,AN,by rw[AO h.ap.yz.symm];exact h.ht,h.len,h.tab h.hn,h.fa,h.fn,h.ft,h.fw,h.ap⟩
def Ca.bE{tx:List (Int×OK×List OK)}{n:Nk}(h:Ca H0 H a an at_ tx n)(k:Int):Ca H0 (upd H a (.dK (Fp an at_ k))) a an at_ tx {n with made:=k}:=
 ⟨h.same.upd h.fa,AN,by rw[AO h.ap.xy.symm];exact h.hn,by rw[AO h.ap.xz.symm];exact h.ht,h.len,h.tab h.ha,h.fa,h.fn,h.ft,h.fw,h.ap⟩
def any_keys{α γ:Type}[DecidableEq α]{l:List (α×β)}{m:List (α×γ)}(e:l.map (·.1)=m.map (·.1))(k:α):(l.any λp=>decide (p.1=k))=m.any λp=>decide (p.1=k):=by
 have h1:(l.any λp=>decide (p.1=k))=(l.map (·.1)).any λx=>decide (x=k):=by rw[PH];rfl
 have h2:(m.any λp=>decide (p.1=k))=(m.map (·.1)).any λx=>decide (x=k):=by rw[PH];rfl
 rw[h1,h2,e]
def Ca.OG{tx:List (Int×OK×List OK)}{n:Nk}(h:Ca H0 H a an at_ tx n)(k:Int){l:OK}{ws:List OK}{Cb:List Wd}(hl:H l=U (.lst (ws.map V.ref)))(el:ws.length=Cb.length)
 (hw:∀(j:Nat) w wd,ws[j]? =U w->Cb[j]? =U wd->H w=U (.lst wd.vq))(hf:∀w∈ws,H0 w=J):
 Ca H0 (upd H at_ (.dK (CU (AW tx k (l,ws))))) a an at_ (AW tx k (l,ws)) {n with texts:=AW n.texts k Cb}:=by
 have new:Qh (upd H at_ (.dK (CU (AW tx k (l,ws))))) (k,l,ws) (k,Cb):=⟨Z,by rw[AO (CN hl h.ht (by intro z;cases z))];exact hl,el,λj w wd e1 e2=>by have:=hw j w wd e1 e2;rw[AO (CN this h.ht (by intro z;cases z))];exact this⟩;have ek:=any_keys h.keys k;refine⟨h.same.upd h.ft,by rw[AO h.ap.xz];exact h.ha,by rw[AO h.ap.yz];exact h.hn,AN,?_,λi t p h1 h2=>?_,h.fa,h.fn,h.ft,λt ht w h3=>?_,h.ap⟩
 .delta AW;by_cases c:(tx.any λp=>decide (p.1=k))=Y
  .rw[AG c,AG (by rw[<-ek];exact c),AI,AI];exact h.len
  .rw[AF c,AF (by rw[<-ek];exact c),A9,A9,h.len];rfl
 .have h0:(AW n.texts k Cb)[i]? =U p:=h2;unfold AW at h1 h0;by_cases c:(tx.any λp=>decide (p.1=k))=Y
  .rw[AG c,A1] at h1;rw[AG (by rw[<-ek];exact c),A1] at h0
   cases e1:tx[i]?with
   |none=>rw[e1] at h1;cases h1
   |some t0=>
   cases e2:n.texts[i]?with
   |none=>rw[e2] at h0;cases h0
   |some p0=>
   rw[e1] at h1;rw[e2] at h0;have q:=h.tab (o:=.dK (CU (AW tx k (l,ws)))) h.ht i t0 p0 e1 e2;have f1:(if t0.1=k then(t0.1,(l,ws)) else t0)=t:=AZ h1;have f2:(if p0.1=k then(p0.1,Cb) else p0)=p:=AZ h0;by_cases hk:t0.1=k
   .rw[AG hk] at f1;rw[AG (by rw[<-q.1];exact hk)] at f2;rw[<-f1,<-f2,hk,<-q.1,hk];exact new
   .rw[AF hk] at f1;rw[AF (by rw[<-q.1];exact hk)] at f2;rw[<-f1,<-f2];exact q
  .rw[AF c] at h1;rw[AF (by rw[<-ek];exact c)] at h0;by_cases hi:i<tx.length
   .rw[DH hi] at h1;rw[DH (by rw[<-h.len];exact hi)] at h0;exact h.tab h.ht i t p h1 h0
   .have DG:i<(tx++[(k,l,ws)]).length:=(BP.mp h1).1;rw[A9,Ey] at DG;obtain rfl:i=tx.length:=by lia
    rw[C6 (Ac _),FQ] at h1;rw[C6 (by rw[h.len];exact Ac _),h.len,FQ] at h0;rw[<-AZ h1,<-AZ h0];exact new
 .unfold AW at ht;by_cases c:(tx.any λp=>decide (p.1=k))=Y
  .rw[AG c] at ht;obtain⟨t0,h4,e⟩:=Aw.mp ht;by_cases hk:t0.1=k
   .rw[AG hk] at e;rw[<-e] at h3;exact hf w h3
   .rw[AF hk] at e;rw[<-e] at h3;exact h.fw t0 h4 w h3
  .rw[AF c] at ht;rcases Be.mp ht with z|z
   .exact h.fw t z w h3
   .rw[BW.mp z] at h3;exact hf w h3
noncomputable def JF:Nk:=⟨[],[],0⟩
def Ys:Sp:=λvs H Q _=>vs=[]/\∀(a:OK)(H':Hp),CC H H' a JF->Q (.ref a) H'
def TC:Sp:=λvs H Q _=>∃(a:OK)(h0:Str)(no:Int)(H0:Hp)(n:Nk),vs=[.ref a,.str h0,.int no]/\CC H0 H a n/\Fits n/\∀H',CC H0 H' a (n.named h0 no)->Q .BB H'
def Sv:Sp:=λvs H Q _=>∃(a:OK)(no:Int)(h1:Str)(h0:Int)(H0:Hp)(n:Nk),vs=[.ref a,.int no,.str h1,.int h0]/\CC H0 H a n/\Fits n/\∀H',CC H0 H' a (n.turned no h1 h0)->Q .BB H'
def UI:Sp:=λvs H Q _=>∃(a:OK)(no:Int)(H0:Hp)(n:Nk),vs=[.ref a,.int no]/\CC H0 H a n/\Fits n/\∀H',AM H H'->Q (.int (n.led no)) H'
def Dl(h:H a=U (.dK (Fp an at_ m))):BN H a (.str "names") (U (.ref an)):=by have:=BN.kq (k:=.inr "names") h;rw[jQ] at this;exact this
def Fv(h:H a=U (.dK (Fp an at_ m))):BN H a (.str "texts") (U (.ref at_)):=by have:=BN.kq (k:=.inr "texts") h;rw[NU] at this;exact this
def gW(h:H a=U (.dK (Fp an at_ m))):BN H a (.str "made") (U (.int m)):=by have:=BN.kq (k:=.inr "made") h;rw[kB] at this;exact this
def ic{X:Cx}{pos:Pos}{k1 k2 k3 v1 v2 v3:hY}{trs:List (TE×TE)}(h:OR X pos [U k1,U k2,U k3] [v1,v2,v3] trs):PE X (.Dict [U k1,U k2,U k3] [v1,v2,v3] pos) (Zt trs):=@ko X pos [U k1,U k2,U k3] [v1,v2,v3] trs h Z Z (List.cons_ne_nil _ _) (by show 3<=15;decide)
def lF:A3 [] [] (Aq P8):=by left
def iy(F:Ak K "_law_begun" "_law_begun" P8 f fd):AX P w K mg base Ai 1 f fd [] Ys:=by
 refine F.ok lF ?_ ?_
 .rintro _ _ _ _ ⟨rfl,_⟩;rfl
 .rintro _ A _ s H _ Q E hr ⟨rfl,q⟩;refine⟨_,@AR _ _ _ (@An _ _ _ _ (@ic _ _ _ _ _ _ _ _ _ (@S1 _ _ _ _ _ _ _ _ _ (@Ab _ _ _ _) (@Lh _ _) (@S1 _ _ _ _ _ _ _ _ _ (@Ab _ _ _ _) (@Lh _ _) (@S1 _ _ _ _ _ _ _ _ _ (@Ab _ _ _ _) (@Aa _ _ _ _) (@kT _ _)))))),?_⟩;intro a ha an h2 h0 h1;have n1:a≠an:=A8 AN h2;have h3:(upd (upd H a (.dK [])) an (.dK [])) a=U (.dK []):=by rw[AO n1];exact AN
  have n2:a≠h0:=A8 h3 h1;have n3:an≠h0:=A8 AN h1;have h5:H an=J:=(Ag ha).free h2;have h4:H h0=J:=((Ag ha).trans (Ag h2)).free h1;refine⟨by rw[AO n2];exact h3,[(.inr "names",.ref an),(.inr "texts",.ref h0),(.inr "made",.int 0)],Z,by show 3<=15;decide,q a _ ⟨an,h0,[],?_⟩⟩;refine⟨(((AM.refl H).upd ha).upd h5).upd h4|>.upd ha,?_,?_,?_,Z,λi t p e=>(by simp at e),ha,h5,h4,λt ht=>(by cases ht),⟨n1,n2,n3⟩⟩
  .rw[AN];rfl
  .rw[AO n1.symm,AO n3];exact AN
  .rw[AO n2.symm];exact AN
def TX:A3 ["_law_nook","_law_name","_law_number","_law_one","_law_word"] ["_law_nook","_law_name","_law_number"] (Aq Nt):=by left
def XT(F:Ak K "_law_named" "_law_named" Nt f fd)(O:Own mg):AX P w K mg base Ai 1 f fd ["_law_nook","_law_name","_law_number"] TC:=by
 refine F.ok TX ?_ ?_
 .rintro _ _ _ _ ⟨_,_,_,_,_,rfl,_⟩;rfl
 .rintro _ A _ s H _ Q E hr ⟨a,h0,no,H0,n,rfl,⟨an,h8,tx,nk⟩,h5,q⟩;have h4:=CZ hr;refine⟨_,(AU (Eh h4 (By h4 (pv 0)) (pv 1) (pv 2) Z) (AR (DC C8 Z (EX (E3 (JY Z) Z O.lst F1 (AE (By h4 (pv 0)) AJ))) (Bg (i:=3) TX.nd Z (AY Z))
   (AR (DC C8 Z (EX (DB h4 (By h4 (pv 0)) (pv 3) (λ_ _=>rfl))) (Bg (i:=4) TX.nd Z (AY Z))
   (AR (Ay (PW.pt (FY (As BQ (ED (pv 4)) Ab (Am _)) (FY (As BQ (ED (pv 4)) (Du Dr Aa) (Am _)) (HV (As BQ (ED (pv 4)) (pv 1) (Am _))))))
   (AR (T6 (pv 2) (Tz (pv 4) Aa set_list)))
   BC))))))),?_⟩;have hl:(Fs n.names).length<sizeLine:=by
   show(n.names.map _).length<_;have:=h5.names;rw[AI,BA]
   lia
  have dp:=DO.kq (k:=.inr h0) (v:=.int no) nk.hn hl;rw[Ii EN] at dp;refine⟨_,Z,_,Z,a,_,Z,Dl nk.ha,_,Z,an,_,Z,dp,?_⟩;have h7:=nk.putN (AW n.names h0 no);refine Xl (λS=>∃v3 v4,S=[U (.ref a),U (.str h0),U (.int no),v3,v4]) (CQ h0 no) (dz h0 no) ⟨J,J,Z⟩ ?_ ?_ ?_ (by decide) h7 h5.CF ?_ ?_
  .rintro S ⟨v3,v4,rfl⟩;exact⟨Z,by show 3<5;decide⟩
  .rintro S v ⟨v3,v4,rfl⟩;exact⟨_,_,Z⟩
  .rintro S v ⟨v3,v4,rfl⟩;exact⟨_,_,Z⟩
  .rintro _ H' D' w wd ⟨v3,v4,rfl⟩ hw kn;obtain⟨to,nm,h3⟩:=wd;have same:CQ h0 no ⟨to,nm,h3⟩=⟨to,nm,h3⟩->D'.nx [U (.ref a),U (.str h0),U (.int no),v3,U (.ref w)] H':=λe=>by rw[e,ZU hw] at kn;exact kn
   cases to with
   |false=>refine⟨_,Z,w,_,_,.str "word",Z,Z,AL.of hw,Z,Z,_,Z,Bi (by intro z;exact absurd (V.str.inj z) (by left)) (BV (same ?_))⟩;delta CQ;rw[AF (by simp)]
   |true=>
    refine⟨_,Z,w,_,_,.str "to",Z,Z,AL.of hw,Z,Z,_,Z,Bj Z ⟨_,Z,w,_,_,.int h3,Z,Z,AL.of hw,Z,_,Z,Z,_,Z,?_⟩⟩;by_cases h1:h3= -1
    .refine Bj (by rw[h1]) ⟨_,Z,w,_,_,.str nm,Z,Z,AL.of hw,Z,_,Z,Z,_,Z,?_⟩;by_cases h2:nm=h0
     .refine Bj (by rw[h2]) ⟨_,Z,_,Z,w,_,_,2,Z,Z,hw,Z,?_⟩;have eg:CQ h0 no ⟨Y,nm,h3⟩=⟨Y,nm,no⟩:=by delta CQ;rw[AG ⟨Z,h1,h2⟩]
      rw[eg] at kn;exact kn
     .refine Bi (by intro z;exact h2 (V.str.inj z)) (same ?_);delta CQ;rw[AF (λz=>h2 z.2.2)]
    .refine Bi (by intro z;exact h1 (V.int.inj z)) (BV (same ?_));delta CQ;rw[AF (λz=>h1 z.2.1)]
  .rintro S H' ⟨v3,v4,rfl⟩ h6;exact q H' ⟨an,h8,tx,h6⟩
def Sx:A3 ["_law_nook","_law_number","_law_name","_law_other","_law_one","_law_word"] ["_law_nook","_law_number","_law_name","_law_other"] (Aq Ni):=by left
def Wo(F:Ak K "_law_turned" "_law_turned" Ni f fd)(O:Own mg):AX P w K mg base Ai 1 f fd ["_law_nook","_law_number","_law_name","_law_other"] Sv:=by
 refine F.ok Sx ?_ ?_
 .rintro _ _ _ _ ⟨_,_,_,_,_,_,rfl,_⟩;rfl
 .rintro _ A _ s H _ Q E hr ⟨a,no,h2,h0,H0,n,rfl,⟨an,h7,tx,nk⟩,h6,q⟩;have h4:=CZ hr;refine⟨_,(AR (DC C8 Z (EX (E3 (JY Z) Z O.lst F1 (AE (By h4 (pv 0)) AJ))) (Bg (i:=4) Sx.nd Z (AY Z))
   (AR (DC C8 Z (EX (DB h4 (By h4 (pv 0)) (pv 4) (λ_ _=>rfl))) (Bg (i:=5) Sx.nd Z (AY Z))
   (AR (Ay (PW.pt (FY (As BQ (ED (pv 5)) Ab (Am _)) (HV (As BQ (ED (pv 5)) (pv 1) (Am _)))))
   (AU (T6 (pv 2) (Tz (pv 5) Aa set_list)) (AR (T6 (pv 3) (Tz (pv 5) Aa set_list))))
   BC)))))),?_⟩;refine Xl (λS=>∃v4 v5,S=[U (.ref a),U (.int no),U (.str h2),U (.int h0),v4,v5]) (CS no h2 h0) (dZ no h2 h0) ⟨J,J,Z⟩ ?_ ?_ ?_ (by decide) nk h6.CF ?_ ?_
  .rintro S ⟨v3,v4,rfl⟩;exact⟨Z,by show 4<6;decide⟩
  .rintro S v ⟨v3,v4,rfl⟩;exact⟨_,_,Z⟩
  .rintro S v ⟨v3,v4,rfl⟩;exact⟨_,_,Z⟩
  .rintro _ H' D' w wd ⟨v3,v4,rfl⟩ hw kn;obtain⟨to,nm,h3⟩:=wd;have same:CS no h2 h0 ⟨to,nm,h3⟩=⟨to,nm,h3⟩->D'.nx [U (.ref a),U (.int no),U (.str h2),U (.int h0),v3,U (.ref w)] H':=λe=>by rw[e,ZU hw] at kn;exact kn
   cases to with
   |false=>refine⟨_,Z,w,_,_,.str "word",Z,Z,AL.of hw,Z,Z,_,Z,Bi (by intro z;exact absurd (V.str.inj z) (by left)) (BV (same ?_))⟩;delta CS;rw[AF (by simp)]
   |true=>
    refine⟨_,Z,w,_,_,.str "to",Z,Z,AL.of hw,Z,Z,_,Z,Bj Z ⟨_,Z,w,_,_,.int h3,Z,Z,AL.of hw,Z,_,Z,Z,_,Z,?_⟩⟩;by_cases h1:h3=no
    .refine Bj (by rw[h1]) ⟨_,Z,_,Z,w,_,_,1,Z,Z,hw,Z,_,Z,_,Z,w,_,_,2,Z,Z,AN,Z,?_⟩;have eg:CS no h2 h0 ⟨Y,nm,h3⟩=⟨Y,h2,h0⟩:=by delta CS;rw[AG ⟨Z,h1⟩]
     rw[eg] at kn;rw[Jg];exact kn
    .refine Bi (by intro z;exact h1 (V.int.inj z)) (same ?_);delta CS;rw[AF (λz=>h1 z.2)]
  .rintro S H' ⟨v3,v4,rfl⟩ h5;exact q H' ⟨an,h7,tx,h5⟩
def N0:A3 ["_law_nook","_law_number","_law_many","_law_one","_law_word"] ["_law_nook","_law_number"] (Aq OH):=by left
noncomputable def upTo(n:Nk)(p q:Nat):List Wd:=(n.texts.take p).flatMap (·.2)++(((n.texts[p]?).map (·.2)).getD []).take q
def ZD(F:Ak K "_law_led" "_law_led" OH f fd)(O:Own mg):AX P w K mg base Ai 1 f fd ["_law_nook","_law_number"] UI:=by
 refine F.ok N0 ?_ ?_
 .rintro _ _ _ _ ⟨_,_,_,_,rfl,_⟩;rfl
 .rintro _ A _ s H _ Q E hr ⟨a,no,H0,n,rfl,⟨an,at_,tx,nk⟩,h7,q⟩;have h5:=CZ hr;refine⟨_,(AU (Ax (i:=2) N0.nd Z (AY Z) Aa) (AU (DC C8 Z (EX (E3 (JY Z) Z O.lst F1 (AE (By h5 (pv 0)) AJ))) (Bg (i:=3) N0.nd Z (AY Z))
   (AR (DC C8 Z (EX (DB h5 (By h5 (pv 0)) (pv 3) (λ_ _=>rfl))) (Bg (i:=4) N0.nd Z (AY Z))
   (AR (Ax (i:=2) N0.nd Z (AY Z) (Al DJ (pv 2) (E3 NG Z O.int L6 (AE (P7 (IB BQ (ED (pv 4)) Ab (Am _)) (QC (IB BQ (ED (pv 4)) (pv 1) (Am _)))) AJ)))))))) (AR (An (pv 2))))),?_⟩;have h0:∀{p t},tx[p]? =U t->∃pp,n.texts[p]? =U pp:=λ{p t} e=>by
   have hp:p<n.texts.length:=by rw[<-nk.len];exact(BP.mp e).1
   exact⟨_,Ar hp⟩
  refine WG (a:=a) (at_:=at_) (A:=Fp an at_ n.made) (tx:=tx) (λL p q S H'=>∃(v3 v4:Option V),S=[U (.ref a),U (.int no),U (.int ((upTo n p q).countP (Em no):Nat)),v3,v4]/\AM H H'/\H' L=U (.lst (tx.map λt=>V.int t.1))) Z nk.ha NU nk.ht
   (λL hL=>⟨J,J,Z,Ag hL,AN⟩) ?_ (by decide) ?_ ?_ ?_ ?_
  .rintro L p q S H' ⟨v3,v4,rfl,sm,hL⟩;have h3:=nk.ext sm;refine⟨⟨h3.ha,NU,h3.ht,hL,λt ht=>?_,by rw[nk.keys];exact h7.CF⟩,Z,by show 3<5;decide⟩;obtain⟨i,h6,e⟩:=GY.mp ht;have e1:tx[i]? =U t:=by rw[Ar h6,e]
   obtain⟨pp,ep⟩:=h0 e1;exact(h3.EY i t pp e1 ep).2.1
  .rintro L p t q w S H' D' et ew ⟨v3,v4,rfl,sm,hL⟩ kn;obtain⟨pp,ep⟩:=h0 et;have h3:=nk.ext sm;have hq:q<pp.2.length:=by rw[<-(nk.EY p t pp et ep).2.2.1];exact(BP.mp ew).1
   have ed:pp.2[q]? =U pp.2[q]:=Ar hq;have hw:=(h3.EY p t pp et ep).2.2.2 q w _ ew ed;generalize pp.2[q]=wd at ed hw;have eu:upTo n p (q+1)=upTo n p q++[wd]:=by delta upTo;rw[ep];show _++pp.2.take (q+1)=(_++pp.2.take q)++[wd];rw[Cf,ed,Bt];rfl
   have h4:D'.nx [U (.ref a),U (.int no),U (.int (((upTo n p q).countP (Em no):Nat)+(if Em no wd=Y then 1 else 0))),v3,U (.ref w)] H':=by
    have h1:=kn [U (.ref a),U (.int no),U (.int ((upTo n p (q+1)).countP (Em no):Nat)),v3,U (.ref w)] H' ⟨_,_,Z,sm,hL⟩;rw[eu,List.countP_append,List.countP_singleton] at h1;have e2:(((upTo n p q).countP (Em no)+(if Em no wd=Y then 1 else 0):Nat):Int)=((upTo n p q).countP (Em no):Nat)+(if Em no wd=Y then 1 else 0):=by cases Em no wd<;>rfl
    rw[e2] at h1;exact h1
   obtain⟨to,nm,h2⟩:=wd
   cases to with
   |false=>refine⟨_,Z,_,Z,w,_,_,.str "word",Z,Z,AL.of hw,Z,Z,_,Z,Bi (by intro z;exact absurd (V.str.inj z) (by left)) (.inr ⟨_,Z,_,_,Z,Z,h4⟩)⟩
   |true=>
    refine⟨_,Z,_,Z,w,_,_,.str "to",Z,Z,AL.of hw,Z,Z,_,Z,Bj Z ⟨_,Z,w,_,_,.int h2,Z,Z,AL.of hw,Z,_,Z,Z,.inr ⟨_,Z,_,_,Z,Z,?_⟩⟩⟩;have e3:Em no ⟨Y,nm,h2⟩=decide (V.int h2=V.int no):=by
     show(Y&&decide (h2=no))=_;rw[Bool.true_and];by_cases h:h2=no
     .rw[h];simp
     .rw[BG h,BG (λz=>h (V.int.inj z))]
    rw[e3] at h4;exact h4
  .rintro L p t S H' et ⟨v3,v4,rfl,sm,hL⟩;exact⟨_,_,Z,sm,hL⟩
  .rintro L p t S H' et ⟨v3,v4,rfl,sm,hL⟩;obtain⟨pp,ep⟩:=h0 et;have eu:upTo n p t.2.2.length=upTo n (p+1) 0:=by delta upTo;rw[ep,Cf,ep,(nk.EY p t pp et ep).2.2.1,KL,CW];show _++pp.2.take pp.2.length=(_++[pp]).flatMap _;rw[CH,Vm];show _++pp.2=_++(pp.2++[]);rw[CW]
   rw[eu];exact⟨_,_,Z,sm,hL⟩
  .rintro L S H' ⟨v3,v4,rfl,sm,hL⟩;have eu:upTo n tx.length 0=n.flat:=by delta upTo Nk.flat;rw[nk.len,CH,KL,CW]
   rw[eu];exact⟨_,Z,q H' sm⟩
theorem fE:CD X (sZ .Gt) (λx y H Q=>∃i j,x=.str i/\y=.str j/\Q (.bl (decide (j.cps.toList<i.cps.toList))) H):=by intro h0 s S H x y v u Q I rx ry h;obtain⟨i,j,rfl,rfl,q⟩:=h;obtain⟨t,rfl⟩:=rx;obtain⟨t',rfl⟩:=ry;exact P.gt_str (CJ I q Z)
noncomputable def Dw(c:Nat):Bool:=decide (([c]:List Nat)<("a" :Str).cps.toList)||decide (("z" :Str).cps.toList<([c]:List Nat))
def Co(z:Str):Bool:=(!decide (z=""))&&(z.cps.toList.filter Dw).isEmpty
def Ss:Sp:=λvs H Q _=>∃z:Str,vs=[.str z]/\z.length<=100000/\∀H',AM H H'->Q (.bl (Co z)) H'
def Nk.added(n:Nk)(name:Str):Nk:=({n with made:=n.made+1,texts:=AW n.texts n.made []}:Nk).named name n.made
def YW:Sp:=λvs H Q _=>∃(a:OK)(h0:Str)(H0:Hp)(n:Nk),vs=[.ref a,.str h0]/\CC H0 H a n/\Fits n/\n.texts.length<1000/\AH n.texts n.made=J/\∀H',CC H0 H' a (n.added h0)->Q (.int n.made) H'
theorem NV{α β:Type}[DecidableEq α]{k:α}:∀{l:List (α×β)},AH l k=J->k∉l.map (·.1)
 |[],_=>by simp
 |p::l,h=>by
  delta AH at h;rw[C9] at h;by_cases e:p.1=k
  .rw[Bc e] at h;cases h
  .rw[BG e] at h;have:=NV (l:=l) (k:=k) h;rw[Au,BM];rintro(z|z)
   .exact e z.symm
   .exact this z
def Hz{α:Type}[DecidableEq α]{k:α}{v:β}{l:List (α×β)}(h:AH l k=J):AW l k v=l++[(k,v)]:=by delta AW;rw[AF];intro z;obtain⟨p,hp,e⟩:=HH.mp z;exact NV h (Aw.mpr ⟨p,hp,HF e⟩)
def Fits.qU{n:Nk}{k:Int}(h:Fits n)(hk:AH n.texts k=J)(hl:n.texts.length<1000):Fits {n with made:=m,texts:=AW n.texts k []}:=by
 refine⟨h.CO,?_,h.names,?_,λp hp=>?_⟩
 .show((AW n.texts k []).map (·.1)).Nodup;rw[Hz hk,BL,Oy];refine⟨h.CF,by simp,λx hx y hy z=>?_⟩;have:y=k:=by simpa using hy
  rw[this] at z;rw[z] at hx;exact NV hk hx
 .show(AW n.texts k []).length<=1000;rw[Hz hk,A9,Ey]
  lia
 .have h0:p∈AW n.texts k []:=hp;rw[Hz hk] at h0;rcases Be.mp h0 with z|z
  .exact h.words p z
  .rw[BW.mp z];exact CB _
def Yo:A3 ["_law_nook","_law_name","_law_number"] ["_law_nook","_law_name"] (Aq UC):=by left
def ip{fNa:OK}{fdNa:sj}(F:Ak K "_law_added" "_law_added" UC f fd)(O:Own mg)
 (FNa:Ak K "_law_named" "_law_named" Nt fNa fdNa)(bNa:Binds K fdNa ["_law_nook","_law_name","_law_number"] [])(mNa:mg "_law_named" =U (.ref fNa)):AX P w K mg base Ai 2 f fd ["_law_nook","_law_name"] YW:=by
 have e4:AX P w K mg base Ai 1 fNa fdNa ["_law_nook","_law_name","_law_number"] TC:=XT FNa O;refine F.ok Yo ?_ ?_
 .rintro _ _ _ _ ⟨_,_,_,_,rfl,_⟩;rfl
 .rintro _ A _ s H _ Q E hr ⟨a,h2,H0,n,rfl,⟨an,h4,tx,nk⟩,e3,e1,h3,q⟩;have h0:=CZ hr;refine⟨_,(AU (Ax (i:=2) Yo.nd Z (AY Z) (By h0 (pv 0))) (AU (Eh h0 (pv 0) Ab (Al DJ (pv 2) Aa) Z) (AU (Eh h0 (By h0 (pv 0)) (pv 2) (CY AJ) Z) (AU (Bq (Cs e4 hr Z mNa FNa.kp bNa .nil BF (AE (pv 0) (AE (pv 1) (AE (pv 2) AJ))))) (AR (An (pv 2))))))),?_⟩;have h7:=DO.kq (k:=.inr "made") (v:=.int (n.made+1)) nk.ha (by show 3<sizeLine;decide);rw[nE] at h7;refine⟨_,Z,a,_,Z,gW nk.ha,_,Z,_,_,Z,Z,_,Z,a,_,Z,h7,?_⟩;have h5:=nk.bE (n.made+1);generalize upd H a (.dK (Fp an h4 (n.made+1)))=H1 at h5;refine⟨by exact zy,λl hl=>?_⟩;have h1:=h5.ext (Ag (o:=.lst []) hl);have e0:(CU tx).length<sizeLine:=by
   show(tx.map _).length<_;rw[AI,nk.len,BA]
   lia
  have h6:=DO.kq (k:=.inl n.made) (v:=.ref l) h1.ht e0;have e2:putK (CU tx) (.inl n.made) (.ref l)=CU (AW tx n.made (l,[])):=Ii (g:=λp:OK×List OK=>V.ref p.1) Ei n.made (l,[]) tx;rw[e2] at h6;refine⟨_,Z,a,_,Z,Fv h1.ha,_,Z,h4,_,Z,h6,?_⟩;have h8:=h1.OG n.made (l:=l) (ws:=[]) (Cb:=[]) AN Z (λj w wd e=>by simp at e) (λw hw=>by cases hw);exact⟨_,Z,_,Z,_,Z,a,h2,n.made,H0,_,Z,⟨an,h4,_,h8⟩,e3.qU h3 e1,λH' h9=>⟨_,Z,q H' h9⟩⟩
def ja:A3 ["_law_text"] ["_law_text"] (Aq Nh):=by left
def W6(F:Ak K "_law_is_name" "_law_is_name" Nh f fd):AX P w K mg base Ai 1 f fd ["_law_text"] Ss:=by
 refine F.ok ja ?_ ?_
 .rintro _ _ _ _ ⟨_,rfl,_⟩;rfl
 .rintro _ A _ s H _ Q E hr ⟨x,rfl,hx,k⟩;have hu:=hr.Tv;refine⟨_,(AR (An (P7 (IB Gp (pv 0) Ab (Am _)) (QC (IB (rC hu) (E6 (ts:=["_law_sign"]) (cap:=[]) (ix:=[]) (JZ Z Z (by left) (by left)) (ZS (pv 0)) (λ_ _ _ _ _=>Bg (i:=0) LB Z (AY Z) (Cn Z)) (λ_ _ _ _ _=>(Ls (PW.pt (Iw (As gK (pv 0) Ab (Am _)) (Io (As fE (pv 0) Ab (Am _))))))) (λ_ _ _ _ _=>(pv 0))) (CY AJ) (Am _)))))),?_⟩;refine⟨_,Z,Z,_,Z,?_⟩;by_cases e:x=""
  .refine El (by rw[e]) ?_;have:Co x=vc:=by delta Co;rw[Bc e];rfl
   have q:=k H (AM.refl H);rw[this] at q;exact q
  .refine Hb (λz=>e (V.str.inj z)) ?_;have en:Co x=(x.cps.toList.filter Dw).isEmpty:=by delta Co;rw[BG e];rfl
   have el:x.cps.toList.length<=100000:=by simpa[Str.length] using hx
   refine⟨_,Z,x,Z,λD hD=>Xh (λi H'=>AM H H'/\H' D=U (.lst (((x.cps.toList.take i).filter Dw).map λc=>V.str ⟨#[c]⟩))) ⟨Ag hD,AN⟩ ?_ ?_⟩
   .rintro i c H' hc ⟨sm,h0⟩;have h3:i<x.cps.toList.length:=(BP.mp hc).1;have et:x.cps.toList.take (i+1)=x.cps.toList.take i++[c]:=by rw[Cf,hc];rfl
    have put:Dw c=Y->∃ys,H' D=U (.lst ys)/\ys.length<sizeLine/\AM H (upd H' D (.lst (ys++[V.str ⟨#[c]⟩])))/\(upd H' D (.lst (ys++[V.str ⟨#[c]⟩]))) D=U (.lst (((x.cps.toList.take (i+1)).filter Dw).map λc=>V.str ⟨#[c]⟩)):=λhb=>by
     refine⟨_,h0,?_,sm.upd hD,?_⟩
     .have:=Ee Dw (x.cps.toList.take i);rw[Bk] at this;rw[AI,BA]
      lia
     .rw[AN,et,Mt,BL];have:[c].filter Dw=[c]:=by simp[hb]
      rw[this];rfl
    have skip:Dw c=vc->AM H H'/\H' D=U (.lst (((x.cps.toList.take (i+1)).filter Dw).map λc=>V.str ⟨#[c]⟩)):=λhb=>by
     refine⟨sm,?_⟩;rw[h0,et,Mt];have:[c].filter Dw=[]:=by simp[hb]
     rw[this,CW]
    refine⟨Ff,_,Z,_,_,Z,Z,_,Z,?_⟩;by_cases h1:([c]:List Nat)<("a" :Str).cps.toList
    .exact Bj h1 (Bs ⟨_,Z,put (by delta Dw;rw[Bc h1];rfl)⟩)
    .refine Bi h1 ⟨_,Z,_,_,Z,Z,_,Z,?_⟩;by_cases h2:("z" :Str).cps.toList<([c]:List Nat)
     .exact Bj h2 ⟨_,Z,put (by delta Dw;rw[Bc h2,Bool.or_true])⟩
     .exact Bi h2 (skip (by delta Dw;rw[BG h1,BG h2];rfl))
   .rintro H' ⟨sm,h0⟩;rw[CH] at h0;refine⟨by exact zy,λq hq=>⟨D,q,_,Z,Z,AL.of ((Ag hq) _ _ h0),AL.of AN,?_⟩⟩;have h1:=k _ (sm.trans (Ag (o:=.lst []) hq));have h2:((x.cps.toList.filter Dw).map λc=>V.str ⟨#[c]⟩).isEmpty=(x.cps.toList.filter Dw).isEmpty:=by cases x.cps.toList.filter Dw<;>rfl
    rw[h2,<-en];exact h1
def gj{c:TT}{t u:TS}{D:Ends}(G:Hp->Prop)(hG:∀H2,G H2->u D S H2)(h:(∀H2,G H2->u D S H2)->Hf c t u D S H):Hf c t u D S H:=h hG
def gk(t p:Str)(h:p∈Txt.split t " "):p.length<=t.length:=by
 have hw:=M9 t " " (by decide);have h2:p.length<=((Txt.split t " ").map (·.length)).sum:=by
  generalize Txt.split t " " =L at h
  induction L with
  |nil=>cases h
  |cons a r ih=>
   rw[Au,Bn];rcases BM.mp h with e|e
   .subst e;lia
   .have:=ih e;lia
 have h3:1<=(Txt.split t " ").length:=Of h
 lia
noncomputable def inner(p:Str):Str:=Txt.slice p (U 1) (U (-1))
def IG(p:Str):Bool:=decide (V.str (Txt.slice p J (U 1))=V.str "[")&&(decide (V.str (Txt.slice p (U (-1)) J)=V.str "]")&&Co (inner p))
def EC(names:List (Str×Int))(p:Str):Option Wd:=if IG p=Y then U ⟨Y,inner p,(AH names (inner p)).getD (-1)⟩ else if p="" then J else U ⟨vc,p,-1⟩
def F5(names:List (Str×Int))(z:Str):List Wd:=(Txt.split z " ").filterMap (EC names)
structure IU(H H':Hp)(ws:List OK)(Cb:List Wd):Prop where
 len:ws.length=Cb.length
 at_:∀(j:Nat) w wd,ws[j]? =U w->Cb[j]? =U wd->H' w=U (.lst wd.vq)
 new:∀w∈ws,H w=J
def WE:Sp:=λvs H Q _=>∃(a:OK)(z:Str)(H0:Hp)(n:Nk),vs=[.ref a,.str z]/\CC H0 H a n/\z.length<=1000/\
 ∀(L:OK)(ws:List OK)(H':Hp),AM H H'->H L=J->H' L=U (.lst (ws.map V.ref))->IU H H' ws (F5 n.names z)->Q (.ref L) H'
def IU.snoc{ws:List OK}{Cb:List Wd}{w:OK}{wd:Wd}{o:HO}(h:IU H H2 ws Cb)(hw:H2 w=J)(hn:H w=J)(hL:H2 L=U (.lst (ws.map V.ref))):IU H (upd (upd H2 w (.lst wd.vq)) L o) (ws++[w]) (Cb++[wd]):=by
 have h0:w≠L:=(A8 hL hw).symm;refine⟨by rw[A9,A9,h.len];rfl,λj x xd h1 h2=>?_,λx hx=>?_⟩
 .by_cases hj:j<ws.length
  .rw[DH hj] at h1;rw[DH (by rw[<-h.len];exact hj)] at h2;have:=h.at_ j x xd h1 h2;rw[AO (CN this hL (by intro z;exact Wy _ xd (HO.lst.inj z).symm)),AO (A8 this hw)];exact this
  .have h3:j<(ws++[w]).length:=(BP.mp h1).1;rw[A9,Ey] at h3;obtain rfl:j=ws.length:=by lia
   rw[C6 (Ac _),FQ] at h1;rw[C6 (by rw[h.len];exact Ac _),h.len,FQ] at h2;cases AZ h1;cases AZ h2;rw[AO h0,AN]
 .rcases Be.mp hx with z|z
  .exact h.new x z
  .rw[BW.mp z];exact hn
def IU.ext{H3:Hp}{ws:List OK}{Cb:List Wd}(h:IU H H2 ws Cb)(s:AM H2 H3):IU H H3 ws Cb:=⟨h.len,λj w wd h1 h2=>s _ _ (h.at_ j w wd h1 h2),h.new⟩
def SK:A3 ["_law_nook","_law_text","_law_words","_law_one"] ["_law_nook","_law_text"] (Aq SS):=by left
def dJ{fIs:OK}{fdIs:sj}(F:Ak K "_law_penned_in" "_law_penned_in" SS f fd)(FIs:Ak K "_law_is_name" "_law_is_name" Nh fIs fdIs)(bIs:Binds K fdIs ["_law_text"] [])(mIs:mg "_law_is_name" =U (.ref fIs)):
 AX P w K mg base Ai 2 f fd ["_law_nook","_law_text"] WE:=by
 have e8:AX P w K mg base Ai 1 fIs fdIs ["_law_text"] Ss:=W6 FIs;refine F.ok SK ?_ ?_
 .rintro _ _ _ _ ⟨_,_,_,_,rfl,_⟩;rfl
 .rintro _ A _ s H _ Q E hr ⟨a,z,H0,n,rfl,⟨an,s1,tx,nk⟩,hz,q⟩;have e2:=CZ hr;refine⟨_,(AU (Ax (i:=2) SK.nd Z (AY Z) (CY AJ)) (AU (DC C8 Z (EX (Ea Ml vQ vR Xr (pv 1) (AE Ab AJ))) (Bg (i:=3) SK.nd Z (AY Z))
   (AR (Ay (PW.pt (FY (As BQ (F0 Kh (pv 3) Lu (DY Aa)) Ab (Am _)) (FY (As BQ (F0 Kh (pv 3) (DY (Du Dr Aa)) Lu) Ab (Am _)) (HV (Ej (Cs e8 hr Z mIs FIs.kp bIs .nil BF (AE (F0 Kh (pv 3) (DY Aa) (DY (Du Dr Aa))) AJ)))))))
   (AR (Bq (Ea D4 Ew Eu EM (pv 2) (AE (CY (AE Ab (AE (F0 Kh (pv 3) (DY Aa) (DY (Du Dr Aa))) (AE (i8 e2 (By e2 (pv 0)) (F0 Kh (pv 3) (DY Aa) (DY (Du Dr Aa))) (Du Dr Aa) ⟨Z,Z,Z,Z⟩) AJ)))) AJ))))
   (AR (Ay (As Gp (pv 3) Ab (Am _))
   (AR (Bq (Ea D4 Ew Eu EM (pv 2) (AE (CY (AE Ab (AE (pv 3) (AE (Du Dr Aa) AJ)))) AJ))))
   BC))))) (AR (An (pv 2))))),?_⟩;have e9:(Txt.split z " ").length<=1001:=by
   have:=M9 z " " (by decide)
   lia
  refine⟨by exact zy,λL hL=>⟨_,Z,Z,z,_,Z,Z,by left,by rw[BA];lia,λD0 e5=>?_⟩⟩;have h9:L≠D0:=A8 AN e5;have h8:H D0=J:=(Ag hL).free e5;refine⟨D0,Z,⟨_,AL.of AN⟩,?_⟩;refine HN (K:=[]) (a:=D0) (xs:=(Txt.split z " ").map V.str) (λi S H'=>∃(ws:List OK)(v3:Option V),S=[U (.ref a),U (.str z),U (.ref L),v3]/\AM H H'/\H' D0=U (.lst ((Txt.split z " ").map V.str))/\H' L=U (.lst (ws.map V.ref))/\IU H H' ws (((Txt.split z " ").take i).filterMap (EC n.names))/\ws.length<=i)
   ⟨[],J,Z,((AM.refl H).upd hL).upd h8,AN,by rw[AO h9];exact AN,⟨Z,λj w wd e=>by simp at e,λw hw=>by cases hw⟩,Ac _⟩ (λi S H' _ ⟨_,_,_,_,h,_⟩=>AL.of h) ?_ ?_
  .rintro i x S H' hx ⟨ws,v3,rfl,sm,h5,h0,pw,wl⟩;rw[A1] at hx
   cases ep:(Txt.split z " ")[i]?with
   |none=>rw[ep] at hx;cases hx
   |some pc=>
   rw[ep] at hx;obtain rfl:V.str pc=x:=AZ hx;have hi:i<(Txt.split z " ").length:=(BP.mp ep).1;have s0:=gk z pc (Bv ep);have h4:pc.length<=sizeLine:=by rw[BA];lia
   have li:(inner pc).length<=100000:=by have:=PF pc (U 1) (U (-1));delta inner;lia
   have e7:((Txt.split z " ").take (i+1)).filterMap (EC n.names)=((Txt.split z " ").take i).filterMap (EC n.names)++(EC n.names pc).toList:=by rw[Cf,ep,RG];show _++[pc].filterMap _=_;cases e:EC n.names pc<;>simp[e]
   have e4:(ws.map V.ref).length<sizeLine:=by rw[AI,BA];lia
   have e6:∀(wd:Wd)(es:List V)(H2:Hp)(w:OK),EC n.names pc=U wd->es=wd.vq->AM H' H2->H2 w=J->∃(h6:List OK)(v3:Option V),([U (V.ref a),U (.str z),U (.ref L),U (.str pc)]:St)=[U (.ref a),U (.str z),U (.ref L),v3]/\AM H (upd (upd H2 w (.lst es)) L (.lst (ws.map V.ref++[V.ref w])))/\
    (upd (upd H2 w (.lst es)) L (.lst (ws.map V.ref++[V.ref w]))) D0=U (.lst ((Txt.split z " ").map V.str))/\(upd (upd H2 w (.lst es)) L (.lst (ws.map V.ref++[V.ref w]))) L=U (.lst (h6.map V.ref))/\
    IU H (upd (upd H2 w (.lst es)) L (.lst (ws.map V.ref++[V.ref w]))) h6 (((Txt.split z " ").take (i+1)).filterMap (EC n.names))/\h6.length<=i+1:=by
    rintro wd es H2 w e rfl s2 hw;have e1:H w=J:=(sm.trans s2).free hw;refine⟨ws++[w],_,Z,((sm.trans s2).upd e1).upd hL,?_,by rw[AN,BL];rfl,?_,by rw[A9,Ey];lia⟩
    .rw[AO h9.symm,AO (A8 (s2 _ _ h5) hw)];exact s2 _ _ h5
    .rw[e7,e];exact(pw.ext s2).snoc hw e1 (s2 _ _ h0)
   refine gj (λH2=>AM H' H2/\IG pc=vc) ?_ ?_
   .rintro H2 ⟨s2,e3⟩;refine⟨_,Z,Z,_,Z,?_⟩;by_cases e0:pc=""
    .refine El (by rw[e0]) ?_;have er:EC n.names pc=J:=by delta EC;rw[e3,AF (by decide),AG e0]
     exact⟨ws,_,Z,sm.trans s2,s2 _ _ h5,s2 _ _ h0,by rw[e7,er];show IU _ _ _ (_++[]);rw[CW];exact pw.ext s2,by lia⟩
    .refine Hb (λz=>e0 (V.str.inj z)) ⟨_,Z,.inl ⟨Z,_,AL.of (s2 _ _ h0)⟩,_,Z,_,Z,by exact zv,λw hw=>⟨L,_,.ref w,Z,Z,(Ag hw) _ _ (s2 _ _ h0),e4,?_⟩⟩;have er:EC n.names pc=U ⟨vc,pc,-1⟩:=by delta EC;rw[e3,AF (by decide),AF e0]
     exact e6 _ _ H2 w er Z s2 hw
   .intro hG;refine⟨_,Z,_,Z,pc,Z,h4,Z,_,Z,?_⟩;by_cases h1:V.str (Txt.slice pc J (U 1))=V.str "["
    .refine Bj h1 ⟨_,Z,_,Z,_,Z,pc,Z,h4,Z,_,Z,?_⟩;by_cases h2:V.str (Txt.slice pc (U (-1)) J)=V.str "]"
     .refine Bj h2 ⟨_,Z,_,Z,_,Z,_,Z,pc,Z,h4,inner pc,Z,li,λH2 s2=>⟨_,Z,?_⟩⟩
      cases h3:Co (inner pc) with
      |false=>exact BV (hG H2 ⟨s2,by delta IG;rw[h3,LS,LS]⟩)
      |true=>
       have hp:IG pc=Y:=by delta IG;rw[h3,Bc h1,Bc h2];rfl
       have h7:=nk.ext (sm.trans s2);have dg:=BN.kq (k:=.inr (inner pc)) h7.hn;rw[D6 EN] at dg;refine Bs ⟨_,Z,.inl ⟨Z,_,AL.of (s2 _ _ h0)⟩,_,Z,_,Z,_,Z,_,Z,pc,Z,h4,_,Z,a,_,Z,Dl h7.ha,an,Z,.inl ⟨_,.inl h7.hn⟩,_,Z,_,Z,_,Z,_,Z,pc,Z,h4,_,Z,_,dg,by exact zv,λw hw=>⟨L,_,.ref w,Z,Z,(Ag hw) _ _ (s2 _ _ h0),e4,?_⟩⟩;have er:EC n.names pc=U ⟨Y,inner pc,(AH n.names (inner pc)).getD (-1)⟩:=by delta EC;rw[AG hp]
       refine e6 _ _ H2 w er ?_ s2 hw;show[V.str "to",V.str (inner pc),((AH n.names (inner pc)).map V.int).getD (V.int (-1))]=[V.str "to",V.str (inner pc),V.int ((AH n.names (inner pc)).getD (-1))];cases AH n.names (inner pc)<;>rfl
     .exact Bi h2 (BV (hG _ ⟨AM.refl _,by delta IG;rw[BG h2,M7,LS]⟩))
    .exact Bi h1 (BV (hG _ ⟨AM.refl _,by delta IG;rw[BG h1,M7]⟩))
  .rintro S H' ⟨ws,v3,rfl,sm,h5,h0,pw,wl⟩;rw[AI,CH] at pw;exact⟨_,Z,q L ws H' sm hL h0 pw⟩
noncomputable def nameOf(names:List (Str×Int))(no:Int):Str:=((names.find? λp=>decide (p.2=no)).map (·.1)).getD ""
def shown(names:List (Str×Int))(w:Wd):Str:=if w.to=Y then(if w.no= -1 then "[" ++w.nm++ "]" else "[" ++nameOf names w.no++ "]") else w.nm
def XS:Sp:=λvs H Q _=>∃(a:OK)(no:Int)(H0:Hp)(n:Nk),vs=[.ref a,.int no]/\CC H0 H a n/\Fits n/\∀H',AM H H'->Q (.str (nameOf n.names no)) H'
def Td:Sp:=λvs H Q _=>∃(a w:OK)(wd:Wd)(H0:Hp)(n:Nk),vs=[.ref a,.ref w]/\CC H0 H a n/\Fits n/\H w=U (.lst wd.vq)/\wd.nm.length<=2000/\(∀p∈n.names,p.1.length<=2000)/\∀H',AM H H'->Q (.str (shown n.names wd)) H'
variable{names:List (Str×Int)}{no:Int}
def dc(h:∀p∈names,p.1.length<=2000):(nameOf names no).length<=2000:=by
 delta nameOf
 cases e:names.find? λp=>decide (p.2=no) with
 |none=>show("" :Str).length<=2000;decide+kernel
 |some p=>exact h p (RC e)
def XZ:A3 ["_law_nook","_law_number","_law_name"] ["_law_nook","_law_number"] (Aq Pt):=by left
def gD(F:Ak K "_law_name_of" "_law_name_of" Pt f fd)(O:Own mg):AX P w K mg base Ai 1 f fd ["_law_nook","_law_number"] XS:=by
 refine F.ok XZ ?_ ?_
 .rintro _ _ _ _ ⟨_,_,_,_,rfl,_⟩;rfl
 .rintro _ A _ s H _ Q E hr ⟨a,no,H0,n,rfl,⟨an,h6,tx,nk⟩,h5,q⟩;have h1:=CZ hr;refine⟨_,(AU (DC C8 Z (EX (E3 (JY Z) Z O.lst F1 (AE (By h1 (pv 0)) AJ))) (Bg (i:=2) XZ.nd Z (AY Z))
   (AR (Ay (As BQ (DB h1 (By h1 (pv 0)) (pv 2) (λ_ _=>rfl)) (pv 1) (Am _))
   (AR (An (pv 2)))
   BC))) (AR (An Ab))),?_⟩;refine⟨_,Z,a,_,Z,Dl nk.ha,an,_,Z,nk.hn,λL hL=>?_⟩;have ek:((Fs n.names).map λkv=>kV kv.1)=n.names.map λp=>V.str p.1:=by
   show(n.names.map _).map _=_;rw[Bf];rfl
  rw[ek];refine⟨L,Z,⟨_,AL.of AN⟩,?_⟩;refine HN (K:=[]) (a:=L) (xs:=n.names.map λp=>V.str p.1) (λi S H'=>∃v2:Option V,S=[U (.ref a),U (.int no),v2]/\AM (upd H L (.lst (n.names.map λp=>V.str p.1))) H'/\(n.names.take i).find? (λp=>decide (p.2=no))=J)
   ⟨J,Z,AM.refl _,Z⟩ (λi S H' _ ⟨_,_,sm,_⟩=>AL.of (sm _ _ AN)) ?_ ?_
  .rintro i x S H' hx ⟨v2,rfl,sm,h0⟩;rw[A1] at hx
   cases ep:n.names[i]?with
   |none=>rw[ep] at hx;cases hx
   |some p=>
   rw[ep] at hx;obtain rfl:V.str p.1=x:=AZ hx;have h2:=(Ag hL).trans sm;have h3:=nk.ext h2;have dg:=BN.kq (k:=.inr p.1) h3.hn;rw[D6 EN,Il h5.CO ep] at dg;refine⟨_,Z,a,_,Z,Dl h3.ha,_,Z,an,_,Z,dg,_,Z,Z,_,Z,?_⟩;have h4:n.names.take (i+1)=n.names.take i++[p]:=by rw[Cf,ep];rfl
   by_cases hp:p.2=no
   .refine Bj (by rw[hp]) ⟨_,Z,?_⟩;have en:nameOf n.names no=p.1:=by
     delta nameOf;have:n.names.find? (λp=>decide (p.2=no))=U p:=by
      conv=>lhs;rw[<-D5 (i+1) n.names]
      rw[h4,RZ,RZ,h0,List.find?_singleton,AG (Bc hp)];rfl
     rw[this];rfl
    have:=q H' h2;rw[en] at this;exact this
   .refine Bi (λz=>hp (V.int.inj z)) ⟨_,Z,sm,?_⟩;rw[h4,RZ,h0,List.find?_singleton,AF (by rw[BG hp];decide)];rfl
  .rintro S H' ⟨v2,rfl,sm,h0⟩;rw[AI,CH] at h0;have en:nameOf n.names no="" :=by delta nameOf;rw[h0];rfl
   have:=q H' ((Ag hL).trans sm);rw[en] at this;exact this
def j7:A3 ["_law_nook","_law_word"] ["_law_nook","_law_word"] (Aq Tq):=by left
def lE:("[" :Str).length=1/\("]" :Str).length=1:=by left
def jL{fNo:OK}{fdNo:sj}(F:Ak K "_law_shown" "_law_shown" Tq f fd)(O:Own mg)(FNo:Ak K "_law_name_of" "_law_name_of" Pt fNo fdNo)(bNo:Binds K fdNo ["_law_nook","_law_number"] [])(mNo:mg "_law_name_of" =U (.ref fNo)):
 AX P w K mg base Ai 2 f fd ["_law_nook","_law_word"] Td:=by
 have h4:AX P w K mg base Ai 1 fNo fdNo ["_law_nook","_law_number"] XS:=gD FNo O;refine F.ok j7 ?_ ?_
 .rintro _ _ _ _ ⟨_,_,_,_,_,rfl,_⟩;rfl
 .rintro _ A _ s H _ Q E hr ⟨a,w,wd,H0,n,rfl,nk,h3,hw,h1,h2,q⟩;refine⟨_,(AU (Ay (As BQ (ED (pv 1)) Ab (Am _))
   (AR (An (ED (pv 1))))
   BC) (AU (Ay (As BQ (ED (pv 1)) (Du Dr Aa) (Am _))
   (AR (An (Al Hx (Al Hx Ab (ED (pv 1))) Ab)))
   BC) (AR (An (Al Hx (Al Hx Ab (Cs h4 hr Z mNo FNo.kp bNo .nil BF (AE (pv 0) (AE (ED (pv 1)) AJ)))) Ab))))),?_⟩;obtain⟨b1,b2⟩:=lE;have h0:=dc (no:=wd.no) h2;obtain⟨to,nm,no⟩:=wd
  cases to with
  |false=>exact⟨_,Z,w,_,_,.str "word",Z,Z,AL.of hw,Z,Z,_,Z,Bj Z ⟨_,Z,w,_,_,.str nm,Z,Z,AL.of hw,Z,q H (AM.refl H)⟩⟩
  |true=>
   refine⟨_,Z,w,_,_,.str "to",Z,Z,AL.of hw,Z,Z,_,Z,Bi (by intro z;exact absurd (V.str.inj z) (by left)) ⟨_,Z,w,_,_,.int no,Z,Z,AL.of hw,Z,_,Z,Z,_,Z,?_⟩⟩;by_cases h:no= -1
   .refine Bj (by rw[h]) ⟨_,Z,w,_,_,.str nm,Z,Z,AL.of hw,Z,_,_,Z,Z,by rw[b1,BA];show 1+nm.length<=_;have:nm.length<=2000:=h1;lia,_,_,Z,Z,by rw[Ij,b1,b2,BA];have:nm.length<=2000:=h1;lia,?_⟩;have:=q H (AM.refl H);have es:shown n.names ⟨Y,nm,no⟩="[" ++nm++ "]" :=by delta shown;rw[AG Z,AG h]
    rw[es] at this;exact this
   .refine Bi (λz=>h (V.int.inj z)) ⟨_,Z,_,Z,w,_,_,.int no,Z,Z,AL.of hw,Z,a,no,H0,n,Z,nk,h3,λH' s'=>⟨_,_,Z,Z,by rw[b1,BA];have:(nameOf n.names no).length<=2000:=h0;lia,_,_,Z,Z,by rw[Ij,b1,b2,BA];have:(nameOf n.names no).length<=2000:=h0;lia,?_⟩⟩;have:=q H' s';have es:shown n.names ⟨Y,nm,no⟩="[" ++nameOf n.names no++ "]" :=by delta shown;rw[AG Z,AF h]
    rw[es] at this;exact this
theorem Tc{α β γ:Type}[DecidableEq α]{R:(α×β)->(α×γ)->Prop}(hR:∀t p,R t p->t.1=p.1)(k:α):∀(l:List (α×β))(m:List (α×γ)),l.length=m.length->(∀(i:Nat) t p,l[i]? =U t->m[i]? =U p->R t p)->
 (AQ l k).length=(AQ m k).length/\∀(i:Nat) t p,(AQ l k)[i]? =U t->(AQ m k)[i]? =U p->R t p
 |[],[],_,_=>⟨Z,λi t p e=>by simp[AQ] at e⟩
 |t0::l,p0::m,hl,h=>by
  have h0:=h 0 t0 p0 Z Z;obtain⟨e1,e2⟩:=Tc hR k l m (by simpa using hl) λi t p a b=>h (i+1) t p (by simpa using a) (by simpa using b);have ek:=hR _ _ h0;by_cases c:t0.1=k
  .have d1:AQ (t0::l) k=AQ l k:=by delta AQ;rw[FF];simp[c]
   have d2:AQ (p0::m) k=AQ m k:=by delta AQ;rw[FF];simp[<-ek,c]
   rw[d1,d2];exact⟨e1,e2⟩
  .have d1:AQ (t0::l) k=t0::AQ l k:=by delta AQ;rw[Ed];simp[c]
   have d2:AQ (p0::m) k=p0::AQ m k:=by delta AQ;rw[Ed];simp[<-ek,c]
   rw[d1,d2];refine⟨by rw[Bw,Bw,e1],λi t p a b=>?_⟩
   cases i with
   |zero=>
    have a':t0=t:=by simpa using a
    have b':p0=p:=by simpa using b
    rw[<-a',<-b'];exact h0
   |succ i=>exact e2 i t p (by simpa using a) (by simpa using b)
 |[],_::_,hl,_=>by cases hl
 |_::_,[],hl,_=>by cases hl
def Ca.QK{tx:List (Int×OK×List OK)}{n:Nk}(h:Ca H0 H a an at_ tx n)(k:Int):Ca H0 (upd H at_ (.dK (CU (AQ tx k)))) a an at_ (AQ tx k) {n with texts:=AQ n.texts k}:=by obtain⟨e1,e2⟩:=Tc (R:=Qh (upd H at_ (.dK (CU (AQ tx k))))) (λt p r=>r.1) k tx n.texts h.len (h.tab h.ht);exact⟨h.same.upd h.ft,by rw[AO h.ap.xz];exact h.ha,by rw[AO h.ap.yz];exact h.hn,AN,e1,e2,h.fa,h.fn,h.ft,λt ht=>h.fw t (Eg.mp ht).1,h.ap⟩
theorem Gi{α β:Type}[DecidableEq α]{k:α}{v:β}:∀{l:List (α×β)},AH l k=U v->∃i:Nat,l[i]? =U (k,v)
 |[],h=>by cases h
 |p::l,h=>by
  delta AH at h;rw[C9] at h;by_cases e:p.1=k
  .rw[Bc e] at h;have hv:p.2=v:=AZ h;exact⟨0,by rw[<-e,<-hv];rfl⟩
  .rw[BG e] at h;obtain⟨i,hi⟩:=Gi (l:=l) h;exact⟨i+1,by simpa using hi⟩
def Ca.find{tx:List (Int×OK×List OK)}{n:Nk}(h:Ca H0 H a an at_ tx n)(CF:(n.texts.map (·.1)).Nodup){k:Int}{Cb:List Wd}(hk:AH n.texts k=U Cb):
 ∃(l:OK)(ws:List OK),AH tx k=U (l,ws)/\H l=U (.lst (ws.map V.ref))/\ws.length=Cb.length/\(∀(j:Nat) w wd,ws[j]? =U w->Cb[j]? =U wd->H w=U (.lst wd.vq))/\∀w∈ws,H0 w=J:=by
 obtain⟨i,hi⟩:=Gi hk;have hl:i<tx.length:=by rw[h.len];exact(BP.mp hi).1
 have et:tx[i]? =U tx[i]:=Ar hl;generalize tx[i]=t at et;obtain⟨q1,q2,q3,q4⟩:=h.EY i t _ et hi;obtain⟨k',l,ws⟩:=t;have h0:k'=k:=q1;subst h0;exact⟨l,ws,Il (by rw[h.keys];exact CF) et,q2,q3,q4,h.fw _ (Bv et)⟩
theorem EL{α β:Type}[DecidableEq α]{k j:α}(hne:j≠k):∀l:List (α×β),AH (AQ l k) j=AH l j
 |[]=>rfl
 |p::l=>by
  have ih:=EL hne l;by_cases c:p.1=k
  .have d1:AQ (p::l) k=AQ l k:=by delta AQ;rw[FF];simp[c]
   rw[d1,ih];delta AH;rw[C9,BG (λz=>hne (z.symm.trans c))]
  .have d1:AQ (p::l) k=p::AQ l k:=by delta AQ;rw[Ed];simp[c]
   rw[d1];unfold AH at ih⊢;rw[C9,C9]
   cases decide (p.1=j) with
   |true=>rfl
   |false=>exact ih
def DQ{α:Type}[DecidableEq α]{k:α}{l:List (α×β)}(h:(l.map (·.1)).Nodup):((AQ l k).map (·.1)).Nodup:=by delta AQ;exact h.sublist (RL.map _)
def XM{α:Type}[DecidableEq α]{k:α}{v w:β}{l:List (α×β)}(h:AH l k=U w):(AW l k v).map (·.1)=l.map (·.1):=by
 delta AW;obtain⟨i,hi⟩:=Gi h;rw[AG (HH.mpr ⟨_,Bv hi,Bc Z⟩),Bf];refine EI λp _=>?_;show(if p.1=k then(p.1,v) else p).1=p.1;by_cases c:p.1=k
 .rw[AG c]
 .rw[AF c]
def Nk.joined(n:Nk)(no:Int)(other:Str)(gone:Int)(w1 w2:List Wd):Nk:=({n with names:=AQ n.names other,texts:=AW (AQ n.texts gone) no (w1++w2)}:Nk).turned gone "" no
def Xx:Sp:=λvs H Q _=>∃(a:OK)(no:Int)(h0:Str)(H0:Hp)(n:Nk)(h1:Int)(w1 w2:List Wd),vs=[.ref a,.int no,.str h0]/\CC H0 H a n/\Fits n/\AH n.names h0=U h1/\AH n.texts no=U w1/\AH n.texts h1=U w2/\no≠h1/\(w1++w2).length<=100000/\
 ∀H',CC H0 H' a (n.joined no h0 h1 w1 w2)->Q (.int ((n.joined no h0 h1 w1 w2).led no)) H'
theorem Fits.map{n:Nk}{g:Wd->Wd}(h:Fits n):Fits (n.I9 g):=by
 have ek:(n.I9 g).texts.map (·.1)=n.texts.map (·.1):=by show(n.texts.map _).map _=_;rw[Bf];rfl
 refine⟨h.CO,by rw[ek];exact h.CF,h.names,?_,λp hp=>?_⟩
 .show(n.texts.map _).length<=1000;rw[AI];exact h.texts
 .obtain⟨q,hq,e⟩:=Aw.mp (show p∈n.texts.map _ from hp);rw[<-e];show(q.2.map g).length<=_;rw[AI];exact h.words q hq
def Fits.join{n:Nk}{gone:Int}{other:Str}{w1 w2:List Wd}(h:Fits n)(h1:AH n.texts no=U w1)(hne:no≠gone)(hl:(w1++w2).length<=100000):Fits {n with names:=AQ n.names other,texts:=AW (AQ n.texts gone) no (w1++w2)}:=by
 have hg:AH (AQ n.texts gone) no=U w1:=by rw[EL hne];exact h1
 refine⟨DQ h.CO,?_,BI (Ee _ _) h.names,?_,λp hp=>?_⟩
 .show((AW (AQ n.texts gone) no (w1++w2)).map (·.1)).Nodup;rw[XM hg];exact DQ h.CF
 .show(AW (AQ n.texts gone) no (w1++w2)).length<=1000;have:=A2 List.length (XM (v:=w1++w2) hg);rw[AI,AI] at this;rw[this];exact BI (Ee _ _) h.texts
 .have h0:p∈AW (AQ n.texts gone) no (w1++w2):=hp;delta AW at h0;by_cases c:((AQ n.texts gone).any λp=>decide (p.1=no))=Y
  .rw[AG c] at h0;obtain⟨q,hq,e⟩:=Aw.mp h0;by_cases d:q.1=no
   .rw[AG d] at e;rw[<-e];exact hl
   .rw[AF d] at e;rw[<-e];exact h.words q (Eg.mp hq).1
  .rw[AF c] at h0;rcases Be.mp h0 with z|z
   .exact h.words p (Eg.mp z).1
   .rw[BW.mp z];exact hl
def Xy:A3 ["_law_nook","_law_number","_law_other","_law_gone"] ["_law_nook","_law_number","_law_other"] (Aq TR):=by left
def gH{fTu fLe:OK}{fdTu fdLe:sj}(F:Ak K "_law_joined" "_law_joined" TR f fd)(O:Own mg)
 (FTu:Ak K "_law_turned" "_law_turned" Ni fTu fdTu)(bTu:Binds K fdTu ["_law_nook","_law_number","_law_name","_law_other"] [])(mTu:mg "_law_turned" =U (.ref fTu))
 (FLe:Ak K "_law_led" "_law_led" OH fLe fdLe)(bLe:Binds K fdLe ["_law_nook","_law_number"] [])(mLe:mg "_law_led" =U (.ref fLe)):AX P w K mg base Ai 2 f fd ["_law_nook","_law_number","_law_other"] Xx:=by
 have r6:AX P w K mg base Ai 1 fTu fdTu ["_law_nook","_law_number","_law_name","_law_other"] Sv:=Wo FTu O;have r7:AX P w K mg base Ai 1 fLe fdLe ["_law_nook","_law_number"] UI:=ZD FLe O;refine F.ok Xy ?_ ?_
 .rintro _ _ _ _ ⟨_,_,_,_,_,_,_,_,rfl,_⟩;rfl
 .rintro _ A _ s H _ Q E hr ⟨a,no,h4,H0,n,h0,w1,w2,rfl,⟨an,h7,tx,nk⟩,e8,r4,s7,s9,r1,e3,q⟩;have h9:=CZ hr;refine⟨_,(AU (Ax (i:=3) Xy.nd Z (AY Z) (Ja (By h9 (pv 0)) (pv 2) ⟨Z,Z,Z,Z⟩)) (AU (Eh h9 (By h9 (pv 0)) (pv 1) (Al L0 (DB h9 (By h9 (pv 0)) (pv 1) (λ_ _=>rfl)) (Ja (By h9 (pv 0)) (pv 3) ⟨Z,Z,Z,Z⟩)) Z) (AU (Bq (Cs r6 hr Z mTu FTu.kp bTu .nil BF (AE (pv 0) (AE (pv 3) (AE Ab (AE (pv 1) AJ)))))) (AR (An (Cs r7 hr Z mLe FLe.kp bLe .nil BF (AE (pv 0) (AE (pv 1) AJ)))))))),?_⟩;have v1:BU (Fs n.names) (.inr h4)=U (.int h0):=by rw[D6 EN,r4];rfl
  refine⟨_,Z,a,_,Z,Dl nk.ha,an,Z,.inl ⟨_,.inl nk.hn⟩,_,Z,_,.inr h4,_,nk.hn,Z,v1,?_⟩;rw[KU EN];have h5:=nk.putN (AQ n.names h4);generalize upd H an (.dK (Fs (AQ n.names h4)))=H1 at h5;obtain⟨l1,h8,g1,r3,DM,r5,s1⟩:=h5.find (show(n.texts.map (·.1)).Nodup from e8.CF) s7;obtain⟨l2,e0,g2,r2,MM,s2,s0⟩:=h5.find (show(n.texts.map (·.1)).Nodup from e8.CF) s9;have d1:BN H1 h7 (.int no) (U (.ref l1)):=by have:=BN.kq (k:=.inl no) h5.ht;rw[D6 Ei,g1] at this;exact this
  have v2:BU (CU tx) (.inl h0)=U (.ref l2):=by rw[D6 Ei,g2];rfl
  refine⟨_,Z,a,_,Z,Fv h5.ha,_,Z,h7,_,Z,d1,_,Z,a,_,Z,Fv h5.ha,h7,Z,.inl ⟨_,.inl h5.ht⟩,_,Z,_,.inl h0,_,h5.ht,Z,v2,?_⟩;rw[KU Ei];have s5:=h5.QK h0;have keep:∀b xs,H1 b=U (.lst xs)->(upd H1 h7 (.dK (CU (AQ tx h0)))) b=U (.lst xs):=λb xs e=>by rw[AO (CN e h5.ht (by intro z;cases z))];exact e
  have e5:=keep _ _ r3;have e4:=keep _ _ r2;have e7:=λj w wd (e1:h8[j]? =U w)(e2:w1[j]? =U wd)=>keep _ _ (r5 j w wd e1 e2);have h6:=λj w wd (e1:e0[j]? =U w)(e2:w2[j]? =U wd)=>keep _ _ (s2 j w wd e1 e2);generalize upd H1 h7 (.dK (CU (AQ tx h0)))=H2 at s5 e5 e4 e7 h6;rw[A9] at e3;refine⟨l1,l2,_,_,Z,Z,e5,e4,by rw[AI,AI,BA];lia,λl hl=>?_⟩;have s3:AM H2 (upd H2 l (.lst (h8.map V.ref++e0.map V.ref))):=Ag hl;have e9:=s5.ext s3;have r0:(CU (AQ tx h0)).length<sizeLine:=by
   show((AQ tx h0).map _).length<_;have h1:=Ee (λp:Int×OK×List OK=>decide (p.1≠h0)) tx;have h2:=e8.texts;have h3:=nk.len;rw[AI,BA];show(tx.filter _).length<_
   lia
  have dp:=DO.kq (k:=.inl no) (v:=.ref l) e9.ht r0;have e2:putK (CU (AQ tx h0)) (.inl no) (.ref l)=CU (AW (AQ tx h0) no (l,h8++e0)):=Ii (g:=λp:OK×List OK=>V.ref p.1) Ei no (l,h8++e0) (AQ tx h0);rw[e2] at dp;refine⟨_,Z,a,_,Z,Fv e9.ha,_,Z,h7,_,Z,dp,?_⟩;have s8:=e9.OG no (l:=l) (ws:=h8++e0) (Cb:=w1++w2) (by rw[AN,BL]) (by rw[A9,A9,DM,MM]) (λj w wd e1 e2=>?_) (λw hw=>(Be.mp hw).elim (s1 w) (s0 w))
  .have e6:Fits {n with names:=AQ n.names h4,texts:=AW (AQ n.texts h0) no (w1++w2)}:=e8.join s7 r1 (by rw[A9];exact e3);refine⟨_,Z,_,Z,_,Z,a,h0,"",no,H0,_,Z,⟨an,h7,_,s8⟩,e6,λH5 s4=>?_⟩;exact⟨_,Z,_,Z,a,no,H0,_,Z,s4,e6.map,λH6 s6=>q H6 (let⟨x,y,z,nk⟩:=s4;⟨x,y,z,nk.ext s6⟩)⟩
  .by_cases hj:j<h8.length
   .rw[DH hj] at e1;rw[DH (by lia)] at e2;exact s3 _ _ (e7 j w wd e1 e2)
   .rw[C6 (by lia)] at e1;rw[C6 (by lia),<-DM] at e2;exact s3 _ _ (h6 _ w wd e1 e2)
def eL(hu:X.A.units<tE):CD X (sZ .Eq) (λx y H Q=>∃a b xs,x=.ref a/\y=.ref b/\AS [] H a xs/\AS [] H b []/\Q (.bl xs.isEmpty) H):=by intro h3 s S H x y v u Q I rx ry h;obtain⟨a,b,xs,rfl,rfl,ha,hb,q⟩:=h;cases rx;cases ry;obtain⟨h5,r,pl,hz⟩:=I.tuple (ME ha);obtain⟨h4,r2,h0,h6⟩:=I.tuple (ME hb);cases r2;refine SeqAt.eq_tupleAt (e:=λ_=>Y) pl h0 hu (λj h1 h2=>absurd h2 (by simp)) ⟨.bl xs.isEmpty,H,I,?_,q⟩;cases r<;>rfl
def Bl(r:Rep H (.str z) v):v=.str z:=by cases r;rfl
def lB{z:Int}(r:Rep H (.int z) v):v=.int z:=by cases r;rfl
def Bu(r:Rep H (.tup ds) v):∃a xs,v=.ref a/\H a=U (.tup xs)/\Ah H ds xs:=by
 cases r with
 |tup h hl rr=>exact⟨_,_,Z,h,hl,rr⟩
def Gn{x y:Dt}{xs:List V}(r:Ah H [x,y] xs):∃u v,xs=[u,v]/\Rep H x u/\Rep H y v:=by exact MM (C:=λxs=>Ah H [x,y] xs->∃u v,xs=[u,v]/\Rep H x u/\Rep H y v) (λu v r=>⟨u,v,Z,r.2 0 x u Z Z,r.2 1 y v Z Z⟩) r.1.symm r
def EU{x y z:Dt}{xs:List V}(r:Ah H [x,y,z] xs):∃u v w,xs=[u,v,w]/\Rep H x u/\Rep H y v/\Rep H z w:=by exact Uv (C:=λxs=>Ah H [x,y,z] xs->∃u v w,xs=[u,v,w]/\Rep H x u/\Rep H y v/\Rep H z w) (λu v w r=>⟨u,v,w,Z,r.2 0 x u Z Z,r.2 1 y v Z Z,r.2 2 z w Z Z⟩) r.1.symm r
def QL{x y z t:Dt}{xs:List V}(r:Ah H [x,y,z,t] xs):∃u v w q,xs=[u,v,w,q]/\Rep H x u/\Rep H y v/\Rep H z w/\Rep H t q:=by exact Ul (C:=λxs=>Ah H [x,y,z,t] xs->∃u v w q,xs=[u,v,w,q]/\Rep H x u/\Rep H y v/\Rep H z w/\Rep H t q) (λu v w q r=>⟨u,v,w,q,Z,r.2 0 x u Z Z,r.2 1 y v Z Z,r.2 2 z w Z Z,r.2 3 t q Z Z⟩) r.1.symm r
def BH(n:Nk):Ap->Str
 |.find ws _=>if ws=[] then "no words" else ""
 |.back _=>""
 |.write nm _=>if Co nm=Y then "" else "no name"
 |.rename nm o=>if AH n.names nm=J then "no page" else if Co o=vc then "no name" else if AH n.names o=J then "" else "taken"
 |.join nm o=>if AH n.names nm=J then "no page" else if AH n.names o=J then "no page" else if nm=o then "same page" else ""
 |.cut nm p o=>match AH n.names nm with
  |none=>"no page"
  |some no=>if Co o=vc then "no name" else if AH n.names o=J then(if p<0 then "no place" else if((AH n.texts no).getD []).length<p then "no place" else "") else "taken"
 |.drop nm=>if AH n.names nm=J then "no page" else ""
 |.text nm=>if AH n.names nm=J then "no page" else ""
def Xf:Sp:=λvs H Q _=>∃(a:OK)(d:V)(dd:Ap)(H0:Hp)(n:Nk),vs=[.ref a,d]/\CC H0 H a n/\Fits n/\Rep H dd.dt d/\dd.Good/\(∀nm no,AH n.names nm=U no->∃ws,AH n.texts no=U ws)/\∀H',AM H H'->Q (.str (BH n dd)) H'
def D7(h:H an=U (.dK (Fs names)))(z:Str):BN H an (.str z) ((AH names z).map V.int):=by have:=BN.kq (k:=.inr z) h;rw[D6 EN] at this;exact this
section
variable{y:Str}{a rest:TS}{t:TT}{D:Ends}
def Bm(hx:S[i]? =U (U (.str x)))(ne:x≠y)(h:rest D S H):Jw (Hf (Ks (Fi MV (Es i) (tC (.str y)))) a Ku) rest D S H:=⟨_,hx,Z,_,Z,Bi (λz=>ne (V.str.inj z)) h⟩
def J9(hx:S[i]? =U (U (.str y)))(h:a {D with nx:=rest D} S H):Jw (Hf (Ks (Fi MV (Es i) (tC (.str y)))) a Ku) rest D S H:=⟨_,hx,Z,_,Z,Bj Z h⟩
def Dj(hx:S[i]? =U (U (.str x)))(ne:x≠y)(h:rest D S H):Jw (Hf (Uy (Ks (Fi MV (Es i) (tC (.str y)))) t) a Ku) rest D S H:=⟨_,hx,Z,_,Z,Bi (λz=>ne (V.str.inj z)) (BV h)⟩
def sR(hx:S[i]? =U (U (.str y)))(h:rest D S H):Jw (Hf (Uy (Ks (Fi cG (Es i) (tC (.str y)))) t) a Ku) rest D S H:=⟨_,hx,Z,_,Z,El Z (BV h)⟩
end
variable{d:OK}
section
variable{y:Str}{a rest:TS}{t:TT}{D:Ends}
def IP{vs:List V}(hx:S[i]? =U (U (.ref d)))(hd:H d=U (.tup (.str x::vs)))(ne:x≠y)(h:rest D S H):Jw (Hf (Ks (Fi MV (Fi (ML []) (Es i) (tC (.int 0))) (tC (.str y)))) a Ku) rest D S H:=⟨_,hx,d,_,_,.str x,Z,Z,AS.of hd,BX (j:=0) Z,Z,_,Z,Bi (λz=>ne (V.str.inj z)) h⟩
def Qy{vs:List V}(hx:S[i]? =U (U (.ref d)))(hd:H d=U (.tup (.str y::vs)))(h:a {D with nx:=rest D} S H):Jw (Hf (Ks (Fi MV (Fi (ML []) (Es i) (tC (.int 0))) (tC (.str y)))) a Ku) rest D S H:=⟨_,hx,d,_,_,.str y,Z,Z,AS.of hd,BX (j:=0) Z,Z,_,Z,Bj Z h⟩
end
def S6:A3 ["_law_nook","_law_deed","_law_names","_law_word"] ["_law_nook","_law_deed"] (Aq TV):=by left
def fC{fIs:OK}{fdIs:sj}(F:Ak K "_law_barred" "_law_barred" TV f fd)(O:Own mg)(FIs:Ak K "_law_is_name" "_law_is_name" Nh fIs fdIs)(bIs:Binds K fdIs ["_law_text"] [])(mIs:mg "_law_is_name" =U (.ref fIs)):
 AX P w K mg base Ai 2 f fd ["_law_nook","_law_deed"] Xf:=by
 have h7:AX P w K mg base Ai 1 fIs fdIs ["_law_text"] Ss:=W6 FIs;refine F.ok S6 ?_ ?_
 .rintro _ _ _ _ ⟨_,_,_,_,_,rfl,_⟩;rfl
 .rintro _ A _ s H _ Q E hr ⟨a,dv,dd,H0,n,rfl,⟨an,h6,tx,nk⟩,h9,rd,gd,BO,q⟩;have hu:=hr.Tv;have h2:=CZ hr;refine⟨_,(AU (Ax (i:=2) S6.nd Z (AY Z) (By h2 (pv 0))) (AU (Ax (i:=3) S6.nd Z (AY Z) (A0 (pv 1))) (AU (Ay (As BQ (pv 3) Ab (Am _))
   (AR (An (CK Cv (CY (AE Ab (AE Ab AJ))) (E3 NG Z O.int L6 (AE (IB (eL hu) (A0 (pv 1)) (Cm AJ) (Am _)) AJ)) (λ_ _=>rfl))))
   BC) (AU (Ay (As BQ (pv 3) Ab (Am _))
   (AR (An Ab))
   BC) (AU (Ay (PW.pt (FY (As Gp (pv 3) Ab (Am _)) (HV (Jj (Pa h2 (A0 (pv 1)) (pv 2))))))
   (AR (An Ab))
   BC) (AU (Ay (PW.pt (FY (As BQ (pv 3) Ab (Am _)) (HV (Jj (Pa h2 (A0 (pv 1)) (pv 2))))))
   (AR (An Ab))
   BC) (AU (Ay (PW.pt (FY (As BQ (pv 3) Ab (Am _)) (HV (Ip (Ej (Cs h7 hr Z mIs FIs.kp bIs .nil BF (AE (A0 (pv 1)) AJ)))))))
   (AR (An Ab))
   BC) (AU (Ay (As ah (pv 3) (CY (AE Ab (AE Ab AJ))) Z)
   (AU (Ay (Ip (Ej (Cs h7 hr Z mIs FIs.kp bIs .nil BF (AE (CK Ql (pv 1) (Du Dr Aa) (λ_ _=>rfl)) AJ))))
   (AR (An Ab))
   BC) (AR (Ay (Jj (ZX h2 (CK Ql (pv 1) (Du Dr Aa) (λ_ _=>rfl)) (pv 2)))
   (AR (An Ab))
   BC)))
   BC) (AU (Ay (PW.pt (FY (As BQ (pv 3) Ab (Am _)) (HV (As BQ (A0 (pv 1)) (A0 (pv 1)) (Am _)))))
   (AR (An Ab))
   BC) (AU (Ay (PW.pt (FY (As BQ (pv 3) Ab (Am _)) (HV (PW.pt (Iw (As Iq (A0 (pv 1)) Aa (Am _)) (Io (As QO (A0 (pv 1)) (Bh Gq Z O.len DX (AE (DB h2 (By h2 (pv 0)) (DB h2 (pv 2) (A0 (pv 1)) (λ_ _=>rfl)) (λ_ _=>rfl)) AJ)) (Am _))))))))
   (AR (An Ab))
   BC) (AR (An Ab)))))))))))),?_⟩;refine⟨_,Z,a,_,Z,Dl nk.ha,?_⟩;have q0:=q H (AM.refl H)
  cases dd with
  |back o=>obtain⟨d,xs,rfl,hd,rs⟩:=Bu rd;obtain⟨u,v,rfl,r1,r2⟩:=Gn rs;cases Bl r1;cases Bl r2;refine⟨_,Z,d,_,_,.str "back",Z,Z,AS.of hd,Z,?_⟩;refine Bm Z (by left) ?_;exact J9 Z q0
  |find ws e0=>
   obtain⟨d,xs,rfl,hd,rs⟩:=Bu rd;obtain⟨u,v,x,rfl,r1,r2,r3⟩:=EU rs;cases Bl r1;obtain⟨t,ys,rfl,ht,ry⟩:=Bu r2;refine⟨_,Z,d,_,_,.str "find",Z,Z,AS.of hd,Z,?_⟩;refine⟨_,Z,Z,_,Z,Bj Z ⟨by exact zw,λl hl=>?_⟩⟩;have s1:AM H (upd H l (.lst [V.str "",V.str "no words"])):=Ag hl;refine⟨_,Z,d,_,_,.ref t,Z,Z,AS.of (s1 _ _ hd),Z,by exact zy,λe he=>?_⟩;have s2:=Ag (o:=.tup []) he;have h4:=ry.1;rw[AI] at h4;refine⟨t,e,ys,Z,Z,AS.of (s2 _ _ (s1 _ _ ht)),AS.of AN,.inr ⟨_,Z,l,_,_,.str (BH n (.find ws e0)),Z,Z,AL.of (s2 _ _ AN),?_,q _ (s1.trans s2)⟩⟩
   cases ws with
   |nil=>
    cases ys with
    |nil=>rfl
    |cons y ys=>cases h4
   |cons w ws=>
    cases ys with
    |nil=>cases h4
    |cons y ys=>rfl
  |write nm t=>
   obtain⟨d,xs,rfl,hd,rs⟩:=Bu rd;obtain⟨u,v,x,rfl,r1,r2,r3⟩:=EU rs;cases Bl r1;cases Bl r2;cases Bl r3;refine⟨_,Z,d,_,_,.str "write",Z,Z,AS.of hd,Z,?_⟩;refine Bm Z (by left) ?_;refine Bm Z (by left) ?_;refine sR Z ?_;refine Dj Z (by left) ?_;refine⟨_,Z,Z,_,Z,Bj Z ⟨_,Z,d,_,_,.str nm,Z,Z,AS.of hd,Z,nm,Z,by have:=gd.1;lia,λH2 s2=>⟨_,Z,?_⟩⟩⟩;have q2:=q H2 s2
   cases hn:Co nm with
   |false=>
    have eb:BH n (.write nm t)="no name" :=by show(if Co nm=Y then _ else _)=_;rw[hn];rfl
    rw[eb] at q2;exact Bs q2
   |true=>
    have eb:BH n (.write nm t)="" :=by show(if Co nm=Y then _ else _)=_;rw[hn];rfl
    refine BV ?_;refine⟨_,Z,by exact zw,λl hl=>⟨l,_,Z,.inl (AL.of AN),Z,Z,vc,A2 V.bl (by left),BV ?_⟩⟩;refine Dj Z (by left) ?_;refine Dj Z (by left) ?_;have q3:=q _ (s2.trans (Ag (o:=.lst [V.str "rename",V.str "cut"]) hl));rw[eb] at q3;exact q3
  |drop nm=>
   obtain⟨d,xs,rfl,hd,rs⟩:=Bu rd;obtain⟨u,v,rfl,r1,r2⟩:=Gn rs;cases Bl r1;cases Bl r2;refine⟨_,Z,d,_,_,.str "drop",Z,Z,AS.of hd,Z,?_⟩;refine Bm Z (by left) ?_;refine Bm Z (by left) ?_;refine⟨_,Z,Z,_,Z,Hb (by intro z;exact absurd (V.str.inj z) (by left)) ⟨_,Z,d,_,_,.str nm,Z,Z,AS.of hd,Z,_,Z,an,_,Z,D7 nk.hn nm,_,Z,?_⟩⟩
   cases hg:AH n.names nm with
   |none=>
    have eb:BH n (.drop nm)="no page" :=by delta BH;simp only[hg,CL]
    rw[eb] at q0;exact Bs q0
   |some no=>
   refine BV ?_;refine Dj Z (by left) ?_;refine Dj Z (by left) ?_;refine⟨_,Z,by exact zw,λl hl=>⟨l,_,Z,.inl (AL.of AN),Z,Z,vc,A2 V.bl (by left),?_⟩⟩;have s1:AM H (upd H l (.lst [V.str "rename",V.str "cut"])):=Ag hl;generalize upd H l (.lst [V.str "rename",V.str "cut"])=H1 at s1⊢;have q1:=q H1 s1;refine BV ?_;refine Dj Z (by left) ?_;refine Dj Z (by left) ?_;have eb:BH n (.drop nm)="" :=by delta BH;simp only[hg,Bx,reduceCtorEq]
   rw[eb] at q1;exact q1
  |text nm=>
   obtain⟨d,xs,rfl,hd,rs⟩:=Bu rd;obtain⟨u,v,rfl,r1,r2⟩:=Gn rs;cases Bl r1;cases Bl r2;refine⟨_,Z,d,_,_,.str "text",Z,Z,AS.of hd,Z,?_⟩;refine Bm Z (by left) ?_;refine Bm Z (by left) ?_;refine⟨_,Z,Z,_,Z,Hb (by intro z;exact absurd (V.str.inj z) (by left)) ⟨_,Z,d,_,_,.str nm,Z,Z,AS.of hd,Z,_,Z,an,_,Z,D7 nk.hn nm,_,Z,?_⟩⟩
   cases hg:AH n.names nm with
   |none=>
    have eb:BH n (.text nm)="no page" :=by delta BH;simp only[hg,CL]
    rw[eb] at q0;exact Bs q0
   |some no=>
   refine BV ?_;refine Dj Z (by left) ?_;refine Dj Z (by left) ?_;refine⟨_,Z,by exact zw,λl hl=>⟨l,_,Z,.inl (AL.of AN),Z,Z,vc,A2 V.bl (by left),?_⟩⟩;have s1:AM H (upd H l (.lst [V.str "rename",V.str "cut"])):=Ag hl;generalize upd H l (.lst [V.str "rename",V.str "cut"])=H1 at s1⊢;have q1:=q H1 s1;refine BV ?_;refine Dj Z (by left) ?_;refine Dj Z (by left) ?_;have eb:BH n (.text nm)="" :=by delta BH;simp only[hg,Bx,reduceCtorEq]
   rw[eb] at q1;exact q1
  |join nm o=>
   obtain⟨d,xs,rfl,hd,rs⟩:=Bu rd;obtain⟨u,v,x,rfl,r1,r2,r3⟩:=EU rs;cases Bl r1;cases Bl r2;cases Bl r3;refine⟨_,Z,d,_,_,.str "join",Z,Z,AS.of hd,Z,?_⟩;refine Bm Z (by left) ?_;refine Bm Z (by left) ?_;refine⟨_,Z,Z,_,Z,Hb (by intro z;exact absurd (V.str.inj z) (by left)) ⟨_,Z,d,_,_,.str nm,Z,Z,AS.of hd,Z,_,Z,an,_,Z,D7 nk.hn nm,_,Z,?_⟩⟩
   cases hg:AH n.names nm with
   |none=>
    have eb:BH n (.join nm o)="no page" :=by delta BH;simp only[hg,CL]
    rw[eb] at q0;exact Bs q0
   |some no=>
   refine BV ?_;refine⟨_,Z,Z,_,Z,Bj Z ⟨_,Z,d,_,_,.str o,Z,Z,AS.of hd,Z,_,Z,an,_,Z,D7 nk.hn o,_,Z,?_⟩⟩
   cases ho:AH n.names o with
   |none=>
    have eb:BH n (.join nm o)="no page" :=by delta BH;simp only[hg,ho,CL,Bx,reduceCtorEq]
    rw[eb] at q0;exact Bs q0
   |some h5=>
   refine BV ?_;refine Dj Z (by left) ?_;refine⟨_,Z,by exact zw,λl hl=>⟨l,_,Z,.inl (AL.of AN),Z,Z,vc,A2 V.bl (by left),?_⟩⟩;have s1:AM H (upd H l (.lst [V.str "rename",V.str "cut"])):=Ag hl;generalize upd H l (.lst [V.str "rename",V.str "cut"])=H1 at s1⊢;have q1:=q H1 s1;refine BV ?_;refine⟨_,Z,Z,_,Z,Bj Z ⟨_,Z,d,_,_,.str nm,Z,Z,AS.of (s1 _ _ hd),Z,_,Z,d,_,_,.str o,Z,Z,AS.of (s1 _ _ hd),Z,Z,_,Z,?_⟩⟩;by_cases he:nm=o
   .have eb:BH n (.join nm o)="same page" :=by delta BH;simp only[hg,ho,Bx,reduceCtorEq];rw[AG he]
    rw[eb] at q1;exact Bj (by rw[he]) q1
   .refine Bi (λz=>he (V.str.inj z)) ?_;refine Dj Z (by left) ?_;have eb:BH n (.join nm o)="" :=by delta BH;simp only[hg,ho,Bx,reduceCtorEq];rw[AF he]
    rw[eb] at q1;exact q1
  |rename nm o=>
   obtain⟨d,xs,rfl,hd,rs⟩:=Bu rd;obtain⟨u,v,x,rfl,r1,r2,r3⟩:=EU rs;cases Bl r1;cases Bl r2;cases Bl r3;refine⟨_,Z,d,_,_,.str "rename",Z,Z,AS.of hd,Z,?_⟩;refine Bm Z (by left) ?_;refine Bm Z (by left) ?_;refine⟨_,Z,Z,_,Z,Hb (by intro z;exact absurd (V.str.inj z) (by left)) ⟨_,Z,d,_,_,.str nm,Z,Z,AS.of hd,Z,_,Z,an,_,Z,D7 nk.hn nm,_,Z,?_⟩⟩
   cases hg:AH n.names nm with
   |none=>
    have eb:BH n (.rename nm o)="no page" :=by delta BH;simp only[hg,CL]
    rw[eb] at q0;exact Bs q0
   |some no=>
   refine BV ?_;refine Dj Z (by left) ?_;refine Dj Z (by left) ?_;refine⟨_,Z,by exact zw,λl hl=>⟨l,_,Z,.inl (AL.of AN),Z,Z,Y,A2 V.bl (by left),?_⟩⟩;have s1:AM H (upd H l (.lst [V.str "rename",V.str "cut"])):=Ag hl;generalize upd H l (.lst [V.str "rename",V.str "cut"])=H1 at s1⊢;have q1:=q H1 s1;refine Bs ⟨_,Z,_,Z,d,_,_,.str o,Z,Z,AS.of (s1 _ _ hd),Z,o,Z,by have:=gd.2;lia,λH2 s2=>⟨_,Z,?_⟩⟩;have h0:=s1.trans s2;have q2:=q H2 h0;have h1:=nk.ext h0
   cases hn:Co o with
   |false=>
    have eb:BH n (.rename nm o)="no name" :=by delta BH;simp only[hg,hn,CL,Bx,reduceCtorEq]
    rw[eb] at q2;exact Bs q2
   |true=>
   refine BV ⟨_,Z,_,Z,d,_,_,.str o,Z,Z,AS.of (h0 _ _ hd),Z,_,Z,an,_,Z,D7 h1.hn o,_,Z,?_⟩
   cases ho:AH n.names o with
   |some h5=>
    have eb:BH n (.rename nm o)="taken" :=by delta BH;simp only[hg,hn,ho,Bx,reduceCtorEq,Mv]
    rw[eb] at q2;exact Bs q2
   |none=>
   refine BV ?_;refine Dj Z (by left) ?_;refine Dj Z (by left) ?_;have eb:BH n (.rename nm o)="" :=by delta BH;simp only[hg,hn,ho,CL,Bx,reduceCtorEq,Mv]
   rw[eb] at q2;exact q2
  |cut nm p o=>
   obtain⟨d,xs,rfl,hd,rs⟩:=Bu rd;obtain⟨u,v,x,y,rfl,r1,r2,r3,r4⟩:=QL rs;cases Bl r1;cases Bl r2;cases lB r3;cases Bl r4;refine⟨_,Z,d,_,_,.str "cut",Z,Z,AS.of hd,Z,?_⟩;refine Bm Z (by left) ?_;refine Bm Z (by left) ?_;refine⟨_,Z,Z,_,Z,Hb (by intro z;exact absurd (V.str.inj z) (by left)) ⟨_,Z,d,_,_,.str nm,Z,Z,AS.of hd,Z,_,Z,an,_,Z,D7 nk.hn nm,_,Z,?_⟩⟩
   cases hg:AH n.names nm with
   |none=>
    have eb:BH n (.cut nm p o)="no page" :=by delta BH;simp only[hg,CL]
    rw[eb] at q0;exact Bs q0
   |some no=>
   refine BV ?_;refine Dj Z (by left) ?_;refine Dj Z (by left) ?_;refine⟨_,Z,by exact zw,λl hl=>⟨l,_,Z,.inl (AL.of AN),Z,Z,Y,A2 V.bl (by left),?_⟩⟩;have s1:AM H (upd H l (.lst [V.str "rename",V.str "cut"])):=Ag hl;generalize upd H l (.lst [V.str "rename",V.str "cut"])=H1 at s1⊢;have q1:=q H1 s1;refine Bs ⟨_,Z,_,Z,d,_,_,.str o,Z,Z,AS.of (s1 _ _ hd),Z,o,Z,by have:=gd.2;lia,λH2 s2=>⟨_,Z,?_⟩⟩;have h0:=s1.trans s2;have q2:=q H2 h0;have h1:=nk.ext h0
   cases hn:Co o with
   |false=>
    have eb:BH n (.cut nm p o)="no name" :=by delta BH;simp only[hg,hn,CL,Bx,reduceCtorEq]
    rw[eb] at q2;exact Bs q2
   |true=>
   refine BV ⟨_,Z,_,Z,d,_,_,.str o,Z,Z,AS.of (h0 _ _ hd),Z,_,Z,an,_,Z,D7 h1.hn o,_,Z,?_⟩
   cases ho:AH n.names o with
   |some h5=>
    have eb:BH n (.cut nm p o)="taken" :=by delta BH;simp only[hg,hn,ho,Bx,reduceCtorEq,Mv]
    rw[eb] at q2;exact Bs q2
   |none=>
   refine BV ?_;refine Dj Z (by left) ?_;obtain⟨ws,h3⟩:=BO nm no hg;obtain⟨l1,e1,g1,h8,DM,_,_⟩:=h1.find h9.CF h3;have d1:BN H2 h6 (.int no) (U (.ref l1)):=by have:=BN.kq (k:=.inl no) h1.ht;rw[D6 Ei,g1] at this;exact this
   have d2:BN H2 an (.str nm) (U (.int no)):=by have:=D7 h1.hn nm;rw[hg] at this;exact this
   refine⟨_,Z,Z,_,Z,Bj Z ⟨_,Z,d,_,_,.int p,Z,Z,AS.of (h0 _ _ hd),Z,_,_,Z,Z,_,Z,?_⟩⟩;by_cases hp:p<0
   .have eb:BH n (.cut nm p o)="no place" :=by delta BH;simp only[hg,hn,ho,CL,Bx,reduceCtorEq,Mv];rw[AG hp]
    rw[eb] at q2;exact Bj hp (Bs q2)
   .refine Bi hp ⟨_,Z,d,_,_,.int p,Z,Z,AS.of (h0 _ _ hd),Z,_,Z,a,_,Z,Fv h1.ha,_,Z,_,Z,d,_,_,.str nm,Z,Z,AS.of (h0 _ _ hd),Z,an,_,Z,d2,h6,_,Z,d1,l1,_,Z,.inl (AL.of h8),_,_,Z,Z,_,Z,?_⟩;rw[AI,DM];by_cases hq:(ws.length:Int)<p
    .have eb:BH n (.cut nm p o)="no place" :=by delta BH;simp only[hg,hn,ho,h3,CL,Bx,reduceCtorEq,Mv,Option.getD_some];rw[AF hp,AG hq]
     rw[eb] at q2;exact Bj hq q2
    .have eb:BH n (.cut nm p o)="" :=by delta BH;simp only[hg,hn,ho,h3,CL,Bx,reduceCtorEq,Mv,Option.getD_some];rw[AF hp,AF hq]
     rw[eb] at q2;exact Bi hq q2
noncomputable def Cq(C:OK)(dd:Option OK)(vs:Array AB):Obj:={cls:=.ref C,dict:=dd,data:=.fields vs}
def Hd(h:sf)(e:OK)(vs:Array AB):Prop:=
 vs[1]? =U .none\/∃T oT ts,vs[1]? =U (.ref T)/\T≠e/\h.get? T=U oT/\oT.data=.fields ts/\ts[3]? =U .none
structure Lv(fs:List OK)(e C:OK)(dd:Option OK)(vs:Array AB)(h h':sf):Prop where
 keep:∀b o,h.get? b=U o->b∉fs->b≠e->(∀T,vs[1]? =U (.ref T)->b≠T)->h'.get? b=U o
 slot:∀b o,h.get? b=U o->b∈fs->∃sl,h'.get? b=U {o with slots:=sl}
 size:h.objs.size<=h'.objs.size
 here:∃T oT ts,h'.get? e=U (Cq C dd (vs.setIfInBounds 1 (.ref T)))/\h.objs.size<=T/\h'.get? T=U oT/\oT.data=.fields ts/\ts[3]? =U .none
def W7{l:List Env}(hl:h.FunFrames base l)(hb:h.get? b=U o)(hd:o.data=.fields vs):b∉Cr l:=λhm=>by obtain⟨_,u,hu,hn⟩:=hl.mem hm;rw[hb] at hu;cases hu;exact hn vs hd
variable{dd:Option OK}
def Yz{e:OK}{head:AB}{hn:Bool}{Q:Unit->Ya->Prop}
 (hfr:A.frames=U (env::outer))(hl:s.heap.FunFrames base (env::outer))(hf:env.frame=U L)(he:s.heap.get? e=U (Cq C dd vs))(hz:1<vs.size)
 (h:∀h',(∀b o,s.heap.get? b=U o->b∉Cr (env::outer)->b≠e->h'.get? b=U o)->(∀b o,s.heap.get? b=U o->b∈Cr (env::outer)->∃sl,h'.get? b=U {o with slots:=sl})->
  s.heap.objs.size<=h'.objs.size->(∃T oT ts,h'.get? e=U (Cq C dd (vs.setIfInBounds 1 (.ref T)))/\s.heap.objs.size<=T/\h'.get? T=U oT/\oT.data=.fields ts/\ts[3]? =U .none)->Q () {s with heap:=h'}):
 ax M A (do
  let a<-frameOf env;let pl<-entryPlaceOf L hn;let b<-EntryCells.newEntry head a .none (tR L) .none pl
  setField (.ref e) 1 b) (λ_ s'=>ax M A (ud (.ref e) J) Q E s') E s:=by
 have nf:e∉Cr (env::outer):=W7 hl he Z;refine AK (wpAny_frameOf_fun hfr hl hf λh1 q1=>?_);obtain⟨z1,k1,h4⟩:=q1;have e1:h1.get? e=U (Cq C dd vs):=(k1 e nf).trans he;refine AK (wpAny_entryPlaceOf λpl h5=>?_);delta EntryCells.newEntry newFields;refine AK (Ia ?_ (h5.sizeOk5 _ _ _ _ _));generalize h3:(([head,Value.ref L,Value.none,tR L,Value.none]++(if pl.isEmpty then List.replicate 6 Value.none else pl)).toArray)=h0;have z3:3<h0.size:=by rw[<-h3,Cg,A9];simp only[Bw,Ht];lia
 have Tn:h1.objs.size≠e:=Fu (A7 e1);have e2:=BD {cls:=.type "traceback",dict:=J,data:=.fields h0} e1;refine O5 e2 Z hz ?_;have e3:=JN (Obj.mapFields (·.setIfInBounds 1 (Value.ref h1.objs.size))) e2 Z;have t3:((h1.push {cls:=.type "traceback",dict:=J,data:=.fields h0}).update e (Obj.mapFields (·.setIfInBounds 1 (Value.ref h1.objs.size)))).get? h1.objs.size=U {cls:=.type "traceback",dict:=J,data:=.fields h0}:=
  (EH _ _ (DI Tn)).trans (CG h1 Z);delta ud;refine AK (KQ e3 Z (x:=.ref h1.objs.size) (by simp[hz]) ?_);rw[AG (show(Value.ref h1.objs.size !=Value.none)=Y from by simp)];refine O5 t3 Z z3 (h _ (λb o hb nb ne=>?_) (λb o hb mb=>?_) ?_ ⟨h1.objs.size,_,_,?_,Nat.le_of_eq z1.symm,JN _ t3 Z,Z,by simp[z3]⟩)
 .have h2:=(k1 b nb).trans hb;rw[EH _ _ (Fu (A7 h2)),EH _ _ (DI ne)];exact BD _ h2
 .obtain⟨sl,h2⟩:=h4 b o hb;refine⟨sl,?_⟩;rw[EH _ _ (Fu (A7 h2)),EH _ _ (show e≠b from λz=>nf (by rw[z];exact mb))];exact BD _ h2
 .rw[Oh,Oh,HI,z1];exact E2 _
 .rw[EH _ _ Tn];exact e3
def ZH{e:OK}{Q:Unit->Ya->Prop}
 (hfr:A.frames=U (env::outer))(hl:s.heap.FunFrames base (env::outer))(hf:env.frame=U L)(he:s.heap.get? e=U (Cq C dd vs))(hz:1<vs.size)(hh:Hd s.heap e vs)
 (h:∀h',Lv (Cr (env::outer)) e C dd vs s.heap h'->Q () {s with heap:=h'}):
 ax M A (noteFrame (.ref e) env) (λ_ s'=>ax M A (ud (.ref e) J) Q E s') E s:=by
 delta noteFrame;simp only[hf];rcases hh with h1|⟨T,oT,ts,h1,nT,hT,dT,h3⟩
 .refine AK (KQ he Z h1 ?_);rw[AF (by decide)];exact Yz hfr hl hf he hz λh' a b c d=>h h' ⟨λx o q n1 n2 _=>a x o q n1 n2,b,c,d⟩
 .refine AK (KQ he Z h1 ?_);rw[AG (show(Value.ref T !=Value.none)=Y from by simp)];refine AK (KQ hT dT h3 ?_);rw[AF (show¬((Value.none==tR L)=Y) from by simp[tR])];refine AK (O5 hT dT (Array.getElem?_eq_some_iff.mp h3).1 ?_);have ot:∀b,b≠T->(s.heap.update T (Obj.mapFields (·.setIfInBounds 3 Value.none))).get? b=s.heap.get? b:=λb hb=>EH _ _ (DI hb);have h0:T∉Cr (env::outer):=W7 hl hT dT;refine Yz (s:={s with heap:=s.heap.update T (Obj.mapFields (·.setIfInBounds 3 Value.none))}) hfr
   (hl.of_keeps λb o hb h2=>⟨o,(ot b λz=>h2 ts (by subst z;rw[hT] at hb;cases hb;exact dT)).trans hb,Z⟩) hf ((ot e (DI nT)).trans he) hz λh' a b c d=>h h' ⟨λx o q n1 n2 n3=>a x o ((ot x (n3 T h1)).trans q) n1 n2,λx o q m=>b x o ((ot x λz=>h0 (z▸m)).trans q) m,?_,?_⟩
  .have:=c;rw[Oh] at this;exact this
  .have:=d;rw[Oh] at this;exact this
def nO{e:OK}{T:OK}{oT:Obj}{ts:Array AB}{Q:Unit->Ya->Prop}
 (he:s.heap.get? e=U (Cq C dd vs))(h1:vs[1]? =U (.ref T))(hT:s.heap.get? T=U oT)(dT:oT.data=.fields ts)(h3:ts[3]? =U .none)
 (h:∀h',(∀b,b≠T->h'.get? b=s.heap.get? b)->(∃o,h'.get? T=U o)->h'.objs.size=s.heap.objs.size->Q () {s with heap:=h'}):ax M A (ud (.ref e) J) Q E s:=by
 delta ud;refine AK (KQ he Z h1 ?_);rw[AG (show(Value.ref T !=Value.none)=Y from by simp)];exact O5 hT dT (Array.getElem?_eq_some_iff.mp h3).1 (h _ (λb hb=>EH _ _ (DI hb)) ⟨_,JN _ hT (Obj.isFreed_of_fields (Obj.data_mapFields dT _))⟩ (Oh ..))
def Gr(h:sf)(C:OK)(bm:List AB)(N:OK):Prop:=
 ∃nm q bs h0 sn sub ab h1 dd k0 k1 k2 k3 k5,h.get? C=U (uB nm q C N bs bm h0 sn sub ab h1 dd k0 k1 k2 k3 k5 "Exception.__new__")
variable{bm:List AB}
def Gr.keeps{N:OK}(x:Gr h C bm N)(k:∀b o,h.get? b=U o->h'.get? b=U o):Gr h' C bm N:=by obtain⟨a1,a2,a3,a4,a5,a6,a7,a8,a9,b1,b2,b3,b4,b5,hC⟩:=x;exact⟨a1,a2,a3,a4,a5,a6,a7,a8,a9,b1,b2,b3,b4,b5,k _ _ hC⟩
structure Iz(bm:List AB):Prop where
 exc:bm.contains (.type "Exception")=Y
 base:bm.contains (.type "BaseException")=Y
 J8:bm.contains (.type "AttributeError")=vc
 bp:bm.contains (.type "NameError")=vc
section
variable{g:Array uH}{d:Drawn}{t:Nat}{N:OK}{rest:List AB}
def IE{v:AB}{b:Bool}(e:bm.contains v=b)(hv:(v==Value.ref C)=vc):(Value.ref C::bm).contains v=b:=by rw[RQ,hv,Ry];exact e
def iE(xc:Gr h C bm N)(ln:Iz bm){Q:Unit->Ya->Prop}(hq:Q () ⟨h,g,d,t,os⟩):ax M A (checkBuiltinCall "Exception.__new__" ⟨.ref C::rest,[]⟩) Q E ⟨h,g,d,t,os⟩:=by
 obtain⟨a1,a2,a3,a4,a5,a6,a7,a8,a9,b1,b2,b3,b4,b5,h0⟩:=xc;have cE:(Value.ref C::bm).contains (.type "Exception")=Y:=IE ln.exc Z;have h1:=JL.noStar;simp only[checkBuiltinCall,JL.newKind,JL.newSplit,JL.newRow];repeat (first|refine JP h0 ?_|(refine Mp h0 ?_;rw[cE])|refine wpAny_staticBase_exc h0 ?_|refine wpAny_madeBy_exc h0 ?_|simp only[EJ,CP,Bx]|wp_step)
 exact hq
abbrev Jm(h:sf)(C:OK)(rest:List AB):sf:=(h.push {cls:=.type "tuple",data:=.seq rest.toArray}).push (Cq C J #[.ref h.objs.size,.none,.none,.none,.bool vc,.none])
def oa(xc:Gr h C bm N)(ln:Iz bm)(hq:R (.ok (.ret (.ref (h.objs.size+1)))) ⟨Jm h C rest,g,d,t,os⟩)(hrest:rest.length<=sizeLine):
 tS (Yf prog w) A (.builtin "Exception.__new__" ⟨.ref C::rest,[]⟩) R ⟨h,g,d,t,os⟩:=by
 obtain⟨a1,a2,a3,a4,a5,a6,a7,a8,a9,b1,b2,b3,b4,b5,h0⟩:=xc;have h1:=JL.ends;have cE:(Value.ref C::bm).contains (.type "Exception")=Y:=IE ln.exc Z;have cA:(Value.ref C::bm).contains (.type "AttributeError")=vc:=IE ln.J8 Z;have cN:(Value.ref C::bm).contains (.type "NameError")=vc:=IE ln.bp Z;refine codeAny_builtinAt JL.entry ?_;delta Builtin.«BaseException.__new__»;refine PySem.wpAt_bind ?_;show PySem.wpAt _ _ _ (stack>>=_) _ _ _;refine PySem.wpAt_bind (PySem.wpAt_stack λp h2=>vS ?_)
 wp_walk
 refine vS ?_;rw[JL.owner];repeat (first|with_reducible refine wpAny_madeHere_exc JL.canon h0 ?_|with_reducible refine JP h0 ?_|(with_reducible refine Mp h0 ?_;first|rw[cE]|rw[cA]|rw[cN])|wp_step)
 show R _ _;rw[HI];exact hq
end
variable{fI:OK}
section
variable{g:Array uH}{d:Drawn}{t:Nat}{N:OK}{rest:List AB}
def mJ(X:K.In h)(xc:Gr h C bm N)(ln:Iz bm){oI:Obj}(hi:sk K (.ref C) "__init__" =U (U (.ref fI)))(hfI:h.get? fI=U oI)(hfc:oI.cls=.type "function")
 (hq:ax (Yf prog w) (A.under (.builtin "type.__call__" ⟨.ref C::rest,[]⟩)) (call (.ref fI) (.ref (h.objs.size+1)::rest)) (λr s'=>r=.none/\Q (.ref (h.objs.size+1)) s') E ⟨Jm h C rest,g,d,t,os⟩)(hrest:rest.length<=sizeLine):
 ax (Yf prog w) A (call (.ref C) rest) Q E ⟨h,g,d,t,os⟩:=by
 have kk:∀b o,h.get? b=U o->(Jm h C rest).get? b=U o:=λb o e=>BD _ (BD _ e);have h4:=xc.keeps kk;have h2:(Jm h C rest).get? (h.objs.size+1)=U (Cq C J #[.ref h.objs.size,.none,.none,.none,.bool vc,.none]):=by have z:=CG (h.push {cls:=.type "tuple",data:=.seq rest.toArray}) (o:=Cq C J #[.ref h.objs.size,.none,.none,.none,.bool vc,.none]) Z;rw[HI] at z;exact z
 have h5:=xc;obtain⟨a1,a2,a3,a4,a5,a6,a7,a8,a9,b1,b2,b3,b4,b5,h1⟩:=h5;have f1:=tc_lookup;have f2:=tc_bind (.ref C);have tT:(⟨h,g,d,t,os⟩:Ya).TypeIs (.ref C) "type" :=⟨_,h1,Z⟩;refine ND (uq ?_);show ax _ _ (callAny (.ref C) _) _ _ _;repeat (any_goals (first|assumption|with_reducible refine JP h1 ?_|wp_step))
 refine⟨Z,?_⟩;refine codeAny_call_builtin_at (RT _ (by left)) entry_typeCall (wpAny_check_type_call_sub h1 ?_);repeat (first|with_reducible refine JP h1 ?_|with_reducible refine wpAny_madeBy_exc h1 ?_|wp_step)
 refine codeAny_call_builtin_code (RT _ JL.quiet) (iE (rest:=rest) xc ln ?_);refine oa (rest:=rest) xc ln ?_ hrest;show ax _ _ _ _ _ _;obtain⟨c1,c2,c3,c4,c5,c6,c7,c8,c9,d1,d2,d3,d4,d5,h3⟩:=h4;have cC:(Value.ref C::bm).contains (.ref C)=Y:=by simp
 have h6:=kk _ _ hfI;have h0:(Jm h C rest).get? (h.objs.size+1)=U {cls:=.ref C,dict:=J,data:=.fields #[.ref h.objs.size,.none,.none,.none,.bool vc,.none]}:=h2;delta uy;repeat (first|(with_reducible refine JP h0 ?_)|(with_reducible refine Mp h3 ?_;rw[cC])|wp_step)
 show ax _ _ (typeLookup (.ref C) _) _ _ _;refine(Oj (X.keeps kk) hi).at ?_;refine Gb (AK ?_);delta bindSpecial;refine AK (uT (T:="function") ⟨_,h6,hfc⟩ ?_);rw[AG (by decide)];refine Ae (AK (DA hq (λr s' hr=>?_) λ_ _ x=>x));obtain⟨rfl,hQ⟩:=hr
 wp_walk
 exact hQ
def km{x:Sem AB}{Q:Flow->Ya->Prop}(hh:A.handled=J)(ln:Iz bm)
 (hx:ax M A x (λv s1=>∃e N t0 dd,v=.ref e/\Gr s1.heap C bm N/\s1.heap.get? e=U (Cq C dd #[.ref t0,.none,.none,.none,.bool vc,.none])/\E (.ref e) s1) E s):
 ax M A (raiseStmt env (U x) J) Q E s:=by
 have cB:(Value.ref C::bm).contains (.type "BaseException")=Y:=IE ln.base Z;delta raiseStmt;refine AK (DA hx (λv s1 h1=>?_) λ_ _ z=>z);obtain⟨e,N,t0,dd,rfl,xc,he,hE⟩:=h1;obtain⟨a1,a2,a3,a4,a5,a6,a7,a8,a9,b1,b2,b3,b4,b5,cAt⟩:=xc;obtain⟨hp,g,d,tk,os⟩:=s1;delta Cq at he;repeat (first|with_reducible refine JP he ?_|with_reducible refine JP cAt ?_|(with_reducible refine Mp cAt ?_;rw[cB])|wp_step)
 exact wpAny_raiseNew_none hh hE
end
section
open PySem.Builtin PySem.Builtin.ObjectAttr
section
variable{g:Array uH}{d:Drawn}{t:Nat}{N e:OK}{v:AB}
structure Dc(K:vH)(C:OK)(name:Str):Prop where
 dict:tm K C=Y
 no:sk K (.ref C) name=U J
 sa:sk K (.ref C) "__setattr__" =U (U (.builtin "object.__setattr__"))
 ga:sk K (.ref C) "__getattribute__" =U (U (.builtin "BaseException.__getattribute__"))
 hook:sk K (.ref C) "__getattr__" =U J
 mro:∃cd l,clsIn K C=U cd/\cd.mro=l++[.type "Exception",.type "BaseException",.type "object"]/\∀c∈l,∃a,c=Value.ref a
theorem V2(self:AB)(what:Str)(r:List AB):∀l:List AB,(∀c∈l,∃a,c=Value.ref a)->refuseLoop self what (l++r)=refuseLoop self what r
 |[],_=>rfl
 |c::l,hc=>by obtain⟨a,rfl⟩:=hc c (.head _);rw[O0,refuseLoop_ref];exact V2 self what r l λc' h'=>hc c' (.tail _ h')
theorem Xn{x:AB}{r:List AB}{b:Bool}(hx:∀a,(x==Value.ref a)=vc)(e:r.contains x=b):∀l:List AB,(∀c∈l,∃a,c=Value.ref a)->(l++r).contains x=b
 |[],_=>e
 |c::l,hc=>by obtain⟨a,rfl⟩:=hc c (.head _);rw[O0,RQ,hx a,Ry];exact Xn hx e l λc' h'=>hc c' (.tail _ h')
def pR(he:h.get? e=U (Cq C J vs)):InstAt h e (Cq C J vs) C J:=⟨he,Z,Z,Cy⟩
def pM{od:Obj}(he:h.get? e=U (Cq C (U D) vs))(hd:h.get? D=U od):InstAt h e (Cq C (U D) vs) C (U od):=⟨he,Z,Z,hd⟩
def aJ(X:K.In h)(xa:Dc K C name){b:Bool}(e:[Value.type "Exception",.type "BaseException",.type "object"].contains (.type T)=b):mroIn K C (.type T)=U b:=by obtain⟨cd,l,hc,hm,hl⟩:=xa.mro;delta mroIn;rw[hc,M4,hm];rw[AF (by cases l<;>simp),Xn (λ_=>rfl) e l hl]
def pX(X:K.In h)(xa:Dc K C name)(he:h.get? e=U (Cq C J vs)){Q:Unit->Ya->Prop}
 (hq:∀h' tk,h'.get? e=U (Cq C (U h.objs.size) vs)->h'.Ns1 h.objs.size (λy=>if y=name then U v else J)->(∀b o,b≠e->h.get? b=U o->h'.get? b=U o)->Q () ⟨h',g,d,tk,os⟩):
 ax (Yf prog w) A (setAttr (.ref e) name v) Q E ⟨h,g,d,t,os⟩:=by
 have SF:=PySem.F.store_object;have I:InstAt h e (Cq C J vs) C J:=pR he;have T0:vJ (Yf prog w) h (typeOf (.ref e)) (.ref C):=I.type;obtain⟨cd,l,hc,hm,hl⟩:=xa.mro;obtain⟨h7,h6,h0⟩:=any_some xa.dict;obtain rfl:cd=h7:=AZ (hc.symm.trans h6);have h1:vJ (Yf prog w) h (mroOf (.ref C)) cd.mro:=(Vj X hc).andThen .now;have sub:vJ (Yf prog w) h (uy (.ref e) (.type "object")) Y:=T0.andThen (looks_mroIn X (aJ X xa Z));refine set_plain X I xa.sa ?_;refine Vd SF.slot.plain SF.entry ?_;refine @check_slot (Yf prog w) _ _ ⟨h,g,d,t+1,os⟩ "object.__setattr__" "object" "__setattr__" (.ref e) [.str name t,v] [] _ SF.kind SF.split sub (SF.args (.ref e) (.str name t) v) ?_;rw[osa_eq,refuse_eq];refine AK (AK (T0.at (AK (h1.at ?_))));rw[hm,V2 _ _ _ l hl,PySem.F.store_Exception.passes];refine Ae (AK (T0.at (AK ((Oj X xa.no).at (AK (Ae ?_))))));show ax _ _ (storeInOwnDict (.ref e) (.ref C) _ name v _) _ _ _;have ne:e≠h.objs.size:=BS (A7 he);delta storeInOwnDict;refine AK (Ae ?_);rw[AF (show¬((Value.ref C==Value.type "module")=Y) from Ck)];refine AK (AK (wpAny_loadPart he ?_));refine AK ((Vj X hc).at ?_);rw[h0,AF (by decide)];have e1:=BD {cls:=.type "dict",data:=.dict #[]} he;have e2:=JN (λo=>{o with dict:=U h.objs.size}) e1 Z;have d2:((h.push {cls:=.type "dict",data:=.dict #[]}).update e λo=>{o with dict:=U h.objs.size}).get? h.objs.size=U {cls:=.type "dict",data:=.dict #[]}:=
  (EH _ _ ne).trans (CG h Z);show ax _ _ (do
  let dd<-alloc {cls:=Value.type "dict",data:=Data.dict #[]}
  update e λo=>{o with dict:=U dd}
  dictMade (.ref C) e dd) _ _ _;refine AK (wpAny_alloc' ?_);refine AK (wpAny_update' e1 ?_);refine Ae ?_;show ax _ _ (storeInDict h.objs.size (.str name t) name v) _ _ _;have nd:((h.push {cls:=.type "dict",data:=.dict #[]}).update e λo=>{o with dict:=U h.objs.size}).Ns h.objs.size (λ_=>J):=⟨_,#[],_,d2,Z,λx hx=>absurd hx (by simp),λ_=>rfl⟩;delta storeInDict newKeyGuard;refine AK (Ae (AK (wpAny_nsSet1 (Heap.Ns1.of_empty nd) λh' h2 hs=>?_)));obtain⟨oD,h8,h9,h3,h4,h5⟩:=h2.count (Within.cons name v Within.nil);refine AK (wpAny_lookBehind h3 (by rw[h4];exact pastItsLine_dict (BI h5 (by rw[Bw,Ht,BA];lia))) ?_);refine Ae ?_;exact hq h' _ ((hs.2 e ne).trans e2) h2 λb o nb hb=>(hs.2 b (BS (A7 hb))).trans ((EH _ _ (DI nb)).trans (BD _ hb))
def pA{expr:Bool}(X:K.In h)(xa:Dc K C name)(he:h.get? e=U (Cq C (U D) vs))(hn:h.Ns1 D mA)(hv:mA name=U v)(hh:handedIn v=Y)
 (hq:∀tk,Q v ⟨h,g,d,tk,os⟩):ax (Yf prog w) A (ur (.ref e) name expr) Q E ⟨h,g,d,t,os⟩:=by
 obtain⟨od,h1,h2⟩:=Ws hn;have I:InstAt h e (Cq C (U D) vs) C (U od):=pM he h1;have T0:vJ (Yf prog w) h (typeOf (.ref e)) (.ref C):=I.type;obtain⟨cd,l,hc,hm,hl⟩:=xa.mro;obtain⟨h4,h3,h0⟩:=any_some xa.dict;obtain rfl:cd=h4:=AZ (hc.symm.trans h3);have fo:findObj K C (U od) name=U (.value v):=by delta findObj;rw[hc,M4,xa.no,M4];dsimp only[M4];delta PySem.W.ownOf;rw[h0,AG Z];dsimp only;rw[h2,hv];rfl
 have L1:=looks_find (M:=Yf prog w) X I fo;have sub:vJ (Yf prog w) h (uy (.ref e) (.type "BaseException")) Y:=T0.andThen (looks_mroIn X (aJ X xa Z));have GA:=PySem.F.attr_Exception.ga;delta ur getAttrBy;refine AK (wpAny_mkText (Gb (AK (T0.at (AK ((Oj X xa.ga).at ?_))))));dsimp only;rw[show(onTheHeap (Value.ref C)&&Value.builtin "BaseException.__getattribute__" ==Value.builtin "object.__getattribute__")=vc from by rw[show(Value.builtin "BaseException.__getattribute__" ==Value.builtin "object.__getattribute__")=vc from by left,LS],AF (by decide)];delta getAttrByItsOwn;refine AK ((show vJ (Yf prog w) h (hookBefore (.ref C)) J from Oj X xa.hook).at ?_);refine AK (KO (Gb ?_));delta callGetattribute;rw[show(expr&&onTheHeap (Value.builtin "BaseException.__getattribute__"))=vc from LS _,AF (by decide)];delta boundAndCalled;rw[GA.bind];refine AK (Ae ?_);show ax _ _ (call (.builtin "BaseException.__getattribute__") [.ref e,.str name t]) _ _ _;refine ND (Vd GA.plain PySem.F.entry_bexc_ga ?_);refine @check_slot (Yf prog w) _ _ ⟨h,g,d,t+1,os⟩ "BaseException.__getattribute__" "BaseException" "__getattribute__" (.ref e) [.str name t] [] _ (by left) (by left) sub (PySem.F.args_bexc_ga (.ref e) (.str name t)) ?_;delta Builtin.«object.__getattribute__»;refine AK (Ae ?_);refine AK (Ae ?_);refine AK (T0.at (AK (L1.at ?_)));refine Ae ?_;show ax _ _ (handedOut v) _ _ _;rw[handedOut_of hh];exact Ae (hq _)
end
end
def xO(e C:OK)(dd:Option OK)(vs:Array AB):HO:=.ext λh=>h.get? e=U (Cq C dd vs)
def UO{e:OK}(he:h.get? e=U (Cq C dd vs)):BY P w H h e (xO e C dd vs):=
 ⟨he,⟨_,he⟩,λ_ _ p k=>k _ p⟩
def Km{e:OK}(ok:CA P w H h)(q:H e=U (xO e C dd vs)):h.get? e=U (Cq C dd vs):=(ok e _ q).1
structure Hn(h0:sf)(H:Hp)(h:sf)(e C D:OK)(vs:Array AB):Prop where
 xo:H e=U (xO e C (U D) vs)
 hd:Hd h e vs
 new:h0.objs.size<=e
 OA:∀T,vs[1]? =U (.ref T)->h0.objs.size<=T/\H T=J
 two:1<vs.size
def Cw(P:sY)(w:si):J1:=λh0 H s E v s'=>∃e C D vs H',v=Value.ref e/\s'.os=s.os/\uD s'.gens/\Un (Cr h0) [] H H' s.heap s'.heap/\CA P w H' s'.heap/\Hn s.heap H' s'.heap e C D vs/\
 ∀vs,E (.ref C) (U D) (upd H' e (xO e C (U D) vs))
section
variable{h0 h2 h3:sf}{e:OK}{fs:List OK}
def Hn.ne(f:Hn h0 H2 h2 e C D vs)(hb:h0.get? b=U o):b≠e/\∀T,vs[1]? =U (.ref T)->b≠T:=
 ⟨λz=>absurd (A7 hb) (PU.mpr (z▸f.new)),λT ht z=>absurd (A7 hb) (PU.mpr (z▸(f.OA T ht).1))⟩
def Hn.step(ok:CA P w H2 h2)(f:Hn h0 H2 h2 e C D vs)(lv:Lv fs e C (U D) vs h2 h3)(ff:∀b∈fs,H2 b=J):
 ∃vs3,CA P w (upd H2 e (xO e C (U D) vs3)) h3/\Hn h0 (upd H2 e (xO e C (U D) vs3)) h3 e C D vs3:=by
 obtain⟨T,oT,ts,he,hT,gT,dT,h1⟩:=lv.here;have e2:=Km ok f.xo;have Tn:T≠e:=Fu (C7 (A7 e2) hT);have one:(vs.setIfInBounds 1 (.ref T))[1]? =U (.ref T):=by simp[f.two]
 refine⟨_,λb o q=>?_,AN,.inr ⟨T,oT,ts,one,Tn,gT,dT,h1⟩,f.new,λT' ht=>?_,by simpa using f.two⟩
 .by_cases hb:b=e
  .subst hb;rw[AN] at q;cases q;exact UO he
  .rw[AO hb] at q;refine(ok b o q).Eo (λc u hc g=>?_) (λc g=>?_) λc xs g=>?_
   .have tc:H2 c≠J:=by
     rcases hc with z|z
     .rw[z,q];exact λy=>nomatch y
     .rw[z];exact λy=>nomatch y
    refine lv.keep c u g (λm=>tc (ff c m)) (λz=>?_) λT' ht z=>tc (z▸(f.OA T' ht).2);rcases hc with y|y
    .exact hb (y.symm.trans z)
    .rw[z,f.xo] at y;cases y
   .rw[AO (λz=>by rw[z,f.xo] at g;cases g)];exact g
   .rw[AO (λz=>by rw[z,f.xo] at g;cases g)];exact g
 .rw[one] at ht;obtain rfl:T=T':=by cases ht;rfl
  refine⟨BI (BI f.new (Ge (A7 e2))) hT,?_⟩;rw[AO Tn];exact ok.fresh hT
def Hn.un(u:Un (Cr outer) [] H H2 h0 h2)(f:Hn h0 H2 h2 e C D vs){vs3:Array AB}(lv:Lv fs e C (U D) vs h2 h3)(hfs:∀b,b∈fs↔b=L\/b∈Cr outer)(hL:h0.objs.size<=L):
 Un (Cr outer) [] H (upd H2 e (xO e C (U D) vs3)) h0 h3:=by
 have nl:∀b o,h0.get? b=U o->b≠L:=λb o q z=>absurd (A7 q) (PU.mpr (z▸hL));have nil:∀b:OK,b∉([]:List OK):=λb=>by simp
 refine⟨λb o q n nb _=>?_,λb o q n mb _=>?_,λb o q n _=>?_,λb o q _=>?_,λb xs q=>?_,λb o u' q=>?_,λb ps q=>?_⟩
 .exact lv.keep b o (u.keep b o q n nb (nil b)) (λm=>((hfs b).mp m).elim (nl b o q) nb) (f.ne q).1 (f.ne q).2
 .obtain⟨sl,e1⟩:=u.slot b o q n mb (nil b);obtain⟨h1,e2⟩:=lv.slot b _ e1 ((hfs b).mpr (.inr mb));exact⟨h1,e2⟩
 .rw[AO (f.ne q).1];exact u.free b o q n (nil b)
 .obtain⟨o',e1⟩:=u.there b o q (nil b);by_cases m:b∈fs
  .obtain⟨sl,e2⟩:=lv.slot b _ e1 m;exact⟨_,e2⟩
  .exact⟨o',lv.keep b o' e1 m (f.ne q).1 (f.ne q).2⟩
 .have:=u.FC b xs q;rw[AO (λz=>by rw[z,f.xo] at this;cases this)];exact this
 .have:=u.EW b o u' q;rw[AO (λz=>by rw[z,f.xo] at this;cases this)];exact this
 .obtain⟨more,this⟩:=u.E9 b ps q;exact⟨more,by rw[AO (λz=>by rw[z,f.xo] at this;cases this)];exact this⟩
def Hn.rX(u:Un fs [] H H2 h0 h2)(f:Hn h0 H2 h2 e C D vs){vs3:Array AB}(lv:Lv fs e C (U D) vs h2 h3):Un fs [] H (upd H2 e (xO e C (U D) vs3)) h0 h3:=by
 have nil:∀b:OK,b∉([]:List OK):=λb=>by simp
 refine⟨λb o q n nb _=>lv.keep b o (u.keep b o q n nb (nil b)) nb (f.ne q).1 (f.ne q).2,λb o q n mb _=>?_,λb o q n _=>?_,λb o q _=>?_,λb xs q=>?_,λb o u' q=>?_,λb ps q=>?_⟩
 .obtain⟨sl,e1⟩:=u.slot b o q n mb (nil b);obtain⟨h1,e2⟩:=lv.slot b _ e1 mb;exact⟨h1,e2⟩
 .rw[AO (f.ne q).1];exact u.free b o q n (nil b)
 .obtain⟨o',e1⟩:=u.there b o q (nil b);by_cases m:b∈fs
  .obtain⟨sl,e2⟩:=lv.slot b _ e1 m;exact⟨_,e2⟩
  .exact⟨o',lv.keep b o' e1 m (f.ne q).1 (f.ne q).2⟩
 .have:=u.FC b xs q;rw[AO (λz=>by rw[z,f.xo] at this;cases this)];exact this
 .have:=u.EW b o u' q;rw[AO (λz=>by rw[z,f.xo] at this;cases this)];exact this
 .obtain⟨more,this⟩:=u.E9 b ps q;exact⟨more,by rw[AO (λz=>by rw[z,f.xo] at this;cases this)];exact this⟩
end
section
variable{E:XK}
abbrev Gy(P:sY)(w:si)(K:vH)(mg:Str->Option AB)(base:sf)(N:List Str)(qual:Str)(scope:uX)(f:OK)(cd:AB)(A:tU)(outer:List Env)(s:Ya)(H:Hp)(E:XK):Cx:=
 Jy (Cw P w) P w K mg base N qual scope f cd A outer s H E
def iV(hf:env.frame=U L)(outer:List Env)(b:OK):b∈Cr (env::outer)↔b=L\/b∈Cr outer:=by delta Cr;rw[RM,hf];exact BM
def YF{s2:Ya}{e:OK}(vg:Inv (Gy P w K mg base N qual scope f cd A outer s H E) pins S H2 s2)(fl:Hn s.heap H2 s2.heap e C D vs)
 (hE:∀vs,E (.ref C) (U D) (upd H2 e (xO e C (U D) vs))):(Gy P w K mg base N qual scope f cd A outer s H E).xe (.ref e) s2:=by
 show ax _ _ (leaving (tu qual scope s.heap.objs.size f cd) (.ref e)) _ _ s2;refine AK (ZH (base:=base) (L:=s.heap.objs.size) (outer:=outer) vg.ok.frames vg.stack Z (Km vg.hok fl.xo) fl.two fl.hd λh3 lv=>?_);obtain⟨h1,h5,h6⟩:=fl.step vg.hok lv vg.Pz;refine⟨e,C,D,h1,_,Z,vg.os,vg.bare,?_,h5,h6,λh4=>?_⟩
 .exact fl.un vg.base lv (iV Z outer) (Ac _)
 .rw[Jg];exact hE h4
def E8:Passes (Cw P w) (Gy P w K mg base N qual scope f cd A outer s H E) E:=λh4 S H1 s1 v s2 I cx=>by obtain⟨e,C,D,vs,H2,rfl,os,h1,un,ok,fl,hE⟩:=cx;have vg:=I.QQ (ch:=[]) os un ok h1 (λb z=>absurd z (by simp));exact YF vg ⟨fl.xo,fl.hd,BI I.sz fl.new,λT ht=>⟨BI I.sz (fl.OA T ht).1,(fl.OA T ht).2⟩,fl.two⟩ hE
def IV{st:hX}(F:Ak K x qual st f fd)(vj:A3 N ps (Aq st))(len:∀vs H Q E,sp vs H Q E->vs.length=ps.length)
 (hbody:∀(cdv:AB)(A:tU)(outer:List Env)(s:Ya)(H:Hp)(vs:List V)(Q:VK)(E:XK),Br k (A.deeper (tu qual (Aq st) s.heap.objs.size f cdv))->sp vs H Q E->
  ∃t,Et (Gy P w K mg base N qual (Aq st) f cdv A outer s H E) (F3 st) t/\t {nx:=λ_ H'=>Q .BB H',rt:=Q} (start N vs) H):AX P w K mg base (Cw P w) (k+1) f fd ps sp:=by
 obtain⟨oc,od,kV,h5,pm,an,cdv,ct,h4,rfl,lk,h1⟩:=F.ex;exact aT lk h1 vj len (hbody cdv)
end
structure VO(K:vH)(C fI:OK)(bm:List AB):Prop where
 cls:∃N,∀h:sf,K.In h->Gr h C bm N
 init:sk K (.ref C) "__init__" =U (U (.ref fI))
 line:Iz bm
 fn:isFn K (.ref fI)=Y
 kp:tM K (.ref C)=Y
def F4(C:OK)(f:Str)(msg:Str):Sp:=λvs H Q _=>∃e ws,vs=[.ref e]/\H e=U (xO e C J ws)/\∀D,H D=J->D≠e->Q .BB (upd (upd H D (.xd [(f,.str msg)])) e (xO e C (U D) ws))
noncomputable def J7(t:OK):Array AB:= #[.ref t,.none,.none,.none,.bool vc,.none]
def iT{o u:HO}(h:a≠b):upd (upd H a o) b u=upd (upd H b u) a o:=by
 funext c;delta upd;by_cases h1:c=a
 .subst h1;rw[AF h,AG Z,AG Z]
 .by_cases h2:c=b
  .subst h2;rw[AG Z,AF h1,AG Z]
  .rw[AF h2,AF h1,AF h1,AF h2]
section
variable{f:Str}
def jA(I:Inv X pins S H s)(C:OK):Inv X pins S (upd H (s.heap.objs.size+1) (xO (s.heap.objs.size+1) C J (J7 s.heap.objs.size))) {s with heap:=Jm s.heap C []}:=by
 have kk:∀b o,s.heap.get? b=U o->(Jm s.heap C []).get? b=U o:=λb o e=>BD _ (BD _ e);have e2:(Jm s.heap C []).get? (s.heap.objs.size+1)=U (Cq C J (J7 s.heap.objs.size)):=by have z:=CG (s.heap.push {cls:=.type "tuple",data:=.seq ([]:List AB).toArray}) (o:=Cq C J (J7 s.heap.objs.size)) Z;rw[HI] at z;exact z
 exact I.laid (t':=s.toks) kk (E2 _) (UO e2)
end
variable{msg:Str}
section
variable{f:Str}
def kH(M:VO X.K C fI bm)(F:AX X.prog X.w X.K X.mg X.base Ai k fI fd ["self"] (F4 C f msg))(hr:Br (k+1) X.A)(hg:Gl X x)(hm:X.mg x=U (.ref C))(hb:Binds X.K fd ["self"] [])
 (hdb:(x==("__debug__" :Str))=vc)(I:Inv X pins S H s):
 ax (Yf X.prog X.w) X.A (sd (.Call (.Name x p) [] [] pos) X.env) (λu s2=>∃e D t,u=Value.ref e/\s.heap.objs.size<=e/\H e=J/\H D=J/\D≠e/\Inv X pins S (upd (upd H D (.xd [(f,.str msg)])) e (xO e C (U D) (J7 t))) s2) X.xe s:=by
 refine Ms (Lp I hg hm ?_ hdb);refine Vk I.Bb M.kp ?_;obtain⟨N,xc⟩:=M.cls;obtain⟨o,ho,h0⟩:=KD.mp (Fw.mp M.fn);have I2:=jA I C;have sp:F4 C f msg [.ref (s.heap.objs.size+1)] (upd H (s.heap.objs.size+1) (xO (s.heap.objs.size+1) C J (J7 s.heap.objs.size))) (λv H2=>v=.BB/\∃D,H D=J/\D≠s.heap.objs.size+1/\
  H2=upd (upd H D (.xd [(f,.str msg)])) (s.heap.objs.size+1) (xO (s.heap.objs.size+1) C (U D) (J7 s.heap.objs.size))) E0:=by
  refine⟨_,_,Z,AN,λD hD nD=>⟨Z,D,?_,nD,?_⟩⟩
  .rw[AO nD] at hD;exact hD
  .rw[iT (DI nD),Jg]
 have run:=F.run (X.A.under (.builtin "type.__call__" ⟨[.ref C],[]⟩)) X.stack _ _ ⟨[.ref (s.heap.objs.size+1)],[]⟩ [.ref (s.heap.objs.size+1)] [.ref (s.heap.objs.size+1)] _ E0 (hr.make C [] []) (I2.Uz.make C [] [])
  (hb _ [.ref (s.heap.objs.size+1)] I2.Bb Z) (.cons Z .nil) sp;obtain⟨hp,g,d,tk,os⟩:=s;refine mJ (rest:=[]) I.Bb (xc _ I.Bb) M.line M.init (I.Bb _ _ ho) h0 ?_ (CB _);refine ND (LZ run λr s' hq=>?_)
 cases r with
 |error e=>exact hq.elim
 |ok fl=>
  cases fl with
  |ret u=>obtain⟨v,H',I3,rv,ev,D,q1,q2,q3⟩:=I2.after hq;subst ev q3;exact⟨rv,hp.objs.size+1,D,hp.objs.size,Z,E2 _,I.hok.fresh (E2 _),q1,q2,I3⟩
  |next=>exact False.elim hq
  |brk=>exact False.elim hq
  |cont=>exact False.elim hq
def iC{g:OK}{dvs:List V}{ds:List AB}{E:XK}{m:Str}{es:List hY}{t:TA}(hg:Gl X x)(hm:X.mg x=U (.ref C))(hrd:readsIn X.K C (.type "type")=Y)
 (hf:findCls X.K (.ref C) (.type "type") m=U (.val (.ref g)))(hs:uc X.K (.ref C) "__getattribute__" =U (U (.builtin "type.__getattribute__")))(hk:tM X.K (.ref g)=Y)
 (F:AX X.prog X.w X.K X.mg X.base CX k g fd ps sp)(hr:Br k X.A)(hb:Binds X.K fd ps ds)(hd:Vals dvs ds)(hx:Passes CX X E)(ha:PA X (e::es) t)(hdb:(x==("__debug__" :Str))=vc:=by decide)
 (hst:dq (e::es) X.env=(vc,sd e X.env)::dq es X.env:=by rfl)(hpl:(tF pos (dq es X.env)).any (·.1)=vc:=by rfl)
 (ht:sd (.Call (.Attribute (.Name x p) m apos) (e::es) [] pos) X.env=(do
  let ov<-sd (.Name x p) X.env
  standAt apos.atName
  let(f,first)<-uP [ov] (uf ov m pl)
  callWith pos f first (tF pos (dq (e::es) X.env)) (uG pos (tP [] X.env))):=by rfl):
 PE X (.Call (.Attribute (.Name x p) m apos) (e::es) [] pos) (Nz sp dvs E t):=by
 intro h0 s S H Q I h;refine methodCall_KW (pl:=pl) (Lp I hg hm ?_ hdb) ht;refine method_cls I.Bb hs (cls_value I.Bb hrd hf Z ?_);have I1:=I.tok (s.toks+1);refine Vo (first:=[]) (h₀:=X.base) I.ok.mod.OL hk (Ad (ha pos h0 _ S H _ I1 h) λus s2 ⟨vs,H2,I2,r,q2⟩=>⟨I2.Bb,?_⟩) hst hpl;exact QD F hr hb hd hx I2 r q2
def qG(K:vH)(ta tv:TE)(f:Str):TS:=λD S H=>tv S H λy H1=>ta S H1 λx H2=>∃e C ws,x=.ref e/\H2 e=U (xO e C J ws)/\Dc K C f/\
 ∀d,H2 d=J->d≠e->D.nx S (upd (upd H2 d (.xd [(f,y)])) e (xO e C (U d) ws))
def kY{o value:hY}{pos':Pos}{tv:TE}(ha:PE X o ta)(hv:PE X value tv)(hs:uN value (U (.Attribute o f pos')) pos.line X.env=pure vc):PS X (.Assign [.Attribute o f pos'] value pos) (qG X.K ta tv f):=by
 intro h0 s S H D I h;refine uY (Ad (hv h0 s S H _ I h) λu s1 ⟨y,H1,I1,ry,q⟩=>Ad (ha h0 s1 S H1 _ I1 q) λov s2 ⟨x,H2,I2,rx,e,C,ws,ex,ea,xa,q2⟩=>?_) hs;subst ex;obtain rfl:ov=Value.ref e:=rx;have he:=Km I2.hok ea;have nD:s2.heap.objs.size≠e:=Fu (A7 he);have fr:H2 s2.heap.objs.size=J:=I2.hok.fresh (Ac _);obtain⟨hp,g,d,tk,os⟩:=s2;refine pX I2.Bb xa he λh' h5 h3 h2 h1=>⟨S,_,?_,q2 hp.objs.size fr nD⟩;have hD:∃o,h'.get? hp.objs.size=U o:=let⟨o,_,_,q,_⟩:=h2;⟨o,q⟩;have un:Un X.fs [] H2 (upd (upd H2 hp.objs.size (.xd [(f,y)])) e (xO e C (U hp.objs.size) ws)) hp h':=by
  refine⟨λb o q n _ _=>h1 b o (λz=>by rw[z,ea] at n;cases n) q,λb o q n _ _=>⟨o.slots,h1 b o (λz=>by rw[z,ea] at n;cases n) q⟩,λb o q n _=>?_,λb o q _=>?_,λb xs q=>?_,λb o u q=>?_,λb ps q=>⟨#[],?_⟩⟩
  .rw[AO (λz=>by rw[z,ea] at n;cases n),AO (BS (A7 q))];exact n
  .by_cases z:b=e
   .rw[z];exact⟨_,h3⟩
   .exact⟨o,h1 b o z q⟩
  .rw[AO (λz=>by rw[z,ea] at q;cases q),AO (A8 q fr)];exact q
  .rw[AO (λz=>by rw[z,ea] at q;cases q),AO (A8 q fr)];exact q
  .rw[AO (λz=>by rw[z,ea] at q;cases q),AO (A8 q fr),q];simp
 refine I2.un (t':=h5) (h':=h') un λb o q=>?_;by_cases hb:b=e
 .subst hb;rw[AN] at q;cases q;exact UO h3
 .rw[AO hb] at q;by_cases h4:b=hp.objs.size
  .subst h4;rw[AN] at q;cases q;refine⟨_,h2,λy'=>?_⟩;show DV (List.lookup y' [(f,y)]) (if y'=f then U u else J);by_cases z:y'=f
   .subst z;rw[AG Z,HG,Ic];exact ry
   .rw[AF z,HG,LQ z];exact Cy
  .rw[AO h4] at q;refine(I2.hok b o q).Eo (λc v hc gg=>h1 c v (λz=>?_) gg) (λc gg=>?_) λc xs gg=>?_
   .rcases hc with y1|y1
    .exact hb (y1.symm.trans z)
    .rw[z,ea] at y1;cases y1
   .rw[AO (λz=>by rw[z,ea] at gg;cases gg),AO (A8 gg fr)];exact gg
   .rw[AO (λz=>by rw[z,ea] at gg;cases gg),AO (A8 gg fr)];exact gg
end
section
variable{E:XK}
def my(C:OK)(fl msg:Str)(E:XK):TS:=λ_ _ H=>∀e D ws,H e=J->H D=J->D≠e->E (.ref C) (U D) (upd (upd H D (.xd [(fl,.str msg)])) e (xO e C (U D) ws))
def iu{np:Pos}{fl:Str}(M:VO K C fI bm)(F:AX P w K mg base Ai k fI fd ["self"] (F4 C fl msg))
 (hr:Br (k+1) (Gy P w K mg base N qual scope f cd A outer s H E).A)(hg:Gl (Gy P w K mg base N qual scope f cd A outer s H E) x)(hm:mg x=U (.ref C))(hb:Binds K fd ["self"] [])(hdb:(x==("__debug__" :Str))=vc:=by decide):
 PS (Gy P w K mg base N qual scope f cd A outer s H E) (.Raise (U (.Call (.Name x np) [] [] cpos)) J pos) (my C fl msg E):=by
 intro h0 s1 S H1 D I h;rw[arm_exec_Raise];refine AK (O8 ?_);have ev:=kH (X:=Gy P w K mg base N qual scope f cd A outer s H E) (p:=np) (pos:=cpos) M F hr hg hm hb hdb I;refine km (C:=C) (bm:=bm) (I.ok.hd Z) M.line ?_;refine AK (DA ev (λv s2 z=>?_) λ_ _ z=>z);obtain⟨e,D',t,rfl,new,he,hD,ne,I2⟩:=z;refine AK (O8 (Ae ?_));obtain⟨Nn,xc⟩:=M.cls;have at2:(upd (upd H1 D' (.xd [(fl,.str msg)])) e (xO e C (U D') (J7 t))) e=U (xO e C (U D') (J7 t)):=AN;refine⟨e,Nn,t,U D',Z,xc _ I2.Bb,Km I2.hok at2,?_⟩;refine YF I2 ⟨at2,.inl Z,?_,(λT hT=>by cases hT),(by show 1<6;decide)⟩ λws=>?_
 .exact BI I.sz new
 .rw[Jg];exact h e D' ws he hD ne
end
abbrev Np(X:Cx)(pins:List (OK×Obj))(W:AB->Ya->Prop):Cx:={X with pn:=X.pn++pins,xe:=W}
abbrev Ke(X:Cx)(e:OK)(W:AB->Ya->Prop):Cx:={X with A:=X.A.mark (U (.ref e)),calm:=vc,xe:=W}
def Inv.oW(I:Inv X pins S H s)(W:AB->Ya->Prop):Inv (Np X pins W) [] S H s:=
 ⟨⟨I.ok.mod,I.ok.kind,I.ok.glob,I.ok.blt,I.ok.above,I.ok.inj,I.ok.has,I.ok.K8,I.ok.hd,I.ok.frames,I.ok.MX,I.ok.Qn,I.ok.bs,I.ok.Gx,I.ok.K0,I.ok.K3,I.ok.FA,I.ok.IX⟩,
  I.os,I.bare,I.base,I.loc,I.cell,I.free,I.DK,λp hp=>I.pin p (by rw[CW] at hp;exact hp),I.hok,I.len⟩
def Inv.Na{pins1:List (OK×Obj)}{W:AB->Ya->Prop}(ok:X.Ok)(I:Inv (Np X pins W) pins1 S H s):Inv X pins S H s:=
 ⟨ok,I.os,I.bare,I.base,I.loc,I.cell,I.free,I.DK,λp hp=>I.pin p (GZ _ hp),I.hok,I.len⟩
def Inv.marked(I:Inv X pins S H s)(e:OK)(W:AB->Ya->Prop):Inv (Ke X e W) pins S H s:=
 ⟨⟨I.ok.mod,I.ok.kind,I.ok.glob,I.ok.blt,I.ok.above,I.ok.inj,I.ok.has,I.ok.K8,(λz=>nomatch z),I.ok.frames,I.ok.MX,I.ok.Qn,I.ok.bs,I.ok.Gx,I.ok.K0,I.ok.K3,I.ok.FA,I.ok.IX⟩,
  I.os,I.bare,I.base,I.loc,I.cell,I.free,I.DK,I.pin,I.hok,I.len⟩
def Inv.unmarked{e:OK}{W:AB->Ya->Prop}(ok:X.Ok)(I:Inv (Ke X e W) pins S H s):Inv X pins S H s:=
 ⟨ok,I.os,I.bare,I.base,I.loc,I.cell,I.free,I.DK,I.pin,I.hok,I.len⟩
structure Um(K:vH)(R:OK):Prop where
 cls:∃bm N,(∀h:sf,K.In h->Gr h R bm N)/\Iz bm
structure Ug(K:vH)(C R:OK):Prop where
 cls:∃bm N,(∀h:sf,K.In h->Gr h C bm N)/\(Value.ref C::bm).contains (.ref R)=Y
section
variable{g:Array uH}{d:Drawn}{t:Nat}{R N NR e:OK}{bmR:List AB}
def kG(xc:Gr h C bm N)(xr:Gr h R bmR NR)(ln:Iz bmR)(he:h.get? e=U (Cq C dd vs))(hs:(Value.ref C::bm).contains (.ref R)=Y){Q:Bool->Ya->Prop}(hq:Q Y ⟨h,g,d,t,os⟩):
 ax M A (excMatches (.ref e) (.ref R)) Q E ⟨h,g,d,t,os⟩:=by
 obtain⟨a1,a2,a3,a4,a5,a6,a7,a8,a9,b1,b2,b3,b4,b5,h1⟩:=xc;obtain⟨c1,c2,c3,c4,c5,c6,c7,c8,c9,d1,d2,d3,d4,d5,h0⟩:=xr;have rB:(Value.ref R::bmR).contains (.type "BaseException")=Y:=IE ln.base Z;have nt:=tc_notTuple;delta Cq at he;delta excMatches;repeat (first|with_reducible refine JP he ?_|with_reducible refine JP h0 ?_|(with_reducible refine Mp h0 ?_;rw[rB])|(with_reducible refine Mp h1 ?_;rw[hs])|wp_step)
 exact hq
end
def T1(K:vH)(R:OK)(f:Str)(Q:VK):XK:=λc d H'=>∃C D h0,c=.ref C/\d=U D/\Ug K C R/\Dc K C f/\H' D=U (.xd [(f,.str h0)])/\Q (.str h0) H'
def pI{e:OK}{ws:Array AB}{f:Str}{fs:List (Str×V)}{expr:Bool}{Q:VK}(I:Inv X pins S H s)(he:H e=U (xO e C (U D) ws))(xa:Dc X.K C f)
 (hD:H D=U (.xd fs))(hv:fs.lookup f=U v)(q:Q v H):ax (Yf X.prog X.w) A (ur (.ref e) f expr) (EP X pins S Q) E s:=by
 obtain⟨mA,hn,h0⟩:=(show BY X.prog X.w H s.heap D (.xd fs) from I.hok D _ hD);have r:=h0 f;rw[hv] at r;obtain⟨u,hu,ru⟩:=r.some_of;have h1:=Km I.hok he;obtain⟨hp,g,d,tk,os⟩:=s;exact pA I.Bb xa h1 hn hu (Wj ru) λtk=>⟨v,H,I.tok tk,ru,q⟩
def ou(K:vH)(ta:TE)(f:Str):TE:=λS H Q=>ta S H λx H1=>∃e C D ws fs v,x=.ref e/\H1 e=U (xO e C (U D) ws)/\Dc K C f/\H1 D=U (.xd fs)/\fs.lookup f=U v/\Q v H1
def kr{o:hY}{f:Str}(he:PE X o ta)(hb:sr o f X.env (sd o X.env)=sd o X.env):PE X (.Attribute o f pos) (ou X.K ta f):=by intro h0 s S H Q I h;refine YN hb (Ad (he h0 s S H _ I h) λu s1 ⟨x,H1,I1,rx,e,C,D,ws,fs,v,ex,ea,xa,eD,l,q⟩=>?_);subst ex;obtain rfl:u=Value.ref e:=rx;exact pI I1 ea xa eD l q
def jK{m':Str->Option AB}(I:Inv X pins S H s)(hs:Heap.SameBut X.env.locals s.heap h')(hn:h'.Ns X.env.locals m'):
 Inv X pins (List.replicate X.N.length J) H {s with heap:=h',toks:=t'}:=by
 have nl:∀b o,X.s₀.heap.get? b=U o->b≠X.env.locals:=λb o e=>BS (C7 (A7 e) I.ok.above);refine⟨I.ok,I.os,I.bare,⟨λb o e n hb hx=>(hs.2 b (nl b o e)).trans (I.base.keep b o e n hb hx),λb o e n hb hx=>?_,I.base.free,λb o e hx=>?_,I.base.FC,I.base.EW,I.base.E9⟩,⟨m',hn,λj y v' _ e2 _=>?_⟩,λy c e=>?_,I.free,I.DK,
  λp hp=>?_,λb u e=>?_,by simp⟩
 .obtain⟨sl,e1⟩:=I.base.slot b o e n hb hx;exact⟨sl,(hs.2 b (nl b o e)).trans e1⟩
 .obtain⟨o',e1⟩:=I.base.there b o e hx;exact⟨o',(hs.2 b (nl b o e)).trans e1⟩
 .rw[List.getElem?_replicate] at e2;split at e2<;>cases e2
 .obtain⟨v,z⟩:=I.cell y c e;exact⟨v,z.sameBut hs (I.J0 y c e)⟩
 .obtain⟨e,n,ne,nf,dt⟩:=I.pin p hp;exact⟨(hs.2 p.1 ne).trans e,n,ne,nf,dt⟩
 .refine(I.hok b u e).Eo (λc w' hc q=>(hs.2 c ?_).trans q) (λ_ q=>q) λ_ _ q=>q;intro z;rcases hc with y|y
  .rw[<-y,z,I.free] at e;cases e
  .rw[z,I.free] at y;cases y
def lU{tb:XK->TS}{n R:Str}{Rc:OK}{f:Str}{np p1 p2 p3 hpos:Pos}(hN:X.N.Nodup)(hi:X.N[i]? =U n)(hn:X.env.scope.names.lookup n=U .local)
 (hb:∀(pins:List (OK×Obj))(W:AB->Ya->Prop)(E:XK),Passes (Cw X.prog X.w) (Np X pins W) E->Et (Np X pins W) body (tb E))
 (hg:Gl X R)(hm:X.mg R=U (.ref Rc))(hR:Um X.K Rc)(hst:X.stack=X.env::X.outer/\X.env.frame=U X.env.locals)(hd1:(R==("__debug__" :Str))=vc:=by decide)(hd2:(n==("__debug__" :Str))=vc:=by decide)(hd3:(n==("__classdict__" :Str))=vc:=by decide)
 (hab:sr (.Name n p1) f X.env (sd (.Name n p1) X.env)=sd (.Name n p1) X.env:=by rfl):
 PS X (.Try body [.ExceptHandler (U (.Name R np)) (U n) [.Return (U (.Attribute (.Name n p1) f p2)) p3] hpos] [] [] pos) (λD S H=>tb (T1 X.K Rc f D.rt) D S H):=by
 intro pins s S H D I h;let W:AB->Ya->Prop:=λv s'=>∃vk H1 s1,Inv X pins vk H1 s1/\Cw X.prog X.w X.stack H1 s1 (T1 X.K Rc f D.rt) v s';have ps:Passes (Cw X.prog X.w) (Np X pins W) (T1 X.K Rc f D.rt):=λh9 vk H1 s1 v s2 I1 cx=>⟨vk,H1,s1,Inv.Na I.ok I1,cx⟩;have hr:=hb pins W _ ps [] s S H D (Inv.oW I W) h;refine wpAny_Try_except (DA hr (λfl s1 z=>?_) λv s2 z=>?_)
 .cases fl with
  |next=>obtain⟨S',H',vg,q⟩:=z;exact O1 ⟨S',H',Inv.Na I.ok vg,q⟩
  |brk=>obtain⟨S',H',vg,q⟩:=z;exact⟨S',H',Inv.Na I.ok vg,q⟩
  |cont=>obtain⟨S',H',vg,q⟩:=z;exact⟨S',H',Inv.Na I.ok vg,q⟩
  |ret u=>obtain⟨v,S',H',vg,r,q⟩:=z;exact⟨v,S',H',Inv.Na I.ok vg,r,q⟩
 .obtain⟨vk,H1,s1,I1,e,C,Dd,vs,H2,rfl,os,h5,un,ok,fl,hE⟩:=z;have vg:=I1.QQ (ch:=[]) os un ok h5 (λb z=>absurd z (by simp));have ff:(envs:List Env)->X.stack=envs->s2.heap.FunFrames X.base envs:=λl e=>e▸vg.stack;refine ZH (base:=X.base) (L:=X.env.locals) (outer:=X.outer) (hst.1▸vg.ok.frames) (ff _ hst.1) hst.2 (Km vg.hok fl.xo) fl.two fl.hd λh3 lv=>?_;obtain⟨h0,e1,h6⟩:=fl.step vg.hok lv (λb hb=>vg.Pz b (by rw[hst.1];exact hb));have e0:Un (Cr X.stack) [] H1 (upd H2 e (xO e C (U Dd) h0)) s1.heap h3:=by rw[hst.1] at un⊢;exact fl.rX un lv
  have J3:Inv X pins vk (upd H2 e (xO e C (U Dd) h0)) {s2 with heap:=h3}:=I1.QQ (s':={s2 with heap:=h3}) (ch:=[]) os e0 e1 h5 (λb z=>absurd z (by simp));obtain⟨C',D',e2,eC,eD,xs,xa,hD,hQ⟩:=hE h0;obtain rfl:C=C':=by cases eC;rfl
  obtain rfl:Dd=D':=by cases eD;rfl
  obtain⟨bm,N,xc,h8⟩:=xs.cls;obtain⟨bmR,NR,xr,e4⟩:=hR.cls;have e3:=Km J3.hok h6.xo;refine wpAny_handleBy_cons (codeAny_handlers_test ?_) (by intro q;cases q);refine Lp (X:=Ke X e λ_ _=>True) (Inv.marked J3 e _) hg hm ?_ hd1;refine kG (xc _ J3.Bb) (xr _ J3.Bb) e4 e3 h8 ?_;refine codeAny_handlers_suite_as ?_;obtain⟨T,oT,ts,h1,nT,hT,dT,e6⟩:∃T oT ts,h0[1]? =U (.ref T)/\T≠e/\h3.get? T=U oT/\oT.data=.fields ts/\ts[3]? =U .none:=by
   rcases h6.hd with z|z
   .obtain⟨T,oT,ts,he,_,gT,dT,e8⟩:=lv.here;have:h0=vs.setIfInBounds 1 (.ref T):=by have a:=e3.symm.trans he;cases a;rfl
    rw[this] at z;simp[fl.two] at z
   .exact z
  have h2:=h6.OA T h1;refine nO e3 h1 hT dT e6 λh4 k4 x4 z4=>?_;have J4:=J3.turned (t':=s2.toks) (it:=T) (h':=h4) (λb o nb q=>(k4 b nb).trans q) h2.2 (Fu (C7 I1.lt h2.1)) (.inr (BI I1.sz h2.1))
   (λx c q=>by obtain⟨v,z⟩:=I1.cell x c q;exact BS (C7 z.lt h2.1))
   λp hp=>BS (C7 (A7 (I1.pin p hp).1) h2.1);refine Se (X:=Ke X e λ_ _=>True) (Inv.marked J4 e _) hN hi (.inl hn) (v:=.ref e) Z (λs5 J5=>?_) (.inr hn);have e5:i<vk.length:=by rw[I1.len];exact(BP.mp hi).1
  refine DA ((AR (An (kr (X:=Ke X e _) (f:=f) (pos:=p2) (ZQ (X:=Ke X e _) (pos:=p1) hi (.inl hn) hd2 hd3) hab)):Et (Ke X e _) _ _) pins s5 _ _ {nx:=λ_ _=>False,rt:=D.rt} (Inv.marked (Inv.unmarked I.ok J5) e _)
   ⟨.ref e,Og e5,e,C,Dd,h0,_,.str e2,Z,h6.xo,xa,hD,by rw[HG,Ic],hQ⟩) (λe7 s6 z=>?_) λ_ _ z=>z
  cases e7 with
  |next=>obtain⟨_,_,_,q⟩:=z;exact q.elim
  |brk=>obtain⟨_,_,_,q⟩:=z;exact q.elim
  |cont=>obtain⟨_,_,_,q⟩:=z;exact q.elim
  |ret u=>obtain⟨v,vy,H6,J6,r6,q6⟩:=z;obtain⟨m6,n6,_⟩:=J6.loc;exact wpAny_nameGoes hn n6 (by rw[I.ok.kind];rfl) λh7 m7 n7 s7=>⟨v,_,H6,jK (Inv.unmarked I.ok J6) s7 n7,r6,q6⟩
abbrev PR:=Str×Str
noncomputable def GK(p:PR):List V:=[.str p.1,.str p.2]
noncomputable def De(p:PR):Dt:=.tup [.str p.1,.str p.2]
noncomputable def OI(H:Hp)(a:OK):Option PR:=match H a with
 |some (.tup [.str k,.str z])=>U (k,z)
 |_=>J
def YT{p:PR}(h:H a=U (.tup (GK p))):OI H a=U p:=by delta OI;rw[h];rfl
def Nm{p:PR}(r:Rep H (De p) v):∃a,v=.ref a/\H a=U (.tup (GK p)):=by
 cases r with
 |@tup ds a xs h hl rr=>refine⟨a,Z,?_⟩;revert h rr;refine MM (C:=λxs=>H a=U (.tup xs)->(∀(i:Nat) d x,[Dt.str p.1,Dt.str p.2][i]? =U d->xs[i]? =U x->Rep H d x)->H a=U (.tup (GK p))) (λu v h rr=>?_) hl.symm;have e1:=rr 0 (.str p.1) u Z Z;have e2:=rr 1 (.str p.2) v Z Z;cases e1;cases e2;exact h
def Tw{p:PR}(h:H a=U (.tup (GK p))):Rep H (De p) (.ref a):=by
 refine .tup h Z λi d x h1 h2=>?_
 match i with
 |0=>cases h1;cases h2;exact .str _
 |1=>cases h1;cases h2;exact .str _
 |i+2=>simp at h1
def ZR(p q:PR):decide (p=q)=((p.1==q.1)&&((p.2==q.2)&&Y)):=by
 by_cases h1:p.1=q.1
 .by_cases h2:p.2=q.2
  .rw[Bc (Prod.ext h1 h2),h1,h2,Ic,Ic];rfl
  .rw[BG (λz=>h2 (A2 Prod.snd z)),LQ h2,M7,LS]
 .rw[BG (λz=>h1 (A2 Prod.fst z)),LQ h1,M7]
def kh(I:Inv X pins S H s){p q:PR}(ha:H a=U (.tup (GK p)))(hb:H b=U (.tup (GK q)))(hu:A.units<tE):SeqAt.EqAt A s (.ref a) (.ref b) (decide (p=q)):=by
 by_cases h0:a=b
 .subst h0;rw[ha] at hb;have e:p=q:=by have:=AZ hb;cases p;cases q;simp[GK] at this;exact Prod.ext this.1 this.2
  rw[Bc e];exact .same _
 .obtain⟨h5,r,pl,hz⟩:=I.tuple (AS.of (K:=X.K) ha);obtain⟨h4,r2,h3,h6⟩:=I.tuple (AS.of (K:=X.K) hb);obtain⟨u1,u2,rfl,e1,e2⟩:=Vals.two r;obtain⟨w1,w2,rfl,e3,e4⟩:=Vals.two r2;obtain⟨t1,rfl⟩:=e1;obtain⟨t2,rfl⟩:=e2;obtain⟨t3,rfl⟩:=e3;obtain⟨t4,rfl⟩:=e4;have rc:=SeqAt.RcAt.tuples (e:=λj=>if j=0 then p.1==q.1 else p.2==q.2) pl h3 hu (λj h1 h2=>?_)
  .refine SeqAt.EqAt.of_refs h0 ?_;have:decide (p=q)=((List.range (min #[Value.str p.1 t1,Value.str p.2 t2].size #[Value.str q.1 t3,Value.str q.2 t4].size)).all (λj=>if j=0 then p.1==q.1 else p.2==q.2)&& #[Value.str p.1 t1,Value.str p.2 t2].size== #[Value.str q.1 t3,Value.str q.2 t4].size):=by show decide (p=q)=((List.range 2).all (λj=>if j=0 then p.1==q.1 else p.2==q.2)&&Y);rw[Bool.and_true,show List.range 2=[0,1] from Z,LW,LW,List.all_nil];exact ZR p q
   rw[this];exact rc
  .match j,h1 with
   |0,_=>exact .str_str _ _ _ _
   |1,_=>exact .str_str _ _ _ _
def G0(H:Hp)(p:PR)(u:AB):Bool:=match u with
 |.ref a=>decide (OI H a=U p)
 |_=>vc
def Zp(I:Inv X pins S H s)(hu:A.units<tE){p:PR}(hb:H b=U (.tup (GK p))):∀{ws:List PR}{xs:List V}{us:List AB},Ah H (ws.map De) xs->Vals xs us->∀u∈us,SeqAt.EqAt A s u (.ref b) (G0 H p u):=λ{ws xs us} rr rv u h4=>by
 obtain⟨i,hi⟩:=Om h4;have hl:i<ws.length:=by
  have h1:=(BP.mp hi).1;have h2:=rv.length;have h3:=rr.1;rw[AI] at h3
  lia
 have hx:i<xs.length:=by have:=rr.1;rw[AI] at this;lia
 have ex:xs[i]? =U xs[i]:=Ar hx;have ew:(ws.map De)[i]? =U (De ws[i]):=by rw[A1,Ar hl];rfl
 obtain⟨a,ea,ha⟩:=Nm (rr.2 i _ _ ew ex);obtain⟨u',h0,ru⟩:=rv.get ex;rw[hi] at h0;cases h0;rw[ea] at ru;cases ru;have e:G0 H p (.ref a)=decide (ws[i]=p):=by
  show decide (OI H a=U p)=_;rw[YT ha];by_cases z:ws[i]=p
  .rw[z];simp
  .rw[BG z,BG (λy=>z (AZ y))]
 rw[e];exact kh I ha hb hu
theorem Tu(H:Hp)(p:PR):∀{ws:List PR}{xs:List V}{us:List AB},Ah H (ws.map De) xs->Vals xs us->us.map (G0 H p)=ws.map λq=>decide (q=p)
 |[],[],_,_,.nil=>rfl
 |w::ws,x::xs,u::us,rr,.cons r t=>by
  obtain⟨a,ea,ha⟩:=Nm (rr.2 0 _ x Z Z);rw[Au,Au,Tu H p (ws:=ws) (xs:=xs) ⟨by simpa using rr.1,λi d y h1 h2=>rr.2 (i+1) d y (by simpa using h1) (by simpa using h2)⟩ t];rw[ea] at r;cases r;congr 1;show decide (OI H a=U p)=_;rw[YT ha];by_cases z:w=p
  .rw[z];simp
  .rw[BG z,BG (λy=>z (AZ y))]
 |[],_::_,_,rr,_=>by cases rr.1
 |_::_,[],_,rr,_=>by cases rr.1
def rE:R2:=λx y H Q=>∃a b p q,x=.ref a/\y=.ref b/\H a=U (.tup (GK p))/\H b=U (.tup (GK q))/\Q (.bl (decide (p=q))) H
def XF(hu:X.A.units<tE):CD X (sZ .Eq) rE:=by
 intro pins s S H x y v u Q I rx ry h;obtain⟨a,b,p,q,rfl,rfl,ha,hb,qq⟩:=h;cases rx;cases ry;obtain⟨h4,r,pl,hz⟩:=I.tuple (AS.of (K:=X.K) ha);obtain⟨h3,r2,h0,h5⟩:=I.tuple (AS.of (K:=X.K) hb);obtain⟨u1,u2,rfl,e1,e2⟩:=Vals.two r;obtain⟨w1,w2,rfl,e3,e4⟩:=Vals.two r2;obtain⟨t1,rfl⟩:=e1;obtain⟨t2,rfl⟩:=e2;obtain⟨t3,rfl⟩:=e3;obtain⟨t4,rfl⟩:=e4;refine SeqAt.eq_tupleAt (e:=λj=>if j=0 then p.1==q.1 else p.2==q.2) pl h0 hu (λj h1 h2=>?_) ⟨.bl (decide (p=q)),H,I,?_,qq⟩
 .match j,h1 with
  |0,_=>exact .str_str _ _ _ _
  |1,_=>exact .str_str _ _ _ _
 .show Value.bool ((List.range 2).all (λj=>if j=0 then p.1==q.1 else p.2==q.2)&&Y)=Value.bool (decide (p=q));rw[Bool.and_true,show List.range 2=[0,1] from Z,LW,LW,List.all_nil];exact A2 Value.bool (ZR p q).symm
def qV:R2:=λx y H Q=>∃(b l:OK)(p:PR)(ws:List PR)(xs:List V),x=.ref b/\y=.ref l/\H b=U (.tup (GK p))/\H l=U (.lst xs)/\Ah H (ws.map De) xs/\Q (.bl (ws.any λq=>decide (q=p))) H
def iR(hu:X.A.units+1<tE):CD X (sZ .In) qV:=by intro pins s S H x y v u Q I rx ry h;obtain⟨b,l,p,ws,xs,rfl,rfl,hb,hl,rr,q⟩:=h;cases rx;cases ry;obtain⟨h0,r,pl,hz⟩:=I.list (AL.of (K:=X.K) hl);refine SeqAt.in_listAt (G0 H p) pl.isList (λw hw=>Zp I (show X.A.in1.units<tE from hu) hb rr r w (by simpa using hw)) ⟨.bl _,H,I,Z,?_⟩;have e:=A2 (λl:List Bool=>l.any id) (Tu H p rr r);simp only[PH] at e;rw[show h0.toArray.any (G0 H p)=h0.any (G0 H p) by simp,show h0.any (G0 H p)=h0.any (id∘G0 H p) from Z,e];exact q
def ka:V->List V->Hp->VK->Prop:=λx vs H Q=>∃(b l:OK)(p:PR)(ws:List PR)(xs:List V),x=.ref l/\vs=[.ref b]/\H b=U (.tup (GK p))/\H l=U (.lst xs)/\Ah H (ws.map De) xs/\Q (.int (ws.countP λq=>decide (q=p):Nat)) H
def dN(hu:X.A.units+1<tE):IY X "list.count" ka:=by intro pins s S H x vs v us Q I rx rv h;obtain⟨b,l,p,ws,xs,rfl,rfl,hb,hl,rr,q⟩:=h;cases rx;obtain⟨u,rfl,ru⟩:=rv.one;cases ru;obtain⟨z,h0,n,r,h1,e⟩:=I.K5 hl;refine KS F.slot_list_count ⟨_,e,Z⟩ F.entry_list_count (F.args_list_count_2 _ _) (SeqAt.list_countAt l h0.toArray n J #[] (.ref b) (G0 H p)) ⟨e,λw hw=>Zp I (show X.A.in1.units<tE from hu) hb rr r w (by simpa using hw),?_⟩;refine⟨.int _,H,I.tok _,⟨_,Z⟩,?_⟩;have e2:=A2 (λl:List Bool=>l.countP id) (Tu H p rr r);simp only[List.countP_map] at e2;show Q (.int (h0.countP (G0 H p):Nat)) H;rw[show h0.countP (G0 H p)=h0.countP (id∘G0 H p) from Z,e2];exact q
def Inv.ZK{o u:HO}(I:Inv X pins S H s)(h:H d=U o)(nt:∀xs,o≠.tup xs)(nw:∀x,o≠.own x)(nf:∀b u',X.H₀ d≠U (.BZ b u'))(nb:∀ps,o≠.Jz ps)(new:BY X.prog X.w (upd H d u) s.heap d u):Inv X pins S (upd H d u) s:=by
 refine⟨I.ok,I.os,I.bare,⟨I.base.keep,I.base.slot,λb ob q n hx=>?_,I.base.there,λb xs q=>?_,λb ob u' q=>?_,λb ps q=>?_⟩,I.loc,I.cell,?_,λx c e=>?_,λp hp=>?_,λb ob q=>?_,I.len⟩
 .have z:=I.base.free b ob q n hx;rw[AO (λy=>by rw[y,h] at z;cases z)];exact z
 .have z:=I.base.FC b xs q;rw[AO (λy=>by rw[y,h] at z;exact nt xs (AZ z))];exact z
 .have z:=I.base.EW b ob u' q;rw[AO (λy=>nf ob u' (by rw[<-y];exact q))];exact z
 .obtain⟨m,z⟩:=I.base.E9 b ps q;exact⟨m,by rw[AO (λy=>by rw[y,h] at z;exact nb _ (AZ z))];exact z⟩
 .rw[AO (λy=>by have:=I.free;rw[y,h] at this;cases this)];exact I.free
 .rw[AO (λy=>by have:=I.DK x c e;rw[y,h] at this;cases this)];exact I.DK x c e
 .obtain⟨e,n,r⟩:=I.pin p hp;exact⟨e,by rw[AO (λy=>by rw[y,h] at n;cases n)];exact n,r⟩
 .by_cases hb:b=d
  .subst hb;rw[AN] at q;cases q;exact new
  .rw[AO hb] at q;refine(I.hok b ob q).Eo (λ_ _ _ z=>z) (λc z=>?_) λc xs z=>?_
   .rw[AO (λy=>by rw[y,h] at z;exact nw _ (AZ z))];exact z
   .rw[AO (λy=>by rw[y,h] at z;exact nt _ (AZ z))];exact z
def Inv.MB(I:Inv X pins S H s)(h:H d=U (.dK AA))(b:Obj)(u:HO):X.H₀ d≠U (.BZ b u):=λz=>by have:=I.base.EW d b u z;rw[h] at this;cases this
def BY.aS(x:BY P w H h d (.dK AA)):BY P w H' h d (.dK AA):=x
def Inv.Zy(I:Inv X pins S H s)(h:H d=U (.dK AA)):∃o es ep,s.heap.get? d=U o/\o.data=.dict es ep/\Inv X pins S (upd H d (.BZ o (.dK AA))) s:=by have ok:=I.hok d _ h;obtain⟨z,hm,vs,h0,o,es,ep,ho,hc,hd,r⟩:=(show BY X.prog X.w H s.heap d (.dK AA) from ok);refine⟨o,es,ep,ho,hd,I.ZK h (λ_ q=>nomatch q) (λ_ q=>nomatch q) (I.MB h) (λ_ q=>nomatch q) ⟨ho,BY.aS (show BY X.prog X.w H s.heap d (.dK AA) from ok)⟩⟩
def Inv.N9(I:Inv X pins S H s)(nf:∀b u',X.H₀ d≠U (.BZ b u'))(h:H d=U (.BZ o (.dK AA))):Inv X pins S (upd H d (.dK AA)) s:=by have ok:=I.hok d _ h;obtain⟨ho,z⟩:=(show BY X.prog X.w H s.heap d (.BZ o (.dK AA)) from ok);exact I.ZK h (λ_ q=>nomatch q) (λ_ q=>nomatch q) nf (λ_ q=>nomatch q) (BY.aS (show BY X.prog X.w H s.heap d (.dK AA) from z))
def o4(d:OK)(AA:List (Key×V))(te:TE):TE:=λS H Q=>H d=U (.dK AA)/\te S H λv H'=>∃o,H' d=U (.BZ o (.dK AA))/\Q v (upd H' d (.dK AA))
def YE(he:PE X e te):PE X e (λS H Q=>∃d AA,o4 d AA te S H Q):=by intro pins s S H Q I h;obtain⟨d,AA,hd,h⟩:=h;refine Ad (he pins s S H _ I h) λv s1 ⟨x,H',I1,r,o,ho,q⟩=>?_;exact⟨x,_,I1.N9 (I.MB hd) ho,r,q⟩
def oZ(d:OK)(AA:List (Key×V))(t:TS):TS:=λD S H=>H d=U (.dK AA)/\t {nx:=(λS' H'=>∃o,H' d=U (.BZ o (.dK AA))/\D.nx S' (upd H' d (.dK AA))),rt:=(λv H'=>∃o,H' d=U (.BZ o (.dK AA))/\D.rt v (upd H' d (.dK AA))),bk:=(λS' H'=>∃o,H' d=U (.BZ o (.dK AA))/\D.bk S' (upd H' d (.dK AA))),ct:=(λS' H'=>∃o,H' d=U (.BZ o (.dK AA))/\D.ct S' (upd H' d (.dK AA)))} S H
def jy{st:hX}{t:TS}(hs:PS X st t):PS X st (λD S H=>∃d AA,oZ d AA t D S H):=by
 intro pins s S H D I h;obtain⟨d,AA,hd,h⟩:=h;refine Ad (hs pins s S H _ I h) λf s1 z=>?_
 cases f with
 |next=>obtain⟨S',H',vg,o,ho,q⟩:=z;exact⟨S',_,vg.N9 (I.MB hd) ho,q⟩
 |brk=>obtain⟨S',H',vg,o,ho,q⟩:=z;exact⟨S',_,vg.N9 (I.MB hd) ho,q⟩
 |cont=>obtain⟨S',H',vg,o,ho,q⟩:=z;exact⟨S',_,vg.N9 (I.MB hd) ho,q⟩
 |ret u=>obtain⟨v,S',H',vg,r,o,ho,q⟩:=z;exact⟨v,S',_,vg.N9 (I.MB hd) ho,r,q⟩
noncomputable def II(p d:OK):HO:=.ext λh=>h.IsItemsView p d
def nK:V->List V->Hp->VK->Prop:=λx vs H Q=>∃d AA,x=.ref d/\vs=[]/\H d=U (.dK AA)/\∀p,H p=J->Q (.ref p) (upd H p (II p d))
def Xi:IY X "dict.items" nK:=by intro pins s S H x vs v us Q I rx rv h;obtain⟨d,AA,rfl,rfl,hd,q⟩:=h;cases rx;cases rv;obtain⟨z,hm,ws,h0,dd⟩:=Jr I.hok hd;refine NA VW dd.typeIs PySem.F.entry_dict_items (PySem.F.args_dict_items_1 _) (meets_dict_items (Cc X.prog X.w) d hm) ⟨⟨ws,dd⟩,?_⟩;refine⟨.ref s.heap.objs.size,_,I.laid (t':=s.toks) (o:=II s.heap.objs.size d) (λb o e=>BD _ e) (Ac _) ?_,Z,q _ I.fresh⟩;have hv:(s.heap.push {cls:=.type "dict_items",data:=.fields #[.ref d]}).IsItemsView s.heap.objs.size d:=⟨_,CG _ Z,Z,Z⟩;exact⟨hv,⟨_,CG _ Z⟩,λh1 h2 a k=>let⟨o,e,r⟩:=a;⟨o,k o e,r⟩⟩
def MO(d:OK)(o:Obj)(AA:List (Key×V)):It:=
 ⟨λi H=>H d=U (.BZ o (.dK AA))/\i<AA.length,λi H v H'=>∃p k x,v=.ref p/\H p=J/\AA[i]? =U (k,x)/\H'=upd H p (.tup [kV k,x]),λi H=>H d=U (.BZ o (.dK AA))/\AA.length<=i⟩
def U2(d:OK)(o:Obj)(AA:List (Key×V)):It:=
 ⟨λi H=>H d=U (.BZ o (.dK AA))/\i<AA.length,λi H v H'=>∃k,AA[i]? =U (k,v)/\H'=H,λi H=>H d=U (.BZ o (.dK AA))/\AA.length<=i⟩
variable{ep:Nat}
def L7{es:Array DictEntry}(ok:CA P w H h)(e:H d=U (.BZ o (.dK AA)))(hd:o.data=.dict es ep):∃vs,KV AA vs/\h.DictAt (Cc P w) d vs ep:=by obtain⟨ho,z,hm,vs,h2,o',h3,h4,h0,hc,h1,r⟩:=(show BY P w H h d (.BZ o (.dK AA)) from ok d _ e);rw[ho] at h0;cases h0;rw[hd] at h1;cases h1;exact⟨vs,h2,o,es,ho,hc,hd,r⟩
theorem Ts{AA:List (Key×V)}{ws:List (Key×AB)}:KV AA ws->∀{i:Nat}{k:Key}{x:V},AA[i]? =U (k,x)->∃u,ws[i]? =U (k,u)/\RelV x u
 |.nil,i,k,x,e=>by simp at e
 |.cons r t,0,k,x,e=>by have e':=AZ (show U _=U (k,x) from by simpa using e);subst e';rename_i b _ _;obtain⟨k',u⟩:=b;obtain⟨h1,h2⟩:=r;exact⟨u,by simp;exact h1.symm,h2⟩
 |.cons _ t,i+1,k,x,e=>by obtain⟨u,h1,h2⟩:=Ts (show KV _ _ from t) (i:=i) (k:=k) (x:=x) (by simpa using e);exact⟨u,by simpa using h1,h2⟩
def lD{k:Key}{key:AB}(h:(Cc P w).is k key=Y):RelV (kV k) key:=by
 rcases HK h with⟨i,t,rfl,rfl⟩|⟨x,t,rfl,rfl⟩
 .exact⟨t,Z⟩
 .exact⟨t,Z⟩
def cy:entryFor table "dict_itemiterator.__iter__" =U Builtin.«dict_keyiterator.__iter__»:=
 entryFor_alias (id':="dict_keyiterator.__iter__") (by kernel_rfl) Z (by left) (by kernel_rfl)
def eA{x1:Nat}(d it:OK)(o:Obj)(AA:List (Key×V))(es:Array DictEntry)(ep:Nat)(hod:o.data=.dict es ep):
 Turn P w K (.Tuple elts x1 tpos) (MO d o AA) [it] it (λi h=>∃ok ov,IsItemIter h it d i AA.length ep ok ov) where
 mem:=by simp
 obj:=λi h st b hb=>by
  obtain⟨ok,ov,he⟩:=st;have h0:b=it:=by simpa using hb
  subst h0;exact⟨_,he,λv q=>nomatch q⟩
 keep:=λi h h' st k=>by obtain⟨ok,ov,he⟩:=st;exact⟨ok,ov,k it (by simp) _ he⟩
 item:=by
  intro X hP hw hK hc i pins s S H E I hf st hg;subst hP hw hK;obtain⟨ok,ov,he⟩:=st;obtain⟨hd,hi⟩:=hg;obtain⟨vs,h3,h5⟩:=L7 I.hok hd hod;have ex:AA[i]? =U (AA[i].1,AA[i].2):=Ar hi;obtain⟨u,hu,ru⟩:=Ts h3 ex;have hl:AA.length=vs.length:=JU h3;have hn:H s.heap.objs.size=J:=I.hok.fresh (Ac _);have lt:=A7 he;rw[hl] at he;refine wpAny_pyNext_items_item (knd:=Cc X.prog X.w) he h5 hu λh7 h1 h4 e1 t1 z1 k1=>⟨_,Z,?_⟩;refine wpAny_letOwnedTupleGo_items e1 λh2 e2 sb=>?_;have h6:Heap.SameBut it h1 h2:=sb;have k2:∀b o,b∉[it]->s.heap.get? b=U o->h2.get? b=U o:=λb o hb z=>by
   have h0:b≠it:=by simpa using hb
   exact(h6.2 b h0).trans (k1 b o h0 z)
  have t2:IsTup h2 s.heap.objs.size [h7,u].toArray:=⟨_,(h6.2 _ (Fu lt)).trans t1,Z,_,Z⟩;have I2:=I.W5 (h':=h2) (t':=s.toks) (xs:=[kV AA[i].1,AA[i].2]) hf k2 (λb hb=>by
   have h0:b=it:=by simpa using hb
   rw[h0];exact⟨_,e2⟩) (.cons (lD h4) (.cons ru .nil)) (by exact zw) t2;refine⟨.ref s.heap.objs.size,_,I2,Z,⟨_,_,_,Z,hn,ex,Z⟩,⟨h7,u,by rw[hl];exact e2⟩,λb hb=>?_⟩;have h0:b=it:=by simpa using hb
  rw[h0,AO (BS lt)];exact(hf it (by simp)).1
 done:=by intro X hP hw hK hc i pins s S H E I hf st hg;subst hP hw hK;obtain⟨ok,ov,he⟩:=st;obtain⟨hd,hi⟩:=hg;obtain⟨vs,h3,h5⟩:=L7 I.hok hd hod;have hl:AA.length=vs.length:=JU h3;obtain⟨f0,f1,f2,f3,f4,f5⟩:=hf it (by simp);rw[hl] at he;exact wpAny_pyNext_items_end (knd:=Cc X.prog X.w) (I.ok.hd hc) he h5 (Ob.mpr (by lia)) λh' eb=>⟨Z,I.turned (t':=s.toks) (λb o hb e=>eb b o hb e) f0 f1 f3 f4 f5⟩
 self:=λA i s Q E st h=>by obtain⟨ok,ov,he⟩:=st;have ty:s.TypeIs (.ref it) "dict_itemiterator" :=⟨_,he,Z⟩;refine wpAny_pyIter_slot ty ck (Ib ck ty cy ?_ (PySem.F.args_dict_itemiterator_iter_1 _));show ax _ _ (ret (.ref it)) _ _ s;exact Ae ⟨_,Z,"dict_itemiterator",_,ty,PySem.F.slot_dict_itemiterator_next.lookup,h⟩
def dX(d it:OK)(o:Obj)(AA:List (Key×V))(es:Array DictEntry)(ep:Nat)(hod:o.data=.dict es ep):
 Turn P w K tg (U2 d o AA) [it] it (λi h=>h.IsValIter it d i AA.length ep) where
 mem:=by simp
 obj:=λi h st b hb=>by
  obtain⟨oi,he,hc,h2⟩:=st;have h3:b=it:=by simpa using hb
  subst h3;exact⟨_,he,λv q=>by rw[h2] at q;cases q⟩
 keep:=λi h h' st k=>st.at λo z=>k it (by simp) o z
 item:=by
  intro X hP hw hK hc i pins s S H E I hf st hg;subst hP hw hK;obtain⟨hd,hi⟩:=hg;obtain⟨vs,h0,h4⟩:=L7 I.hok hd hod;have ex:AA[i]? =U (AA[i].1,AA[i].2):=Ar hi;obtain⟨u,hu,ru⟩:=Ts h0 ex;have hl:AA.length=vs.length:=JU h0;obtain⟨f0,f1,f2,f3,f4,f5⟩:=hf it (by simp);rw[hl] at st;refine wpAny_pyNext_values_item (knd:=Cc X.prog X.w) st h4 hu λh1 e1 sb=>⟨_,Z,?_⟩;obtain⟨oi,he,h5,h2⟩:=id e1;refine N6 (s:={s with heap:=h1}) he h5 h2 (by decide) ?_;exact⟨AA[i].2,H,I.turned (t':=s.toks) (λb o hb e=>(sb.2 b hb).trans e) f0 f1 f3 f4 f5,ru,⟨_,ex,Z⟩,by rw[hl];exact e1,λb hb=>by
   have h3:b=it:=by simpa using hb
   rw[h3];exact f0⟩
 done:=by intro X hP hw hK hc i pins s S H E I hf st hg;subst hP hw hK;obtain⟨hd,hi⟩:=hg;obtain⟨vs,h0,h4⟩:=L7 I.hok hd hod;have hl:AA.length=vs.length:=JU h0;obtain⟨f0,f1,f2,f3,f4,f5⟩:=hf it (by simp);rw[hl] at st;exact wpAny_pyNext_values_end (knd:=Cc X.prog X.w) (I.ok.hd hc) st h4 (Ob.mpr (by lia)) λh' eb=>⟨Z,I.turned (t':=s.toks) (λb o hb e=>eb b o hb e) f0 f1 f3 f4 f5⟩
 self:=λ_ _ _ _ _ st h=>wpAny_pyIter_valiter st h
def oB(tl:TE):TI:=λS H R=>tl S H λx H1=>∃p d AA,x=.ref p/\H1 p=U (II p d)/\H1 d=U (.dK AA)/\∀o,R (MO d o AA) (upd H1 d (.BZ o (.dK AA)))
def qC(tl:TE):TI:=λS H R=>tl S H λx H1=>∃p d AA,x=.ref p/\H1 p=U (Hc p d)/\H1 d=U (.dK AA)/\∀o,R (U2 d o AA) (upd H1 d (.BZ o (.dK AA)))
def Xm{x1:Nat}{l:hY}(hl:PE X l tl):PI X (.Tuple elts x1 tpos) l (oB tl):=by
 intro pins s S H R I h;refine Ad (hl pins s S H _ I h) λv s1 ⟨x,H1,I1,r,p,d,AA,ex,hp,hd,q⟩=>?_;subst ex;cases r;obtain⟨h2,_⟩:=(show BY X.prog X.w H1 s1.heap p (II p d) from I1.hok p _ hp);obtain⟨o,es,ep,ho,h0,I2⟩:=I1.Zy hd;obtain⟨vs,h1,h5⟩:=L7 I2.hok AN h0;have h3:AA.length=vs.length:=JU h1;refine wpAny_pyIter_items (knd:=Cc X.prog X.w) h2 h5 ?_;refine⟨s1.heap.objs.size,[s1.heap.objs.size],_,_,_,Z,I2.kept (t':=s1.toks) (λb o e=>BD _ e),eA d _ o AA es ep h0,⟨.none,.none,?_⟩,λb hb=>?_,q o⟩
 .rw[h3];exact CG _ Z
 .have h4:b=s1.heap.objs.size:=by simpa using hb
  rw[h4];exact I2.Jv (Ac _) (I2.hok.fresh (Ac _))
def lI{l:hY}(hl:PE X l tl):PI X tg l (qC tl):=by
 intro pins s S H R I h;refine Ad (hl pins s S H _ I h) λv s1 ⟨x,H1,I1,r,p,d,AA,ex,hp,hd,q⟩=>?_;subst ex;cases r;obtain⟨h2,_⟩:=(show BY X.prog X.w H1 s1.heap p (Hc p d) from I1.hok p _ hp);obtain⟨o,es,ep,ho,h0,I2⟩:=I1.Zy hd;obtain⟨vs,h1,h5⟩:=L7 I2.hok AN h0;have h3:AA.length=vs.length:=JU h1;refine wpAny_pyIter_values (knd:=Cc X.prog X.w) h2 h5 ?_;refine⟨s1.heap.objs.size,[s1.heap.objs.size],_,_,_,Z,I2.kept (t':=s1.toks) (λb o e=>BD _ e),dX d _ o AA es ep h0,?_,λb hb=>?_,q o⟩
 .exact⟨_,CG _ Z,Z,by rw[h3];rfl⟩
 .have h4:b=s1.heap.objs.size:=by simpa using hb
  rw[h4];exact I2.Jv (Ac _) (I2.hok.fresh (Ac _))
def dn{Q:VK}(Pv:Nat->Hp->Prop)(h0:Pv 0 (upd H1 D (.lst [])))(hl:∀i H,Pv i H->H d=U (.BZ o (.dK AA)))
 (hs:∀i k x p H,AA[i]? =U (k,x)->H p=J->Pv i H->g (.ref p) (ts.map (λ_=>J)++EB ix S) (upd H p (.tup [kV k,x])) λvt H2=>JK ts ix S vt/\ti vt H2 λb H3=>if b=Y then te vt H3 λy H4=>∃ys,H4 D=U (.lst ys)/\ys.length<sizeLine/\Pv (i+1) (upd H4 D (.lst (ys++[y]))) else Pv (i+1) H3)
 (hd:∀H,Pv AA.length H->Q (.ref D) H):MA ts ix S (MO d o AA) g ti te D Q H1:=by
 refine⟨λi m H=>m=AA.length-i/\i<=AA.length/\Pv i H,⟨AA.length,by simp,CB _,h0⟩,?_⟩;rintro i m H ⟨rfl,hi,p⟩;by_cases h1:i<AA.length
 .refine .inr ⟨⟨hl i H p,h1⟩,Pv (i+1),λH' p'=>⟨AA.length-(i+1),by lia,Z,h1,p'⟩,λv H' y=>?_⟩;obtain⟨q,k,x,ev,hq,ex,eH⟩:=y;subst ev eH;exact hs i k x q H ex hq p
 .obtain rfl:i=AA.length:=by lia
  exact .inl ⟨⟨hl _ H p,Ac _⟩,hd H p⟩
def gA{Q:VK}(Pv:Nat->Hp->Prop)(h0:Pv 0 (upd H1 D (.lst [])))(hl:∀i H,Pv i H->H d=U (.BZ o (.dK AA)))
 (hs:∀i k x H,AA[i]? =U (k,x)->Pv i H->g x (ts.map (λ_=>J)++EB ix S) H λvt H2=>JK ts ix S vt/\ti vt H2 λb H3=>if b=Y then te vt H3 λy H4=>∃ys,H4 D=U (.lst ys)/\ys.length<sizeLine/\Pv (i+1) (upd H4 D (.lst (ys++[y]))) else Pv (i+1) H3)
 (hd:∀H,Pv AA.length H->Q (.ref D) H):MA ts ix S (U2 d o AA) g ti te D Q H1:=by
 refine⟨λi m H=>m=AA.length-i/\i<=AA.length/\Pv i H,⟨AA.length,by simp,CB _,h0⟩,?_⟩;rintro i m H ⟨rfl,hi,p⟩;by_cases h1:i<AA.length
 .refine .inr ⟨⟨hl i H p,h1⟩,Pv (i+1),λH' p'=>⟨AA.length-(i+1),by lia,Z,h1,p'⟩,λv H' y=>?_⟩;obtain⟨k,ex,eH⟩:=y;subst eH;exact hs i k v _ ex p
 .obtain rfl:i=AA.length:=by lia
  exact .inl ⟨⟨hl _ H p,Ac _⟩,hd H p⟩
def gb{D:Ends}(Pv:Nat->St->Hp->Prop)(h0:Pv 0 S H)(hl:∀i S H,Pv i S H->H d=U (.BZ o (.dK AA)))
 (hs:∀i k x p S H,AA[i]? =U (k,x)->H p=J->Pv i S H->g (.ref p) S (upd H p (.tup [kV k,x])) λvt H2=>tb {D with nx:=Pv (i+1),ct:=Pv (i+1),bk:=D.nx} vt H2)(hd:∀S H,Pv AA.length S H->D.nx S H):
 ∃W:Nat->Nat->St->Hp->Prop,(∃m,W 0 m S H)/\∀i m S H,W i m S H->
  ((MO d o AA).stop i H/\D.nx S H)\/((MO d o AA).go i H/\∃N:St->Hp->Prop,(∀S' H',N S' H'->∃m',m'<m/\W (i+1) m' S' H')/\∀x H',(MO d o AA).JJ i H x H'->g x S H' λvt H2=>tb {D with nx:=N,ct:=N,bk:=D.nx} vt H2):=by
 refine⟨λi m S H=>m=AA.length-i/\i<=AA.length/\Pv i S H,⟨AA.length,by simp,CB _,h0⟩,?_⟩;rintro i m S H ⟨rfl,hi,p⟩;by_cases h1:i<AA.length
 .refine .inr ⟨⟨hl i S H p,h1⟩,Pv (i+1),λS' H' p'=>⟨AA.length-(i+1),by lia,Z,h1,p'⟩,λv H' y=>?_⟩;obtain⟨q,k,x,ev,hq,ex,eH⟩:=y;subst ev eH;exact hs i k x q S H ex hq p
 .obtain rfl:i=AA.length:=by lia
  exact .inl ⟨⟨hl _ S H p,Ac _⟩,hd S H p⟩
def jG{y:Str}{c e:OK}(hc:X.calm=Y)(hk:scope.kind=.function)(h:scope.names.all (λp=>p.2 !=.cell&&(p.2 !=.free||(p.1==y||p.1==z)))=Y)
 (hn:∀q∈scope.names,q.2=.local->scope.names.lookup q.1=U .local)(hcl:closureFor scope X.env=pure [(y,c),(z,e)])(hyz:z≠y)(hce:X.env.cells.lookup y=U c)(hce2:X.env.cells.lookup z=U e)(hx:X.env.kindOf y=U .cell)(hx2:X.env.kindOf z=U .cell)
 (hj:X.N[j]? =U y)(hj2:X.N[k]? =U z)(hr:(tj scope X.env).names.lookup y=U .cell)(hr2:(tj scope X.env).names.lookup z=U .cell):Kl X ts [y,z] [j,k] scope [(y,c),(z,e)]:=by
 have h0:∀q∈scope.names,q.2≠.cell/\(q.2=.free->q.1=y\/q.1=z):=λq hq=>by have:=M6.mp h q hq;simp only[Ft,Bool.or_eq_true,bne_iff_ne,Fw] at this;exact⟨this.1,λe=>this.2.elim (λq=>absurd e q) id⟩
 have h3:∀q kd,(tj scope X.env).names.lookup q=U kd->(kd=.cell\/kd=.free)->q=y\/q=z:=λq kd hq h5=>by
  have hm:=JO hq;obtain⟨p,hp,e⟩:=Aw.mp (show(q,kd)∈scope.names.map _ from hm);obtain⟨n,kq⟩:=p;have h4:=h0 (n,kq) hp;by_cases hf:kq=.free
  .have e1:=h4.2 hf;have e2:n=q:=by have:=A2 Prod.fst e;revert this;dsimp only;split<;>exact id
   rw[<-e2];exact e1
  .have e3:(n,kq)=(q,kd):=by
    rw[<-e];dsimp only;rw[AF (by
     intro zz;have:(kq==NameKind.free)=Y:=by simp only[Ft] at zz;exact zz.1.1
     exact hf (by simpa using this))]
   have e4:kq=kd:=A2 Prod.snd e3;rcases h5 with z1|z1
   .exact absurd (e4.trans z1) h4.1
   .exact absurd (e4.trans z1) hf
 have l1:List.lookup y [(y,c),(z,e)]=U c:=by rw[HG,Ic]
 have l2:List.lookup z [(y,c),(z,e)]=U e:=by rw[HG,LQ hyz,HG,Ic]
 refine⟨hc,hcl,λq hq=>(h0 q hq).1,hk,hn,λq a e'=>?_,λq hq=>?_,Z,λi q m e1 e2=>?_,λq hq=>?_⟩
 .by_cases h1:q=y
  .rw[h1] at e'⊢;rw[l1] at e';rw[<-AZ e'];exact hce
  .by_cases h2:q=z
   .rw[h2] at e'⊢;rw[l2] at e';rw[<-AZ e'];exact hce2
   .rw[HG,LQ h1,HG,LQ h2] at e';cases e'
 .have e:=hq.elim (λr=>h3 q _ r (.inl Z)) λr=>h3 q _ r (.inr Z);rcases e with e|e
  .rw[e];exact⟨c,l1⟩
  .rw[e];exact⟨_,l2⟩
 .match i with
  |0=>
   have e3:q=y:=by simpa using e1.symm
   have e4:m=j:=by simpa using e2.symm
   rw[e3,e4];exact hj
  |1=>
   have e3:q=z:=by simpa using e1.symm
   have e4:m=k:=by simpa using e2.symm
   rw[e3,e4];exact hj2
  |i+2=>simp at e1
 .have e:q=y\/q=z:=by simpa using hq
  rcases e with e|e
  .rw[e];exact⟨.inr (.inl hx),(by rw[hx];intro q;cases q),.inl hr⟩
  .rw[e];exact⟨.inr (.inl hx2),(by rw[hx2];intro q;cases q),.inl hr2⟩
def sQ{y:Str}(h:x≠y)(h2:x≠z)(h3:y≠z):([x]++[y,z]:List Str).Nodup:=by simp[h,h2,h3]
def aY{y:Str}{u:V}:JK [x,y] ix S (((([x,y]:List Str).map (λ_=>(J:Option V))++EB ix S).set 0 (U u)).set 1 (U v)):=⟨[U u,U v],Z,Z⟩
def W4(hc:X.calm=Y):DU X (.builtin "sum") (λxs H Q=>∃(l:OK)(ns:List Int),xs=[.ref l]/\AL X.K H l (ns.map V.int)/\Q (.int ns.sum) H):=by
 intro h1 s S H xs us Q I r h;obtain⟨l,ns,rfl,hq,q⟩:=h;obtain⟨u,rfl,rx⟩:=vals1 r;cases rx;obtain⟨h0,rv,pl,hz⟩:=I.list hq;have hh:X.A.handled=J:=I.ok.hd hc;obtain⟨l',e,en⟩:∃l:List (Int×Tok),l.map (λp=>Value.int p.1 p.2)=h0/\l.map (·.1)=ns:=by
  have:∀(ns:List Int)(us:List AB),Vals (ns.map V.int) us->∃l:List (Int×Tok),l.map (λp=>Value.int p.1 p.2)=us/\l.map (·.1)=ns:=by
   intro ns
   induction ns with
   |nil=>intro us h;cases h;exact⟨[],Z,Z⟩
   |cons n r ih=>
    intro us h
    cases h with
    |cons a t=>obtain⟨l,e,en⟩:=ih _ t;obtain⟨k,ek⟩:=a;exact⟨(n,k)::l,by rw[Au,e,ek],by rw[Au,en]⟩
  exact this ns h0 rv
 have ex:intItems l'.toArray=h0.toArray:=by delta intItems;rw[<-e];simp
 refine sum_intListG hh (xs:=l'.toArray) (by rw[ex];exact pl.isList) λh' tk t' kk=>?_;refine⟨.int _,H,I.kept kk,⟨t',Z⟩,?_⟩;rw[preSum_eq];have:((l'.toArray.toList.map (·.1)).take l'.toArray.size)=ns:=by
  show(l'.map (·.1)).take l'.length=ns;rw[en,FG];have:=A2 List.length en;rw[AI] at this
  lia
 rw[this];exact q
noncomputable def Qq(sep:Str):List Str->Str
 |[p]=>p
 |l=>PySem.Builtin.Str.glued sep l
def rJoin(K:vH):V->List V->Hp->VK->Prop:=λx vs H Q=>∃(h0:Str)(l:OK)(zs:List Str),x=.str h0/\vs=[.ref l]/\AL K H l (zs.map V.str)/\zs.foldl (·+·.length+h0.length) 0<=sizeLine/\(Qq h0 zs).length<=sizeLine/\Q (.str (Qq h0 zs)) H
theorem Yj:∀(zs:List Str)(us:List AB),Vals (zs.map V.str) us->∃l:List (Str×Tok),strValues l=us/\l.map (·.1)=zs
 |[],us,h=>by cases h;exact⟨[],Z,Z⟩
 |z::zs,us,h=>by
  cases h with
  |cons a t=>obtain⟨l,e,en⟩:=Yj zs _ t;obtain⟨k,ek⟩:=a;exact⟨(z,k)::l,by show Value.str z k::strValues l=_;rw[e,ek],by rw[Au,en]⟩
def YH:IY X "str.join" (rJoin X.K):=by
 intro h2 s S H x vs v us Q I rx rv h;obtain⟨h1,l,zs,rfl,rfl,hq,hz,h0,q⟩:=h;obtain⟨t,rfl⟩:=rx;obtain⟨u,rfl,ru⟩:=rv.one;cases ru;obtain⟨h3,r,pl,h4⟩:=I.list hq;obtain⟨l',e,en⟩:=Yj zs h3 r;refine KS F.slot_str_join (Le _ _ _) F.entry_str_join (F.args_str_join_2 _ _) (meets_str_join_list h1 t l l' ?_) ⟨by rw[e];exact pl.isList,?_⟩
 .rw[en];delta Builtin.Str.tooLong;simpa using hz
 .match l',en with
  |[],en=>subst en;exact⟨h0,.str _,H,I.tok _,⟨_,Z⟩,q⟩
  |[p],en=>subst en;exact⟨.str _,H,I,⟨_,Z⟩,q⟩
  |p::p2::l,en=>subst en;exact⟨h0,.str _,H,I.tok _,⟨_,Z⟩,q⟩
def oO(a b:Str)(tx:TE):TE:=λS H Q=>tx S H λv H1=>∃z,v=.str z/\z.length<=4000000/\Q (.str (a++z++b)) H1
def kC{a b:Str}{x:hY}{tx:TE}{k1 k2:Nat}{p1 p2 p3 p4:Pos}(hx:PE X x tx)(ha:a.length<=1000)(hb:b.length<=1000):PE X (.JoinedStr [.Constant (.str a) k1 p1,.FormattedValue x (-1) J p2,.Constant (.str b) k2 p3] p4) (oO a b tx):=by
 intro h0 s S H Q I h;refine wpAny_JoinedStr ?_;refine Vs ⟨a,_,Z,?_,?_⟩
 .rw[FJ,BA];show 0+a.length<=_;lia
 refine wpAny_FormattedValue_plain (Ad (hx h0 _ S H _ (I.tok _) h) λv s1 ⟨y,H1,I1,r,z,ey,hz,q⟩=>?_);subst ey;obtain⟨t,rfl⟩:=r;have h2:∀(u:Tok)(s2:Ya),Inv X h0 S H1 s2->∃y t,Value.str z u=.str y t/\(Str.empty++a++y).length<=sizeLine/\Joins (Yf X.prog X.w) X.A X.xe [sd (.Constant (.str b) k2 p3) X.env] (Str.empty++a++y) (λh1 s₁=>h1.length<=sizeLine/\EP X h0 S Q (.str h1 s₁.toks) {s₁ with toks:=s₁.toks+1}) s2:=λu s2 I2=>by
  refine⟨z,u,Z,?_,Vs ⟨b,_,Z,?_,?_,?_⟩⟩
  .rw[FJ,FJ,BA];show 0+a.length+z.length<=_;lia
  .rw[FJ,FJ,FJ,BA];show 0+a.length+z.length+b.length<=_;lia
  .rw[FJ,FJ,FJ,BA];show 0+a.length+z.length+b.length<=_;lia
  .refine⟨.str (Str.empty++a++z++b),H1,(I2.tok _).tok _,⟨_,Z⟩,?_⟩;have e:Str.empty++a=a:=by obtain⟨c⟩:=a;show(⟨#[]++c⟩:Str)=⟨c⟩;rw[Array.empty_append]
   rw[e];exact q
 exact wpAny_formatField_str (h2 t s1 I1) (h2 _ _ (I1.tok _)) (by rw[BA];lia)
structure CI(H1:Hp)(D:OK)(out:List Dt)(H:Hp):Prop where
 same:AM H1 H
 fr:H1 D=J
 lst:∃ys,H D=U (.lst ys)/\Ah (Ex H D) out ys
def CI.start(h:H1 D=J):CI H1 D [] (upd H1 D (.lst [])):=⟨Ag h,h,[],AN,Ah.nil⟩
def CI.ext{out:List Dt}(c:CI H1 D out H)(s:AM H H'):CI H1 D out H':=by obtain⟨ys,h,r⟩:=c.lst;exact⟨c.same.trans s,c.fr,ys,s _ _ h,r.same (Ex.mono s)⟩
def CI.push{out:List Dt}{d:Dt}(c:CI H1 D out H)(r:Rep (Ex H D) d y)(hl:out.length<=200000):∃ys,H D=U (.lst ys)/\ys.length<sizeLine/\CI H1 D (out++[d]) (upd H D (.lst (ys++[y]))):=by
 obtain⟨ys,h,rr⟩:=c.lst;refine⟨ys,h,?_,c.same.upd c.fr,c.fr,ys++[y],AN,?_⟩
 .have:=rr.1;rw[BA]
  lia
 .rw[Ex.upd];exact rr.snoc r
def CI.done{out:List Dt}(c:CI H1 D out H):Rep H (.lst out) (.ref D):=by obtain⟨ys,h,rr⟩:=c.lst;exact Rep.Hi h (rr.same Ex.sub)
def FU(r:Rep H (.lst ds) v):∃a xs,v=.ref a/\H a=U (.lst xs)/\Ah H ds xs:=by
 cases r with
 |lst h hl rr=>exact⟨_,_,Z,h,hl,rr⟩
def Lb(hD:H D=U (.dK AA)){d:Dt}(r:Rep H d v):Rep (Ex H D) d v:=by
 induction r with
 |bl b=>exact .bl b
 |int i=>exact .int i
 |str x=>exact .str x
 |lst h hl _ ih=>exact .lst (Ex.at h (CN h hD (by intro z;cases z))) hl ih
 |tup h hl _ ih=>exact .tup (Ex.at h (CN h hD (by intro z;cases z))) hl ih
def Ik{f:α->Dt}{ws:List α}{xs:List V}(r:Ah H (ws.map f) xs){x:V}(h:xs[i]? =U x):∃w,ws[i]? =U w/\Rep H (f w) x:=by
 have hl:i<ws.length:=by
  have h1:=(BP.mp h).1;have h2:=r.1;rw[AI] at h2
  lia
 refine⟨ws[i],Ar hl,r.2 i _ x ?_ h⟩;rw[A1,Ar hl];rfl
def KN{f:α->β}{ws:List α}{w:α}(h:ws[i]? =U w):(ws.take (i+1)).map f=(ws.take i).map f++[f w]:=by rw[Cf,h,BL];rfl
def take_succ_filter{p:α->Bool}{ws:List α}{w:α}(h:ws[i]? =U w):(ws.take (i+1)).filter p=(ws.take i).filter p++(if p w=Y then[w] else[]):=by
 rw[Cf,h,Mt];congr 1;show List.filter p [w]=_;by_cases z:p w=Y
 .rw[AG z,Ed z];rfl
 .rw[AF z,FF z];rfl
def X9{y:Str}{p1 p2:Pos}(hK:X.K=K)(hc:X.calm=Y)(hN:X.N.Nodup)(hi:X.N[i]? =U x)(hx:Loc X.env.scope x)(hf:X.fn x=Y\/X.env.scope.names.lookup x=U .local)(hj:X.N[j]? =U y)(hy:Loc X.env.scope y)(hg:X.fn y=Y\/X.env.scope.names.lookup y=U .local):
 PG X (.Tuple [.Name x p1,.Name y p2] k pos) (Uu K 2 (MC (EA i) (MC (EA j) Ui))):=by
 subst hK;exact Nw hc (HU (Bg hN hi hx hf) (HU (Bg hN hj hy hg) Nd))
def jo{l:Nat}{y:Str}{p1 p2 p3:Pos}(hK:X.K=K)(hc:X.calm=Y)(hN:X.N.Nodup)(hi:X.N[i]? =U x)(hx:Loc X.env.scope x)(hf:X.fn x=Y\/X.env.scope.names.lookup x=U .local)(hj:X.N[j]? =U y)(hy:Loc X.env.scope y)(hg:X.fn y=Y\/X.env.scope.names.lookup y=U .local)
 (hl:X.N[l]? =U z)(hz:Loc X.env.scope z)(hh:X.fn z=Y\/X.env.scope.names.lookup z=U .local):
 PG X (.Tuple [.Name x p1,.Name y p2,.Name z p3] k pos) (Uu K 3 (MC (EA i) (MC (EA j) (MC (EA l) Ui)))):=by
 subst hK;exact Nw hc (HU (Bg hN hi hx hf) (HU (Bg hN hj hy hg) (HU (Bg hN hl hz hh) Nd)))
section
variable{o:hY}{es:List hY}{to:TE}{t:TA}{id:String}
def mU(K:vH)(hK:X.K=K)(pa:uR T)(slot:Slot T name id)(hty:typeOf (.builtin id)=pure (.type "method_descriptor"))(hm:OX X id r)(ho:PE X o to)(ha:PA X (e::es) t)
 (hbase:sr o name X.env (sd o X.env)=sd o X.env:=by rfl)
 (hfew:((tF cpos (dq (e::es) X.env)).all (λx=> !x.1)&&(uG cpos (tP [] X.env)).all (λx=>x.1.isSome)&&decide ((e::es).length+([]:List uC).length+(if([]:List uC).isEmpty then 0 else 1)<30))=Y:=by rfl)
 (hline:(apos.endLine==cpos.line)=Y:=by rfl)(hs:dq (e::es) X.env=(vc,sd e X.env)::dq es X.env:=by rfl)(hplain:(tF cpos (dq es X.env)).any (·.1)=vc:=by rfl):
 PE X (.Call (.Attribute o name apos) (e::es) [] cpos) (VC K T r to t):=by
 subst hK;exact Jq pa slot hty hm ho ha hbase hfew hline hs hplain
end
def gV{xs:List V}{Q:VK}(Pv:Nat->Hp->Prop)(h0:Pv 0 (upd H1 D (.lst [])))(hl:∀i H,i<=xs.length->Pv i H->AL K H a xs)
 (hs:∀i x p H,xs[i]? =U x->H p=J->Pv i H->g (.ref p) (ts.map (λ_=>J)++EB ix S) (upd H p (.tup [.int i,x])) λvt H2=>JK ts ix S vt/\ti vt H2 λb H3=>if b=Y then te vt H3 λy H4=>∃ys,H4 D=U (.lst ys)/\ys.length<sizeLine/\Pv (i+1) (upd H4 D (.lst (ys++[y]))) else Pv (i+1) H3)
 (hd:∀H,Pv xs.length H->Q (.ref D) H):MA ts ix S (Ma K a) g ti te D Q H1:=by
 refine⟨λi m H=>m=xs.length-i/\i<=xs.length/\Pv i H,⟨xs.length,by simp,CB _,h0⟩,?_⟩;rintro i m H ⟨rfl,hi,p⟩;have q:=hl i H hi p;by_cases h1:i<xs.length
 .refine .inr ⟨⟨xs,xs[i],q,by simp[h1]⟩,Pv (i+1),λH' p'=>⟨xs.length-(i+1),by lia,Z,h1,p'⟩,λv H' y=>?_⟩;obtain⟨pa,ev,hp,y⟩:=y;obtain⟨x,hx,eH⟩:=y xs q;subst ev eH;exact hs i x pa H hx hp p
 .obtain rfl:i=xs.length:=by lia
  exact .inl ⟨⟨xs,q,Ac _⟩,hd H p⟩
section
variable{xs:List V}
def Ex.ne(h:b≠D):Ex H D b=H b:=by delta Ex;rw[AF h]
def Ex.self:Ex H D D=J:=by delta Ex;rw[AG Z]
def Inv.oJ(I:Inv X pins S H s)(h:H D=U (.lst xs)):∃o:Obj,(∃(AV:List AB)(n:Nat),Vals xs AV/\o={cls:=.type "list",data:=.seq AV.toArray n})/\xs.length<=sizeLine/\Inv X (pins++[(D,o)]) S (Ex H D) s:=by
 obtain⟨hz,AV,n,rv,ho⟩:=(show BY X.prog X.w H s.heap D (.lst xs) from I.hok D _ h);have nD:∀b,H b=J->b≠D:=λb hb z=>by rw[z,h] at hb;cases hb
 refine⟨_,⟨AV,n,rv,Z⟩,hz,I.ok,I.os,I.bare,⟨I.base.keep,I.base.slot,λb ob q nn hx=>?_,I.base.there,λb ys q=>?_,λb ob u q=>?_,λb ps q=>?_⟩,I.loc,I.cell,?_,λx c e=>?_,λp hp=>?_,λb ob q=>?_,I.len⟩
 .have z:=I.base.free b ob q nn hx;rw[Ex.ne (nD b z)];exact z
 .have z:=I.base.FC b ys q;rw[Ex.ne (λy=>by rw[y,h] at z;cases z)];exact z
 .have z:=I.base.EW b ob u q;rw[Ex.ne (λy=>by rw[y,h] at z;cases z)];exact z
 .obtain⟨m,z⟩:=I.base.E9 b ps q;exact⟨m,by rw[Ex.ne (λy=>by rw[y,h] at z;cases z)];exact z⟩
 .rw[Ex.ne (nD _ I.free)];exact I.free
 .rw[Ex.ne (nD _ (I.DK x c e))];exact I.DK x c e
 .rw[<-Bt] at hp;rcases Be.mp hp with z|z
  .obtain⟨e,nn,r⟩:=I.pin p z;exact⟨e,by rw[Ex.ne (nD _ nn)];exact nn,r⟩
  .have e:=BW.mp z;subst e;refine⟨ho,Ex.self,λz=>?_,λz=>?_,λv z=>nomatch z⟩
   .have:=I.free;rw[<-z,h] at this;cases this
   .obtain⟨_,o,h0,_⟩:=I.ok.FA.mem z;by_cases hx:D∈X.ex
    .exact I.ok.K3 D hx z
    .have:=I.base.free D o h0 (I.ok.IX D z) hx;rw[h] at this;cases this
 .by_cases hb:b=D
  .rw[hb,Ex.self] at q;cases q
  .rw[Ex.ne hb] at q;refine(I.hok b ob q).Eo (λ_ _ _ z=>z) (λc z=>?_) λc ys z=>?_
   .rw[Ex.ne (λy=>by rw[y,h] at z;cases z)];exact z
   .rw[Ex.ne (λy=>by rw[y,h] at z;cases z)];exact z
def Inv.oY(I:Inv X (pins++[(D,{cls:=.type "list",data:=.seq AV.toArray n})]) S H s)(rv:Vals xs AV)(hz:xs.length<=sizeLine)(h0:∀o,X.s₀.heap.get? D=U o->D∈X.ex\/X.H₀ D≠J)(hp0:∀p∈X.pn++pins,p.1≠D):H D=J/\Inv X pins S (upd H D (.lst xs)) s:=by
 obtain⟨e,nn,nl,nf,_⟩:=I.pin (D,{cls:=.type "list",data:=.seq AV.toArray n}) (by rw[<-Bt];exact Dk _ (.head _));have nn:H D=J:=nn;refine⟨nn,I.ok,I.os,I.bare,⟨I.base.keep,I.base.slot,λb ob q n0 hx=>?_,I.base.there,λb ys q=>?_,λb ob u q=>?_,λb ps q=>?_⟩,I.loc,I.cell,?_,λx c ec=>?_,λp hp=>?_,λb ob q=>?_,I.len⟩
 .have z:=I.base.free b ob q n0 hx;by_cases hb:b=D
  .subst hb;rcases h0 ob q with y|y
   .exact absurd y hx
   .exact absurd n0 y
  .rw[AO hb];exact z
 .have z:=I.base.FC b ys q;rw[AO (A8 z nn)];exact z
 .have z:=I.base.EW b ob u q;rw[AO (A8 z nn)];exact z
 .obtain⟨m,z⟩:=I.base.E9 b ps q;exact⟨m,by rw[AO (A8 z nn)];exact z⟩
 .rw[AO (λz=>nl z.symm)];exact I.free
 .have hc:=I.cell x c ec;rw[AO (λz=>by obtain⟨v,oc,h1,h2⟩:=hc;rw[z] at h1;have e':s.heap.get? D=U {cls:=.type "list",data:=.seq AV.toArray n}:=e;rw[e'] at h1;cases h1;cases h2)];exact I.DK x c ec
 .obtain⟨e1,n1,r1⟩:=I.pin p (by rw[<-Bt];exact GZ _ hp);exact⟨e1,by rw[AO (hp0 p hp)];exact n1,r1⟩
 .by_cases hb:b=D
  .subst hb;rw[AN] at q;cases q;exact⟨hz,AV,n,rv,e⟩
  .rw[AO hb] at q;refine(I.hok b ob q).Eo (λ_ _ _ z=>z) (λc z=>?_) λc ys z=>?_
   .rw[AO (A8 z nn)];exact z
   .rw[AO (A8 z nn)];exact z
end
def Sq(he:PE X e te):PE X e (λS H Q=>∃D xs,H D=U (.lst xs)/\te S (Ex H D) λv H'=>H' D=J->Q v (upd H' D (.lst xs))):=by
 intro pins s S H Q I h;obtain⟨D,xs,hD,h⟩:=h;obtain⟨o,⟨h2,n,rv,rfl⟩,hz,I2⟩:=I.oJ hD;have h0:∀o,X.s₀.heap.get? D=U o->D∈X.ex\/X.H₀ D≠J:=λo ho=>by
  by_cases hx:D∈X.ex
  .exact .inl hx
  .exact .inr λz=>by have:=I.base.free D o ho z hx;rw[hD] at this;cases this
 have h1:∀p∈X.pn++pins,p.1≠D:=λp hp z=>by obtain⟨_,nn,_⟩:=I.pin p hp;rw[z,hD] at nn;cases nn
 refine Ad (he _ s S _ _ I2 h) λv s1 ⟨x,H',I1,r,q⟩=>?_;obtain⟨nn,I3⟩:=I1.oY rv hz h0 h1;exact⟨x,_,I3,r,q nn⟩
section
variable(O:N8 α)
noncomputable def MG(a:α):List α->List α
 |[]=>[a]
 |b::l=>if O.lt b a=Y then b::MG a l else a::b::l
def Fg:List α->List α
 |[]=>[]
 |a::l=>MG O a (Fg l)
theorem Sd(a:α):∀l:List α,(MG O a l).Perm (a::l)
 |[]=>.refl _
 |b::l=>by
  unfold MG;split
  .exact((Sd a l).cons b).trans (.swap a b l)
  .exact .refl _
theorem HM:∀l:List α,(Fg O l).Perm l
 |[]=>.refl _
 |a::l=>(Sd O a (Fg O l)).trans ((HM l).cons a)
theorem Yp(a:α):∀l:List α,l.Pairwise (λx y=>O.lt y x=vc)->(MG O a l).Pairwise (λx y=>O.lt y x=vc)
 |[],_=>VX _ _
 |b::l,h=>by
  obtain⟨h1,h2⟩:=IZ.mp h;unfold MG;by_cases z:O.lt b a=Y
  .rw[AG z];refine IZ.mpr ⟨λc hc=>?_,Yp a l h2⟩;rcases BM.mp ((Sd O a l).mem_iff.mp hc) with e|e
   .rw[e]
    cases y:O.lt a b with
    |false=>rfl
    |true=>have:=O.tr _ _ _ z y;rw[O.cV] at this;cases this
   .exact h1 c e
  .rw[AF z];have z':O.lt b a=vc:=by simpa using z
   refine IZ.mpr ⟨λc hc=>?_,h⟩;rcases BM.mp hc with e|e
   .rw[e];exact z'
   .cases y:O.lt c a with
    |false=>rfl
    |true=>
     exfalso
     cases w:O.lt a b with
     |true=>have:=O.tr _ _ _ y w;rw[h1 c e] at this;cases this
     |false=>have:=O.BO _ _ w z';subst this;rw[h1 c e] at y;cases y
theorem Ta:∀l:List α,(Fg O l).Pairwise (λx y=>O.lt y x=vc)
 |[]=>List.Pairwise.nil
 |a::l=>Yp O a _ (Ta l)
theorem V0:∀l m:List α,l.Perm m->l.Pairwise (λx y=>O.lt y x=vc)->m.Pairwise (λx y=>O.lt y x=vc)->l=m
 |[],m,p,_,_=>p.nil_eq
 |a::l,[],p,_,_=>absurd p.symm.nil_eq (by intro z;cases z)
 |a::l,b::m,p,h1,h2=>by
  obtain⟨a1,a2⟩:=IZ.mp h1;obtain⟨b1,b2⟩:=IZ.mp h2;have e:a=b:=by
   rcases BM.mp (p.mem_iff.mp (.head _)) with e|e
   .exact e
   .rcases BM.mp (p.mem_iff.mpr (List.Mem.head m)) with f|f
    .exact f.symm
    .exact O.BO _ _ (b1 a e) (a1 b f)
  subst e;rw[V0 l m p.cons_inv a2 b2]
def Kg{l m:List α}(p:l.Perm m)(h:l.Pairwise (λx y=>O.lt y x=vc)):l=Fg O m:=V0 O _ _ (p.trans (HM O m).symm) h (Ta O m)
def jP{l m:List α}(p:l.Perm m):Fg O l=Fg O m:=Kg O ((HM O l).trans p) (Ta O l)
end
abbrev He:List Str->List Str:=Fg ES
section
open PySem.W
noncomputable def dK:bt:=(Value.none,Value.none)
abbrev SM:=StateT sX Sem
noncomputable def up1(lo b BR:Nat):SM (Option (Option Nat)×Nat):=
 forIn [b:BR] ((J,b):Option (Option Nat)×Nat) λ_ z=>ltAt' (lo+z.2) (lo+z.2-1)>>=λt=>
  match t with
  |some c=>if c=Y then pure (.done (J,z.2)) else pure (.yield (J,z.2+1))
  |none=>pure (.done (U J,z.2))
noncomputable def qo(z:Option (Option Nat)×Nat):SM (Option Nat):=
 match z.1 with
 |some r=>pure r
 |none=>pure (U z.2)
def LF(lo n BR:Nat):SM (Option Nat):=uE lo (lo+n)>>=λ_=>up1 lo n BR>>=qo
noncomputable def VH(lo b BR:Nat):SM (Option (Option Nat)×Nat×Nat):=
 forIn [b:BR] ((J,b,0):Option (Option Nat)×Nat×Nat) λ_ z=>ltAt' (lo+z.2.1) (lo+z.2.1-1)>>=λt=>
  match t with
  |some c=>
   if c=Y then
    (if z.2.2>0 then(uE (lo+z.2.1-(z.2.2+1)) (lo+z.2.1)>>=λ_=>pure (.yield (J,z.2.1+1,0))) else pure (.yield (J,z.2.1+1,0)))
   else ltAt' (lo+z.2.1-1) (lo+z.2.1)>>=λt=>
    match t with
    |some d=>if d=Y then pure (.done (J,z.2.1,z.2.2)) else pure (.yield (J,z.2.1+1,z.2.2+1))
    |none=>pure (.done (U J,z.2.1,z.2.2))
  |none=>pure (.done (U J,z.2.1,z.2.2))
def qj(lo BR:Nat)(z:Option (Option Nat)×Nat×Nat):SM (Option Nat):=
 match z.1 with
 |some r=>pure r
 |none=>if z.2.2>0 then(uE (lo+z.2.1-(z.2.2+1)) (lo+z.2.1)>>=λ_=>LF lo z.2.1 BR) else LF lo z.2.1 BR
def QP(lo n BR:Nat):SM (Option Nat):=(liftM (rule "list.sort.descending-run"):SM Unit)>>=λ_=>VH lo (n+1) BR>>=qj lo BR
def rW(lo BR:Nat)(z:Option (Option Nat)×Nat):SM (Option Nat):=
 match z.1 with
 |some r=>pure r
 |none=>if(z.2==BR)=Y then pure (U z.2) else
  if z.2>1 then(ltAt' lo (lo+z.2-1)>>=λt=>
   match t with
   |some c=>if c=Y then pure (U z.2) else uE lo (lo+z.2)>>=λ_=>QP lo z.2 BR
   |none=>pure J)
  else QP lo z.2 BR
def BK{m m':SM α}{f f':α->SM β}(h:m=m')(g:∀x,f x=f' x):(m>>=f)=(m'>>=f'):=by rw[h,funext g]
def HZ{a b:Nat}{c:β}{f g:Nat->β->SM (ForInStep β)}(h:∀i z,f i z=g i z):forIn [a:b] c f=forIn [a:b] c g:=by rw[funext λi=>funext (h i)]
def count_eq(lo BR:Nat):countRun' lo BR=(up1 lo 1 BR>>=rW lo BR):=by
 rw[countRun'_eq];refine BK (HZ λi z=>BK Z λx=>?_) λz=>?_
 .cases x<;>rfl
 .obtain⟨r,n⟩:=z
  match r with
  |some r=>rfl
  |none=>
   refine DP Z (λ_=>rfl) λ_=>DP Z (λ_=>BK Z λx=>?_) λ_=>?_;rcases x with _|c
   .rfl
   refine DP Z (λ_=>rfl) λ_=>BK Z λ_=>?_;all_goals
    refine BK Z λ_=>BK (HZ λi z=>BK Z λx=>?_) λz=>?_
    .cases x with
     |none=>rfl
     |some c=>refine DP Z (λ_=>rfl) λ_=>BK Z λx=>?_;cases x<;>rfl
    .obtain⟨r,n,q⟩:=z
     match r with
     |some r=>rfl
     |none=>refine DP Z (λ_=>BK Z λ_=>?_) λ_=>?_<;>exact BK Z λ_=>BK (HZ λi z=>BK Z λx=>by cases x<;>rfl) λz=>by obtain⟨r,n⟩:=z;cases r<;>rfl
section
variable(rk:bt->Nat)
def kv(xs:Array bt)(i:Nat):Nat:=rk (xs.getD i dK)
end
end
variable{xs:Array bt}
section
open PySem.W
section
variable(rk:bt->Nat)
def IH{ys:Array bt}(h:xs[i]? =ys[j]?):kv rk xs i=kv rk ys j:=by delta kv;rw[G9,G9,h]
def Up(xs:Array bt)(lo hi:Nat):Prop:=∀i j,lo<=i->i<=j->j<hi->kv rk xs i<=kv rk xs j
def Dn(xs:Array bt)(lo hi:Nat):Prop:=∀i j,lo<=i->i<=j->j<hi->kv rk xs j<=kv rk xs i
def Ev(xs:Array bt)(lo hi:Nat):Prop:=∀i,lo<=i->i<hi->kv rk xs i=kv rk xs (hi-1)
def UE(hj:j<=xs.size)(k:Nat):kv rk (ue xs i j ((j-i)/2)) k=if i<=k/\k<j then kv rk xs (i+j-1-k) else kv rk xs k:=by
 have e:=getElem?_mirror_all (i:=i) hj k;by_cases c:i<=k/\k<j
 .rw[AG c] at e⊢;exact IH rk e
 .rw[AF c] at e⊢;exact IH rk e
def P4(hj:j<=xs.size)(he:Ev rk xs i j)(k:Nat):kv rk (ue xs i j ((j-i)/2)) k=kv rk xs k:=by
 rw[UE rk hj];split
 .rw[he _ (by lia) (by lia),he k (by lia) (by lia)]
 .rfl
def Up.one(xs:Array bt)(lo:Nat):Up rk xs lo (lo+1):=λi j h1 h2 h3=>by
 have:i=j:=by lia
 rw[this];exact Ac _
end
end
variable{lo:Nat}
section
open PySem.W
section
variable(rk:bt->Nat)
def Up.step(h1:1<=n)(h:Up rk xs lo (lo+n))(hl:¬kv rk xs (lo+n)<kv rk xs (lo+n-1)):Up rk xs lo (lo+(n+1)):=λi j a b c=>by
 by_cases e:j<lo+n
 .exact h i j a b e
 .have e':j=lo+n:=by lia
  subst e';by_cases e2:i=lo+n
  .rw[e2];exact Ac _
  .exact BI (h i (lo+n-1) a (by lia) (by lia)) (Oz hl)
def Dn.step{ys:Array bt}(h1:1<=n)(hk:∀k,kv rk ys k=kv rk xs k)(h:Dn rk xs lo (lo+n))(hl:kv rk xs (lo+n)<=kv rk xs (lo+n-1)):Dn rk ys lo (lo+(n+1)):=λi j a b c=>by
 rw[hk,hk];by_cases e:j<lo+n
 .exact h i j a b e
 .have e':j=lo+n:=by lia
  subst e';by_cases e2:i=lo+n
  .rw[e2];exact Ac _
  .exact BI hl (h i (lo+n-1) a (by lia) (by lia))
end
structure Ok(κ:SortKind)(a0:Array bt)(lo:Nat)(P:Array (Nat×Nat×Nat))(st:sX):Prop where
 perm:(dA st).Perm a0
 fix:∀k,k<lo->(dA st)[k]? =a0[k]?
 kind:kindOf st=κ
 failed:tD st=J
 pend:cm st=P
end
variable{κ:SortKind}{a0:Array bt}{st:sX}
section
open PySem.W
theorem Ok.size{P:Array (Nat×Nat×Nat)}(h:Ok κ a0 lo P st):(dA st).size=a0.size:=h.perm.size_eq
def Ok.set{P:Array (Nat×Nat×Nat)}(h:Ok κ a0 lo P st)(hp:xs.Perm (dA st))(hf:∀k,k<lo->xs[k]? =(dA st)[k]?):Ok κ a0 lo P (setArr st xs):=
 ⟨hp.trans h.perm,λk hk=>(hf k hk).trans (h.fix k hk),h.kind,h.failed,h.pend⟩
def Ok.Q7{P:Array (Nat×Nat×Nat)}(h:Ok κ a0 lo P st)(hi:lo<=i)(hj:j<=a0.size):Ok κ a0 lo P (setArr st (ue (dA st) i j ((j-i)/2))):=
 h.set (mirror_perm _ _ _ _) λk hk=>by rw[getElem?_mirror_all (by rw[h.size];exact hj),AF (by lia)]
end
variable{rk:bt->Nat}
section
open PySem.W
section
variable{P:Array (Nat×Nat×Nat)}
def C5(prog:sY)(w:si)(A:tU)(s:Ya)(κ:SortKind)(rk:bt->Nat)(a0:Array bt):Prop:=
 ∀x y,x∈a0.toList->y∈a0.toList->∀C:Bool->Ya->Prop,C (decide (rk x<rk y)) s->ax (Yf prog w) A (keyLt' κ x.1 y.1) C (λ_ _=>False) s
def OB(hc:C5 prog w A s κ rk a0){x y:bt}{Q:Option Bool->sX->Prop}(hk:kindOf st=κ)(hx:x∈a0.toList)(hy:y∈a0.toList)(h:Q (U (decide (rk x<rk y))) st):
 wpS (Yf prog w) A E s (lt' x y) Q st:=by
 rw[lt'_eq];refine Aj (ID ?_);rw[hk];refine Aj (Ln (KO (DA (hc x y hx hy (λc s'=>c=decide (rk x<rk y)/\s'=s) ⟨Z,Z⟩) (λc s' z=>?_) λ_ _ z=>z.elim)));obtain⟨rfl,rfl⟩:=z;exact⟨Z,Av h⟩
def Ok.at(hB:Ok κ a0 lo P st)(hi:i<a0.size):(dA st)[i]? =U ((dA st).getD i dK)/\(dA st).getD i dK∈a0.toList:=by
 have h0:i<(dA st).size:=by rw[hB.size];exact hi
 have e:(dA st)[i]? =U (dA st)[i]:=Gd _ i h0;have e2:(dA st).getD i dK=(dA st)[i]:=by rw[G9,e];rfl
 rw[e2];exact⟨e,(Mf.mp hB.perm).mem_iff.mp (by simp)⟩
def Nx(hc:C5 prog w A s κ rk a0){Q:Option Bool->sX->Prop}(hB:Ok κ a0 lo P st)(hi:i<a0.size)(hj:j<a0.size)
 (h:Q (U (decide (kv rk (dA st) i<kv rk (dA st) j))) st):wpS (Yf prog w) A E s (ltAt' i j) Q st:=by
 rw[ltAt'_eq];refine Aj (ID ?_);show wpS _ _ _ _ (tL (dA st) i>>=λx=>tL (dA st) j>>=λy=>lt' x y) Q st;rw[elem'_eq,elem'_eq,(hB.at hi).1,(hB.at hj).1];exact Aj (Av (Aj (Av (OB hc hB.kind (hB.at hi).2 (hB.at hj).2 h))))
def QM{Q:Unit->sX->Prop}(h:Q () (setArr st (ue (dA st) i j ((j-i)/2)))):wpS (Yf prog w) A E s (uE i j) Q st:=by rw[reverseSlice'_eq];exact KR h
def aK(hc:C5 prog w A s κ rk a0){b BR:Nat}{Q:Option (Option Nat)×Nat->sX->Prop}(hn:lo+BR<=a0.size)(hb:1<=b)(hbn:b<=BR)(hB:Ok κ a0 lo P st)(hs:Up rk (dA st) lo (lo+b))
 (h:∀n,b<=n->n<=BR->Up rk (dA st) lo (lo+n)->(n=BR\/kv rk (dA st) (lo+n)<kv rk (dA st) (lo+n-1))->Q (J,n) st):
 wpS (Yf prog w) A E s (up1 lo b BR) Q st:=by
 delta up1;refine FN (I:=λx c h0=>h0=st/\c=(J,x)/\Up rk (dA st) lo (lo+x)) ?_ ?_ ⟨Z,Z,hs⟩
 .rintro x c h0 h1 h2 ⟨rfl,rfl,h3⟩;refine Aj (Nx hc hB (by dsimp only;lia) (by dsimp only;lia) ?_);by_cases hl:kv rk (dA h0) (lo+x)<kv rk (dA h0) (lo+x-1)
  .simp-iota only[hl,Lc,CL];exact Av (h x h1 (by lia) h3 (.inr hl))
  .simp-iota only[hl,LY,CP,Bx];exact Av ⟨Z,Z,h3.step rk (by lia) hl⟩
 .rintro c h0 ⟨rfl,rfl,h3⟩;rw[show max b BR=BR by lia] at h3⊢;exact h BR hbn (Ac _) h3 (.inl Z)
def aL(hc:C5 prog w A s κ rk a0){BR:Nat}{Q:Option Nat->sX->Prop}(hn:lo+BR<=a0.size)(h1:1<=n)(hnn:n<=BR)(hB:Ok κ a0 lo P st)(hs:Dn rk (dA st) lo (lo+n))
 (h:∀m st',Ok κ a0 lo P st'->1<=m->m<=BR->Up rk (dA st') lo (lo+m)->Q (U m) st'):wpS (Yf prog w) A E s (LF lo n BR) Q st:=by
 delta LF;refine Aj (QM ?_);have h0:=hB.Q7 (i:=lo) (j:=lo+n) (Ac _) (by lia);refine Aj (aK hc hn h1 hnn h0 ?_ λm a b c _=>Av (h m _ h0 (by lia) b c));intro i j a b c;have hz:lo+n<=(dA st).size:=by rw[hB.size];lia
 show kv rk (ue (dA st) lo (lo+n) _) i<=kv rk (ue (dA st) lo (lo+n) _) j;rw[UE rk hz,UE rk hz,AG (by lia),AG (by lia)];exact hs _ _ (by lia) (by lia) (by lia)
def qB(hc:C5 prog w A s κ rk a0){BR:Nat}{Q:Option (Option Nat)×Nat×Nat->sX->Prop}(hn:lo+BR<=a0.size)(h1:1<=n)(hnn:n<=BR)(hB:Ok κ a0 lo P st)(hs:Dn rk (dA st) lo (lo+n))
 (h:∀m q st',Ok κ a0 lo P st'->n<=m->m<=BR->Dn rk (dA st') lo (lo+m)->q+1<=m->Ev rk (dA st') (lo+m-(q+1)) (lo+m)->Q (J,m,q) st'):
 wpS (Yf prog w) A E s (VH lo n BR) Q st:=by
 delta VH;refine FN (I:=λx c st'=>∃q,c=(J,x,q)/\Ok κ a0 lo P st'/\Dn rk (dA st') lo (lo+x)/\q+1<=x/\Ev rk (dA st') (lo+x-(q+1)) (lo+x)) ?_ ?_
  ⟨0,Z,hB,hs,by lia,λi a b=>by congr 1;lia⟩
 .rintro x c st' h2 h3 ⟨q,rfl,h0,h4,hq,he⟩;have hz:lo+x<=(dA st').size:=by rw[h0.size];lia
  refine Aj (Nx hc h0 (by dsimp only;lia) (by dsimp only;lia) ?_);by_cases hl:kv rk (dA st') (lo+x)<kv rk (dA st') (lo+x-1)
  .simp-iota only[hl,Lc,CL];by_cases h5:q>0
   .rw[AG h5];refine Aj (QM (Av ⟨0,Z,h0.Q7 (by lia) (by lia),h4.step rk (by lia) (P4 rk hz he) (Ge hl),by lia,λi a b=>by congr 1;lia⟩))
   .rw[AF h5];exact Av ⟨0,Z,h0,h4.step rk (by lia) (λ_=>rfl) (Ge hl),by lia,λi a b=>by congr 1;lia⟩
  .simp-iota only[hl,LY,CP,Bx];refine Aj (Nx hc h0 (by lia) (by lia) ?_);by_cases hg:kv rk (dA st') (lo+x-1)<kv rk (dA st') (lo+x)
   .simp-iota only[hg,Lc,CL];exact Av (h x q st' h0 h2 (by lia) h4 hq he)
   .simp-iota only[hg,LY,CP,Bx];have ex:kv rk (dA st') (lo+x)=kv rk (dA st') (lo+x-1):=by lia
    refine Av ⟨q+1,Z,h0,h4.step rk (by lia) (λ_=>rfl) (by lia),by lia,λi a b=>?_⟩;rw[show lo+(x+1)-1=lo+x by lia,ex];by_cases ei:i=lo+x
    .rw[ei,ex]
    .exact he i (by lia) (by lia)
 .rintro c st' ⟨q,rfl,h0,h4,hq,he⟩;rw[show max n BR=BR by lia] at h4 hq he⊢;exact h BR q st' h0 hnn (Ac _) h4 hq he
def Yl(hc:C5 prog w A s κ rk a0){BR:Nat}{Q:Option Nat->sX->Prop}(hn:lo+BR<=a0.size)(hnn:n+1<=BR)(hB:Ok κ a0 lo P st)(hs:Dn rk (dA st) lo (lo+(n+1)))
 (h:∀m st',Ok κ a0 lo P st'->1<=m->m<=BR->Up rk (dA st') lo (lo+m)->Q (U m) st'):wpS (Yf prog w) A E s (QP lo n BR) Q st:=by
 delta QP;refine Aj (Ln (Hy ⟨Z,?_⟩));refine Aj (qB hc hn (by lia) hnn hB hs λm q st' h0 a b h1 hq he=>?_);have hz:lo+m<=(dA st').size:=by rw[h0.size];lia
 show wpS _ _ _ _ (if q>0 then _ else _) Q st';by_cases h2:q>0
 .rw[AG h2];refine Aj (QM (aL hc hn (by show 1<=m;lia) b (h0.Q7 (by dsimp only;lia) (by dsimp only;lia)) (λi j c d e=>?_) h));show kv rk (ue (dA st') _ _ _) j<=kv rk (ue (dA st') _ _ _) i;rw[P4 rk hz he,P4 rk hz he];exact h1 i j c d e
 .rw[AF h2];exact aL hc hn (by show 1<=m;lia) b h0 h1 h
def jj(hc:C5 prog w A s κ rk a0){BR:Nat}{Q:Option Nat->sX->Prop}(hn:lo+BR<=a0.size)(h1:1<=BR)(hB:Ok κ a0 lo P st)
 (h:∀m st',Ok κ a0 lo P st'->1<=m->m<=BR->Up rk (dA st') lo (lo+m)->Q (U m) st'):wpS (Yf prog w) A E s (countRun' lo BR) Q st:=by
 rw[count_eq];refine Aj (aK hc hn (Ac _) h1 hB (Up.one rk _ _) λn a b hs ho=>?_);show wpS _ _ _ _ (if(n==BR)=Y then _ else _) Q st;by_cases e:n=BR
 .rw[AG (by simpa using e)];exact Av (h n st hB a b hs)
 .rw[AF (by simpa using e)];have hl:=ho.resolve_left e;by_cases g:n>1
  .show wpS _ _ _ _ (if n>1 then _ else _) Q st;rw[AG g];refine Aj (Nx hc hB (by lia) (by dsimp only;lia) ?_);by_cases hr:kv rk (dA st) lo<kv rk (dA st) (lo+n-1)
   .simp-iota only[hr,Lc,CL];exact Av (h n st hB a b hs)
   .simp-iota only[hr,LY,CP,Bx];have hz:lo+n<=(dA st).size:=by rw[hB.size];lia
    have h0:Ev rk (dA st) lo (lo+n):=λk x y=>by
     have a1:=hs lo k (Ac _) x y;have a2:=hs k (lo+n-1) x (by lia) (by lia)
     lia
    refine Aj (QM (Yl hc hn (by lia) (hB.Q7 (Ac _) (by lia)) (Dn.step rk (xs:=dA st) (by lia) (P4 rk hz h0) (λi j x y z=>?_) (Ge hl)) h));rw[h0 i x (by lia),h0 j (by lia) z];exact Ac _
  .show wpS _ _ _ _ (if n>1 then _ else _) Q st;rw[AF g];have e1:n=1:=by lia
   subst e1;refine Yl hc hn (by lia) hB (Dn.step rk (xs:=dA st) (Ac _) (λ_=>rfl) (λi j x y z=>?_) (Ge hl)) h;have:i=j:=by lia
   rw[this];exact Ac _
end
abbrev G3:=Option (Option Nat)×Nat×Nat
noncomputable def past(left:Bool)(key:bt)(arr:Array bt)(base i:Nat):SM (Option Bool):=
 tL arr (base+i)>>=λx=>if left=Y then lt' x key else lt' key x>>=λt=>pure (t.map (!·))
noncomputable def N7(f:Nat->SM (Option Bool))(n lo hi:Nat):SM G3:=
 forIn [0:n] ((J,lo,hi):G3) λ_ z=>if z.2.1>=z.2.2 then pure (.done (J,z.2.1,z.2.2)) else f (z.2.1+(z.2.2-z.2.1)/2)>>=λt=>
  match t with
  |some c=>if c=Y then pure (.yield (J,z.2.1+(z.2.2-z.2.1)/2+1,z.2.2)) else pure (.yield (J,z.2.1,z.2.1+(z.2.2-z.2.1)/2))
  |none=>pure (.done (U J,z.2.1,z.2.2))
noncomputable def U1(z:G3):SM (Option Nat):=
 match z.1 with
 |some r=>pure r
 |none=>pure (U z.2.2)
noncomputable def L8(f:Nat->SM (Option Bool))(n most:Nat)(go:Nat->Nat)(stop:Bool->Bool):SM G3:=
 forIn [0:n] ((J,0,1):G3) λ_ z=>if z.2.2>=most then pure (.done (J,z.2.1,z.2.2)) else f (go z.2.2)>>=λt=>
  match t with
  |some c=>if stop c=Y then pure (.done (J,z.2.1,z.2.2)) else pure (.yield (J,z.2.2,2*z.2.2+1))
  |none=>pure (.done (U J,z.2.1,z.2.2))
def aV(f:Nat->SM (Option Bool))(n:Nat)(lo hi:Nat->Nat->Nat)(z:G3):SM (Option Nat):=
 match z.1 with
 |some r=>pure r
 |none=>N7 f n (lo z.2.1 z.2.2) (hi z.2.1 z.2.2)>>=U1
def VF(f:Nat->SM (Option Bool))(n hint:Nat):SM (Option Nat):=f hint>>=λt=>
 match t with
 |some c=>if c=Y then L8 f n (n-hint) (λo=>hint+o) (λc=> !c)>>=aV f n (λl _=>hint+l+1) (λ_ o=>hint+min o (n-hint))
  else L8 f n (hint+1) (λo=>hint-o) (λc=>c)>>=aV f n (λ_ o=>hint+1-min o (hint+1)) (λl _=>hint-l)
 |none=>pure J
noncomputable def Jf:Bool->bt->Array bt->Nat->Nat->Nat->SM (Option Nat):=sortPriv%PySem.Builtin.gallop
def gh(left:Bool)(key:bt)(arr:Array bt)(base n hint:Nat):Jf left key arr base n hint=VF (past left key arr base) n hint:=by
 refine BK Z λx=>?_
 cases x with
 |none=>rfl
 |some c=>
  refine DP Z (λ_=>?_) λ_=>?_;all_goals
   refine BK (HZ λi z=>DP Z (λ_=>rfl) λ_=>BK Z λx=>?_) λz=>?_
   .cases x<;>rfl
   .obtain⟨r,l,h⟩:=z
    match r with
    |some r=>rfl
    |none=>
     refine BK (HZ λi z=>DP Z (λ_=>rfl) λ_=>BK Z λx=>?_) λz=>?_
     .cases x<;>rfl
     .obtain⟨r,l,h⟩:=z;cases r<;>rfl
section
variable{f:Nat->SM (Option Bool)}{B:Nat->Bool}
def aA{hi:Nat}{Q:G3->sX->Prop}(hf:∀i,i<n->∀R:Option Bool->sX->Prop,R (U (B i)) st->wpS M A E s (f i) R st)(hm:∀i j,i<=j->j<n->B j=Y->B i=Y)
 (h1:lo<=hi)(h2:hi<=n)(h3:∀i,i<lo->B i=Y)(h4:∀i,hi<=i->i<n->B i=vc)
 (h:∀l k,k<=n->(∀i,i<k->B i=Y)->(∀i,k<=i->i<n->B i=vc)->Q (J,l,k) st):wpS M A E s (N7 f n lo hi) Q st:=by
 delta N7;refine FN (I:=λx c h0=>h0=st/\∃l r,c=(J,l,r)/\l<=r/\r<=n/\r-l<=n-x/\(∀i,i<l->B i=Y)/\∀i,r<=i->i<n->B i=vc) ?_ ?_ ⟨Z,lo,hi,Z,h1,h2,by lia,h3,h4⟩
 .rintro x c h0 _ hx ⟨rfl,l,r,rfl,a1,a2,a3,a4,a5⟩;dsimp only;by_cases hg:l>=r
  .rw[AG hg];have e:l=r:=by lia
   subst e;exact Av (h l l a2 a4 a5)
  .rw[AF hg];refine Aj (hf _ (by lia) _ ?_)
   cases e:B (l+(r-l)/2) with
   |true=>refine Av ⟨Z,_,_,Z,by lia,a2,by lia,λi hi=>hm i (l+(r-l)/2) (by lia) (by lia) e,a5⟩
   |false=>
    refine Av ⟨Z,_,_,Z,by lia,by lia,by lia,a4,λi hi hn=>?_⟩
    cases e2:B i with
    |false=>rfl
    |true=>rw[hm _ i hi hn e2] at e;cases e
 .rintro c h0 ⟨rfl,l,r,rfl,a1,a2,a3,a4,a5⟩;have e:l=r:=by lia
  subst e;exact h l l a2 a4 a5
def Yh{most:Nat}{go:Nat->Nat}{stop:Bool->Bool}{Q:G3->sX->Prop}(vg:Nat->Prop)(hf:∀i,i<n->∀R:Option Bool->sX->Prop,R (U (B i)) st->wpS M A E s (f i) R st)(hmost:0<most)(hmn:most<=n)(hgo:∀o,o<most->go o<n)
 (h0:vg 0)(hJ:∀o,o<most->stop (B (go o))=vc->vg o)
 (h:∀l o,l<o->l<most->vg l->(o>=most\/(o<most/\stop (B (go o))=Y))->Q (J,l,o) st):wpS M A E s (L8 f n most go stop) Q st:=by
 delta L8;refine FN (I:=λx c h1=>h1=st/\∃l o,c=(J,l,o)/\l<o/\l<most/\vg l/\x+1<=o) ?_ ?_ ⟨Z,0,1,Z,by lia,hmost,h0,by lia⟩
 .rintro x c h1 _ hx ⟨rfl,l,o,rfl,a1,a2,a3,a4⟩;dsimp only;by_cases hg:o>=most
  .rw[AG hg];exact Av (h l o a1 a2 a3 (.inl hg))
  .rw[AF hg];refine Aj (hf _ (hgo o (by lia)) _ ?_);dsimp only
   cases e:stop (B (go o)) with
   |true=>rw[AG Z];exact Av (h l o a1 a2 a3 (.inr ⟨by lia,e⟩))
   |false=>rw[AF (by simp)];exact Av ⟨Z,o,2*o+1,Z,by lia,by lia,hJ o (by lia) e,by lia⟩
 .rintro c h1 ⟨rfl,l,o,rfl,a1,a2,a3,a4⟩;exact h l o a1 a2 a3 (.inl (by lia))
def oe{hint:Nat}{Q:Option Nat->sX->Prop}(hf:∀i,i<n->∀R:Option Bool->sX->Prop,R (U (B i)) st->wpS M A E s (f i) R st)(hm:∀i j,i<=j->j<n->B j=Y->B i=Y)(hh:hint<n)
 (h:∀k,k<=n->(∀i,i<k->B i=Y)->(∀i,k<=i->i<n->B i=vc)->Q (U k) st):wpS M A E s (VF f n hint) Q st:=by
 have h0:∀i j,i<=j->j<n->B i=vc->B j=vc:=λi j a b c=>by
  cases e:B j with
  |false=>rfl
  |true=>rw[hm i j a b e] at c;cases c
 delta VF;refine Aj (hf _ hh _ ?_)
 cases e:B hint with
 |true=>
  show wpS _ _ _ _ (L8 f n (n-hint) _ _>>=_) Q st;refine Aj (Yh (B:=B) (λl=>B (hint+l)=Y) hf (by lia) (by lia) (λo ho=>by lia) e (λo ho hs=>by simpa using hs) λl o a1 a2 a3 a4=>?_);show wpS _ _ _ _ (N7 f n (hint+l+1) (hint+min o (n-hint))>>=U1) Q st;refine Aj (aA hf hm (by lia) (by lia) (λi hi=>hm i (hint+l) (by lia) (by lia) a3) (λi hi hn=>?_) λl k b1 b2 b3=>Av (h k b1 b2 b3));rcases a4 with c|⟨c1,c2⟩
  .lia
  .exact h0 (hint+o) i (by lia) hn (by simpa using c2)
 |false=>
  show wpS _ _ _ _ (L8 f n (hint+1) _ _>>=_) Q st;refine Aj (Yh (B:=B) (λl=>B (hint-l)=vc) hf (by lia) (by lia) (λo ho=>by lia) e (λo ho hs=>hs) λl o a1 a2 a3 a4=>?_);show wpS _ _ _ _ (N7 f n (hint+1-min o (hint+1)) (hint-l)>>=U1) Q st;refine Aj (aA hf hm (by lia) (by lia) (λi hi=>?_) (λi hi hn=>h0 (hint-l) i (by lia) hn a3) λl k b1 b2 b3=>Av (h k b1 b2 b3));rcases a4 with c|⟨c1,c2⟩
  .lia
  .exact hm i (hint-o) (by lia) (by lia) c2
end
end
variable{arr:Array bt}
section
open PySem.W
def DR{Q:bt->sX->Prop}(hi:i<arr.size)(h:Q (arr.getD i dK) st):wpS M A E s (tL arr i) Q st:=by
 have e:arr[i]? =U (arr.getD i dK):=by rw[G9,Gd _ i hi];rfl
 rw[elem'_eq,e];exact Av h
def getD_mem(hi:i<arr.size):arr.getD i dK∈arr.toList:=by rw[G9,Gd _ i hi];simp
def Li(hc:C5 prog w A s κ rk a0){left:Bool}{key:bt}{base hint:Nat}{Q:Option Nat->sX->Prop}(hk:kindOf st=κ)(hkey:key∈a0.toList)(ha:∀x∈arr.toList,x∈a0.toList)
 (hn:base+n<=arr.size)(hh:hint<n)(hs:Up rk arr base (base+n))
 (h:∀k,k<=n->(∀i,i<k->(kv rk arr (base+i)<rk key\/(left=vc/\kv rk arr (base+i)=rk key)))->(∀i,k<=i->i<n->(rk key<kv rk arr (base+i)\/(left=Y/\kv rk arr (base+i)=rk key)))->Q (U k) st):
 wpS (Yf prog w) A E s (Jf left key arr base n hint) Q st:=by
 rw[gh];refine oe (B:=λi=>if left=Y then decide (kv rk arr (base+i)<rk key) else !decide (rk key<kv rk arr (base+i))) (λi hi R hR=>?_) (λi j a b c=>?_) hh λk a b c=>h k a (λi hi=>?_) λi hi h0=>?_
 .delta past;have hz:base+i<arr.size:=by lia
  refine Aj (DR hz ?_)
  cases left with
  |true=>exact OB hc hk (ha _ (getD_mem hz)) hkey hR
  |false=>exact Aj (OB hc hk hkey (ha _ (getD_mem hz)) (Av hR))
 .have:=hs (base+i) (base+j) (by lia) (by lia) (by lia)
  cases left with
  |true=>simp only[CL,Ow] at c⊢;lia
  |false=>simp only[CP,Bx,Bool.not_eq_true',VU] at c⊢;lia
 .have:=b i hi
  cases left with
  |true=>simp only[CL,Ow] at this;exact .inl this
  |false=>simp only[CP,Bx,Bool.not_eq_true',VU] at this;simp;lia
 .have:=c i hi h0
  cases left with
  |true=>simp only[CL,VU] at this;simp;lia
  |false=>simp only[CP,Bx,Bool.not_eq_false',Ow] at this;exact .inl this
def SL(rk:bt->Nat)(l:List bt):Prop:=l.Pairwise λx y=>rk x<=rk y
def SL.app{l m:List bt}:SL rk (l++m)↔SL rk l/\SL rk m/\∀x∈l,∀y∈m,rk x<=rk y:=Vf
structure Mi(rk:bt->Nat)(out p q:List bt):Prop where
 l:SL rk (out++p)
 r:SL rk (out++q)
def Mi.swap{out p q:List bt}(h:Mi rk out p q):Mi rk out q p:=⟨h.r,h.l⟩
def Mi.UR{out p u q:List bt}(h:Mi rk out p (u++q))(hu:∀x∈u,∀y∈p,rk x<=rk y):Mi rk (out++u) p q:=by
 refine⟨?_,by rw[Bt];exact h.r⟩;obtain⟨a,b,c⟩:=SL.app.mp h.l;obtain⟨a',b',c'⟩:=SL.app.mp h.r;refine SL.app.mpr ⟨SL.app.mpr ⟨a,(SL.app.mp b').1,λx hx y hy=>c' x hx y (GZ _ hy)⟩,b,λx hx y hy=>?_⟩;rcases Be.mp hx with z|z
 .exact c x z y hy
 .exact hu x z y hy
def Nj(h:i<xs.size):kv rk xs i=rk (xs.toList[i]'(by simpa using h)):=by delta kv;rw[G9,Gd _ i h];simp
def Lo(h:Up rk xs 0 xs.size):∀y∈xs.toList.drop i,kv rk xs i<=rk y:=by
 intro y hy;obtain⟨j,hj,e⟩:=GY.mp hy;rw[EK] at hj;have hl:xs.toList.length=xs.size:=by simp
 rw[List.getElem_drop] at e;rw[<-e,<-Nj (rk:=rk) (i:=i+j) (by lia)];exact h _ _ (CB _) (by lia) (by lia)
def Pq(h:i<xs.size):xs.toList.drop i=xs.getD i dK::xs.toList.drop (i+1):=by
 have hl:xs.toList.length=xs.size:=by simp
 rw[Oc (by lia)];congr 1;rw[G9,Gd _ i h];simp
def QI(h:Up rk xs 0 xs.size):SL rk xs.toList:=by
 refine Oa.mpr λi j hi hj h0=>?_;have hl:xs.toList.length=xs.size:=by simp
 rw[<-Nj (rk:=rk) (by lia),<-Nj (rk:=rk) (by lia)];exact h _ _ (CB _) (by lia) (by lia)
def jr(hk:i+k<=xs.size){y:bt}(h:y∈(xs.toList.drop i).take k):∃j,j<k/\y=xs.getD (i+j) dK:=by
 obtain⟨j,hj,e⟩:=GY.mp h;rw[Bk] at hj;have hl:xs.toList.length=xs.size:=by simp
 refine⟨j,by lia,?_⟩;rw[List.getElem_take,List.getElem_drop] at e;rw[<-e,G9,Gd _ (i+j) (by lia)];simp
def NP(xs:Array bt)(i j:Nat):(xs.extract i j).toList=(xs.toList.drop i).take (j-i):=by rw[Vh]
def Lj(xs:Array bt)(i:Nat):(xs.extract i xs.size).toList=xs.toList.drop i:=by rw[NP,FG (by simp)]
structure Mg(rk:bt->Nat)(a b out:Array bt)(ia ib:Nat):Prop where
 mi:Mi rk out.toList (a.toList.drop ia) (b.toList.drop ib)
 pm:out.toList.Perm (a.toList.take ia++b.toList.take ib)
 ha:ia+1<a.size
 hb:ib<b.size
end
variable{out:Array bt}
section
open PySem.W
section
variable{a b:Array bt}
structure Me(rk:bt->Nat)(a b out:Array bt):Prop where
 sl:SL rk out.toList
 pm:out.toList.Perm (a.toList++b.toList)
end
end
variable{ia ib:Nat}
section
open PySem.W
section
variable{a b:Array bt}
noncomputable def Fe(a b out:Array bt)(ia ib:Nat):Array bt:=out++a.extract ia a.size++b.extract ib b.size
noncomputable def K6(a b out:Array bt)(ia ib:Nat):Array bt:=out++b.extract ib b.size++a.extract ia a.size
def SY{o a b:List bt}(h:o.Perm (a.take i++b.take j)):(o++(a.drop i++b.drop j)).Perm (a++b):=by
 have e:a++b=(a.take i++a.drop i)++(b.take j++b.drop j):=by rw[D5,D5]
 rw[e];refine(h.append_right _).trans ?_;rw[Bt,Bt];refine RH _ ?_;rw[<-Bt,<-Bt];exact Va _ JM
def Qd(mi:Mi rk out.toList (a.toList.drop ia) (b.toList.drop ib))(pm:out.toList.Perm (a.toList.take ia++b.toList.take ib))(hb:ib=b.size):Me rk a b (Fe a b out ia ib):=by
 have e:b.toList.drop ib=[]:=by rw[hb];simp
 have e2:(Fe a b out ia ib).toList=out.toList++(a.toList.drop ia++b.toList.drop ib):=by delta Fe;rw[Ga,Ga,Lj,Lj,Bt]
 refine⟨?_,by rw[e2];exact SY pm⟩;rw[e2,e,CW];exact mi.l
def qY(mi:Mi rk out.toList (a.toList.drop ia) (b.toList.drop ib))(pm:out.toList.Perm (a.toList.take ia++b.toList.take ib))(ha:ia=a.size):Me rk a b (Fe a b out ia ib):=by
 have e:a.toList.drop ia=[]:=by rw[ha];simp
 have e2:(Fe a b out ia ib).toList=out.toList++(a.toList.drop ia++b.toList.drop ib):=by delta Fe;rw[Ga,Ga,Lj,Lj,Bt]
 refine⟨?_,by rw[e2];exact SY pm⟩;rw[e2,e,O3];exact mi.r
def Qc(mi:Mi rk out.toList (a.toList.drop ia) (b.toList.drop ib))(pm:out.toList.Perm (a.toList.take ia++b.toList.take ib))(ha:ia+1=a.size)(hl:∀y∈b.toList,rk y<=kv rk a (a.size-1)):Me rk a b (K6 a b out ia ib):=by
 have e:a.toList.drop ia=[a.getD ia dK]:=by rw[Pq (by lia),ha];simp
 have e2:(K6 a b out ia ib).toList=out.toList++(b.toList.drop ib++a.toList.drop ia):=by delta K6;rw[Ga,Ga,Lj,Lj,Bt]
 refine⟨?_,by rw[e2];exact(RH _ JM).trans (SY pm)⟩;rw[e2,e,<-Bt];refine SL.app.mpr ⟨mi.r,VX _ _,λx hx y hy=>?_⟩;rw[BW] at hy;rcases Be.mp hx with z|z
 .exact(SL.app.mp mi.l).2.2 x z y (by rw[e,hy];exact BW.mpr Z)
 .have:=hl x (LK z);rw[hy];unfold kv at this
  rwa [show a.size-1=ia by lia] at this
end
end
variable{out':Array bt}
section
open PySem.W
section
variable{a b:Array bt}
def OD(mi:Mi rk out.toList (a.toList.drop ia) (b.toList.drop ib))(pm:out.toList.Perm (a.toList.take ia++b.toList.take ib))(k:Nat)(hk:ib+k<=b.size)(e:out'.toList=out.toList++(b.toList.drop ib).take k)(hle:∀i,i<k->∀y∈a.toList.drop ia,kv rk b (ib+i)<=rk y):
 Mi rk out'.toList (a.toList.drop ia) (b.toList.drop (ib+k))/\out'.toList.Perm (a.toList.take ia++b.toList.take (ib+k)):=by
 rw[e];constructor
 .have e3:b.toList.drop ib=(b.toList.drop ib).take k++b.toList.drop (ib+k):=by rw[<-List.drop_drop,D5]
  rw[e3] at mi;refine mi.UR λx hx y hy=>?_;obtain⟨j,hj,rfl⟩:=jr hk hx;exact hle j hj y hy
 .have e3:b.toList.take (ib+k)=b.toList.take ib++(b.toList.drop ib).take k:=List.take_add;rw[e3,<-Bt];exact pm.append_right _
def Uq(mi:Mi rk out.toList (a.toList.drop ia) (b.toList.drop ib))(pm:out.toList.Perm (a.toList.take ia++b.toList.take ib))(k:Nat)(hk:ia+k<=a.size)(e:out'.toList=out.toList++(a.toList.drop ia).take k)(hle:∀i,i<k->∀y∈b.toList.drop ib,kv rk a (ia+i)<=rk y):
 Mi rk out'.toList (a.toList.drop (ia+k)) (b.toList.drop ib)/\out'.toList.Perm (a.toList.take (ia+k)++b.toList.take ib):=by
 have:=OD (a:=b) (b:=a) mi.swap (pm.trans JM) k hk e hle;exact⟨this.1.swap,this.2.trans JM⟩
def NX(h:i<xs.size)(out:Array bt):(out.push (xs.getD i dK)).toList=out.toList++(xs.toList.drop i).take 1:=by rw[M3,Pq h];rfl
def YC(i k:Nat)(out:Array bt):(out++xs.extract i (i+k)).toList=out.toList++(xs.toList.drop i).take k:=by rw[Ga,NP,Nat.add_sub_cancel_left]
end
abbrev A4:=Option (Array bt)×Array bt×Nat×Nat×Nat
abbrev A5:=Option (Array bt)×Array bt×Nat×Nat×Nat×Nat
abbrev A6:=Option (Array bt)×Array bt×Nat×Nat×Nat×Nat×Nat
noncomputable def NZ:Nat->SM Unit:=sortPriv%PySem.Builtin.setMinGallop
def lo1(a b:Array bt)(mg:Nat)(out:Array bt)(ia ib:Nat):SM A5:=
 forIn [0:a.size+b.size] ((J,out,ia,ib,0,0):A5) λ_ z=>tL b z.2.2.2.1>>=λy=>tL a z.2.2.1>>=λx=>lt' y x>>=λt=>
  match t with
  |some c=>
   if c=Y then(tL b z.2.2.2.1>>=λy=>
    if(z.2.2.2.1+1==b.size)=Y then pure (.done (U (Fe a b (z.2.1.push y) z.2.2.1 (z.2.2.2.1+1)),z.2.1.push y,z.2.2.1,z.2.2.2.1+1,0,z.2.2.2.2.2+1))
    else if z.2.2.2.2.2+1>=mg then pure (.done (J,z.2.1.push y,z.2.2.1,z.2.2.2.1+1,0,z.2.2.2.2.2+1))
    else pure (.yield (J,z.2.1.push y,z.2.2.1,z.2.2.2.1+1,0,z.2.2.2.2.2+1)))
   else(tL a z.2.2.1>>=λx=>
    if(z.2.2.1+1+1==a.size)=Y then pure (.done (U (K6 a b (z.2.1.push x) (z.2.2.1+1) z.2.2.2.1),z.2.1.push x,z.2.2.1+1,z.2.2.2.1,z.2.2.2.2.1+1,0))
    else if z.2.2.2.2.1+1>=mg then pure (.done (J,z.2.1.push x,z.2.2.1+1,z.2.2.2.1,z.2.2.2.2.1+1,0))
    else pure (.yield (J,z.2.1.push x,z.2.2.1+1,z.2.2.2.1,z.2.2.2.2.1+1,0)))
  |none=>pure (.done (U (Fe a b z.2.1 z.2.2.1 z.2.2.2.1),z.2.1,z.2.2.1,z.2.2.2.1,z.2.2.2.2.1,z.2.2.2.2.2))
def Qp(a b:Array bt)(mg ac bc:Nat)(out:Array bt)(ia ib:Nat):SM (ForInStep A6):=
 tL a ia>>=λx=>
  if(ia+1+1==a.size)=Y then pure (.done (U (K6 a b (out.push x) (ia+1) ib),out.push x,ia+1,ib,mg,ac,bc))
  else if(decide (ac<7)&&decide (bc<7))=Y then pure (.done (J,out.push x,ia+1,ib,mg,ac,bc))
  else pure (.yield (J,out.push x,ia+1,ib,mg,ac,bc))
def Q3(a b:Array bt)(mg ac bc:Nat)(out:Array bt)(ia ib:Nat):SM (ForInStep A6):=
 tL b ib>>=λy=>
  if(ib+1==b.size)=Y then pure (.done (U (Fe a b (out.push y) ia (ib+1)),out.push y,ia,ib+1,mg,ac,bc))
  else tL a ia>>=λx=>Jf Y x b (ib+1) (b.size-(ib+1)) 0>>=λt=>
   match t with
   |some k=>
    if k>0 then
     (if(ib+1+k==b.size)=Y then pure (.done (U (Fe a b (out.push y++b.extract (ib+1) (ib+1+k)) ia (ib+1+k)),out.push y++b.extract (ib+1) (ib+1+k),ia,ib+1+k,mg,ac,k))
     else Qp a b mg ac k (out.push y++b.extract (ib+1) (ib+1+k)) ia (ib+1+k))
    else Qp a b mg ac k (out.push y) ia (ib+1)
   |none=>pure (.done (U (Fe a b (out.push y) ia (ib+1)),out.push y,ia,ib+1,mg,ac,bc))
def Gz(a b:Array bt)(mg ac bc:Nat)(out:Array bt)(ia ib:Nat):SM (ForInStep A6):=
 NZ mg>>=λ_=>tL b ib>>=λy=>Jf vc y a ia (a.size-ia) 0>>=λt=>
  match t with
  |some k=>
   if k>0 then
    (if(ia+k+1==a.size)=Y then pure (.done (U (K6 a b (out++a.extract ia (ia+k)) (ia+k) ib),out++a.extract ia (ia+k),ia+k,ib,mg,k,bc))
    else if(ia+k==a.size)=Y then pure (.done (U (Fe a b (out++a.extract ia (ia+k)) (ia+k) ib),out++a.extract ia (ia+k),ia+k,ib,mg,k,bc))
    else Q3 a b mg k bc (out++a.extract ia (ia+k)) (ia+k) ib)
   else Q3 a b mg k bc out ia ib
  |none=>pure (.done (U (Fe a b out ia ib),out,ia,ib,mg,ac,bc))
def U8(a b:Array bt)(out:Array bt)(ia ib mg ac bc:Nat):SM A6:=
 forIn [0:a.size+b.size] ((J,out,ia,ib,mg,ac,bc):A6) λ_ z=>if z.2.2.2.2.1>1 then Gz a b (z.2.2.2.2.1-1) z.2.2.2.2.2.1 z.2.2.2.2.2.2 z.2.1 z.2.2.1 z.2.2.2.1 else Gz a b z.2.2.2.2.1 z.2.2.2.2.2.1 z.2.2.2.2.2.2 z.2.1 z.2.2.1 z.2.2.2.1
def rV(z:A6):SM (ForInStep A4):=
 match z.1 with
 |some r=>pure (.done (U r,z.2.1,z.2.2.1,z.2.2.2.1,z.2.2.2.2.1))
 |none=>NZ (z.2.2.2.2.1+1)>>=λ_=>pure (.yield (J,z.2.1,z.2.2.1,z.2.2.2.1,z.2.2.2.2.1+1))
def rh(a b:Array bt)(mg:Nat)(z:A5):SM (ForInStep A4):=
 match z.1 with
 |some r=>pure (.done (U r,z.2.1,z.2.2.1,z.2.2.2.1,mg))
 |none=>(liftM (rule "list.sort.gallop"):SM Unit)>>=λ_=>U8 a b z.2.1 z.2.2.1 z.2.2.2.1 (mg+1) z.2.2.2.2.1 z.2.2.2.2.2>>=rV
def cM(a b:Array bt)(out:Array bt)(ia ib mg:Nat):SM A4:=
 forIn [0:a.size+b.size] ((J,out,ia,ib,mg):A4) λ_ z=>lo1 a b z.2.2.2.2 z.2.1 z.2.2.1 z.2.2.2.1>>=rh a b z.2.2.2.2
noncomputable def sI(z:A4):SM (Array bt):=
 match z.1 with
 |some r=>pure r
 |none=>liftM (uA "internal:list.sort.merge-bound" :Sem (Array bt))
def low(a b:Array bt):SM (Array bt):=
 (liftM (rule "list.sort.merge-lo"):SM Unit)>>=λ_=>tL b 0>>=λy=>
  if(1==b.size)=Y then pure (Fe a b #[y] 0 1)
  else if(0+1==a.size)=Y then pure (K6 a b #[y] 0 1)
  else get>>=λst=>cM a b #[y] 0 1 (gallopOf st)>>=sI
noncomputable def Sw:Array bt->Array bt->SM (Array bt):=sortPriv%PySem.Builtin.mergeLo
def lS(a b:Array bt):Sw a b=low a b:=by
 refine BK Z λ_=>BK Z λy=>DP Z (λ_=>rfl) λ_=>DP Z (λ_=>rfl) λ_=>BK Z λst=>BK (HZ λi z=>BK (HZ λi z=>?_) λz'=>?_) λz=>?_
 .refine BK Z λy=>BK Z λx=>BK Z λt=>?_;cases t<;>rfl
 .obtain⟨r,o,ia,ib,ac,bc⟩:=z'
  match r with
  |some r=>rfl
  |none=>
   refine BK Z λ_=>BK (HZ λi z=>?_) λz=>?_
   .refine DP Z (λ_=>?_) λ_=>?_;all_goals
     refine BK Z λ_=>BK Z λy=>BK Z λt=>?_
     cases t with
     |none=>rfl
     |some k=>
      refine DP Z (λ_=>DP Z (λ_=>rfl) λ_=>DP Z (λ_=>rfl) λ_=>?_) λ_=>?_;all_goals
       refine BK Z λy=>DP Z (λ_=>rfl) λ_=>BK Z λx=>BK Z λt=>?_;cases t<;>rfl
   .obtain⟨r,o,ia,ib,mg,ac,bc⟩:=z;cases r<;>rfl
 .obtain⟨r,z⟩:=z;cases r<;>rfl
structure Sm(st st':sX):Prop where
 k:kindOf st'=kindOf st
 a:dA st'=dA st
 p:cm st'=cm st
 f:tD st'=tD st
def Sm.Js(st:sX):Sm st st:=⟨Z,Z,Z,Z⟩
theorem Sm.trans{x y z:sX}(h:Sm x y)(g:Sm y z):Sm x z:=⟨g.k.trans h.k,g.a.trans h.a,g.p.trans h.p,g.f.trans h.f⟩
def Ph{m:Nat}{Q:Unit->sX->Prop}(h:∀st',Sm st st'->Q () st'):wpS M A E s (NZ m) Q st:=
 KR (f:=λz=>SortSt.mk' (kindOf z) (dA z) (cm z) m (tD z)) (h _ ⟨Z,Z,Z,Z⟩)
def VD(rk:bt->Nat)(a b:Array bt)(N:Nat)(z:A6):Prop:=z.1=J/\Mg rk a b z.2.1 z.2.2.1 z.2.2.2.1/\N<=z.2.2.1+z.2.2.2.1
def bz(rk:bt->Nat)(a b:Array bt)(N:Nat)(z:A6):Prop:=(∃r,z.1=U r/\Me rk a b r)\/VD rk a b N z
def VJ(rk:bt->Nat)(a b:Array bt)(N:Nat):ForInStep A6->Prop
 |.done z=>bz rk a b N z
 |.yield z=>VD rk a b N z
section
variable{a b:Array bt}
structure GL(rk:bt->Nat)(a0 a b:Array bt):Prop where
 MU:∀x∈a.toList,x∈a0.toList
 MQ:∀x∈b.toList,x∈a0.toList
 ua:Up rk a 0 a.size
 ub:Up rk b 0 b.size
 na:0<a.size
 nb:0<b.size
 first:∀y∈a.toList,kv rk b 0<=rk y
 last:∀y∈b.toList,rk y<=kv rk a (a.size-1)
def Up.part(h:Up rk xs 0 xs.size)(hn:i+n<=xs.size):Up rk xs i (i+n):=λx y a b c=>h x y (CB _) b (by lia)
def pF(hc:C5 prog w A s κ rk a0)(T:GL rk a0 a b)(hk:kindOf st=κ){mg:Nat}{N:Nat}(g:Mg rk a b out ia ib)(hN:N<=ia+ib){Q:A5->sX->Prop}
 (h1:∀r z,Me rk a b r->Q (U r,z) st)(h2:∀out ia ib ac bc,Mg rk a b out ia ib->N+1<=ia+ib->Q (J,out,ia,ib,ac,bc) st):wpS (Yf prog w) A E s (lo1 a b mg out ia ib) Q st:=by
 delta lo1;refine FN (I:=λx c h0=>h0=st/\∃out ia ib ac bc,c=(J,out,ia,ib,ac,bc)/\Mg rk a b out ia ib/\N+x<=ia+ib) ?_ ?_ ⟨Z,out,ia,ib,0,0,Z,g,hN⟩
 .rintro x c h0 _ hx ⟨rfl,out,ia,ib,ac,bc,rfl,g,h3⟩;have ha:ia<a.size:=by have:=g.ha;lia
  refine Aj (DR g.hb (Aj (DR ha (Aj (OB hc hk (T.MQ _ (getD_mem g.hb)) (T.MU _ (getD_mem ha)) ?_)))));by_cases hl:rk (b.getD ib dK)<rk (a.getD ia dK)
  .simp-iota only[hl,Lc,CL];refine Aj (DR g.hb ?_);obtain⟨m1,m2⟩:=OD g.mi g.pm 1 (by have:=g.hb;lia) (NX g.hb out) (λi hi y hy=>by
    have e:i=0:=by lia
    subst e;exact BI (Ge hl) (Lo T.ua y hy));by_cases e:ib+1=b.size
   .rw[AG (by simpa using e)];exact Av (h1 _ _ (Qd m1 m2 e))
   .rw[AF (by simpa using e)];have g2:Mg rk a b (out.push (b.getD ib dK)) ia (ib+1):=⟨m1,m2,g.ha,by have:=g.hb;lia⟩;by_cases e2:bc+1>=mg
    .rw[AG e2];exact Av (h2 _ _ _ _ _ g2 (by lia))
    .rw[AF e2];exact Av ⟨Z,_,_,_,_,_,Z,g2,by lia⟩
  .simp-iota only[hl,LY,CP,Bx];refine Aj (DR ha ?_);obtain⟨m1,m2⟩:=Uq g.mi g.pm 1 (by lia) (NX ha out) (λi hi y hy=>by
    have e:i=0:=by lia
    subst e;exact BI (Oz hl) (Lo T.ub y hy));by_cases e:ia+1+1=a.size
   .rw[AG (by simpa using e)];exact Av (h1 _ _ (Qc m1 m2 e T.last))
   .rw[AF (by simpa using e)];have g2:Mg rk a b (out.push (a.getD ia dK)) (ia+1) ib:=⟨m1,m2,by have:=g.ha;lia,g.hb⟩;by_cases e2:ac+1>=mg
    .rw[AG e2];exact Av (h2 _ _ _ _ _ g2 (by lia))
    .rw[AF e2];exact Av ⟨Z,_,_,_,_,_,Z,g2,by lia⟩
 .rintro c h0 ⟨rfl,out,ia,ib,ac,bc,rfl,g,h3⟩;refine h2 _ _ _ _ _ g ?_;have:=T.na
  lia
end
end
variable{ac bc:Nat}
section
open PySem.W
section
variable{a b:Array bt}
def aC(T:GL rk a0 a b){mg:Nat}{N:Nat}(g:Mg rk a b out ia ib)(hN:N<=ia+ib)(hle:∀y∈b.toList.drop ib,kv rk a ia<=rk y){Q:ForInStep A6->sX->Prop}
 (h:∀z,VJ rk a b N z->Q z st):wpS (Yf prog w) A E s (Qp a b mg ac bc out ia ib) Q st:=by
 have ha:ia<a.size:=by have:=g.ha;lia
 delta Qp;refine Aj (DR ha ?_);obtain⟨m1,m2⟩:=Uq g.mi g.pm 1 (by lia) (NX ha out) (λi hi y hy=>by
  have e:i=0:=by lia
  subst e;exact hle y hy);by_cases e:ia+1+1=a.size
 .rw[AG (by simpa using e)];exact Av (h _ (.inl ⟨_,Z,Qc m1 m2 e T.last⟩))
 .rw[AF (by simpa using e)];have g2:Mg rk a b (out.push (a.getD ia dK)) (ia+1) ib:=⟨m1,m2,by have:=g.ha;lia,g.hb⟩;by_cases e3:(decide (ac<7)&&decide (bc<7))=Y
  .rw[AG e3];exact Av (h _ (.inr ⟨Z,g2,by show N<=ia+1+ib;lia⟩))
  .rw[AF e3];exact Av (h _ ⟨Z,g2,by show N<=ia+1+ib;lia⟩)
def Zs(hc:C5 prog w A s κ rk a0)(T:GL rk a0 a b)(hk:kindOf st=κ){mg:Nat}{N:Nat}(g:Mg rk a b out ia ib)(hN:N<=ia+ib)(hle:∀y∈a.toList.drop ia,kv rk b ib<=rk y){Q:ForInStep A6->sX->Prop}
 (h:∀z,VJ rk a b N z->Q z st):wpS (Yf prog w) A E s (Q3 a b mg ac bc out ia ib) Q st:=by
 have ha:ia<a.size:=by have:=g.ha;lia
 delta Q3;refine Aj (DR g.hb ?_);obtain⟨m1,m2⟩:=OD g.mi g.pm 1 (by have:=g.hb;lia) (NX g.hb out) (λi hi y hy=>by
  have e:i=0:=by lia
  subst e;exact hle y hy);by_cases e:ib+1=b.size
 .rw[AG (by simpa using e)];exact Av (h _ (.inl ⟨_,Z,Qd m1 m2 e⟩))
 .rw[AF (by simpa using e)];have hb:=g.hb;have g2:Mg rk a b (out.push (b.getD ib dK)) ia (ib+1):=⟨m1,m2,g.ha,by lia⟩;refine Aj (DR ha (Aj (Li hc hk (T.MU _ (getD_mem ha)) T.MQ (by lia) (by lia) (T.ub.part (by lia)) λk k1 k2 k3=>?_)));dsimp only;have rest:∀y∈b.toList.drop (ib+1+k),kv rk a ia<=rk y:=λy hy=>by
   by_cases hz:ib+1+k<b.size
   .have h1:=k3 k (Ac _) (by lia);have h2:=Lo T.ub y hy;have h3:rk (a.getD ia dK)<=kv rk b (ib+1+k):=by rcases h1 with z|⟨_,z⟩<;>lia
    exact BI h3 h2
   .rw[Mo (by simp;lia)] at hy;cases hy
  by_cases k0:k>0
  .rw[AG k0];obtain⟨n1,n2⟩:=OD m1 m2 k (by lia) (YC (xs:=b) (ib+1) k (out.push (b.getD ib dK))) (λi hi y hy=>by
    have h1:=k2 i hi;have h2:=Lo T.ua y hy;have h3:kv rk b (ib+1+i)<=rk (a.getD ia dK):=by rcases h1 with z|⟨_,z⟩<;>lia
    exact BI h3 h2);by_cases e2:ib+1+k=b.size
   .rw[AG (by simpa using e2)];exact Av (h _ (.inl ⟨_,Z,Qd n1 n2 e2⟩))
   .rw[AF (by simpa using e2)];exact aC T ⟨n1,n2,g.ha,by lia⟩ (by lia) rest h
  .rw[AF k0];have h0:k=0:=by lia
   subst h0;exact aC T g2 (by lia) rest h
def Zu(hc:C5 prog w A s κ rk a0)(T:GL rk a0 a b)(hk:kindOf st=κ){mg:Nat}{N:Nat}(g:Mg rk a b out ia ib)(hN:N<=ia+ib){Q:ForInStep A6->sX->Prop}
 (h:∀z st',Sm st st'->VJ rk a b N z->Q z st'):wpS (Yf prog w) A E s (Gz a b mg ac bc out ia ib) Q st:=by
 have ha:=g.ha;have hb:=g.hb;delta Gz;refine Aj (Ph λst' sm=>Aj (DR g.hb (Aj (Li hc (sm.k.trans hk) (T.MQ _ (getD_mem g.hb)) T.MU (by lia) (by lia) (T.ua.part (by lia)) λk k1 k2 k3=>?_))));dsimp only;have rest:∀y∈a.toList.drop (ia+k),kv rk b ib<=rk y:=λy hy=>by
  by_cases hz:ia+k<a.size
  .have h1:=k3 k (Ac _) (by lia);have h2:=Lo T.ua y hy;have h3:rk (b.getD ib dK)<=kv rk a (ia+k):=by rcases h1 with z|⟨_,z⟩<;>lia
   exact BI h3 h2
  .rw[Mo (by simp;lia)] at hy;cases hy
 by_cases k0:k>0
 .rw[AG k0];obtain⟨n1,n2⟩:=Uq g.mi g.pm k (by lia) (YC (xs:=a) ia k out) (λi hi y hy=>by
   have h1:=k2 i hi;have h2:=Lo T.ub y hy;have h3:kv rk a (ia+i)<=rk (b.getD ib dK):=by rcases h1 with z|⟨_,z⟩<;>lia
   exact BI h3 h2);by_cases e1:ia+k+1=a.size
  .rw[AG (by simpa using e1)];exact Av (h _ _ sm (.inl ⟨_,Z,Qc n1 n2 e1 T.last⟩))
  .rw[AF (by simpa using e1)];by_cases e2:ia+k=a.size
   .rw[AG (by simpa using e2)];exact Av (h _ _ sm (.inl ⟨_,Z,qY n1 n2 e2⟩))
   .rw[AF (by simpa using e2)];exact Zs hc T (sm.k.trans hk) ⟨n1,n2,by lia,g.hb⟩ (by lia) rest λz hz=>h z _ sm hz
 .rw[AF k0];have h0:k=0:=by lia
  subst h0;exact Zs hc T (sm.k.trans hk) g hN rest λz hz=>h z _ sm hz
def pH(hc:C5 prog w A s κ rk a0)(T:GL rk a0 a b)(hk:kindOf st=κ){mg:Nat}{N:Nat}(g:Mg rk a b out ia ib)(hN:N<=ia+ib){Q:A6->sX->Prop}
 (h:∀z st',Sm st st'->bz rk a b N z->Q z st'):wpS (Yf prog w) A E s (U8 a b out ia ib mg ac bc) Q st:=by
 delta U8;refine FN (I:=λx c st'=>Sm st st'/\VD rk a b N c) ?_ ?_ ⟨Sm.Js _,Z,g,hN⟩
 .rintro x c st' _ hx ⟨sm,c1,c2,c3⟩;by_cases e3:c.2.2.2.2.1>1
  .rw[AG e3];refine Zu hc T (sm.k.trans hk) c2 c3 λz h0 s2 hz=>?_
   cases z with
   |done z=>exact h z _ (sm.trans s2) hz
   |yield z=>exact⟨sm.trans s2,hz⟩
  .rw[AF e3];refine Zu hc T (sm.k.trans hk) c2 c3 λz h0 s2 hz=>?_
   cases z with
   |done z=>exact h z _ (sm.trans s2) hz
   |yield z=>exact⟨sm.trans s2,hz⟩
 .rintro c st' ⟨sm,hz⟩;exact h c st' sm (.inr hz)
def pG(hc:C5 prog w A s κ rk a0)(T:GL rk a0 a b)(hk:kindOf st=κ){Q:Array bt->sX->Prop}(h:∀r st',Sm st st'->Me rk a b r->Q r st'):wpS (Yf prog w) A E s (Sw a b) Q st:=by
 rw[lS];delta low;have nb:=T.nb;have na:=T.na;refine Aj (Ln (Hy ⟨Z,?_⟩));refine Aj (DR nb ?_);obtain⟨m1,m2⟩:=OD (rk:=rk) (a:=a) (b:=b) (out:= #[]) (ia:=0) (ib:=0) ⟨QI T.ua,QI T.ub⟩ (O7 _) 1 (by lia) (NX nb #[]) (λi hi y hy=>by
  have e:i=0:=by lia
  subst e;exact T.first y hy);by_cases e1:1=b.size
 .rw[AG (by simpa using e1)];exact Av (h _ _ (Sm.Js _) (Qd m1 m2 e1))
 .rw[AF (by simpa using e1)];by_cases e2:0+1=a.size
  .rw[AG (by simpa using e2)];exact Av (h _ _ (Sm.Js _) (Qc m1 m2 e2 T.last))
  .rw[AF (by simpa using e2)];refine Aj (ID (Aj ?_));delta cM;refine FN (I:=λx c st'=>Sm st st'/\∃out ia ib mg,c=(J,out,ia,ib,mg)/\Mg rk a b out ia ib/\x+1<=ia+ib) ?_ ?_ ⟨Sm.Js _,_,0,1,_,Z,⟨m1,m2,by lia,by lia⟩,by lia⟩
   .rintro x c st' _ hx ⟨sm,out,ia,ib,mg,rfl,g,h0⟩;refine Aj (pF hc T (sm.k.trans hk) g h0 (λr z hr=>Av ?_) λout ia ib ac bc g2 h4=>?_)
    .exact Av (h r _ sm hr)
    .refine Aj (Ln (Hy ⟨Z,?_⟩));refine Aj (pH hc T (sm.k.trans hk) g2 h4 λz h6 s2 hz=>?_);obtain⟨r,o,h2,h1,h7,h9,h8⟩:=z;rcases hz with⟨r',rfl,hr⟩|⟨rfl,g3,h3⟩
     .exact Av (Av (h r' _ (sm.trans s2) hr))
     .exact Aj (Ph λh5 s3=>Av ⟨(sm.trans s2).trans s3,o,h2,h1,_,Z,g3,h3⟩)
   .rintro c st' ⟨sm,out,ia,ib,mg,rfl,g,h0⟩;exfalso;have:=g.ha;have:=g.hb
    lia
end
structure Mj(rk:bt->Nat)(p q o:List bt):Prop where
 l:SL rk (p++o)
 r:SL rk (q++o)
def Mj.swap{p q o:List bt}(h:Mj rk p q o):Mj rk q p o:=⟨h.r,h.l⟩
def Mj.UR{p q u o:List bt}(h:Mj rk p (q++u) o)(hu:∀x∈p,∀y∈u,rk x<=rk y):Mj rk p q (u++o):=by
 refine⟨?_,by rw[<-Bt];exact h.r⟩;obtain⟨a,b,c⟩:=SL.app.mp h.l;obtain⟨a',b',c'⟩:=SL.app.mp h.r;refine SL.app.mpr ⟨a,SL.app.mpr ⟨(SL.app.mp a').2.1,b,λx hx y hy=>c' x (Dk _ hx) y hy⟩,λx hx y hy=>?_⟩;rcases Be.mp hy with z|z
 .exact hu x hx y z
 .exact c x hx y z
def Pk(h:Up rk xs 0 xs.size)(hn:n<=i+1)(hi:i<xs.size):∀y∈xs.toList.take n,rk y<=kv rk xs i:=by
 intro y hy;obtain⟨j,hj,e⟩:=GY.mp hy;rw[Bk] at hj;have hl:xs.toList.length=xs.size:=by simp
 rw[List.getElem_take] at e;rw[<-e,<-Nj (rk:=rk) (i:=j) (by lia)];exact h _ _ (CB _) (by lia) (by lia)
def Ih{m:Nat}(hn:n<=xs.size){y:bt}(h:y∈(xs.toList.take n).drop m):∃j,m<=j/\j<n/\y=xs.getD j dK:=by
 obtain⟨j,hj,e⟩:=GY.mp h;rw[EK,Bk] at hj;have hl:xs.toList.length=xs.size:=by simp
 refine⟨m+j,by lia,by lia,?_⟩;rw[List.getElem_drop,List.getElem_take] at e;rw[<-e,G9,Gd _ (m+j) (by lia)];simp
def NJ(h:n<xs.size)(out:Array bt):(out.push (xs.getD n dK)).toList.reverse=(xs.toList.take (n+1)).drop n++out.toList.reverse:=by
 have hl:xs.toList.length=xs.size:=by simp
 have e:(xs.toList.take (n+1)).drop n=[xs.getD n dK]:=by rw[List.drop_take,Pq h];simp
 rw[e,M3,List.reverse_append];rfl
def Xq(m n:Nat)(out:Array bt):(out++(xs.extract m n).reverse).toList.reverse=(xs.toList.take n).drop m++out.toList.reverse:=by rw[Ga,List.reverse_append,Vg,List.reverse_reverse,NP,List.drop_take]
structure Mh(rk:bt->Nat)(a b out:Array bt)(na nb:Nat):Prop where
 mi:Mj rk (a.toList.take na) (b.toList.take nb) out.toList.reverse
 pm:out.toList.reverse.Perm (a.toList.drop na++b.toList.drop nb)
 ha:0<na
 la:na<=a.size
 hb:1<nb
 lb:nb<=b.size
end
variable{na nb:Nat}
section
open PySem.W
section
variable{a b:Array bt}
noncomputable def Gs(a b out:Array bt)(na nb:Nat):Array bt:=a.extract 0 na++b.extract 0 nb++out.reverse
noncomputable def Kv(a b out:Array bt)(na nb:Nat):Array bt:=b.extract 0 nb++a.extract 0 na++out.reverse
def PZ(xs:Array bt)(i:Nat):(xs.extract 0 i).toList=xs.toList.take i:=by rw[NP];simp
def SJ{o a b:List bt}(h:o.Perm (a.drop i++b.drop j)):(a.take i++b.take j++o).Perm (a++b):=by
 have e:a++b=(a.take i++a.drop i)++(b.take j++b.drop j):=by rw[D5,D5]
 rw[e];refine(h.append_left _).trans ?_;rw[Bt,Bt];refine RH _ ?_;rw[<-Bt,<-Bt];exact Va _ JM
def PY:(Gs a b out na nb).toList=a.toList.take na++b.toList.take nb++out.toList.reverse:=by delta Gs;rw[Ga,Ga,PZ,PZ,Vg]
def Wt:(Kv a b out na nb).toList=b.toList.take nb++a.toList.take na++out.toList.reverse:=by delta Kv;rw[Ga,Ga,PZ,PZ,Vg]
def Qf(mi:Mj rk (a.toList.take na) (b.toList.take nb) out.toList.reverse)(pm:out.toList.reverse.Perm (a.toList.drop na++b.toList.drop nb))(ha:na=0):Me rk a b (Gs a b out na nb):=by refine⟨?_,by rw[PY];exact SJ pm⟩;rw[PY,ha,KL,O3];exact mi.r
def rF(mi:Mj rk (a.toList.take na) (b.toList.take nb) out.toList.reverse)(pm:out.toList.reverse.Perm (a.toList.drop na++b.toList.drop nb))(hb:nb=0):Me rk a b (Gs a b out na nb):=by refine⟨?_,by rw[PY];exact SJ pm⟩;rw[PY,hb,KL,CW];exact mi.l
def QY(mi:Mj rk (a.toList.take na) (b.toList.take nb) out.toList.reverse)(pm:out.toList.reverse.Perm (a.toList.drop na++b.toList.drop nb))(hb:nb=1)(hz:0<b.size)(hl:∀y∈a.toList,kv rk b 0<=rk y):Me rk a b (Kv a b out na nb):=by
 have e:b.toList.take nb=[b.getD 0 dK]:=by have:=Pq (xs:=b) (i:=0) hz;rw[O6] at this;rw[hb,this];rfl
 refine⟨?_,?_⟩
 .rw[Wt,e,Bt];refine SL.app.mpr ⟨VX _ _,mi.l,λx hx y hy=>?_⟩;rw[BW] at hx;rw[hx];rcases Be.mp hy with z|z
  .exact hl y (GX z)
  .exact(SL.app.mp mi.r).2.2 _ (by rw[e];exact BW.mpr Z) y z
 .rw[Wt];exact(JM.append_right _).trans (SJ pm)
def Qe(mi:Mj rk (a.toList.take na) (b.toList.take nb) out.toList.reverse)(pm:out.toList.reverse.Perm (a.toList.drop na++b.toList.drop nb))(m:Nat)(hm:m<=nb)(hnb:nb<=b.size)(e:out'.toList.reverse=(b.toList.take nb).drop m++out.toList.reverse)(hle:∀i,m<=i->i<nb->∀y∈a.toList.take na,rk y<=kv rk b i):
 Mj rk (a.toList.take na) (b.toList.take m) out'.toList.reverse/\out'.toList.reverse.Perm (a.toList.drop na++b.toList.drop m):=by
 have e3:b.toList.take nb=b.toList.take m++(b.toList.take nb).drop m:=by
  have:=(D5 m (b.toList.take nb)).symm
  rwa [Ru,LR hm] at this
 rw[e];constructor
 .rw[e3] at mi;refine mi.UR λx hx y hy=>?_;obtain⟨j,h1,h2,rfl⟩:=Ih hnb hy;exact hle j h1 h2 x hx
 .have e4:b.toList.drop m=(b.toList.take nb).drop m++b.toList.drop nb:=by
   have e5:b.toList=b.toList.take nb++b.toList.drop nb:=(D5 _ _).symm;have hl:m<=(b.toList.take nb).length:=by rw[Bk];simp;lia
   conv=>lhs;rw[e5]
   rw[RA hl]
  rw[e4];refine(pm.append_left _).trans ?_;rw[<-Bt,<-Bt];exact Va _ JM
def QV(mi:Mj rk (a.toList.take na) (b.toList.take nb) out.toList.reverse)(pm:out.toList.reverse.Perm (a.toList.drop na++b.toList.drop nb))(m:Nat)(hm:m<=na)(hna:na<=a.size)(e:out'.toList.reverse=(a.toList.take na).drop m++out.toList.reverse)(hle:∀i,m<=i->i<na->∀y∈b.toList.take nb,rk y<=kv rk a i):
 Mj rk (a.toList.take m) (b.toList.take nb) out'.toList.reverse/\out'.toList.reverse.Perm (a.toList.drop m++b.toList.drop nb):=by
 have:=Qe (a:=b) (b:=a) mi.swap (pm.trans JM) m hm hna e hle;exact⟨this.1.swap,this.2.trans JM⟩
end
abbrev B4:=Option (Array bt)×Nat×Nat×Array bt×Nat
abbrev B5:=Option (Array bt)×Nat×Nat×Array bt×Nat×Nat
abbrev B6:=Option (Array bt)×Nat×Nat×Array bt×Nat×Nat×Nat
def DG(a b:Array bt)(mg na nb:Nat)(out:Array bt):SM B5:=
 forIn [0:a.size+b.size] ((J,na,nb,out,0,0):B5) λ_ z=>tL b (z.2.2.1-1)>>=λy=>tL a (z.2.1-1)>>=λx=>lt' y x>>=λt=>
  match t with
  |some c=>
   if c=Y then(tL a (z.2.1-1)>>=λx=>
    if(z.2.1-1==0)=Y then pure (.done (U (Gs a b (z.2.2.2.1.push x) (z.2.1-1) z.2.2.1),z.2.1-1,z.2.2.1,z.2.2.2.1.push x,z.2.2.2.2.1+1,0))
    else if z.2.2.2.2.1+1>=mg then pure (.done (J,z.2.1-1,z.2.2.1,z.2.2.2.1.push x,z.2.2.2.2.1+1,0))
    else pure (.yield (J,z.2.1-1,z.2.2.1,z.2.2.2.1.push x,z.2.2.2.2.1+1,0)))
   else(tL b (z.2.2.1-1)>>=λy=>
    if(z.2.2.1-1==1)=Y then pure (.done (U (Kv a b (z.2.2.2.1.push y) z.2.1 (z.2.2.1-1)),z.2.1,z.2.2.1-1,z.2.2.2.1.push y,0,z.2.2.2.2.2+1))
    else if z.2.2.2.2.2+1>=mg then pure (.done (J,z.2.1,z.2.2.1-1,z.2.2.2.1.push y,0,z.2.2.2.2.2+1))
    else pure (.yield (J,z.2.1,z.2.2.1-1,z.2.2.2.1.push y,0,z.2.2.2.2.2+1)))
  |none=>pure (.done (U (Gs a b z.2.2.2.1 z.2.1 z.2.2.1),z.2.1,z.2.2.1,z.2.2.2.1,z.2.2.2.2.1,z.2.2.2.2.2))
def J2(a b:Array bt)(mg ac bc na nb:Nat)(out:Array bt):SM (ForInStep B6):=
 tL a (na-1)>>=λx=>
  if(na-1==0)=Y then pure (.done (U (Gs a b (out.push x) (na-1) nb),na-1,nb,out.push x,mg,ac,bc))
  else if(decide (ac<7)&&decide (bc<7))=Y then pure (.done (J,na-1,nb,out.push x,mg,ac,bc))
  else pure (.yield (J,na-1,nb,out.push x,mg,ac,bc))
def Fj(a b:Array bt)(mg ac bc na nb:Nat)(out:Array bt):SM (ForInStep B6):=
 tL b (nb-1)>>=λy=>
  if(nb-1==1)=Y then pure (.done (U (Kv a b (out.push y) na (nb-1)),na,nb-1,out.push y,mg,ac,bc))
  else tL a (na-1)>>=λx=>Jf Y x b 0 (nb-1) (nb-1-1)>>=λt=>
   match t with
   |some k=>
    if nb-1-k>0 then
     (if(k==1)=Y then pure (.done (U (Kv a b (out.push y++(b.extract k (nb-1)).reverse) na k),na,k,out.push y++(b.extract k (nb-1)).reverse,mg,ac,nb-1-k))
     else if(k==0)=Y then pure (.done (U (Gs a b (out.push y++(b.extract k (nb-1)).reverse) na k),na,k,out.push y++(b.extract k (nb-1)).reverse,mg,ac,nb-1-k))
     else J2 a b mg ac (nb-1-k) na k (out.push y++(b.extract k (nb-1)).reverse))
    else J2 a b mg ac (nb-1-k) na (nb-1) (out.push y)
   |none=>pure (.done (U (Gs a b (out.push y) na (nb-1)),na,nb-1,out.push y,mg,ac,bc))
def Fl(a b:Array bt)(mg ac bc na nb:Nat)(out:Array bt):SM (ForInStep B6):=
 NZ mg>>=λ_=>tL b (nb-1)>>=λy=>Jf vc y a 0 na (na-1)>>=λt=>
  match t with
  |some k=>
   if na-k>0 then
    (if(k==0)=Y then pure (.done (U (Gs a b (out++(a.extract k na).reverse) k nb),k,nb,out++(a.extract k na).reverse,mg,na-k,bc))
    else Fj a b mg (na-k) bc k nb (out++(a.extract k na).reverse))
   else Fj a b mg (na-k) bc na nb out
  |none=>pure (.done (U (Gs a b out na nb),na,nb,out,mg,ac,bc))
def LC(a b:Array bt)(na nb:Nat)(out:Array bt)(mg ac bc:Nat):SM B6:=
 forIn [0:a.size+b.size] ((J,na,nb,out,mg,ac,bc):B6) λ_ z=>if z.2.2.2.2.1>1 then Fl a b (z.2.2.2.2.1-1) z.2.2.2.2.2.1 z.2.2.2.2.2.2 z.2.1 z.2.2.1 z.2.2.2.1 else Fl a b z.2.2.2.2.1 z.2.2.2.2.2.1 z.2.2.2.2.2.2 z.2.1 z.2.2.1 z.2.2.2.1
def sC(z:B6):SM (ForInStep B4):=
 match z.1 with
 |some r=>pure (.done (U r,z.2.1,z.2.2.1,z.2.2.2.1,z.2.2.2.2.1))
 |none=>NZ (z.2.2.2.2.1+1)>>=λ_=>pure (.yield (J,z.2.1,z.2.2.1,z.2.2.2.1,z.2.2.2.2.1+1))
def VN(a b:Array bt)(mg:Nat)(z:B5):SM (ForInStep B4):=
 match z.1 with
 |some r=>pure (.done (U r,z.2.1,z.2.2.1,z.2.2.2.1,mg))
 |none=>(liftM (rule "list.sort.gallop"):SM Unit)>>=λ_=>LC a b z.2.1 z.2.2.1 z.2.2.2.1 (mg+1) z.2.2.2.2.1 z.2.2.2.2.2>>=sC
def Q1(a b:Array bt)(na nb:Nat)(out:Array bt)(mg:Nat):SM B4:=
 forIn [0:a.size+b.size] ((J,na,nb,out,mg):B4) λ_ z=>DG a b z.2.2.2.2 z.2.1 z.2.2.1 z.2.2.2.1>>=VN a b z.2.2.2.2
noncomputable def U9(z:B4):SM (Array bt):=
 match z.1 with
 |some r=>pure r
 |none=>liftM (uA "internal:list.sort.merge-bound" :Sem (Array bt))
def high(a b:Array bt):SM (Array bt):=
 (liftM (rule "list.sort.merge-hi"):SM Unit)>>=λ_=>tL a (a.size-1)>>=λx=>
  if(a.size-1==0)=Y then pure (Gs a b #[x] (a.size-1) b.size)
  else if(b.size==1)=Y then pure (Kv a b #[x] (a.size-1) b.size)
  else get>>=λst=>Q1 a b (a.size-1) b.size #[x] (gallopOf st)>>=U9
noncomputable def S4:Array bt->Array bt->SM (Array bt):=sortPriv%PySem.Builtin.mergeHi
def jt(a b:Array bt):S4 a b=high a b:=by
 refine BK Z λ_=>BK Z λy=>DP Z (λ_=>rfl) λ_=>DP Z (λ_=>rfl) λ_=>BK Z λst=>BK (HZ λi z=>BK (HZ λi z=>?_) λz'=>?_) λz=>?_
 .refine BK Z λy=>BK Z λx=>BK Z λt=>?_;cases t<;>rfl
 .obtain⟨r,na,nb,o,ac,bc⟩:=z'
  match r with
  |some r=>rfl
  |none=>
   refine BK Z λ_=>BK (HZ λi z=>?_) λz=>?_
   .refine DP Z (λ_=>?_) λ_=>?_;all_goals
     refine BK Z λ_=>BK Z λy=>BK Z λt=>?_
     cases t with
     |none=>rfl
     |some k=>
      refine DP Z (λ_=>DP Z (λ_=>rfl) λ_=>?_) λ_=>?_;all_goals
       refine BK Z λy=>DP Z (λ_=>rfl) λ_=>BK Z λx=>BK Z λt=>?_;cases t<;>rfl
   .obtain⟨r,z⟩:=z;cases r<;>rfl
 .obtain⟨r,z⟩:=z;cases r<;>rfl
def VQ(rk:bt->Nat)(a b:Array bt)(N:Nat)(z:B6):Prop:=z.1=J/\Mh rk a b z.2.2.2.1 z.2.1 z.2.2.1/\z.2.1+z.2.2.1<=N
def cT(rk:bt->Nat)(a b:Array bt)(N:Nat)(z:B6):Prop:=(∃r,z.1=U r/\Me rk a b r)\/VQ rk a b N z
def VE(rk:bt->Nat)(a b:Array bt)(N:Nat):ForInStep B6->Prop
 |.done z=>cT rk a b N z
 |.yield z=>VQ rk a b N z
section
variable{a b:Array bt}
def pS(hc:C5 prog w A s κ rk a0)(T:GL rk a0 a b)(hk:kindOf st=κ){mg:Nat}{N:Nat}(g:Mh rk a b out na nb)(hN:na+nb<=N){Q:B5->sX->Prop}
 (h1:∀r z,Me rk a b r->Q (U r,z) st)(h2:∀out na nb ac bc,Mh rk a b out na nb->na+nb+1<=N->Q (J,na,nb,out,ac,bc) st):wpS (Yf prog w) A E s (DG a b mg na nb out) Q st:=by
 delta DG;refine FN (I:=λx c h0=>h0=st/\∃out na nb ac bc,c=(J,na,nb,out,ac,bc)/\Mh rk a b out na nb/\na+nb+x<=N) ?_ ?_ ⟨Z,out,na,nb,0,0,Z,g,hN⟩
 .rintro x c h0 _ hx ⟨rfl,out,na,nb,ac,bc,rfl,g,h3⟩;obtain⟨gm,gp,g1,g2,g3,g4⟩:=g;have ha:na-1<a.size:=by lia
  have hb:nb-1<b.size:=by lia
  refine Aj (DR hb (Aj (DR ha (Aj (OB hc hk (T.MQ _ (getD_mem hb)) (T.MU _ (getD_mem ha)) ?_)))));have pa:=NJ ha out;have pb:=NJ hb out;rw[show na-1+1=na by lia] at pa;rw[show nb-1+1=nb by lia] at pb;by_cases hl:rk (b.getD (nb-1) dK)<rk (a.getD (na-1) dK)
  .simp-iota only[hl,Lc,CL];refine Aj (DR ha ?_);obtain⟨m1,m2⟩:=QV gm gp (na-1) (by lia) g2 pa (λi h1 h2 y hy=>by
    have e:i=na-1:=by lia
    subst e;exact BI (Pk T.ub (by lia) hb y hy) (Ge hl));by_cases e:na-1=0
   .rw[AG (by simpa using e)];exact Av (h1 _ _ (Qf m1 m2 e))
   .rw[AF (by simpa using e)];have g':Mh rk a b (out.push (a.getD (na-1) dK)) (na-1) nb:=⟨m1,m2,by lia,by lia,g3,g4⟩;by_cases e2:ac+1>=mg
    .rw[AG e2];exact Av (h2 _ _ _ _ _ g' (by lia))
    .rw[AF e2];exact Av ⟨Z,_,_,_,_,_,Z,g',by lia⟩
  .simp-iota only[hl,LY,CP,Bx];refine Aj (DR hb ?_);obtain⟨m1,m2⟩:=Qe gm gp (nb-1) (by lia) g4 pb (λi h1 h2 y hy=>by
    have e:i=nb-1:=by lia
    subst e;exact BI (Pk T.ua (by lia) ha y hy) (Oz hl));by_cases e:nb-1=1
   .rw[AG (by simpa using e)];exact Av (h1 _ _ (QY m1 m2 e T.nb T.first))
   .rw[AF (by simpa using e)];have g':Mh rk a b (out.push (b.getD (nb-1) dK)) na (nb-1):=⟨m1,m2,g1,g2,by lia,by lia⟩;by_cases e2:bc+1>=mg
    .rw[AG e2];exact Av (h2 _ _ _ _ _ g' (by lia))
    .rw[AF e2];exact Av ⟨Z,_,_,_,_,_,Z,g',by lia⟩
 .rintro c h0 ⟨rfl,out,na,nb,ac,bc,rfl,g,h3⟩;refine h2 _ _ _ _ _ g ?_;have:=T.na
  lia
def Zr(T:GL rk a0 a b){mg:Nat}{N:Nat}(g:Mh rk a b out na nb)(hN:na+nb<=N)(hle:∀y∈b.toList.take nb,rk y<=kv rk a (na-1)){Q:ForInStep B6->sX->Prop}
 (h:∀z,VE rk a b N z->Q z st):wpS (Yf prog w) A E s (J2 a b mg ac bc na nb out) Q st:=by
 obtain⟨gm,gp,g1,g2,g3,g4⟩:=g;have ha:na-1<a.size:=by lia
 have pa:=NJ ha out;rw[show na-1+1=na by lia] at pa;delta J2;refine Aj (DR ha ?_);obtain⟨m1,m2⟩:=QV gm gp (na-1) (by lia) g2 pa (λi h1 h2 y hy=>by
  have e:i=na-1:=by lia
  subst e;exact hle y hy);by_cases e:na-1=0
 .rw[AG (by simpa using e)];exact Av (h _ (.inl ⟨_,Z,Qf m1 m2 e⟩))
 .rw[AF (by simpa using e)];have g':Mh rk a b (out.push (a.getD (na-1) dK)) (na-1) nb:=⟨m1,m2,by lia,by lia,g3,g4⟩;by_cases e3:(decide (ac<7)&&decide (bc<7))=Y
  .rw[AG e3];exact Av (h _ (.inr ⟨Z,g',by show na-1+nb<=N;lia⟩))
  .rw[AF e3];exact Av (h _ ⟨Z,g',by show na-1+nb<=N;lia⟩)
def Z1(hc:C5 prog w A s κ rk a0)(T:GL rk a0 a b)(hk:kindOf st=κ){mg:Nat}{N:Nat}(g:Mh rk a b out na nb)(hN:na+nb<=N)(hle:∀y∈a.toList.take na,rk y<=kv rk b (nb-1)){Q:ForInStep B6->sX->Prop}
 (h:∀z,VE rk a b N z->Q z st):wpS (Yf prog w) A E s (Fj a b mg ac bc na nb out) Q st:=by
 obtain⟨gm,gp,g1,g2,g3,g4⟩:=g;have ha:na-1<a.size:=by lia
 have hb:nb-1<b.size:=by lia
 have pb:=NJ hb out;rw[show nb-1+1=nb by lia] at pb;delta Fj;refine Aj (DR hb ?_);obtain⟨m1,m2⟩:=Qe gm gp (nb-1) (by lia) g4 pb (λi h1 h2 y hy=>by
  have e:i=nb-1:=by lia
  subst e;exact hle y hy);by_cases e:nb-1=1
 .rw[AG (by simpa using e)];exact Av (h _ (.inl ⟨_,Z,QY m1 m2 e T.nb T.first⟩))
 .rw[AF (by simpa using e)];have g':Mh rk a b (out.push (b.getD (nb-1) dK)) na (nb-1):=⟨m1,m2,g1,g2,by lia,by lia⟩;refine Aj (DR ha (Aj (Li hc hk (T.MU _ (getD_mem ha)) T.MQ (by lia) (by lia) (T.ub.part (by lia)) λk k1 k2 k3=>?_)));simp-iota only[KP] at k2 k3;dsimp only;have rest:∀y∈b.toList.take k,rk y<=kv rk a (na-1):=λy hy=>by obtain⟨j,_,j2,rfl⟩:=Ih (xs:=b) (m:=0) (n:=k) (by lia) hy;have h1:=k2 j j2;show kv rk b j<=rk (a.getD (na-1) dK);rcases h1 with z|⟨_,z⟩<;>lia
  by_cases k0:nb-1-k>0
  .rw[AG k0];obtain⟨n1,n2⟩:=Qe m1 m2 k k1 (by lia) (Xq (xs:=b) k (nb-1) (out.push (b.getD (nb-1) dK))) (λi h1 h2 y hy=>by
    have h3:=k3 i h1 h2;have h4:=Pk T.ua (i:=na-1) (by lia) ha y hy;have h5:rk (a.getD (na-1) dK)<=kv rk b i:=by rcases h3 with z|⟨_,z⟩<;>lia
    exact BI h4 h5);by_cases e1:k=1
   .rw[AG (by simpa using e1)];exact Av (h _ (.inl ⟨_,Z,QY n1 n2 e1 T.nb T.first⟩))
   .rw[AF (by simpa using e1)];by_cases e2:k=0
    .rw[AG (by simpa using e2)];exact Av (h _ (.inl ⟨_,Z,rF n1 n2 e2⟩))
    .rw[AF (by simpa using e2)];exact Zr T ⟨n1,n2,g1,g2,by lia,by lia⟩ (by lia) rest h
  .rw[AF k0];have h0:k=nb-1:=by lia
   subst h0;exact Zr T g' (by lia) rest h
def aP(hc:C5 prog w A s κ rk a0)(T:GL rk a0 a b)(hk:kindOf st=κ){mg:Nat}{N:Nat}(g:Mh rk a b out na nb)(hN:na+nb<=N){Q:ForInStep B6->sX->Prop}
 (h:∀z st',Sm st st'->VE rk a b N z->Q z st'):wpS (Yf prog w) A E s (Fl a b mg ac bc na nb out) Q st:=by
 obtain⟨gm,gp,g1,g2,g3,g4⟩:=id g;have ha:na-1<a.size:=by lia
 have hb:nb-1<b.size:=by lia
 delta Fl;refine Aj (Ph λst' sm=>Aj (DR hb (Aj (Li hc (sm.k.trans hk) (T.MQ _ (getD_mem hb)) T.MU (by lia) (by lia) (T.ua.part (by lia)) λk k1 k2 k3=>?_))));simp-iota only[KP] at k2 k3;dsimp only;have rest:∀y∈a.toList.take k,rk y<=kv rk b (nb-1):=λy hy=>by obtain⟨j,_,j2,rfl⟩:=Ih (xs:=a) (m:=0) (n:=k) (by lia) hy;have h1:=k2 j j2;show kv rk a j<=rk (b.getD (nb-1) dK);rcases h1 with z|⟨_,z⟩<;>lia
 by_cases k0:na-k>0
 .rw[AG k0];obtain⟨n1,n2⟩:=QV gm gp k k1 g2 (Xq (xs:=a) k na out) (λi h1 h2 y hy=>by
   have h3:=k3 i h1 h2;have h4:=Pk T.ub (i:=nb-1) (by lia) hb y hy;have h5:rk (b.getD (nb-1) dK)<=kv rk a i:=by rcases h3 with z|⟨_,z⟩<;>lia
   exact BI h4 h5);by_cases e2:k=0
  .rw[AG (by simpa using e2)];exact Av (h _ _ sm (.inl ⟨_,Z,Qf n1 n2 e2⟩))
  .rw[AF (by simpa using e2)];exact Z1 hc T (sm.k.trans hk) ⟨n1,n2,by lia,by lia,g3,g4⟩ (by lia) rest λz hz=>h z _ sm hz
 .rw[AF k0];have h0:k=na:=by lia
  subst h0;exact Z1 hc T (sm.k.trans hk) g hN rest λz hz=>h z _ sm hz
def pV(hc:C5 prog w A s κ rk a0)(T:GL rk a0 a b)(hk:kindOf st=κ){mg:Nat}{N:Nat}(g:Mh rk a b out na nb)(hN:na+nb<=N){Q:B6->sX->Prop}
 (h:∀z st',Sm st st'->cT rk a b N z->Q z st'):wpS (Yf prog w) A E s (LC a b na nb out mg ac bc) Q st:=by
 delta LC;refine FN (I:=λx c st'=>Sm st st'/\VQ rk a b N c) ?_ ?_ ⟨Sm.Js _,Z,g,hN⟩
 .rintro x c st' _ hx ⟨sm,c1,c2,c3⟩;by_cases e3:c.2.2.2.2.1>1
  .rw[AG e3];refine aP hc T (sm.k.trans hk) c2 c3 λz h0 s2 hz=>?_
   cases z with
   |done z=>exact h z _ (sm.trans s2) hz
   |yield z=>exact⟨sm.trans s2,hz⟩
  .rw[AF e3];refine aP hc T (sm.k.trans hk) c2 c3 λz h0 s2 hz=>?_
   cases z with
   |done z=>exact h z _ (sm.trans s2) hz
   |yield z=>exact⟨sm.trans s2,hz⟩
 .rintro c st' ⟨sm,hz⟩;exact h c st' sm (.inr hz)
def lV(hc:C5 prog w A s κ rk a0)(T:GL rk a0 a b)(hk:kindOf st=κ){Q:Array bt->sX->Prop}(h:∀r st',Sm st st'->Me rk a b r->Q r st'):wpS (Yf prog w) A E s (S4 a b) Q st:=by
 rw[jt];delta high;have nb:=T.nb;have na:=T.na;have ha:a.size-1<a.size:=by lia
 refine Aj (Ln (Hy ⟨Z,?_⟩));refine Aj (DR ha ?_);have pa:=NJ ha #[];rw[show a.size-1+1=a.size by lia] at pa;have ta:a.toList.take a.size=a.toList:=FG (by simp);have tb:b.toList.take b.size=b.toList:=FG (by simp);obtain⟨m1,m2⟩:=QV (rk:=rk) (a:=a) (b:=b) (out:= #[]) (na:=a.size) (nb:=b.size) ⟨by rw[ta];show SL rk (a.toList++[]);rw[CW];exact QI T.ua,by rw[tb];show SL rk (b.toList++[]);rw[CW];exact QI T.ub⟩
  (by rw[Mo (by simp),Mo (by simp)];exact O7 _) (a.size-1) (by lia) (Ac _) pa (λi h1 h2 y hy=>by
  have e:i=a.size-1:=by lia
  subst e;exact T.last y (GX hy));by_cases e1:a.size-1=0
 .rw[AG (by simpa using e1)];exact Av (h _ _ (Sm.Js _) (Qf m1 m2 e1))
 .rw[AF (by simpa using e1)];by_cases e2:b.size=1
  .rw[AG (by simpa using e2)];exact Av (h _ _ (Sm.Js _) (QY m1 m2 e2 T.nb T.first))
  .rw[AF (by simpa using e2)];refine Aj (ID (Aj ?_));delta Q1;refine FN (I:=λx c st'=>Sm st st'/\∃out na nb mg,c=(J,na,nb,out,mg)/\Mh rk a b out na nb/\na+nb+x+1<=a.size+b.size) ?_ ?_ ⟨Sm.Js _,_,_,_,_,Z,⟨m1,m2,by lia,by lia,by lia,Ac _⟩,by lia⟩
   .rintro x c st' _ hx ⟨sm,out,na,nb,mg,rfl,g,h5⟩;refine Aj (pS (N:=a.size+b.size-x-1) hc T (sm.k.trans hk) g (by lia) (λr z hr=>Av ?_) λout na nb ac bc g2 e0=>?_)
    .exact Av (h r _ sm hr)
    .refine Aj (Ln (Hy ⟨Z,?_⟩));refine Aj (pV (N:=a.size+b.size-x-2) hc T (sm.k.trans hk) g2 (by lia) λz h7 s2 hz=>?_);obtain⟨r,h0,h3,o,h8,e4,e3⟩:=z;rcases hz with⟨r',rfl,hr⟩|⟨rfl,g3,h4⟩
     .exact Av (Av (h r' _ (sm.trans s2) hr))
     .have g5:0<h0:=g3.ha;have h9:h0+h3<=a.size+b.size-x-2:=h4;exact Aj (Ph λh6 s3=>Av ⟨(sm.trans s2).trans s3,o,h0,h3,_,Z,g3,by lia⟩)
   .rintro c st' ⟨sm,out,na,nb,mg,rfl,g,h5⟩;exfalso
    lia
end
section
variable(rk:bt->Nat)
def Zg{src d:Nat}(hs:src<xs.size)(hd:d<=src)(k:Nat):kv rk (bubble xs src d) k=if k=src-d then kv rk xs src else if src-d<k/\k<=src then kv rk xs (k-1) else kv rk xs k:=by
 have e:=getElem?_bubble hs d hd k;by_cases h1:k=src-d
 .rw[AG h1] at e⊢;exact IH rk e
 .rw[AF h1] at e⊢;by_cases h2:src-d<k/\k<=src
  .rw[AG h2] at e⊢;exact IH rk e
  .rw[AF h2] at e⊢;exact IH rk e
end
section
variable{P:Array (Nat×Nat×Nat)}
def jX(hc:C5 prog w A s κ rk a0){ok:Nat}{Q:Bool->sX->Prop}(hn:lo+n<=a0.size)(h1:1<=ok)(hok:ok<=n)(hB:Ok κ a0 lo P st)(hs:Up rk (dA st) lo (lo+ok))
 (h:∀st',Ok κ a0 lo P st'->Up rk (dA st') lo (lo+n)->Q Y st'):wpS (Yf prog w) A E s (binarySort' lo n ok) Q st:=by
 rw[binarySort'_eq];refine Aj (uS (FN (I:=λk c st'=>c=(J,())/\Ok κ a0 lo P st'/\Up rk (dA st') lo (lo+min k n))
  (Q:=λc st'=>c=(J,())/\Ok κ a0 lo P st'/\Up rk (dA st') lo (lo+n)) ?_ ?_ ⟨Z,hB,by rw[show min (max ok 1) n=ok by lia];exact hs⟩) ?_)
 .rintro k c st' e7 e6 ⟨rfl,h4,h3⟩;rw[show min k n=k by lia] at h3;have hk:lo+k<a0.size:=by lia
  refine Aj (uS (FN (I:=λx c h0=>h0=st'/\∃l r,c=(J,l,r)/\l<=r/\r<=k/\r-l<=k-x/\
   (∀i,i<l->kv rk (dA st') (lo+i)<=kv rk (dA st') (lo+k))/\(∀i,r<=i->i<k->kv rk (dA st') (lo+k)<kv rk (dA st') (lo+i)))
   (Q:=λc h0=>h0=st'/\∃l r,c=(J,l,r)/\l<=k/\
    (∀i,i<l->kv rk (dA st') (lo+i)<=kv rk (dA st') (lo+k))/\(∀i,l<=i->i<k->kv rk (dA st') (lo+k)<kv rk (dA st') (lo+i))) ?_ ?_ ⟨Z,0,k,Z,by lia,by lia,by lia,λi hi=>by lia,λi h1 h2=>by lia⟩) ?_)
  .rintro x c h0 _ e4 ⟨rfl,l,r,rfl,e1,h7,hm,h5,h6⟩;dsimp only;by_cases h9:l>=r
   .rw[AG h9];have:l=r:=by lia
    subst this;exact Av ⟨Z,l,l,Z,h7,h5,h6⟩
   .rw[AF h9];refine Aj (Nx hc h4 hk (by lia) ?_);by_cases hl:kv rk (dA h0) (lo+k)<kv rk (dA h0) (lo+(l+r)/2)
    .simp only[hl,Lc,CL];refine Av ⟨Z,l,(l+r)/2,Z,by lia,by lia,by lia,h5,λi a b=>?_⟩;exact C7 hl (h3 _ _ (by lia) (by lia) (by lia))
    .simp only[hl,LY,CP,Bx];refine Av ⟨Z,(l+r)/2+1,r,Z,by lia,by lia,by lia,λi a=>?_,h6⟩;exact BI (h3 (lo+i) (lo+(l+r)/2) (by lia) (by lia) (by lia)) (Oz hl)
  .rintro c h0 ⟨rfl,l,r,rfl,e1,h7,hm,h5,h6⟩;have:l=r:=by lia
   subst this;exact⟨Z,l,l,Z,h7,h5,h6⟩
  .rintro c h0 ⟨rfl,l,r,rfl,e5,h5,h6⟩;show wpS _ _ _ _ (moveDown' (lo+k) (lo+l)>>=λ_=>pure (ForInStep.yield (J,()))) _ _;rw[moveDown'_eq];have h8:lo+k<(dA h0).size:=by rw[h4.size];exact hk
   refine Aj (KR (Av ⟨Z,h4.set (bubble_perm _ _ _) (λj hj=>?_),?_⟩))
   .rw[getElem?_bubble h8 _ (by lia),AF (by lia),AF (by lia)]
   .rw[show min (k+1) n=k+1 by lia];intro i j a b c;show kv rk (bubble (dA h0) (lo+k) (lo+k-(lo+l))) i<=kv rk (bubble (dA h0) (lo+k) (lo+k-(lo+l))) j;rw[Zg rk h8 (by lia),Zg rk h8 (by lia),show lo+k-(lo+k-(lo+l))=lo+l by lia];have e0:∀i,lo<=i->i<lo+l->kv rk (dA h0) i<=kv rk (dA h0) (lo+k):=λi x y=>by
     have:=h5 (i-lo) (by lia)
     rwa [show lo+(i-lo)=i by lia] at this
    have e2:∀i,lo+l<=i->i<lo+k->kv rk (dA h0) (lo+k)<kv rk (dA h0) i:=λi x y=>by
     have:=h6 (i-lo) (by lia) (by lia)
     rwa [show lo+(i-lo)=i by lia] at this
    repeat' split
    all_goals first
     |(exfalso;lia)
     |exact Ac _
     |exact e0 _ (by lia) (by lia)
     |exact Ge (e2 _ (by lia) (by lia))
     |exact h3 _ _ (by lia) (by lia) (by lia)
 .rintro c st' ⟨e3,h4,h3⟩;refine⟨e3,h4,?_⟩
  rwa [show min (max (max ok 1) n) n=n by lia] at h3
 .rintro c st' ⟨rfl,h4,h3⟩;exact Av (h st' h4 h3)
end
noncomputable def wr(sa:Nat)(xs:Array bt)(l:List (bt×Nat)):Array bt:=l.foldl (λa x=>match x with|(p,j)=>a.setIfInBounds (sa+j) p) xs
theorem YI:∀(l:List bt)(n sa:Nat)(xs:Array bt)(p m q:List bt),xs.toList=p++m++q->p.length=sa+n->m.length=l.length->(wr sa xs (l.zipIdx n)).toList=p++l++q
 |[],n,sa,xs,p,m,q,e,hp,hm=>by have:m=[]:=Oe.mp hm;subst this;exact e
 |x::l,n,sa,xs,p,m,q,e,hp,hm=>by
  match m,hm with
  |y::m,hm=>
   have h0:m.length=l.length:=by simpa using hm
   have:=YI l (n+1) sa (xs.setIfInBounds (sa+n) x) (p++[x]) m q (by rw[Array.toList_setIfInBounds,e,<-hp];simp) (by simp;lia) h0;rw[List.zipIdx_cons];show(wr sa (xs.setIfInBounds (sa+n) x) (l.zipIdx (n+1))).toList=_;rw[this];simp
def S7(i sa na pw sb nb:Nat)(st:sX):SM Bool:=
 set (tV st (((cm st).setIfInBounds i (sa,na+nb,pw)).eraseIdxIfInBounds (i+1)))>>=λ_=>tL (dA st) sb>>=λy=>Jf vc y (dA st) sa na 0>>=λt=>
  match t with
  |some k=>
   if(na-k==0)=Y then pure Y
   else tL (dA st) (sa+k+(na-k)-1)>>=λx=>Jf Y x (dA st) sb nb (nb-1)>>=λt=>
    match t with
    |some m=>
     if(m==0)=Y then pure Y
     else if na-k<=m then(Sw ((dA st).extract (sa+k) sb) ((dA st).extract sb (sb+m))>>=λr=>modify (λz=>setArr z (wr (sa+k) (dA z) r.toList.zipIdx))>>=λ_=>get>>=λz=>pure (tD z).isNone)
      else(S4 ((dA st).extract (sa+k) sb) ((dA st).extract sb (sb+m))>>=λr=>modify (λz=>setArr z (wr (sa+k) (dA z) r.toList.zipIdx))>>=λ_=>get>>=λz=>pure (tD z).isNone)
    |none=>pure vc
  |none=>pure vc
def dk{Q:Bool->sX->Prop}{sa pw sb pb:Nat}(h1:(cm st)[i]? =U (sa,na,pw))(h2:(cm st)[i+1]? =U (sb,nb,pb))
 (h:wpS M A E s (S7 i sa na pw sb nb st) Q st):wpS M A E s (uw i) Q st:=by
 have e:uw i=(get>>=λst:sX=>(match((cm st)[i]?,(cm st)[i+1]?) with
  |(U (sa,na,pw),U (sb,nb,_))=>S7 i sa na pw sb nb st
  |_=>liftM (uA "internal:list.sort.pending" :Sem Bool):SM Bool)):=by
  refine BK Z λst=>?_
  cases(cm st)[i]?with
  |none=>rfl
  |some x=>
   cases(cm st)[i+1]?with
   |none=>rfl
   |some y=>
    refine BK Z λ_=>BK Z λ_=>BK Z λt=>?_
    cases t with
    |none=>rfl
    |some k=>refine DP Z (λ_=>rfl) λ_=>BK Z λ_=>BK Z λt=>?_;cases t<;>rfl
 rw[e];refine Aj (ID ?_);rw[h1,h2];exact h
noncomputable def seg(xs:Array bt)(lo hi:Nat):List bt:=(xs.toList.take hi).drop lo
def To{hi:Nat}(hh:hi<=xs.size):Up rk xs lo hi↔SL rk (seg xs lo hi):=by
 have hl:xs.toList.length=xs.size:=by simp
 have h0:∀i (h:i<(seg xs lo hi).length),rk (seg xs lo hi)[i]=kv rk xs (lo+i):=λi h=>by have h':=h;unfold seg at h';rw[EK,Bk] at h';rw[Nj (by lia)];congr 1;refine AZ ?_;rw[<-Ar,<-Ar];delta seg;rw[LM,RP,AG (by lia)]
 have h3:(seg xs lo hi).length=hi-lo:=by delta seg;rw[EK,Bk];lia
 constructor
 .intro h;refine Oa.mpr λi j h2 h1 h4=>?_;rw[h0 i h2,h0 j h1];exact h _ _ (by lia) (by lia) (by lia)
 .intro h i j a b c;by_cases e:i=j
  .subst e;exact Ac _
  .have:=Oa.mp h (i-lo) (j-lo) (by lia) (by lia) (by lia);rw[h0 _ (by lia),h0 _ (by lia)] at this
   rwa [show lo+(i-lo)=i by lia,show lo+(j-lo)=j by lia] at this
def Pp(xs:Array bt){a b c:Nat}(h1:a<=b)(h2:b<=c)(h3:c<=xs.size):seg xs a c=seg xs a b++seg xs b c:=by
 have hl:xs.toList.length=xs.size:=by simp
 delta seg;have e:xs.toList.take c=xs.toList.take b++(xs.toList.take c).drop b:=by
  have:=(D5 b (xs.toList.take c)).symm
  rwa [Ru,LR h2] at this
 conv=>lhs;rw[e]
 rw[RA (by rw[Bk];lia)]
def Tb(xs:Array bt){a b:Nat}(h:b<=xs.size):(seg xs a b).length=b-a:=by
 have hl:xs.toList.length=xs.size:=by simp
 delta seg;rw[EK,Bk]
 lia
def Lq(xs:Array bt)(a b:Nat):(xs.extract a b).toList=seg xs a b:=by rw[NP];delta seg;rw[List.drop_take]
def Za{a b:Nat}(hb:b<=xs.size)(hi:i<b-a):kv rk (xs.extract a b) i=kv rk xs (a+i):=by refine IH rk ?_;rw[Array.getElem?_extract,AG (by lia)]
structure OY(rk:bt->Nat)(xs ys:Array bt)(lo hi:Nat):Prop where
 pm:ys.Perm xs
 up:Up rk ys lo hi
 out:∀k,k<lo\/hi<=k->ys[k]? =xs[k]?
def lT{ys:Array bt}{p q hi:Nat}{r:List bt}(h1:lo<=p)(h2:p<=q)(h3:q<=hi)(h4:hi<=xs.size)(hr:r.Perm (seg xs p q))(hs:SL rk (seg xs lo p++r++seg xs q hi))(e:ys.toList=xs.toList.take p++r++xs.toList.drop q):
 OY rk xs ys lo hi:=by
 have hl:xs.toList.length=xs.size:=by simp
 have ep:xs.toList.take p=xs.toList.take lo++seg xs lo p:=by
  have:=(D5 lo (xs.toList.take p)).symm
  rwa [Ru,LR h1] at this
 have h5:xs.toList.drop q=seg xs q hi++xs.toList.drop hi:=by
  have e5:xs.toList=xs.toList.take hi++xs.toList.drop hi:=(D5 _ _).symm;have h0:q<=(xs.toList.take hi).length:=by rw[Bk];lia
  conv=>lhs;rw[e5]
  rw[RA h0];rfl
 have rl:r.length=q-p:=by rw[hr.length_eq,Tb xs (by lia)]
 have pm:ys.Perm xs:=by
  refine Mf.mpr ?_;rw[e];have e6:xs.toList=xs.toList.take p++seg xs p q++xs.toList.drop q:=by
   have e7:xs.toList.drop p=seg xs p q++xs.toList.drop q:=by
    have e5:xs.toList=xs.toList.take q++xs.toList.drop q:=(D5 _ _).symm;have h0:p<=(xs.toList.take q).length:=by rw[Bk];lia
    conv=>lhs;rw[e5]
    rw[RA h0];rfl
   rw[Bt,<-e7,D5]
  conv=>rhs;rw[e6]
  exact(hr.append_left _).append_right _
 have sz:ys.size=xs.size:=pm.size_eq;have el:ys.toList=xs.toList.take lo++(seg xs lo p++r++seg xs q hi)++xs.toList.drop hi:=by rw[e,ep,h5];simp only[Bt]
 have ml:(seg xs lo p++r++seg xs q hi).length=hi-lo:=by
  rw[A9,A9,rl,Tb xs (by lia),Tb xs h4]
  lia
 have tl:(xs.toList.take lo).length=lo:=by rw[Bk];lia
 refine⟨pm,(To (by lia)).mpr ?_,λk hk=>?_⟩
 .have:seg ys lo hi=seg xs lo p++r++seg xs q hi:=by delta seg;rw[el,Bt,List.take_append,FG (by lia),List.drop_append,Mo (by lia),O3,tl,FQ,O6];rw[List.take_append,FG (by lia),ml,FQ,KL,CW];rfl
  rw[this];exact hs
 .rw[<-HE,<-HE,el];rcases hk with hk|hk
  .rw[Bt,DH (by lia),RP,AG hk]
  .rw[C6 (by rw[A9];lia),A9,tl,ml,LM];congr 1
   lia
def fh(hc:C5 prog w A s κ rk a0){sa pw pb:Nat}{Q:Bool->sX->Prop}(hk:kindOf st=κ)(hf:tD st=J)(hp:(dA st).Perm a0)
 (h1:(cm st)[i]? =U (sa,na,pw))(h2:(cm st)[i+1]? =U (sa+na,nb,pb))(na0:0<na)(nb0:0<nb)(hz:sa+na+nb<=(dA st).size)(ua:Up rk (dA st) sa (sa+na))(ub:Up rk (dA st) (sa+na) (sa+na+nb))
 (h:∀st':sX,kindOf st'=κ->tD st'=J->cm st'=((cm st).setIfInBounds i (sa,na+nb,pw)).eraseIdxIfInBounds (i+1)->OY rk (dA st) (dA st') sa (sa+na+nb)->Q Y st'):
 wpS (Yf prog w) A E s (uw i) Q st:=by
 refine dk h1 h2 ?_;delta S7;generalize eP:((cm st).setIfInBounds i (sa,na+nb,pw)).eraseIdxIfInBounds (i+1)=P';rw[eP] at h;have h4:∀x∈(dA st).toList,x∈a0.toList:=λx hx=>(Mf.mp hp).mem_iff.mp hx;generalize eX:dA st=xs at*;have hb:sa+na<xs.size:=by lia
 refine Aj (show wpS _ _ _ _ (set (tV st P'):SM PUnit) _ _ from ?_);delta wpS;rw[StateT.run_set];refine Ae ⟨Z,?_⟩;show wpS _ _ _ _ _ _ (tV st P');have k1:kindOf (tV st P')=κ:=hk;refine Aj (DR hb (Aj (Li hc k1 (h4 _ (getD_mem hb)) h4 (by lia) na0 ua λk a1 a2 a3=>?_)));dsimp only;have Eo:OY rk xs xs sa (sa+na+nb)->Q Y (tV st P'):=λg=>h _ k1 hf Z (by rw[show dA (tV st P')=xs from eX];exact g);have e4:(kv rk xs (sa+na-1)<=kv rk xs (sa+na))->OY rk xs xs sa (sa+na+nb):=λe5=>⟨Array.Perm.refl _,λx y b1 b2 b3=>by
  by_cases c1:y<sa+na
  .exact ua x y b1 b2 c1
  .by_cases c2:sa+na<=x
   .exact ub x y c2 b2 b3
   .exact BI (ua x (sa+na-1) b1 (by lia) (by lia)) (BI e5 (ub (sa+na) y (Ac _) (by lia) b3)),λ_ _=>rfl⟩;by_cases e1:na-k=0
 .rw[AG (by simpa using e1)];refine Av (Eo (e4 ?_));have:=a2 (na-1) (by lia);rw[show sa+(na-1)=sa+na-1 by lia] at this;show kv rk xs (sa+na-1)<=rk (xs.getD (sa+na) dK);rcases this with z|⟨_,z⟩<;>lia
 .rw[AF (by simpa using e1)];rw[show sa+k+(na-k)-1=sa+na-1 by lia];have hl:sa+na-1<xs.size:=by lia
  refine Aj (DR hl (Aj (Li hc k1 (h4 _ (getD_mem hl)) h4 hz (by lia) ub λm b1 b2 b3=>?_)));dsimp only;by_cases e2:m=0
  .rw[AG (by simpa using e2)];refine Av (Eo (e4 ?_));have:=b3 0 (by lia) nb0;rw[Nat.add_zero] at this;show rk (xs.getD (sa+na-1) dK)<=_;rcases this with z|⟨_,z⟩<;>lia
  .rw[AF (by simpa using e2)];have sx:(xs.extract (sa+k) (sa+na)).size=na-k:=by rw[Array.size_extract];lia
   have sy:(xs.extract (sa+na) (sa+na+m)).size=m:=by rw[Array.size_extract];lia
   have kx:∀j,j<na-k->kv rk (xs.extract (sa+k) (sa+na)) j=kv rk xs (sa+k+j):=λj hj=>Za (by lia) (by lia);have ky:∀j,j<m->kv rk (xs.extract (sa+na) (sa+na+m)) j=kv rk xs (sa+na+j):=λj hj=>Za (by lia) (by lia);have T:GL rk a0 (xs.extract (sa+k) (sa+na)) (xs.extract (sa+na) (sa+na+m)):=by
    refine⟨λx hx=>h4 x ?_,λx hx=>h4 x ?_,λx y _ c2 c3=>?_,λx y _ c2 c3=>?_,by lia,by lia,λy hy=>?_,λy hy=>?_⟩
    .rw[Lq] at hx;exact GX (LK hx)
    .rw[Lq] at hx;exact GX (LK hx)
    .rw[kx x (by lia),kx y (by lia)];exact ua _ _ (by lia) (by lia) (by lia)
    .rw[ky x (by lia),ky y (by lia)];exact ub _ _ (by lia) (by lia) (by lia)
    .rw[Lq] at hy;obtain⟨j,j1,j2,rfl⟩:=Ih (by lia) hy;rw[ky 0 (by lia),Nat.add_zero];have:=a3 (j-sa) (by lia) (by lia);rw[show sa+(j-sa)=j by lia] at this;show rk (xs.getD (sa+na) dK)<=kv rk xs j;rcases this with z|⟨_,z⟩<;>lia
    .rw[Lq] at hy;obtain⟨j,j1,j2,rfl⟩:=Ih (by lia) hy;rw[sx,kx (na-k-1) (by lia),show sa+k+(na-k-1)=sa+na-1 by lia];have:=b2 (j-(sa+na)) (by lia);rw[show sa+na+(j-(sa+na))=j by lia] at this;show kv rk xs j<=rk (xs.getD (sa+na-1) dK);rcases this with z|⟨_,z⟩<;>lia
   have e0:∀r st',Sm (tV st P') st'->Me rk (xs.extract (sa+k) (sa+na)) (xs.extract (sa+na) (sa+na+m)) r->OY rk xs (wr (sa+k) (dA st') r.toList.zipIdx) sa (sa+na+nb):=λr st' sm me=>by
    have ea:dA st'=xs:=sm.a.trans eX;have pr:=me.pm;rw[Lq,Lq,<-Pp xs (by lia) (by lia) (by lia)] at pr;have hL:xs.toList.length=xs.size:=by simp
    refine lT (r:=r.toList) (p:=sa+k) (q:=sa+na+m) (by lia) (by lia) (by lia) hz pr ?_ ?_
    .have h0:∀x∈seg xs sa (sa+k),∀y∈seg xs (sa+na) (sa+na+nb),rk x<=rk y:=λx hx y hy=>by
      obtain⟨i1,c1,c2,rfl⟩:=Ih (by lia) hx;obtain⟨j1,d1,d2,rfl⟩:=Ih hz hy;have f1:=a2 (i1-sa) (by lia);rw[show sa+(i1-sa)=i1 by lia] at f1;have f2:=ub (sa+na) j1 (Ac _) d1 d2;have f3:kv rk xs i1<=kv rk xs (sa+na):=by show kv rk xs i1<=rk (xs.getD (sa+na) dK);rcases f1 with z|⟨_,z⟩<;>lia
      exact BI f3 f2
     have h3:∀x∈seg xs sa (sa+na),∀y∈seg xs (sa+na+m) (sa+na+nb),rk x<=rk y:=λx hx y hy=>by
      obtain⟨i1,c1,c2,rfl⟩:=Ih (by lia) hx;obtain⟨j1,d1,d2,rfl⟩:=Ih hz hy;have f1:=b3 (j1-(sa+na)) (by lia) (by lia);rw[show sa+na+(j1-(sa+na))=j1 by lia] at f1;have f2:=ua i1 (sa+na-1) c1 (by lia) (by lia);have f3:kv rk xs (sa+na-1)<=kv rk xs j1:=by show rk (xs.getD (sa+na-1) dK)<=kv rk xs j1;rcases f1 with z|⟨_,z⟩<;>lia
      exact BI f2 f3
     have sA:=(To (rk:=rk) (lo:=sa) (hi:=sa+na) (by lia)).mp ua;have sB:=(To (rk:=rk) (lo:=sa+na) (hi:=sa+na+nb) hz).mp ub;have h7:seg xs sa (sa+na)=seg xs sa (sa+k)++seg xs (sa+k) (sa+na):=Pp xs (by lia) (by lia) (by lia);have h5:seg xs (sa+na) (sa+na+nb)=seg xs (sa+na) (sa+na+m)++seg xs (sa+na+m) (sa+na+nb):=Pp xs (by lia) (by lia) hz;have h6:seg xs (sa+k) (sa+na+m)=seg xs (sa+k) (sa+na)++seg xs (sa+na) (sa+na+m):=Pp xs (by lia) (by lia) (by lia);rw[h7] at sA;rw[h5] at sB;obtain⟨u1,u2,u3⟩:=SL.app.mp sA;obtain⟨v1,v2,v3⟩:=SL.app.mp sB;refine SL.app.mpr ⟨SL.app.mpr ⟨u1,me.sl,λx hx y hy=>?_⟩,v2,λx hx y hy=>?_⟩
     .have h8:=pr.mem_iff.mp hy;rw[h6] at h8;rcases Be.mp h8 with z|z
      .exact u3 x hx y z
      .exact h0 x hx y (by rw[h5];exact GZ _ z)
     .rcases Be.mp hx with z|z
      .exact h0 x z y (by rw[h5];exact Dk _ hy)
      .have h9:=pr.mem_iff.mp z;rw[h6] at h9;rcases Be.mp h9 with z|z
       .exact h3 x (by rw[h7];exact Dk _ z) y hy
       .exact v3 x z y hy
    .rw[ea];refine YI r.toList 0 (sa+k) xs (xs.toList.take (sa+k)) (seg xs (sa+k) (sa+na+m)) (xs.toList.drop (sa+na+m)) ?_ ?_ pr.length_eq.symm
     .have e7:xs.toList.take (sa+na+m)=xs.toList.take (sa+k)++seg xs (sa+k) (sa+na+m):=by
       have:=(D5 (sa+k) (xs.toList.take (sa+na+m))).symm
       rwa [Ru,LR (by lia)] at this
      rw[<-e7,D5]
     .rw[Bk];lia
   by_cases e3:na-k<=m
   .rw[AG e3];refine Aj (pG hc T k1 λr st' sm me=>Aj (KR (Aj (ID (Av ?_)))));have ff:tD st'=J:=sm.f.trans hf;show Q (tD st').isNone _;rw[ff];exact h _ (sm.k.trans k1) ff sm.p (e0 r st' sm me)
   .rw[AF e3];refine Aj (lV hc T k1 λr st' sm me=>Aj (KR (Aj (ID (Av ?_)))));have ff:tD st'=J:=sm.f.trans hf;show Q (tD st').isNone _;rw[ff];exact h _ (sm.k.trans k1) ff sm.p (e0 r st' sm me)
section
variable(rk:bt->Nat)
def Chain(xs:Array bt):Nat->List (Nat×Nat×Nat)->Nat->Prop
 |b,[],e=>b=e
 |b,(s,n,_)::r,e=>s=b/\0<n/\Up rk xs s (s+n)/\Chain xs (s+n) r e
end
theorem Chain.le{xs:Array bt}:∀{b e:Nat}{p:List (Nat×Nat×Nat)},Chain rk xs b p e->b+p.length<=e
 |b,e,[],h=>by have h':b=e:=h;simp;lia
 |b,e,(s,n,_)::r,⟨h1,h2,_,h3⟩=>by
  have:=Chain.le h3;simp-iota only[Bw]
  lia
theorem Chain.app{xs:Array bt}{e:Nat}{q:List (Nat×Nat×Nat)}:∀{b:Nat}{p:List (Nat×Nat×Nat)},Chain rk xs b (p++q) e↔∃m,Chain rk xs b p m/\Chain rk xs m q e
 |b,[]=>⟨λh=>⟨b,Z,h⟩,λ⟨m,h1,h2⟩=>by have h0:b=m:=h1;subst h0;exact h2⟩
 |b,(s,n,_)::r=>⟨λ⟨h1,h2,h3,h4⟩=>by obtain⟨m,a,c⟩:=Chain.app.mp h4;exact⟨m,⟨h1,h2,h3,a⟩,c⟩,λ⟨m,⟨h1,h2,h3,a⟩,c⟩=>⟨h1,h2,h3,Chain.app.mpr ⟨m,a,c⟩⟩⟩
theorem Chain.same{xs ys:Array bt}:∀{b e:Nat}{p:List (Nat×Nat×Nat)},(∀k,b<=k->k<e->ys[k]? =xs[k]?)->Chain rk xs b p e->Chain rk ys b p e
 |b,e,[],_,h=>h
 |b,e,(s,n,_)::r,hk,⟨h1,h2,h3,h4⟩=>by have hl:=Chain.le h4;refine⟨h1,h2,λi j a c d=>?_,Chain.same (λk a c=>hk k (by lia) c) h4⟩;rw[IH rk (hk i (by lia) (by lia)),IH rk (hk j (by lia) (by lia))];exact h3 i j a c d
theorem Chain.pw{xs:Array bt}{f:Nat×Nat×Nat->Nat×Nat×Nat}(hf:∀x,(f x).1=x.1/\(f x).2.1=x.2.1):∀{b e:Nat}{p:List (Nat×Nat×Nat)}{i:Nat},Chain rk xs b p e->Chain rk xs b (p.modify i f) e
 |b,e,[],i,h=>by cases i<;>exact h
 |b,e,x::r,0,h=>by obtain⟨s,n,q⟩:=x;obtain⟨e1,e2⟩:=hf (s,n,q);show Chain rk xs b (f (s,n,q)::r) e;generalize f (s,n,q)=y at e1 e2;obtain⟨s',n',q'⟩:=y;dsimp only at e1 e2;subst e1;subst e2;exact h
 |b,e,(s,n,q)::r,i+1,⟨h1,h2,h3,h4⟩=>⟨h1,h2,h3,Chain.pw hf h4⟩
structure RS(κ:SortKind)(rk:bt->Nat)(a0:Array bt)(lo:Nat)(st:sX):Prop where
 kind:kindOf st=κ
 failed:tD st=J
 perm:(dA st).Perm a0
 chain:Chain rk (dA st) 0 (cm st).toList lo
def Z3(hc:C5 prog w A s κ rk a0){Q:Bool->sX->Prop}(R:RS κ rk a0 lo st)(hlo:lo<=a0.size)(hi:i+1<(cm st).size)
 (h:∀st',RS κ rk a0 lo st'->(cm st').size+1=(cm st).size->(∀k,lo<=k->(dA st')[k]? =(dA st)[k]?)->Q Y st'):wpS (Yf prog w) A E s (uw i) Q st:=by
 have hL:(cm st).toList.length=(cm st).size:=by simp
 have h0:(dA st).size=a0.size:=R.perm.size_eq;have e1:(cm st).toList=(cm st).toList.take i++((cm st).toList[i]'(by lia)::(cm st).toList[i+1]'(by lia)::(cm st).toList.drop (i+2)):=by rw[<-Oc,<-Oc,D5]
 generalize ex:(cm st).toList[i]'(by lia)=x at e1;generalize ey:(cm st).toList[i+1]'(by lia)=y at e1;generalize ep:(cm st).toList.take i=p at e1;generalize h3:(cm st).toList.drop (i+2)=q at e1;obtain⟨sa,na,pw⟩:=x;obtain⟨sb,nb,pb⟩:=y;have ch:=R.chain;rw[e1] at ch;obtain⟨m,c1,c2,c3,c4,c5,c6,c7,c8⟩:=Chain.app.mp ch;subst c2;subst c5;have l1:=c1.le;have l2:=c8.le;have g1:(cm st)[i]? =U (sa,na,pw):=by rw[<-HE,Ar (by lia),ex]
 have g2:(cm st)[i+1]? =U (sa+na,nb,pb):=by rw[<-HE,Ar (by lia),ey]
 refine fh hc R.kind R.failed R.perm g1 g2 c3 c6 (by lia) c4 c7 λst' k1 k2 k3 k4=>?_;have pl:p.length=i:=by rw[<-ep,Bk];lia
 have e2:(cm st').toList=p++((sa,na+nb,pw)::q):=by
  rw[k3,Array.toList_eraseIdxIfInBounds,Array.toList_setIfInBounds,e1,<-pl];simp[List.eraseIdx_append];intro z
  lia
 refine h st' ⟨k1,k2,k4.pm.trans R.perm,?_⟩ ?_ λk hk=>k4.out k (.inr (by lia))
 .rw[e2];refine Chain.app.mpr ⟨sa,c1.same λk _ b=>k4.out k (.inl b),Z,by lia,?_,?_⟩
  .rw[show sa+(na+nb)=sa+na+nb by lia];exact k4.up
  .rw[show sa+(na+nb)=sa+na+nb by lia];exact c8.same λk a _=>k4.out k (.inr a)
 .have h1:=A2 List.length e1;have h2:=A2 List.length e2;simp-iota only[A9,Bw,FH] at h1 h2
  lia
def mT(hc:C5 prog w A s κ rk a0){Q:Unit->sX->Prop}(hk:kindOf st=κ)(hf:tD st=J)(ha:dA st=a0)(hp:cm st= #[])(h2:2<=a0.size)
 (h:∀st':sX,(dA st').Perm a0->tD st'=J->Up rk (dA st') 0 a0.size->Q () st'):wpS (Yf prog w) A E s sortRuns' Q st:=by
 rw[sortRuns'_eq];refine Aj (ID ?_);dsimp only;rw[ha];generalize minRun' a0.size a0.size 0=mr;refine Aj (uS (FN
  (I:=λx c st'=>∃lo,c=(J,lo)/\x<=lo/\lo<=a0.size/\RS κ rk a0 lo st')
  (Q:=λc st'=>c=(J,a0.size)/\RS κ rk a0 a0.size st') ?step ?fin ⟨0,Z,Ac _,CB _,hk,hf,by rw[ha],by rw[hp];rfl⟩) ?post);case fin=>
  rintro c st' ⟨lo,rfl,x1,x2,R⟩;have:lo=a0.size:=by lia
  subst this;exact⟨Z,R⟩
 case step=>
  rintro x c st' _ hx ⟨lo,rfl,x1,x2,R⟩;dsimp only;by_cases hl:lo>=a0.size
  .rw[AG hl];have:lo=a0.size:=by lia
   subst this;exact Av ⟨Z,R⟩
  .rw[AF hl];have hsz:(dA st').size=a0.size:=R.perm.size_eq;have hc':C5 prog w A s κ rk (dA st'):=λx y hx hy C hC=>hc x y ((Mf.mp R.perm).mem_iff.mp hx) ((Mf.mp R.perm).mem_iff.mp hy) C hC;have B0:Ok κ (dA st') lo (cm st') st':=⟨Array.Perm.refl _,λ_ _=>rfl,R.kind,R.failed,Z⟩;have rest:∀n st2,Ok κ (dA st') lo (cm st') st2->1<=n->lo+n<=a0.size->Up rk (dA st2) lo (lo+n)->RS κ rk a0 lo st2:=λn st2 B n1 n2 u=>
    ⟨B.kind,B.failed,B.perm.trans R.perm,by rw[B.pend];exact R.chain.same λk _ b=>B.fix k b⟩;have tail:∀n (st2:sX),RS κ rk a0 lo st2->1<=n->lo+n<=a0.size->Up rk (dA st2) lo (lo+n)->RS κ rk a0 (lo+n) (tV st2 ((cm st2).push (lo,n,0))):=λn st2 R2 n1 n2 u=>
    ⟨R2.kind,R2.failed,R2.perm,by show Chain rk (dA st2) 0 ((cm st2).push (lo,n,0)).toList (lo+n);rw[M3];exact Chain.app.mpr ⟨lo,R2.chain,Z,by lia,u,Z⟩⟩;refine Aj (jj (P:=cm st') hc' (by lia) (by lia) B0 λm st2 B2 m1 m2 u2=>?_);dsimp only;rcases Decidable.em (m<mr) with hm|hm;rw[AG hm];refine Aj (Ln (Hy ⟨Z,?_⟩));refine Aj (jX (P:=cm st') hc' (by lia) m1 (by lia) B2 u2 λst3 B3 u3=>?_);simp-iota only[JV,CP,Bx];have n2:lo+min (a0.size-lo) mr<=a0.size:=by lia
   have n1:1<=min (a0.size-lo) mr:=by lia
   generalize min (a0.size-lo) mr=n at n1 n2 u3⊢
   rotate_left
   rw[AF hm];have n2:lo+m<=a0.size:=by lia
   have n1:=m1;have B3:=B2;have u3:=u2;generalize st2=st3 at B3 u3⊢;generalize m=n at n1 n2 u3⊢;all_goals
    refine Aj (ID ?_);have R3:=rest n st3 B3 n1 n2 u3
    cases eb:(cm st3).back? with
    |none=>exact Aj (KR (Av ⟨_,Z,by lia,n2,tail n st3 R3 n1 n2 u3⟩))
    |some t=>
     obtain⟨s1,m1',pw1⟩:=t;dsimp only;generalize power' _ _ _ _=pw;refine Aj (uS (FN (I:=λ_ c st4=>c=(J,())/\RS κ rk a0 lo st4/\Up rk (dA st4) lo (lo+n)) (Q:=λc st4=>c=(J,())/\RS κ rk a0 lo st4/\Up rk (dA st4) lo (lo+n)) ?_ (λ_ _ hh=>hh) ⟨Z,R3,u3⟩) ?_)
     .rintro y c st4 _ _ ⟨rfl,R4,u4⟩;refine Aj (ID ?_);by_cases e:(cm st4).size>1
      .rw[AG e];have hidx:(cm st4)[(cm st4).size-2]? =U ((cm st4)[(cm st4).size-2]'(by lia)):=Gd ..;rw[hidx];generalize(cm st4)[(cm st4).size-2]'(by lia)=o;obtain⟨o1,o2,o3⟩:=o;dsimp only;by_cases eo:o3<=pw
       .rw[AG eo];exact Av ⟨Z,R4,u4⟩
       .rw[AF eo];refine Aj (Z3 hc R4 x2 (by lia) λst5 R5 s5 k5=>?_);exact Av ⟨Z,R5,λi j a b c=>by rw[IH rk (k5 i a),IH rk (k5 j (by lia))];exact u4 i j a b c⟩
      .rw[AF e];exact Av ⟨Z,R4,u4⟩
     .rintro c st4 ⟨rfl,R4,u4⟩;refine Aj (KR (Aj (KR (Av ⟨_,Z,by lia,n2,tail n _ ⟨R4.kind,R4.failed,R4.perm,?_⟩ n1 n2 u4⟩))));show Chain rk (dA st4) 0 ((cm st4).modify _ _).toList lo;rw[Array.toList_modify];exact Chain.pw (f:=λx=>(x.1,x.2.1,pw)) (λ_=>⟨Z,Z⟩) R4.chain
 case post=>
  rintro c st' ⟨rfl,R⟩;dsimp only;have fin:∀st2:sX,RS κ rk a0 a0.size st2->(cm st2).size<=1->Q () st2:=λst2 R2 hs=>by
   refine h st2 R2.perm R2.failed ?_;have ch:=R2.chain;have hL:(cm st2).toList.length=(cm st2).size:=by simp
   generalize(cm st2).toList=p at ch hL
   match p,ch with
   |[],ch=>have z:0=a0.size:=ch;lia
   |[(a,n,_)],ch=>obtain⟨z1,z2,z3,z4⟩:=ch;have z5:a+n=a0.size:=z4;subst z1;rw[<-z5];exact z3
   |_::_::_,ch=>simp at hL;lia
  refine Aj (uS (FN (I:=λx c st2=>c=(J,())/\RS κ rk a0 a0.size st2/\(cm st2).size<=max 1 (a0.size-x)) (Q:=λc st2=>c=(J,())/\RS κ rk a0 a0.size st2/\(cm st2).size<=1) ?_ ?_ ⟨Z,R,?_⟩) ?_)
  .rintro x c st2 _ hx ⟨rfl,R2,hs⟩;refine Aj (ID ?_);by_cases e:(cm st2).size<=1
   .rw[AG e];exact Av ⟨Z,R2,e⟩
   .rw[AF e];have go:∀i,i+1<(cm st2).size->wpS (Yf prog w) A E s (uw i) (λb st3=>b=Y/\RS κ rk a0 a0.size st3/\(cm st3).size<=max 1 (a0.size-(x+1))) st2:=λi hi=>Z3 hc R2 (Ac _) hi λst3 R3 s3 _=>⟨Z,R3,by lia⟩;refine Aj (uS (go _ ?_) λb st3 hb=>?_)
    .repeat' split
     all_goals lia
    .obtain⟨rfl,R3,s3⟩:=hb;exact Av ⟨Z,R3,s3⟩
  .rintro c st2 ⟨rfl,R2,hs⟩;exact⟨Z,R2,by lia⟩
  .have:=R.chain.le;simp-iota only[FH] at this
   lia
  .rintro c st2 ⟨rfl,R2,hs⟩;exact Av (fin st2 R2 hs)
end
section
open PySem.Calls PySem.W
noncomputable def DW(w:si):Bool:=w.params.followText "set-order"
noncomputable def tx:AB->Str
 |.str z _=>z
 |_=>""
def Ep(prog:sY)(w:si)(h:sf)(a:OK)(zs:List Str):Prop:=
 ∃o es ep t,h.get? a=U o/\o.ExactSet/\o.data=.set es ep t/\ElemsOf (strKind prog w) es.toList/\(es.toList.map λe=>tx e.2).Perm zs/\zs.Nodup/\zs.length<tO/\t.fits es.size=Y/\t.led= !DW w/\(es.size=0\/t.plain=vc)
def UX{v:AB}(h:(strKind prog w).is z v=Y):∃t,v=.str z t:=Value.isStrOf_shape h
def Tg(prog:sY)(w:si)(z:Str)(t:Tok):(strKind prog w).is z (.str z t)=Y:=strKind_is _ _ _ _
def ee(t:SetTable)(es:Array (Int×AB))(h:Int)(x:AB):(layNew t es h x).2.1.led=t.led:=by
 delta layNew;split
 .dsimp only;delta SetTable.orStandIn;split<;>rfl
 .rfl
end
variable{t:SetTable}
section
open PySem.Calls PySem.W
def jb{m f v:Nat}{l p:Bool}{hs:Array Int}{o:Array Nat}(h:SetTable.laid m f v l p hs=U (t,o)):t.led=l/\t.plain=p:=by
 delta SetTable.laid at h
 cases e:SetTable.layClean m hs with
 |none=>rw[e] at h;cases h
 |some ow=>rw[e] at h;cases AZ h;exact⟨Z,Z⟩
def gy(t:SetTable)(es:Array (Int×AB))(n:Nat):(relayAll t es n).2.1.led=t.led/\(t.plain=vc->(relayAll t es n).2.1.plain=vc):=by
 delta relayAll;split
 .rename_i t' order e;have:=jb e;dsimp only;split
  .exact⟨this.1,λhp=>by rw[this.2,hp]⟩
  .exact⟨Z,λ_=>rfl⟩
 .exact⟨Z,λ_=>rfl⟩
def Zj{es:List (Int×AB)}(hel:ElemsOf (strKind prog w) es)(z:Str):(∃e∈es,(strKind prog w).is z e.2=Y)↔z∈es.map λe=>tx e.2:=by
 constructor
 .rintro⟨e,he,h⟩;obtain⟨t,ht⟩:=UX h;exact Aw.mpr ⟨e,he,by rw[ht];rfl⟩
 .intro h;obtain⟨e,he,rfl⟩:=Aw.mp h;obtain⟨⟨k,hk,_⟩,_⟩:=hel e he;obtain⟨t,ht⟩:=UX hk;refine⟨e,he,?_⟩;rw[ht];exact Tg prog w k t
end
variable{es:Array (Int×AB)}
section
open PySem.Calls PySem.W
def W3(ho:h.get? a=U o)(hd:o.data=.set es ep t)(es':Array (Int×AB))(t':SetTable):
 (h.update a (Obj.putSet es' t')).get? a=U {o with data:=.set es' (ep+1) t'}:=by
 have:=JN (Obj.putSet es' t') ho (by rw[putSet_of es' t' hd];rfl);rw[putSet_of es' t' hd] at this;exact this
def XA{g:Bool->Sem Unit}(hg:∀(b:Bool)(s₁:Ya)(Q':Unit->Ya->Prop),Q' () s₁->ax (Yf prog w) A (g b) Q' E s₁)
 (ho:s.heap.get? a=U o)(hex:o.ExactSet)(hd:o.data=.set es ep t)
 {es1:Array (Int×AB)}{t2:SetTable}(hel:ElemsOf (strKind prog w) es1.toList)(hm:(es1.toList.map λe=>tx e.2).Perm zs)(hnd:zs.Nodup)(hb:zs.length<tO)(hf:t2.fits es1.size=Y)(hl:t2.led= !DW w)(hp:t2.plain=vc){dm:Bool}{R:Option Bool->Ya->Prop}
 (h:∀h',Heap.SameBut a s.heap h'->Ep prog w h' a zs->R (U Y) {s with heap:=h'}):
 ax (Yf prog w) A (do
  storeSet a es1 t2
  if(!dm&&t2.tooFull)=Y then do
     g (relayAll t2 es1 (SetTable.grown es1.size)).2.2
     storeSet a (relayAll t2 es1 (SetTable.grown es1.size)).1 (relayAll t2 es1 (SetTable.grown es1.size)).2.1
     pure (U Y)
   else pure (U Y)) R E s:=by
 have h5:es1.size=zs.length:=by rw[<-hm.length_eq,AI,FH]
 refine AK (wpAny_storeSet_of ho hd ?_ (fits_of_scanBound (by lia)));have h1:=W3 ho hd es1 t2;have h0:=Vn s.heap a (Obj.putSet es1 t2);split
 .have rp:=relayAll_perm t2 es1 (SetTable.grown es1.size);have rf:=relayAll_fits t2 es1 (SetTable.grown es1.size);have rl:=gy t2 es1 (SetTable.grown es1.size);generalize relayAll t2 es1 (SetTable.grown es1.size)=Rl at rp rf rl⊢;obtain⟨h2,t3,gv⟩:=Rl;dsimp only at rp rf rl⊢;have h4:h2.size=es1.size:=by rw[<-FH,rp.length_eq,FH]
  refine AK (hg _ _ _ (AK (wpAny_storeSet_of h1 Z ?_ (fits_of_scanBound (by lia)))));have h3:=W3 h1 Z h2 t3;refine Ae (h _ (h0.trans (Vn _ a _)) ⟨_,h2,_,t3,h3,hex,Z,hel.perm rp,(rp.map _).trans hm,hnd,hb,rf,rl.1.trans hl,.inr (rl.2 hp)⟩)
 .exact Ae (h _ h0 ⟨_,es1,_,t2,h1,hex,Z,hel,hm,hnd,hb,hf,hl,.inr hp⟩)
noncomputable def Dx(zs:List Str)(z:Str):List Str:=if z∈zs then zs else zs++[z]
def qI{tk:Tok}{Q:Bool->Ya->Prop}(hS:Ep prog w s.heap a zs)(hroom:zs.length+1<tO)
 (h:∀b h',Heap.SameBut a s.heap h'->Ep prog w h' a (Dx zs z)->Q b {s with heap:=h'}):ax (Yf prog w) A (setAddHashed a (.str z tk) ((strKind prog w).hash z)) Q E s:=by
 obtain⟨o,es,ep,t,ho,h5,hd,h0,hm,h7,hb,hf,hl,hp⟩:=hS;have e4:es.size=zs.length:=by rw[<-hm.length_eq,AI,FH]
 have h2:=Tg prog w z tk;delta setAddHashed setAddHashedIn;refine Gb (AK (Mx ho hd hf ?_));dsimp only;rw[byScan_of (knd:=strKind prog w) Z (by lia) h0];simp-iota only[↓reduceIte];delta setAddByScan;refine AK (AK (Hy (AK (wpAny_setScan_of h2 ho hd hf h0 ?_))))
 cases hr:List.findIdx? (λe=>(strKind prog w).is z e.2) es.toList with
 |some j=>
  dsimp only;obtain⟨hj,e1,_⟩:=List.findIdx?_eq_some_iff_getElem.mp hr;have hz:z∈zs:=hm.mem_iff.mp ((Zj h0 z).mp ⟨_,Ez hj,e1⟩);have e:s={s with heap:=s.heap}:=by cases s;rfl
  refine Ae (Ae ?_);rw[e];refine h _ s.heap (Heap.SameBut.refl a s.heap) ?_;delta Dx;rw[AG hz];exact⟨o,es,ep,t,ho,h5,hd,h0,hm,h7,hb,hf,hl,hp⟩
 |none=>
  dsimp only;have hz:z∉zs:=λhz=>by obtain⟨e,he,e2⟩:=(Zj h0 z).mpr (hm.mem_iff.mpr hz);have:=List.findIdx?_eq_none_iff.mp hr e he;rw[e2] at this;cases this
  have e3:∀(b:Bool){s₁:Ya}{Q':Unit->Ya->Prop},Q' () s₁->ax (Yf prog w) A (match b with|true=>rule "set.scan.the-table-gave-way" |false=>pure ()) Q' E s₁:=
   λb s₁ Q' hq=>by cases b<;>first|exact Ae hq|exact Hy hq
  have lp:=layNew_perm t es ((strKind prog w).hash z) (.str z tk);have lf:=layNew_fits t es ((strKind prog w).hash z) (.str z tk);have ll:=ee t es ((strKind prog w).hash z) (.str z tk);generalize layNew t es ((strKind prog w).hash z) (.str z tk)=L at lp lf ll⊢;obtain⟨e0,t1,dm,gv⟩:=L;dsimp only at lp lf ll⊢;rw[M3] at lp;have h3:ElemsOf (strKind prog w) e0.toList:=(h0.push h2 Z).perm lp;have h8:(e0.toList.map λe=>tx e.2).Perm (Dx zs z):=by delta Dx;rw[AF hz];refine(lp.map _).trans ?_;rw[BL];exact hm.append_right _
  have h1:(Dx zs z).Nodup:=by delta Dx;rw[AF hz];refine Oy.mpr ⟨h7,by simp,λx hx y hy=>?_⟩;rw[BW] at hy;intro e;rw[<-hy,<-e] at hz;exact hz hx
  have h9:(Dx zs z).length<tO:=by delta Dx;rw[AF hz,A9];exact hroom
  refine AK (e3 _ ?_);split
  .refine AK ?_;rw[hashByValue_scannable 8 Z];refine Ae ?_;refine XA (zs:=Dx zs z) ?_ ho h5 hd h3 h8 h1 h9 (SetTable.fits_plain_off lf) (ll.trans hl) Z ?_
   .intro b s₁ Q' hq;cases b<;>first|exact Ae hq|exact Hy hq
   .intro h' h4 h6;dsimp only;exact Ae (h _ h' h4 h6)
  .rename_i np;refine AK (Ae ?_);simp-iota only[↓reduceIte];refine XA (zs:=Dx zs z) ?_ ho h5 hd h3 h8 h1 h9 lf (ll.trans hl) (by simpa using np) ?_
   .intro b s₁ Q' hq;cases b<;>first|exact Ae hq|exact Hy hq
   .intro h' h4 h6;dsimp only;exact Ae (h _ h' h4 h6)
def Dv:List Str->List Str->List Str
 |S,[]=>S
 |S,z::r=>Dv (Dx S z) r
def XY(S:List Str)(z:Str):(Dx S z).length<=S.length+1:=by
 delta Dx;split
 .lia
 .simp
def Ep.at(x:Ep prog w h a zs)(e:∀o,h.get? a=U o->h'.get? a=U o):Ep prog w h' a zs:=by obtain⟨o,es,ep,t,ho,r⟩:=x;exact⟨o,es,ep,t,e _ ho,r⟩
end
variable{I:OK}
section
open PySem.Calls PySem.W
def iI{wr:List OK}{G:Array uH->Array uH->Prop}{P:Nat->AB->Prop}{St:Nat->Ya->Prop}
 (W:WalksS prog w A.in1 I fp wr G n P St)(vj:OK)(hSf:vj∉fp)(ys:List Str)(hy:ys.length=n)(hval:∀i v z,P i v->ys[i]? =U z->∃t,v=.str z t):
 ∀(k i:Nat)(s:Ya)(S:List Str),n-i=k->i<=n->St i s->S.length+(n-i)+1<tO->Ep prog w s.heap vj S->
  (∀s',Moved (vj::wr) G s s'->Ep prog w s'.heap vj (Dv S (ys.drop i))->R (.ok (.ret .none)) s')->
  tS (Yf prog w) A (.builtin "set.update.loop" ⟨[.ref vj,.ref I],[]⟩) R s:=by
 have h7:vj∉wr:=λh=>hSf (W.sub _ h);have h0:∀b∈wr,b∈vj::wr:=λb hb=>Ce _ hb;intro k
 induction k with
 |zero=>
  intro i s S hk hi h2 hb hS hR;have h9:i=n:=by lia
  subst h9;refine KI F.entry_set_update_loop ?_;rw[Oo VZ _];show ax _ A.in1 (tH (.ref I)>>=_) _ _ s;refine AK (W.done s _ _ h2 λs' hm=>?_);show ax _ A.in1 (ret Value.none) _ _ s';rw[Mo (by lia)] at hR;exact Ae (hR s' (hm.mono h0) (hS.at λo e=>hm.heap vj o h7 e))
 |succ k ih=>
  intro i s S hk hi h2 hb hS hR;have h6:i<n:=by lia
  refine KI F.entry_set_update_loop ?_;rw[Oo VZ _];show ax _ A.in1 (tH (.ref I)>>=_) _ _ s;refine AK (W.item i s _ _ h6 h2 λv s' hP h1 hm=>?_);obtain⟨t,rfl⟩:=hval i v (ys[i]'(by lia)) hP (Ar _);have hd:ys.drop i=ys[i]'(by lia)::ys.drop (i+1):=Oc (by lia);rw[hd] at hR;generalize ys[i]'(by lia)=z at hR⊢;have e1:Ep prog w s'.heap vj S:=hS.at λo e=>hm.heap vj o h7 e;show ax _ A.in1 (uP [Value.str z t] (setAdd vj (.str z t))>>=_) _ _ s';refine AK (Gb ?_);delta setAdd;refine Gb (AK ((strKind prog w).pyHash (k:=z) (Tg prog w z t) ?_));refine qI (s:={s' with toks:=s'.toks+1}) e1 (by lia) λb h' h5 e0=>?_;refine Ae ⟨O9 VZ _,ih (i+1) _ (Dx S z) (by lia) h6 (W.frame _ s' _ _ h1 (E2 _) λb hb o e=>?_) (by have:=XY S z;lia) e0 λh8 h3 h4=>?_⟩
  .rw[h5.2 b (λh:b=vj=>hSf (by rw[<-h];exact hb))];exact e
  .refine hR h8 (Moved.trans W.gtrans ((hm.mono h0).then_heap (E2 _) λb o hb e=>?_) h3) h4;rw[h5.2 b (λh:b=vj=>hb (by rw[h];exact CV))];exact e
def sub_tuple_set:isSubtype (.type "tuple") (.type "set")=pure vc:=by rw[ux];kernel_rfl
def sub_tuple_frozenset:isSubtype (.type "tuple") (.type "frozenset")=pure vc:=by rw[ux];kernel_rfl
def gf(a:AB){Q₁:AB->Ya->Prop}
 (h:Q₁ (.ref s.heap.objs.size) {s with heap:=s.heap.push {cls:=.type "set",dict:=J,data:=.set #[] 0 (.fresh 0 0 (!DW w))}}):
 tS (Yf prog w) A (.call (.builtin "set.__new__") ⟨[.type "set",a],[]⟩) (wants Q₁ E) s:=by
 refine uq ?_;show ax _ A.in1 (do checkBuiltinCall "set.__new__" ⟨[.type "set",a],[]⟩;again (.builtin "set.__new__" ⟨[.type "set",a],[]⟩)) _ _ s;refine AK (wpAny_of_eq (PySem.F.newCall_set_1 a) (Ae ⟨O9 vT _,KI PySem.F.entry_set_new ?_⟩));rw[Oo vT _];delta Builtin.«set.__new__» Builtin.Frozenset.newClass;have hsub:=sub_set_self;obtain⟨hp,g,d,tk,os⟩:=s;dsimp only
 wp_walk
 refine uZ (Ae ?_);dsimp only;simp only[newObj];refine AK (wpAny_alloc (Ae ?_));exact Ae h
set_option maxRecDepth 100000 in
def dC{l:OK}{items:Array AB}{ys:List Str}(hh:A.handled=J)(hl:s.heap.IsTuple l items)(hy:ys.length=items.size)(hi:∀(i:Nat)(v:AB) z,items[i]? =U v->ys[i]? =U z->∃t,v=.str z t)(hb:items.size+1<tO)
 (h:∀(h':sf)(tk:Nat),Ep prog w h' s.heap.objs.size (Dv [] ys)->(∀b o,s.heap.get? b=U o->h'.get? b=U o)->Q (.ref s.heap.objs.size) {s with heap:=h',toks:=tk}):
 ax (Yf prog w) A (call (.type "set") [.ref l]) Q E s:=by
 obtain⟨c,tl,s4⟩:=KG.mro;have e3:=KG.made;have s1:=KG.sub;refine ND (uq ?_);show ax _ _ (callAny (.type "set") _) _ _ _;refine Ae ⟨RT _ (by left),KI PySem.F.entry_type_call ?_⟩;rw[Around.under_plain (weight_type_call_type "set" [.ref l] []) Z];have h1:=KG.notType;have h2:=KG.canCreate;have r3:=PySem.F.typeCall_set_1 (.ref l);repeat (any_goals (first|assumption|wp_step))
 generalize eO:({cls:=.type "set",dict:=J,data:=.set #[] 0 (.fresh 0 0 (!DW w))}:Obj)=o0;refine LZ (gf (.ref l) (E:=E) (Q₁:=λe1 s₁=>e1=.ref s.heap.objs.size/\s₁={s with heap:=s.heap.push o0}) ⟨Z,by rw[eO]⟩) λr s₁ hr=>?_
 cases r with
 |error e=>exact hr
 |ok fl=>
  cases fl with
  |ret e1=>
   obtain⟨rfl,rfl⟩:=hr;have h7:o0.cls=.type "set" :=by rw[<-eO]
   have hS:(s.heap.push o0).get? s.heap.objs.size=U o0:=CG _ (by rw[<-eO];rfl);have hT:Shared.TypeIs {s with heap:=s.heap.push o0} (.ref s.heap.objs.size) "set" :=⟨_,hS,h7⟩;have r2:=KG.init.lookup;have r4:=KG.init.bind (.ref s.heap.objs.size);repeat (any_goals (first|assumption|wp_step))
   refine LZ (Vd (R:=wants (λr s₂=>r=.none/\∃h' tk,s₂={s with heap:=h',toks:=tk}/\Ep prog w h' s.heap.objs.size (Dv [] ys)/\(∀b o,s.heap.get? b=U o->h'.get? b=U o)) E) KG.init.plain PySem.F.entry_set_init (check_set_init_1 hT ?_)) λr₂ s₂ h0=>?_
   .subst eO;obtain⟨ol,e2,e7,nl,e6⟩:=hl;obtain⟨s0,h9,e0,h4⟩:=ol;simp only at e7 e6;subst e7;subst e6;have h5:=BD {cls:=.type "set",dict:=J,data:=.set #[] 0 (.fresh 0 0 (!DW w))} e2;have s2:=sub_tuple_set;have s3:=sub_tuple_frozenset;have r1:(Value.type "tuple" ==Value.type "dict")=vc:=by decide
    have e5:(s.heap.push {cls:=.type "set",dict:=J,data:=.set #[] 0 (.fresh 0 0 (!DW w))}).IsTuple l items:=⟨_,h5,Z,nl,Z⟩;delta Builtin.«set.__init__» noKeywords Builtin.Frozenset.updateFrom;generalize r0:pyIter=PI
    wp_walk
    subst r0;refine wpAny_pyIter_tuple e5 ?_;refine AK (wpAny_runValue ?_);have e4:l<s.heap.objs.size:=A7 e2;have s6:A.in1.in1.in1.handled=J:=by simp[hh]
    have h6:l≠(s.heap.push {cls:=.type "set",dict:=J,data:=.set #[] 0 (.fresh 0 0 (!DW w))}).objs.size:=by rw[HI];exact BS (Ox e4)
    have s9:s.heap.objs.size∉[(s.heap.push {cls:=.type "set",dict:=J,data:=.set #[] 0 (.fresh 0 0 (!DW w))}).objs.size,l]:=by rw[HI];simp only[BM,BW,JQ,Kb,not_or];exact⟨BS (M5 _),Fu e4⟩
    refine iI ((Walks.tuple s6 _ l h6 items).toS) s.heap.objs.size s9 ys hy hi (items.size-0) 0 _ [] (by lia) (CB _) ⟨⟨_,CG _ Z,Z,Z⟩,(e5.push _)⟩ (by simpa using hb) ?hS0 ?hR;case hS0=>exact⟨_,#[],0,_,BD _ hS,⟨Z,Z,Z⟩,Z,λe he=>by simp at he,O7 _,JS,by delta tO;simp,Z,Z,.inl Z⟩
    case hR=>
     intro s' hm h8;obtain⟨h',g',d',e8,e9⟩:=s';have eg:g'=s.gens:=hm.gens;have ed:d'=s.drawn:=hm.drawn;have eo:e9=s.os:=hm.os;subst eg;subst ed;subst eo;refine Ae ?_;refine Ae ⟨Z,h',e8,Z,h8,λb o e=>?_⟩;have hb:=A7 e;have s8:b≠s.heap.objs.size:=BS hb;have s7:b≠(s.heap.push {cls:=.type "set",dict:=J,data:=.set #[] 0 (.fresh 0 0 (!DW w))}).objs.size:=by rw[HI];exact BS (Ox hb)
     exact hm.heap b o (by simp only[BM,BW,JQ,Kb,not_or];exact⟨s8,s7⟩) (BD _ (BD _ e))
   .cases r₂ with
    |error e=>exact h0
    |ok h3=>
     cases h3 with
     |ret r=>
      obtain⟨rfl,h',tk,rfl,h8,s5⟩:=h0;repeat (any_goals (first|assumption|wp_step))
      exact h _ _ h8 s5
     |_=>exact h0.elim
  |_=>exact hr.elim
def FK:Slot "set_iterator" "__next__" "set_iterator.__next__" :=
 .of (owner:="set_iterator") (n:="__next__") (by rw[typeLookup_type,builtinLookup_eq_fast];kernel_rfl) (by left) (by left)
  (by left) (by first|exact .inl (by left)|exact .inr (by left)) (by rw[ux];kernel_rfl)
def LU:entryFor table "set_iterator.__next__" =U Builtin.«set_iterator.__next__»:=entryFor_of_tree (by kernel_rfl)
def iK:Manifest.owners.lookup (String.ofList ['r','o','t','a','r','e','t','i','_','t','e','s'].reverse)=U Manifest.sig_set_iterator:=by kernel_rfl
def LX(a:AB):argsOk "set_iterator.__next__" ⟨[a],[]⟩:=by
 delta argsOk;rw[signature?_of (id:="set_iterator.__next__") (n:=['_','_','t','x','e','n','_','_']) (o:=['r','o','t','a','r','e','t','i','_','t','e','s']) (by kernel_rfl) iK]
 kernel_rfl
def cw:entryFor table "set.__iter__" =U Builtin.«frozenset.__iter__»:=entryFor_alias (id':="frozenset.__iter__") (by kernel_rfl) Z (by left) (by kernel_rfl)
def Pn{Q:Bool->Ya->Prop}(h:Q (DW w) s):ax (Yf prog w) A setsByText Q E s:=AK (uZ (Ae h))
def dh{src:Source}{Q:Nat->Ya->Prop}(hn:n≠0)(h:∀i d,i<n->Q i {s with drawn:=d}):ax (Yf prog w) A (choose src n) Q E s:=λΓ p _=>by show Sem.wp _ Γ (.choose src n .pure) _ _ p s;rw[Sem.wp_choose];refine⟨hn,?_⟩;rw[Sem.wp_pure];exact h _ _ (Nat.mod_lt _ (Nat.pos_of_ne_zero hn))
theorem SG{α:Type}:∀(xs:List α)(i:Nat)(h:i<xs.length),(xs[i]::xs.eraseIdx i).Perm xs
 |x::xs,0,_=>O7 _
 |x::xs,i+1,h=>by have ih:=SG xs i (by simpa using h);show(xs[i]'(by simpa using h)::x::xs.eraseIdx i).Perm (x::xs);exact(List.Perm.swap _ _ _).trans (ih.cons x)
theorem WZ:∀(n:Nat)(xs:List Nat)(s:Ya)(Q:List Nat->Ya->Prop),n=xs.length->(∀ys d,ys.Perm xs->Q ys {s with drawn:=d})->ax (Yf prog w) A (drawOrder n xs) Q E s
 |0,xs,s,Q,hn,h=>by have:xs=[]:=Oe.mp hn.symm;subst this;exact Ae (h [] s.drawn (O7 _))
 |n+1,[],s,Q,hn,h=>by cases hn
 |n+1,x::xs,s,Q,hn,h=>by unfold drawOrder;refine AK (dh (by simp) λi d hi=>?_);have e:(x::xs)[i]? =U ((x::xs)[i]'hi):=Ar hi;rw[e];refine AK (WZ n _ _ _ (by rw[List.length_eraseIdx_of_lt hi];simp at hn⊢;exact hn) λys d hp=>Ae (h _ d ?_));exact(hp.cons _).trans (SG _ i hi)
def DE(h:sf)(I:OK)(first:AB)(i n ep:Nat)(a:OK):Prop:=h.get? I=U {cls:=.type "set_iterator",dict:=J,data:=.fields #[first,.int i 0,.ref a,.int n 0,.int ep 0],slots:= #[]}
def Fq(h:sf)(a:OK)(o:Obj)(es:Array (Int×AB))(ep:Nat)(t:SetTable):Prop:=h.get? a=U o/\o.ExactSet/\o.data=.set es ep t/\t.fits es.size=Y
def DE.typeIs{first:AB}(it:DE s.heap I first i n ep a):s.TypeIs (.ref I) "set_iterator" :=⟨_,it,Z⟩
set_option hygiene false in
def WV{slot given:Nat}{Q:Option (AB×Nat)->Ya->Prop}(hb:DW w=Y)(sa:Fq s.heap a o es ep t)
 (h:Q (((pickOrder (w.params.setOrder a ep) es)[given]?).map λe=>(e.2,slot)) s):ax (Yf prog w) A (setNext a slot given ep) Q E s:=by
 obtain⟨ho,h0,hd,hf⟩:=sa;delta setNext;refine AK (Mx ho hd hf ?_);dsimp only;refine AK (Pn ?_);rw[hb];simp-iota only[CL,EJ,CP,Bx];refine AK ?_;delta setWalk;refine AK (Mx ho hd hf ?_);dsimp only;refine AK (Pn ?_);rw[hb];simp-iota only[CL];exact AK (uZ (Ae (Ae h)))
def XW{slot given:Nat}{Q:Option (AB×Nat)->Ya->Prop}(hb:DW w=vc)(sa:Fq s.heap a o es ep t)(hn:es.size<=1)(hl:t.led=Y)
 (h:Q (match es[SetTable.below t.place slot]?,t.place[SetTable.below t.place slot]?with|some (_,x),U j=>U (x,j+1)|_,_=>J) s):ax (Yf prog w) A (setNext a slot given ep) Q E s:=by
 obtain⟨ho,h0,hd,hf⟩:=sa;delta setNext;refine AK (Mx ho hd hf ?_);dsimp only;refine AK (Pn ?_);rw[hb];simp-iota only[CP,Bx];show ax _ _ (if(!t.plain&&decide (es.size>1))=Y then _ else _) _ _ _;rw[AF (by simp;lia)];refine AK (show ax _ _ (if(!t.led&& !es.isEmpty)=Y then _ else pure ()) _ _ _ from ?_);rw[hl];simp-iota only[JV,M7,CP,Bx];refine Ae (Ae ?_);exact h
def TM{first:AB}{Q:Option AB->Ya->Prop}(hh:A.handled=J)(it:DE s.heap I first i n ep a)(hQ:∀h',Heap.ExtBut I s.heap h'->Q J {s with heap:=h'}):
 ax (Yf prog w) A.in1 (do
  setField (.ref I) 2 Value.none
  let __do_lift<-newExc (Value.type "StopIteration") []
  raiseNew __do_lift)
 (λfin s'=>∃v,fin=Fin.done (Flow.ret v)/\ax (Yf prog w) A (pure (U v)) Q E s')
 (λe s'=>ax (Yf prog w) A (do
  let __do_lift<-uy e (Value.type "StopIteration")
  if __do_lift=Y then pure J else throw e) Q E s') s:=by
 refine AK (O5 it Z (by simp) ?_);refine AK ?_;simp-iota only[newExc,newTuple];refine AK (Ia ?_ (by size_fits));refine AK (m:=firstArgMember _ _) (wpAny_of_eq (a:=Value.none) (by first|rfl|(simp-iota only[firstArgMember];rfl)) ?_);refine Ia ?_ (by size_fits);simp-iota only[raiseNew];refine AK (wpAny_handled ?_);first|rw[show A.in1.handled=J from hh]|rw[hh]
 refine AK (Ae (wpAny_throw ?_));refine AK (wpAny_isInstance (T:="StopIteration") (b:=Y) ⟨_,CG _ Z,Z⟩ isSubtype_stop ?_);exact Ae (hQ _ (((Vn ..).extBut.push _).push _))
def kL{Q:Option AB->Ya->Prop}{x:Int×AB}(hb:DW w=Y)(it:DE s.heap I (.int 0 0) i es.size ep a)(sa:Fq s.heap a o es ep t)
 (hx:(pickOrder (w.params.setOrder a ep) es)[i]? =U x)(h:∀h',DE h' I (.int 0 0) (i+1) es.size ep a->Heap.SameBut I s.heap h'->Q (U x.2) {s with heap:=h'}):ax (Yf prog w) A (tH (.ref I)) Q E s:=by
 have h0:=sa;delta tH;refine AK (KO (LH (name:=Str.ofString "__next__") it.typeIs FK (Ib FK it.typeIs LU ?_ (LX _))));obtain⟨ho,h3,hd,hf⟩:=sa;delta Builtin.«set_iterator.__next__» uK;simp-iota only[LO,JV,CP,↓reduceIte,bind_assoc,Ht,EJ];refine AK (Ae ?_);refine AK (tQ it Z ?_);dsimp only;refine AK (LL ho hd hf ?_);simp-iota only[EJ,CP,↓reduceIte];refine AK (WV hb h0 ?_);rw[show(i:Int).toNat=i from Hq i,show(ep:Int).toNat=ep from Hq ep,hx];dsimp-iota only[Option.map];refine AK (Mr it (by simp) λh1 i1 b1=>AK (Mr i1 (by simp) λh2 i2 b2=>Ae ⟨_,Z,Ae (h h2 ?_ (b1.trans b2))⟩));simpa[DE,tR] using i2
def iW{Q:Option AB->Ya->Prop}(hh:A.handled=J)(hb:DW w=Y)(it:DE s.heap I (.int 0 0) i es.size ep a)(sa:Fq s.heap a o es ep t)
 (hx:(pickOrder (w.params.setOrder a ep) es)[i]? =J)(h:∀h',Heap.ExtBut I s.heap h'->Q J {s with heap:=h'}):ax (Yf prog w) A (tH (.ref I)) Q E s:=by
 have h0:=sa;delta tH;refine AK (KO (LH (name:=Str.ofString "__next__") it.typeIs FK (Ib FK it.typeIs LU ?_ (LX _))));obtain⟨ho,h1,hd,hf⟩:=sa;delta Builtin.«set_iterator.__next__» uK;simp-iota only[LO,JV,CP,↓reduceIte,bind_assoc,Ht,EJ];refine AK (Ae ?_);refine AK (tQ it Z ?_);dsimp only;refine AK (LL ho hd hf ?_);simp-iota only[EJ,CP,↓reduceIte];refine AK (WV hb h0 ?_);rw[show(i:Int).toNat=i from Hq i,show(ep:Int).toNat=ep from Hq ep,hx];exact TM hh it h
def nY{sl:Nat}{Q:Option AB->Ya->Prop}{x:Int×AB}(hb:DW w=vc)(it:DE s.heap I (.int sl 0) i es.size ep a)(sa:Fq s.heap a o es ep t)(hn:es.size<=1)(hl:t.led=Y)
 (hx:es[SetTable.below t.place sl]? =U x)(hj:t.place[SetTable.below t.place sl]? =U j)(h:∀h',DE h' I (.int (j+1:Nat) 0) (i+1) es.size ep a->Heap.SameBut I s.heap h'->Q (U x.2) {s with heap:=h'}):ax (Yf prog w) A (tH (.ref I)) Q E s:=by
 have h0:=sa;delta tH;refine AK (KO (LH (name:=Str.ofString "__next__") it.typeIs FK (Ib FK it.typeIs LU ?_ (LX _))));obtain⟨ho,h3,hd,hf⟩:=sa;delta Builtin.«set_iterator.__next__» uK;simp-iota only[LO,JV,CP,↓reduceIte,bind_assoc,Ht,EJ];refine AK (Ae ?_);refine AK (tQ it Z ?_);dsimp only;refine AK (LL ho hd hf ?_);simp-iota only[EJ,CP,↓reduceIte];refine AK (XW hb h0 hn hl ?_);rw[show(sl:Int).toNat=sl from Hq sl,hx,hj];dsimp only;refine AK (Mr it (by simp) λh1 i1 b1=>AK (Mr i1 (by simp) λh2 i2 b2=>Ae ⟨_,Z,Ae (h h2 ?_ (b1.trans b2))⟩));simpa[DE,tR] using i2
def jg{sl:Nat}{Q:Option AB->Ya->Prop}(hh:A.handled=J)(hb:DW w=vc)(it:DE s.heap I (.int sl 0) i es.size ep a)(sa:Fq s.heap a o es ep t)(hn:es.size<=1)(hl:t.led=Y)
 (hx:es[SetTable.below t.place sl]? =J)(h:∀h',Heap.ExtBut I s.heap h'->Q J {s with heap:=h'}):ax (Yf prog w) A (tH (.ref I)) Q E s:=by
 have h0:=sa;delta tH;refine AK (KO (LH (name:=Str.ofString "__next__") it.typeIs FK (Ib FK it.typeIs LU ?_ (LX _))));obtain⟨ho,h1,hd,hf⟩:=sa;delta Builtin.«set_iterator.__next__» uK;simp-iota only[LO,JV,CP,↓reduceIte,bind_assoc,Ht,EJ];refine AK (Ae ?_);refine AK (tQ it Z ?_);dsimp only;refine AK (LL ho hd hf ?_);simp-iota only[EJ,CP,↓reduceIte];refine AK (XW hb h0 hn hl ?_);rw[show(sl:Int).toNat=sl from Hq sl,hx];exact TM hh it h
def kA{T:OK}{ps:List Nat}{Q:Option AB->Ya->Prop}{x:Int×AB}{p:Nat}(it:DE s.heap I (.ref T) i es.size ep a)(sa:Fq s.heap a o es ep t)(hT:s.heap.IsTuple T (ps.map λp:Nat=>tR p).toArray)
 (hp:ps[i]? =U p)(hx:es[p]? =U x)(h:∀h',DE h' I (.ref T) (i+1) es.size ep a->Heap.SameBut I s.heap h'->Q (U x.2) {s with heap:=h'}):ax (Yf prog w) A (tH (.ref I)) Q E s:=by
 have h3:=sa;delta tH;refine AK (KO (LH (name:=Str.ofString "__next__") it.typeIs FK (Ib FK it.typeIs LU ?_ (LX _))));obtain⟨ho,h4,hd,hf⟩:=sa;delta Builtin.«set_iterator.__next__» uK;simp-iota only[LO,JV,CP,↓reduceIte,bind_assoc,Ht,EJ];refine AK (Ae ?_);refine AK (tQ it Z ?_);dsimp only;refine AK (LL ho hd hf ?_);simp-iota only[EJ,CP,↓reduceIte];obtain⟨oT,h0,_,nT,h2⟩:=hT;refine AK (wpAny_seqItems h0 h2 ?_);have e:((ps.map λp:Nat=>tR p).toArray)[(i:Int).toNat]? =U (.int p 0):=by rw[Hq,Vc,A1,hp];rfl
 dsimp only;rw[e];dsimp only;refine AK ?_;delta setNextDrawn;refine AK (Mx ho hd hf ?_);dsimp only;simp-iota only[Hq,EJ,CP,Bx];rw[hx];refine Ae ?_;refine AK (Mr it (by simp) λh1 i1 b1=>Ae ⟨_,Z,Ae (h h1 ?_ b1)⟩);simpa[DE,tR] using i1
def iG{T:OK}{ps:List Nat}{Q:Option AB->Ya->Prop}(hh:A.handled=J)(it:DE s.heap I (.ref T) i es.size ep a)(sa:Fq s.heap a o es ep t)(hT:s.heap.IsTuple T (ps.map λp:Nat=>tR p).toArray)
 (hp:ps[i]? =J)(h:∀h',Heap.ExtBut I s.heap h'->Q J {s with heap:=h'}):ax (Yf prog w) A (tH (.ref I)) Q E s:=by
 have h4:=sa;delta tH;refine AK (KO (LH (name:=Str.ofString "__next__") it.typeIs FK (Ib FK it.typeIs LU ?_ (LX _))));obtain⟨ho,h5,hd,hf⟩:=sa;delta Builtin.«set_iterator.__next__» uK;simp-iota only[LO,JV,CP,↓reduceIte,bind_assoc,Ht,EJ];refine AK (Ae ?_);refine AK (tQ it Z ?_);dsimp only;refine AK (LL ho hd hf ?_);simp-iota only[EJ,CP,↓reduceIte];obtain⟨oT,h2,_,nT,h3⟩:=hT;refine AK (wpAny_seqItems h2 h3 ?_);have e:((ps.map λp:Nat=>tR p).toArray)[(i:Int).toNat]? =J:=by rw[Hq,Vc,A1,hp];rfl
 dsimp only;rw[e];dsimp only;refine AK (Mr it (by simp) λh1 i1 b1=>?_);have h0:DE h1 I (.int 0 0) i es.size ep a:=by simpa[DE,tR] using i1
 exact TM (s:={s with heap:=h1}) hh h0 λh' e'=>h h' (b1.extBut.trans e')
theorem Ww{α:Type}(next:Nat->Nat):∀(f k:Nat)(l:List α)(out:Array α),f=l.length->(pickOrder.go next f k l out).toList.Perm (out.toList++l)
 |0,k,l,out,h=>by have:l=[]:=Oe.mp h.symm;subst this;unfold pickOrder.go;simp
 |f+1,k,l,out,h=>by
  have hi:next k%l.length<l.length:=Nat.mod_lt _ (by lia)
  unfold pickOrder.go;rw[Ar hi];dsimp only;refine(Ww next f (k+1) _ _ (by rw[List.length_eraseIdx_of_lt hi];lia)).trans ?_;rw[M3,Bt];exact RH _ (SG l _ hi)
def S5(next:Nat->Nat)(xs:Array α):(pickOrder next xs).toList.Perm xs.toList:=by
 have:=Ww next xs.size 0 xs.toList #[] (by simp)
 simpa[pickOrder] using this
def T3(j:Nat):SetTable.below #[j] 0=0/\SetTable.below #[j] (j+1)=1:=by
 constructor
 .simp[SetTable.below,SetTable.below.go]
 .simp[SetTable.below,SetTable.below.go]
def DE.keep{f:AB}(x:DE h I f i n ep a)(e:∀o,h.get? I=U o->h'.get? I=U o):DE h' I f i n ep a:=e _ x
def Fq.keep(x:Fq h a o es ep t)(e:∀o,h.get? a=U o->h'.get? a=U o):Fq h' a o es ep t:=⟨e _ x.1,x.2⟩
structure N2(prog:sY)(w:si)(A:tU)(I:OK)(fp:List OK)(vs:List AB)(St:Nat->sf->Prop):Prop where
 Qo:I∈fp
 frame:∀i h h',St i h->(∀b∈fp,∀o,h.get? b=U o->h'.get? b=U o)->St i h'
 item:∀i (s:Ya)(Q:Option AB->Ya->Prop)(E:AB->Ya->Prop) v,vs[i]? =U v->St i s.heap->(∀h',St (i+1) h'->(∀b o,b≠I->s.heap.get? b=U o->h'.get? b=U o)->Q (U v) {s with heap:=h'})->ax (Yf prog w) A (tH (.ref I)) Q E s
 done:∀(s:Ya)(Q:Option AB->Ya->Prop)(E:AB->Ya->Prop),St vs.length s.heap->(∀h',(∀b o,b≠I->s.heap.get? b=U o->h'.get? b=U o)->Q J {s with heap:=h'})->ax (Yf prog w) A (tH (.ref I)) Q E s
def fG(hh:A.handled=J)(hb:DW w=Y)(I a:OK)(hne:a≠I)(o:Obj)(es:Array (Int×AB))(ep:Nat)(t:SetTable):
 N2 prog w A I [I,a] ((pickOrder (w.params.setOrder a ep) es).toList.map (·.2)) (λi h=>DE h I (.int 0 0) i es.size ep a/\Fq h a o es ep t) where
 Qo:=by simp
 frame:=λi h h' st hk=>⟨st.1.keep λo e=>hk I (by simp) o e,st.2.keep λo e=>hk a (by simp) o e⟩
 item:=λi s Q E v hv st hQ=>by
  rw[A1,HE] at hv
  cases e:(pickOrder (w.params.setOrder a ep) es)[i]?with
  |none=>rw[e] at hv;cases hv
  |some x=>rw[e] at hv;cases AZ hv;exact kL hb st.1 st.2 e λh' i' b'=>hQ h' ⟨i',st.2.keep λo e=>b'.extBut a o hne e⟩ λb o hn e=>b'.extBut b o hn e
 done:=λs Q E st hQ=>by
  have hl:((pickOrder (w.params.setOrder a ep) es).toList.map (·.2)).length=es.size:=by rw[AI,(S5 _ es).length_eq,FH]
  rw[hl] at st;refine iW hh hb st.1 st.2 ?_ λh' e'=>hQ h' λb o hn e=>e' b o hn e;rw[<-HE];exact HD (by rw[(S5 _ es).length_eq,FH];exact Ac _)
def iB(hh:A.handled=J)(hb:DW w=vc)(I a:OK)(hne:a≠I)(o:Obj)(es:Array (Int×AB))(ep:Nat)(t:SetTable)(hn:es.size<=1)(hl:t.led=Y)(hf:t.fits es.size=Y):
 N2 prog w A I [I,a] (es.toList.map (·.2)) (λi h=>DE h I (.int (if i=0 then 0 else t.place.getD 0 0+1:Nat) 0) i es.size ep a/\Fq h a o es ep t) where
 Qo:=by simp
 frame:=λi h h' st hk=>⟨st.1.keep λo e=>hk I (by simp) o e,st.2.keep λo e=>hk a (by simp) o e⟩
 item:=λi s Q E v hv st hQ=>by
  have h4:t.place.size=es.size:=by simp only[SetTable.fits,Ft,Fw] at hf;exact hf.1
  have hi:i=0/\es.size=1:=by
   have:=(BP.mp hv).1;simp at this
   lia
  obtain⟨rfl,h1⟩:=hi;obtain⟨j,hj⟩:∃j,t.place= #[j]:=by obtain⟨j,hj⟩:=List.length_eq_one_iff.mp (show t.place.toList.length=1 by simp;lia);exact⟨j,KH.mp (by rw[hj])⟩
  have hx:es[0]? =U (es[0]'(by lia)):=Gd .. ;have h3:v=(es[0]'(by lia)).2:=by rw[A1,HE,hx] at hv;exact(AZ hv).symm
  subst h3;have h2:=st.1;rw[AG Z] at h2;refine nY (sl:=0) (j:=j) hb h2 st.2 hn hl (by rw[hj,(T3 j).1];exact hx) (by rw[hj,(T3 j).1];rfl) λh' i' b'=>hQ h' ⟨?_,st.2.keep λo e=>b'.extBut a o hne e⟩ λb o hn e=>b'.extBut b o hn e;rw[AF (by lia),hj];exact i'
 done:=λs Q E st hQ=>by
  have h4:t.place.size=es.size:=by simp only[SetTable.fits,Ft,Fw] at hf;exact hf.1
  rw[AI,FH] at st;refine jg hh hb st.1 st.2 hn hl ?_ λh' e'=>hQ h' λb o hn e=>e' b o hn e;by_cases h0:es.size=0
  .exact getElem?_neg es _ (by lia)
  .obtain⟨j,hj⟩:∃j,t.place= #[j]:=by obtain⟨j,hj⟩:=List.length_eq_one_iff.mp (show t.place.toList.length=1 by simp;lia);exact⟨j,KH.mp (by rw[hj])⟩
   rw[AF h0,hj];show es[SetTable.below #[j] (j+1)]? =J;rw[(T3 j).2];exact getElem?_neg es _ (by lia)
def fN(hh:A.handled=J)(I a T:OK)(hne:a≠I)(hnT:T≠I)(o:Obj)(es:Array (Int×AB))(ep:Nat)(t:SetTable)(ps:List Nat)(hp:ps.Perm (List.range es.size)):
 N2 prog w A I [I,a,T] (ps.map λp=>(es.getD p (0,Value.none)).2) (λi h=>DE h I (.ref T) i es.size ep a/\Fq h a o es ep t/\h.IsTuple T (ps.map λp:Nat=>tR p).toArray) where
 Qo:=by simp
 frame:=λi h h' st hk=>⟨st.1.keep λo e=>hk I (by simp) o e,st.2.1.keep λo e=>hk a (by simp) o e,by obtain⟨oT,x,r⟩:=st.2.2;exact⟨oT,hk T (by simp) _ x,r⟩⟩
 item:=λi s Q E v hv st hQ=>by
  rw[A1] at hv
  cases e:ps[i]?with
  |none=>rw[e] at hv;cases hv
  |some p=>
   rw[e] at hv;cases AZ hv;have h0:p<es.size:=Hu.mp (hp.mem_iff.mp (Bv e));have ex:es[p]? =U (es.getD p (0,Value.none)):=by rw[G9,Gd es p h0];rfl
   refine kA st.1 st.2.1 st.2.2 e ex λh' i' b'=>hQ h' ⟨i',st.2.1.keep λo e=>b'.extBut a o hne e,?_⟩ λb o hn e=>b'.extBut b o hn e;exact st.2.2.extBut b'.extBut hnT
 done:=λs Q E st hQ=>by rw[AI] at st;exact iG hh st.1 st.2.1 st.2.2 (HD (Ac _)) λh' e'=>hQ h' λb o hn e=>e' b o hn e
def oF(hh:A.handled=J)(hS:Ep prog w s.heap a zs)
 (h:∀(I:OK)(fp:List OK)(vs:List AB)(St:Nat->sf->Prop) h' d,(∀(B:tU),B.handled=J->N2 prog w B I fp vs St)->St 0 h'->(∀b o,s.heap.get? b=U o->h'.get? b=U o)->(∀b∈fp,b=a\/s.heap.objs.size<=b)->(∀v∈vs,∃z t,v=.str z t)->(vs.map tx).Perm zs->vs.length<=4096->
  s.heap.objs.size<=I->Q (.ref I) {s with heap:=h',drawn:=d}):ax (Yf prog w) A (pyIter (.ref a)) Q E s:=by
 obtain⟨o,es,ep,t,ho,h0,hd,h6,hm,h9,hb,hf,hl,hp⟩:=hS;have hT:s.TypeIs (.ref a) "set" :=⟨o,ho,h0.1⟩;have h3:=A7 ho;have h8:es.size=zs.length:=by rw[<-hm.length_eq,AI,FH]
 have h1:∀e∈es.toList,∃z t,e.2=.str z t:=λe he=>by obtain⟨⟨k,hk,_⟩,_⟩:=h6 e he;obtain⟨t,ht⟩:=UX hk;exact⟨k,t,ht⟩
 refine wpAny_pyIter_slot hT vU (Ib vU hT cw ?_ (PySem.F.args_set_iter_1 _));delta Builtin.«frozenset.__iter__» Builtin.Frozenset.slot0 uK;simp only[LO,JV,CP,↓reduceIte,bind_assoc,Ht,EJ];delta Builtin.Frozenset.addrOf Builtin.Frozenset.sizeOf;refine AK (Ae ?_);try dsimp only
 refine AK (Ae ?_);refine AK (AK (LL ho hd hf (Ae ?_)));delta setDrawn;refine AK (AK (Mx ho hd hf ?_));dsimp only;refine AK (Pn (Ae ?_));show ax _ _ (if(!DW w&&(!t.plain&&decide (es.size>1)))=Y then _ else _) _ _ _;have h4:es.size<=4096:=by have:tO=4096:=Z;lia
 by_cases c:(!DW w&&(!t.plain&&decide (es.size>1)))=Y
 .rw[AG c];refine AK (WZ _ _ _ _ (by simp) λps d pp=>?_);have lp:ps.length=es.size:=by rw[pp.length_eq,Mz]
  refine AK (wpAny_newTuple ?_ (by rw[AI,BA];lia));have h2:=BD {cls:=.type "tuple",data:=.seq (List.map (λi:Nat=>tR i) ps).toArray} ho;refine AK (wpAny_setEpoch_of (s:={s with heap:=s.heap.push _,drawn:=d}) h2 hd hf ?_);have z1:(s.heap.push {cls:=.type "tuple",data:=.seq (List.map (λi:Nat=>tR i) ps).toArray}).objs.size=s.heap.objs.size+1:=by rw[HI]
  refine AK (Ia (Ae ⟨_,Z,"set_iterator",_,⟨_,CG _ Z,Z⟩,FK.lookup,?_⟩));have ev:(es.toList.map (·.2))=(List.range es.size).map λp=>(es.getD p (0,Value.none)).2:=by
   apply LN;intro k;rw[A1,A1,HE];by_cases hk:k<es.size
   .rw[Vl hk,Gd es k hk];simp[G9,hk]
   .rw[getElem?_neg es k hk,HD (by simp;lia)];rfl
  have pv:(ps.map λp=>(es.getD p (0,Value.none)).2).Perm (es.toList.map (·.2)):=by rw[ev];exact pp.map _
  refine h _ [_,a,s.heap.objs.size] (ps.map λp=>(es.getD p (0,Value.none)).2) _ _ d (λB hB=>fN hB _ a s.heap.objs.size (by rw[z1];exact BS (Ox h3)) (by rw[z1];exact BS (M5 _)) o es ep t ps pp)
   ⟨CG _ Z,⟨BD _ h2,h0,hd,hf⟩,⟨_,BD _ (CG _ Z),Z,0,Z⟩⟩
   (λb o e=>BD _ (BD _ e)) (λb hb=>?_) (λv hv=>?_) ?_ (by rw[AI];lia) (by rw[z1];exact E2 _)
  .rcases BM.mp hb with e|hb
   .exact .inr (by rw[e,z1];exact E2 _)
   .rcases BM.mp hb with e|hb
    .exact .inl e
    .exact .inr (by rw[BW.mp hb];exact Ac _)
  .obtain⟨e,he,rfl⟩:=Aw.mp (pv.mem_iff.mp hv);exact h1 e he
  .refine(pv.map tx).trans ?_;rw[Bf];exact hm
 .rw[AF c];refine AK (Ae (AK (wpAny_setEpoch_of ho hd hf ?_)));refine AK (Ia (Ae ⟨_,Z,"set_iterator",_,⟨_,CG _ Z,Z⟩,FK.lookup,?_⟩));have ne:a≠s.heap.objs.size:=BS h3;have h5:∀b∈[s.heap.objs.size,a],b=a\/s.heap.objs.size<=b:=λb hb=>by
   rcases BM.mp hb with e|hb
   .exact .inr (by rw[e];exact Ac _)
   .exact .inl (BW.mp hb)
  have e0:s={s with heap:=s.heap}:=by cases s;rfl
  cases eb:DW w with
  |true=>
   have pv:((pickOrder (w.params.setOrder a ep) es).toList.map (·.2)).Perm (es.toList.map (·.2)):=(S5 _ es).map _;refine h _ [s.heap.objs.size,a] _ _ _ s.drawn (λB hB=>fG hB eb _ a ne o es ep t) ⟨CG _ Z,BD _ ho,h0,hd,hf⟩ (λb o e=>BD _ e) h5 (λv hv=>?_) ?_ (by rw[pv.length_eq,AI];simp;exact h4) (Ac _)
   .obtain⟨e,he,rfl⟩:=Aw.mp (pv.mem_iff.mp hv);exact h1 e he
   .refine(pv.map tx).trans ?_;rw[Bf];exact hm
  |false=>
   have h7:es.size<=1:=by
    rw[eb] at c;rcases hp with z|z
    .lia
    .rw[z] at c;simp at c
     lia
   rw[eb] at hl;refine h _ [s.heap.objs.size,a] _ _ _ s.drawn (λB hB=>iB hB eb _ a ne o es ep t h7 hl hf) ⟨CG _ Z,BD _ ho,h0,hd,hf⟩ (λb o e=>BD _ e) h5 (λv hv=>?_) ?_ (by rw[AI];simp;exact h4) (Ac _)
   .obtain⟨e,he,rfl⟩:=Aw.mp hv;exact h1 e he
   .rw[Bf];exact hm
def ik{vs:List AB}{St:Nat->sf->Prop}(W:N2 prog w A.in1 I fp vs St)(hn:vs.length<=sizeLine)(vj:OK)(hSf:vj∉fp)(res:AB):
 ∀(k i:Nat)(s:Ya)(acc:Array AB)(c:Nat),vs.length-i=k->i<=vs.length->St i s.heap->s.heap.get? vj=U {cls:=.type "list",dict:=J,data:=.seq acc c,slots:= #[]}->acc.toList=vs.take i->
 (∀h' c',(∀b o,b≠vj->b≠I->s.heap.get? b=U o->h'.get? b=U o)->h'.get? vj=U {cls:=.type "list",dict:=J,data:=.seq vs.toArray c',slots:= #[]}->R (.ok (.ret res)) {s with heap:=h'})->
 tS (Yf prog w) A (.builtin "list.extend.loop" ⟨[.ref vj,.ref I,res],[]⟩) R s:=by
 have e0:vj≠I:=λe=>hSf (e▸W.Qo);intro k
 induction k with
 |zero=>
  intro i s acc c hk hi h4 hS h0 hR;have e2:i=vs.length:=by lia
  subst e2;refine KI vV ?_;rw[Oo OZ _];show ax _ A.in1 (tH (.ref I)>>=_) _ _ s;refine AK (W.done s _ _ h4 λh' hm=>?_);have ea:acc=vs.toArray:=KH.mp (by rw[h0,CH]);exact Ae (hR h' c (λb o _ hb e=>hm b o hb e) (by rw[<-ea];exact hm vj _ e0 hS))
 |succ k ih=>
  intro i s acc c hk hi h4 hS h0 hR;have h1:i<vs.length:=by lia
  have h7:acc.size=i:=by rw[<-FH,h0,Bk];lia
  refine KI vV ?_;rw[Oo OZ _];show ax _ A.in1 (tH (.ref I)>>=_) _ _ s;refine AK (W.item i s _ _ _ (Ar h1) h4 λh' h3 hm=>?_);have e1:=hm vj _ e0 hS;show ax _ A.in1 (updateSeq vj (·.push (vs[i]'h1))>>=_) _ _ _;refine AK ?_;refine uk (s:={s with heap:=h'}) e1 Z (Ae ⟨O9 OZ _,ih (i+1) _ (acc.push (vs[i]'h1)) _ (by lia) h1 (W.frame _ h' _ h3 λb hb o e=>?_) (JN _ e1 Z) ?_ λh2 c' h5 h6=>?_⟩)
   (by rw[h7];lia) (by show(acc.push (vs[i]'h1)).size<=sizeLine+1;rw[Array.size_push,h7];lia)
  .exact(EH _ _ (λh:vj=b=>hSf (by rw[h];exact hb))).trans e
  .rw[M3,h0,List.take_succ,Ar h1];rfl
  .exact hR h2 c' (λb o h9 h8 e=>h5 b o h9 h8 ((EH _ _ (DI h9)).trans (hm b o h8 e))) h6
def jO{r:OK}{Q:Bool->Ya->Prop}(hT:s.TypeIs (.ref r) "set")(h:Q vc s):ax (Yf prog w) A (Builtin.List.listLengthHint (.ref r)) Q E s:=by
 delta Builtin.List.listLengthHint;refine AK (wpAny_specialOf hT PySem.F.slot_set_len.lookup ?_);generalize h1:("set.__len__" :String)=h2
 wp_delta
 rw[show splitId h2=U ("set","__len__") from by subst h1;decide+kernel];subst h1;refine AK (wpAny_isInstance (T:="set") (b:=Y) hT sub_set_self ?_);refine um (λh0=>absurd h0 (by decide)) (λ_=>?_);refine um (λ_=>?_) (λh0=>absurd (by left) h0);refine AK (uT hT ?_);exact Ae h
def gF{Q:List AB->Ya->Prop}(hh:A.handled=J)(hS:Ep prog w s.heap a zs)
 (h:∀vs h' d,(∀v∈vs,∃z t,v=.str z t)->(vs.map tx).Perm zs->(∀b o,s.heap.get? b=U o->h'.get? b=U o)->s.heap.objs.size<h'.objs.size->Q vs {s with heap:=h',drawn:=d}):ax (Yf prog w) A (collect (.ref a)) Q E s:=by
 have hT:∀(x:Ya),(∀b o,s.heap.get? b=U o->x.heap.get? b=U o)->x.TypeIs (.ref a) "set" :=λx e=>by obtain⟨o,es,ep,t,ho,e5,_⟩:=hS;exact⟨o,e _ _ ho,e5.1⟩
 have h7:a<s.heap.objs.size:=by obtain⟨o,es,ep,t,ho,_⟩:=hS;exact A7 ho
 delta collect;refine AK (wpAny_runValue (KI entry_proto_collect' ?_));show ax _ _ (do again (.builtin "list.__iadd__" ⟨[<-newList [],.ref a],[]⟩)) _ _ s;refine AK (vD (Ae ⟨RT _ (by left),KI entry_list_iadd' ?_⟩));show ax _ _ (Builtin.List.listExtendWith (.ref s.heap.objs.size) (.ref a) (.ref s.heap.objs.size)) _ _ {s with heap:=s.heap.push (tG "list" #[] 0)};generalize e0:s.heap.push (tG "list" #[] 0)=h0;have e1:h0.get? s.heap.objs.size=U (tG "list" #[] 0):=by rw[<-e0];exact CG _ Z
 have k0:∀b o,s.heap.get? b=U o->h0.get? b=U o:=λb o e=>by rw[<-e0];exact BD _ e
 have z0:s.heap.objs.size<h0.objs.size:=A7 e1;delta Builtin.List.listExtendWith;refine AK (uT (T:="set") (hT {s with heap:=h0} k0) ?_);have h1:Builtin.List.listSameRef (.ref s.heap.objs.size) (.ref a)=vc:=by simp[Builtin.List.listSameRef,Fu h7]
 have t1:(Value.type "set" ==Value.type "list")=vc:=by decide
 have t2:(Value.type "set" ==Value.type "tuple")=vc:=by decide
 simp-iota only[h1,t1,t2,Bool.or_false,CP,Bx];refine AK (oF (s:={s with heap:=h0}) (zs:=zs) hh (hS.at λo e=>k0 a o e) λI fp vs St h' d W st keep e4 e2 pm h4 hI=>?_);have h9:s.heap.objs.size∉fp:=λhm=>by
  rcases e4 _ hm with e|e
  .exact absurd e (Fu h7)
  .exact absurd z0 (PU.mpr e)
 have h5:=keep _ _ e1;have done:∀h2 c',(∀b o,b≠s.heap.objs.size->b≠I->h'.get? b=U o->h2.get? b=U o)->h2.get? s.heap.objs.size=U {cls:=.type "list",dict:=J,data:=.seq vs.toArray c',slots:= #[]}->
  ax (Yf prog w) A (do
   let o<-load s.heap.objs.size
   match o.data with
   |.seq xs _=>pure xs.toList
   |_=>uA "internal:collect") Q E {s with heap:=h2,drawn:=d}:=λh2 c' k2 h3=>by
  refine AK (wpAny_load h3 (Ae ?_));refine h _ h2 d (by simpa using e2) (by simpa using pm) (λb o e=>?_) (A7 h3);have hb:=A7 e;exact k2 b o (BS hb) (λz=>absurd (z▸hb) (PU.mpr (Ge (C7 z0 hI)))) (keep b o (k0 b o e))
 have n4:vs.length<=sizeLine:=by rw[BA];lia
 refine AK (Gb (jO (hT {s with heap:=h',drawn:=d} λb o e=>keep b o (k0 b o e)) ?_));have h6:∀(h1:sf)(c1:Nat),St 0 h1->(∀b o,b≠s.heap.objs.size->h'.get? b=U o->h1.get? b=U o)->h1.get? s.heap.objs.size=U {cls:=.type "list",data:=.seq #[] c1}->
  tS (Yf prog w) A (.builtin "list.extend.loop" ⟨[.ref s.heap.objs.size,.ref I,.ref s.heap.objs.size],[]⟩) (wants (λv s'=>ax (Yf prog w) A (match v with
   |.ref a=>do
    let o<-load a
    match o.data with
    |.seq xs _=>pure xs.toList
    |_=>uA "internal:collect"
   |_=>uA "internal:collect") Q E s') E) {s with heap:=h1,drawn:=d}:=λh1 c1 e3 k1 h5=>
  ik (W A.in1 hh) n4 _ h9 _ vs.length 0 _ #[] c1 (by lia) (CB _) e3 h5 (by simp) λh2 c' k2 h3=>done h2 c' (λb o b1 b2 e=>k2 b o b1 b2 (k1 b o b1 e)) h3;refine um (λ_=>?_) (λ_=>Ae ⟨O9 OZ _,h6 _ 0 st (λb o _ e=>e) h5⟩);refine AK (Hy ?_);refine AK ?_;show ax _ _ (updateSeq s.heap.objs.size (·.push .none)>>=λ_=>updateSeq s.heap.objs.size (·.pop)) _ _ _;refine AK (uk (s:={s with heap:=h',drawn:=d}) h5 Z ?_);have h3:=JN (Obj.mapSeq (·.push Value.none)) h5 Z;refine uk (hz:=by seq_fits) h3 Z ?_;have e6:=JN (Obj.mapSeq (·.pop)) h3 Z;refine Ae ⟨O9 OZ _,h6 _ _ ?_ (λb o hb e=>?_) e6⟩
 .refine(W A hh).frame 0 _ _ st λb hb o e=>?_;have h8:b≠s.heap.objs.size:=λh=>h9 (h▸hb);exact(EH _ _ (DI h8)).trans ((EH _ _ (DI h8)).trans e)
 .exact(EH _ _ (DI hb)).trans ((EH _ _ (DI hb)).trans e)
end
section
open PySem.W
def ig{f:α->β}{a b:List β}(h:a.Perm b):∀l:List α,b=l.map f->∃l':List α,l'.Perm l/\a=l'.map f:=by
 induction h with
 |nil=>intro l e;exact⟨[],by rw[List.map_eq_nil_iff.mp e.symm],Z⟩
 |cons x _ ih=>
  intro l e
  match l,e with
  |y::l,e=>obtain⟨e1,e2⟩:=Hw e;obtain⟨l',p,q⟩:=ih l e2;exact⟨y::l',p.cons y,by rw[Au,<-q,<-e1]⟩
 |swap x y t=>
  intro l e
  match l,e with
  |u::v::l,e=>obtain⟨e1,e2⟩:=Hw e;obtain⟨e3,e4⟩:=Hw e2;exact⟨v::u::l,List.Perm.swap ..,by rw[Au,Au,<-e1,<-e3,<-e4]⟩
 |trans _ _ ih1 ih2=>intro l e;obtain⟨l1,p1,q1⟩:=ih2 l e;obtain⟨l2,p2,q2⟩:=ih1 l1 q1;exact⟨l2,p2.trans p1,q2⟩
def iN(vs:List AB):vs=(List.range vs.length).map λi=>vs.getD i Value.none:=by
 apply LN;intro k;rw[A1];by_cases hk:k<vs.length
 .rw[Vl hk,Ar hk];simp[hk]
 .rw[HD (by lia),HD (by simp;lia)];rfl
open Classical in
noncomputable def OC(vs:List AB)(r:Nat->Nat)(x:bt):Nat:=if h:∃i,i<vs.length/\vs.getD i Value.none=x.1 then r (Classical.choose h) else 0
def S8{vs:List AB}{r:Nat->Nat}(hr:∀i j,i<vs.length->j<vs.length->vs.getD i Value.none=vs.getD j Value.none->r i=r j){x:bt}(hi:i<vs.length)(e:vs.getD i Value.none=x.1):OC vs r x=r i:=by have h:∃i,i<vs.length/\vs.getD i Value.none=x.1:=⟨i,hi,e⟩;delta OC;rw[dif_pos h];have:=Classical.choose_spec h;exact hr _ _ this.1 hi (this.2.trans e.symm)
def So{vs:List AB}{x:bt}(h:x∈(vs.toArray.zip vs.toArray).toList):∃i,i<vs.length/\vs.getD i Value.none=x.1/\x.1=x.2:=by
 have h':x∈vs.zip vs:=by simpa using h
 obtain⟨i,hi,e⟩:=GY.mp h';have hl:i<vs.length:=by simpa using hi
 rw[List.getElem_zip] at e;refine⟨i,hl,?_,by rw[<-e]⟩;rw[C3,Ar hl,<-e];rfl
def iM{vs:List AB}{P:PySem.Fin->Ya->Prop}(r:Nat->Nat)(ho:s.heap.get? a=U (tG "list" vs.toArray n))(hle:vs.length<=sizeLine)
 (hr:∀i j,i<vs.length->j<vs.length->vs.getD i Value.none=vs.getD j Value.none->r i=r j)
 (hk:2<=vs.length->OJ prog w A vs r {s with heap:=Lr s.heap a vs})
 (h:∀p:List Nat,p.Perm (List.range vs.length)->(∀i j,i<=j->j<vs.length->r (p.getD i 0)<=r (p.getD j 0))->P (.done (.ret .none)) {s with heap:=sortedHeap s.heap a vs (F6 vs p).toArray}):
 ax (Yf prog w) A (Builtin.«list.sort» ⟨[.ref a],[]⟩) P E s:=by
 have lta:a<s.heap.objs.size:=A7 ho;rw[list_sort_plain];refine AK (listItems_at ho Z (AK (vF ho Z ?_ (by rw[Cg];lia) (CB _))));obtain⟨e1,h1⟩:∃e1,(s.heap.update a (Obj.mapSeq λ_=>(#[]:Array AB))).get? a=U (tG "list" #[] e1):=⟨_,uo ho λ_=> #[]⟩;refine AK (seqEpoch_at h1 Z (AK (wpAny_newTuple (AK (vD (Gb ?_) (CB _))) (by show vs.length<=_;lia))));have h6:(Lr s.heap a vs).get? a=U (tG "list" #[] e1):=by delta Lr;rw[Heap.get?_push_ne _ _ _ (by rw[uv,Rk];exact BS (Ox lta)),Heap.get?_push_ne _ _ _ (by rw[Rk];exact BS lta)];exact h1
 show ax (Yf prog w) A _ P E {s with heap:=Lr s.heap a vs};dsimp only;by_cases h2:vs.toArray.size<2
 .rw[AG h2,AG h2];refine AK (Ae ?_);rw[StateT.run_pure];refine AK (Ae ?_);dsimp only;have hn:vs.length<2:=by simpa using h2
  have e0:Array.map (·.2) (dA (SortSt.mk' general' (vs.toArray.zip vs.toArray) #[] 7 J))=(F6 vs (List.range vs.length)).toArray:=by show Array.map (·.2) (vs.toArray.zip vs.toArray)=_;exact oP (C:=λvs:List AB=>Array.map (·.2) (vs.toArray.zip vs.toArray)=(F6 vs (List.range vs.length)).toArray) (by simp[F6]) (λ_=>by apply KH.mp;simp[F6]) hn
  rw[e0];refine AK (seqEpoch_at h6 Z (AK (vF h6 Z ?_ (CB _) (by delta F6;simp;lia))));simp only[EJ,CP,Bx];exact Ae (h (List.range vs.length) (.refl _) λi j hij hj=>by
   have e:i=j:=by lia
   rw[e];exact Ac _)
 .have h2':2<=vs.length:=by
   have:¬vs.length<2:=by simpa using h2
   lia
  rw[AF h2,AF h2];refine AK (DA (hk h2') (λκ s' hκ=>?_) λ_ _ x=>x.elim);obtain⟨es,ask⟩:=hκ;subst es;have hzz:(vs.toArray.zip vs.toArray).size=vs.length:=by simp
  have hc:C5 prog w A {s with heap:=Lr s.heap a vs} κ (OC vs r) (vs.toArray.zip vs.toArray):=λx y hx hy C hC=>by
   obtain⟨i,hi,ei,_⟩:=So hx;obtain⟨j,hj,ej,_⟩:=So hy;have:=ask i j C hi hj (by delta Q6;rw[<-S8 hr hi ei,<-S8 hr hj ej];exact hC);unfold kas_ask at this;rw[ei,ej] at this;exact this
  refine AK (DA (mT (st:=SortSt.mk' κ (vs.toArray.zip vs.toArray) #[] 7 J) (Q:=λ_ st'=>(dA st').Perm (vs.toArray.zip vs.toArray)/\tD st'=J/\Up (OC vs r) (dA st') 0 (vs.toArray.zip vs.toArray).size) hc Z Z Z Z (by lia) λst' a1 a2 a3=>⟨a1,a2,a3⟩) ?_ λ_ _ e=>e);rintro⟨⟨⟩,st'⟩ s' ⟨rfl,pm,hf,up⟩;dsimp only at pm hf up⊢;have pl:=Mf.mp pm;have inx:∀x∈(dA st').toList,∃i,i<vs.length/\vs.getD i Value.none=x.1/\x.1=x.2:=λx hx=>So (pl.mem_iff.mp hx);have po:((dA st').toList.map (·.2)).Perm vs:=by
   refine(pl.map _).trans ?_;have e:((vs.toArray.zip vs.toArray).toList.map (·.2))=vs:=by
    have e1:(vs.toArray.zip vs.toArray).toList=vs.zip vs:=by simp
    rw[e1];exact List.map_snd_zip (Ac _)
   rw[e]
  obtain⟨p,pp,ep⟩:=ig po (List.range vs.length) (iN vs);have eo:(dA st').map (·.2)=(F6 vs p).toArray:=by apply KH.mp;rw[Array.toList_map,ep];rfl
  have plen:p.length=vs.length:=by rw[pp.length_eq,Mz]
  rw[eo];refine AK (seqEpoch_at h6 Z (AK (vF h6 Z ?_ (CB _) (by delta F6;simp;lia))));rw[hf];simp only[EJ,CP,Bx];refine Ae (h p pp λi j hij hj=>?_);have sz:(dA st').size=vs.length:=by rw[pm.size_eq,hzz]
  have at_:∀k,k<vs.length->kv (OC vs r) (dA st') k=r (p.getD k 0):=λk hk'=>by
   have hk1:k<(dA st').size:=by lia
   have hm:=getD_mem (arr:=dA st') hk1;obtain⟨i0,hi0,ei0,e12⟩:=inx _ hm;have hpk:p.getD k 0<vs.length:=by rw[C3,Ar (by lia)];exact Hu.mp (pp.mem_iff.mp (Ez _))
   refine S8 hr hpk ?_;have:((dA st').toList.map (·.2))[k]? =U ((dA st').getD k dK).2:=by rw[A1,HE,Gd _ k hk1,G9,Gd _ k hk1];rfl
   rw[ep,A1] at this;rw[Ar (by lia)] at this;have t2:=AZ this;rw[e12,<-t2,C3 (l:=p),Ar (by lia)];rfl
  have:=up i j (CB _) hij (by lia);rw[at_ i (by lia),at_ j hj] at this;exact this
def V5{x:AB}
 (hcol:ax (Yf prog w) A.in1 (collect x) (λvs s1=>vs.length<=1000000/\∃r:Nat->Nat,(∀i j,i<vs.length->j<vs.length->vs.getD i Value.none=vs.getD j Value.none->r i=r j)/\
  (2<=vs.length->∀h':sf,(∀b o,s1.heap.get? b=U o->h'.get? b=U o)->OJ prog w A.in1.in1 vs r {s1 with heap:=h'})/\
  ∀(p:List Nat) h2 e,p.Perm (List.range vs.length)->(∀i j,i<=j->j<vs.length->r (p.getD i 0)<=r (p.getD j 0))->(∀b o,s1.heap.get? b=U o->h2.get? b=U o)->h2.get? s1.heap.objs.size=U (tG "list" (F6 vs p).toArray e)->Q (.ref s1.heap.objs.size) {s1 with heap:=h2}) E s):
 ax (Yf prog w) A (call (.builtin "sorted") [x]) Q E s:=by
 refine Calls.call_function_entry kind_sorted plain_sorted entry_sorted (args_sorted1 _) ?_;delta Builtin.«sorted»;refine AK (m:=checkCount "sorted" 1 1 _) (Ae (AK (DA hcol (λvs s1 hs=>?_) λ_ _ z=>z)));obtain⟨hl,r,hr,hk,h⟩:=hs;have hle:vs.length<=sizeLine:=by rw[BA];lia
 refine AK (vD ?_ hle);have ho:(s1.heap.push (tG "list" vs.toArray 0)).get? s1.heap.objs.size=U (tG "list" vs.toArray 0):=CG _ Z;have z:(s1.heap.push (tG "list" vs.toArray 0)).objs.size=s1.heap.objs.size+1:=uv ..;show ax _ _ _ _ _ {s1 with heap:=s1.heap.push (tG "list" vs.toArray 0)};refine AK (Gb (Ib slot_list_sort ⟨_,ho,Z⟩ entry_list_sort (iM r ho hle hr (λh2=>?_) λp a1 a2=>⟨_,Z,?_⟩) (args_list_sort _)))
 .refine hk h2 _ λb o q=>?_;have lt:=A7 q;delta Lr;refine BD _ (BD _ ?_);rw[Mq _ _ _ _ (BS lt)];exact BD _ q
 .delta sortedHeap;obtain⟨e1,h1⟩:∃e1,((s1.heap.push (tG "list" vs.toArray 0)).update s1.heap.objs.size (Obj.mapSeq λ_=>(#[]:Array AB))).get? s1.heap.objs.size=U (tG "list" #[] e1):=⟨_,uo ho λ_=> #[]⟩;have h2:=BD (tG "list" #[] 0) (BD (tG "tuple" vs.toArray 0) h1);refine Ae ⟨_,Z,h p _ _ a1 a2 (λb o q=>?_) (uo h2 λ_=>_)⟩;have lt:=A7 q;rw[Mq _ _ _ _ (BS lt)];refine BD _ (BD _ ?_);rw[Mq _ _ _ _ (BS lt)];exact BD _ q
def gu(I:Inv X pins S H s)(d:Drawn):Inv X pins S H {s with drawn:=d}:=
 ⟨I.ok,I.os,I.bare,I.base,I.loc,I.cell,I.free,I.DK,I.pin,I.hok,I.len⟩
def Z0(zs:List α)(d:α):(List.range zs.length).map (λi=>zs.getD i d)=zs:=by
 apply LN;intro k;rw[A1];by_cases hk:k<zs.length
 .rw[Vl hk,Ar hk];simp[hk]
 .rw[HD (by simp;lia),HD (by lia)];rfl
def sorted_strs{Q:VK}{x:AB}{zs0:List Str}(I:Inv X pins S H s)(hz:zs0.length<=1000000)
 (hcol:∀Q':List AB->Ya->Prop,(∀(vs:List AB)(zs:List Str) h' tk d,Vals (zs.map V.str) vs->zs.Perm zs0->(∀b o,s.heap.get? b=U o->h'.get? b=U o)->s.heap.objs.size<=h'.objs.size->Q' vs {s with heap:=h',toks:=tk,drawn:=d})->ax (Yf X.prog X.w) X.A.in1 (collect x) Q' X.xe s)
 (q:∀(D:OK)(ys:List Str),H D=J->ys.Perm zs0->ys.Pairwise (λa b=>OV b a=vc)->Q (.ref D) (upd H D (.lst (ys.map V.str)))):
 ax (Yf X.prog X.w) X.A (call (.builtin "sorted") [x]) (EP X pins S Q) X.xe s:=by
 refine V5 (hcol _ λvs zs h' tk d rv pz kp sz=>?_);have hl:zs.length=vs.length:=by rw[<-rv.length,AI]
 have h7:zs.length=zs0.length:=pz.length_eq;refine⟨by lia,MP zs,λi j hi hj e=>?_,λh2 h9 h5=>jT rv h2,λp h2 e pp h6 h5 hD=>?_⟩
 .obtain⟨t1,e1⟩:=L4 rv (k:=i) (by lia);obtain⟨t2,e2⟩:=L4 rv (k:=j) (by lia);rw[e1,e2] at e;delta MP;rw[(Value.str.inj e).1]
 .rw[<-hl] at pp h6;have h4:∀i∈p,i<zs.length:=λi hi=>Hu.mp (pp.mem_iff.mp hi);have h3:p.length=zs.length:=by rw[pp.length_eq,Mz]
  have h0:Vals ((p.map λi=>zs.getD i "").map V.str) (F6 vs p):=by
   delta F6;refine P1 (by simp) λi x u h1 h2=>?_;rw[Bf,A1] at h1;rw[A1] at h2
   cases e:p[i]?with
   |none=>rw[e] at h1;cases h1
   |some k=>
   rw[e] at h1 h2;cases AZ h1;cases AZ h2;obtain⟨t,et⟩:=L4 rv (h4 k (Bv e));exact⟨t,et⟩
  have I1:=I.laid (t':=tk) (h':=h2) (a:=h'.objs.size) (o:=.lst ((p.map λi=>zs.getD i "").map V.str)) (λb ob z=>h5 b ob (kp b ob z)) sz
   ⟨by rw[AI,AI,h3,BA];lia,_,e,h0,hD⟩;refine⟨.ref h'.objs.size,_,gu I1 d,Z,q _ _ (I.hok.fresh sz) ?_ ?_⟩
  .have:=pp.map λi=>zs.getD i "";rw[Z0] at this;exact this.trans pz
  .rw[My,Oa];intro i j hi hj h8;have h1:=h6 i j (by lia) (by lia);rw[C3,Ar hi,C3,Ar hj] at h1;have e3:=Pu ES zs (a:=zs.getD p[j] "") (b:=zs.getD p[i] "") (XQ (h4 _ (Ez hj)));have e5:OV (zs.getD p[j] "") (zs.getD p[i] "")=decide (MP zs p[j]<MP zs p[i]):=e3;rw[e5];exact BG (by simpa using h1)
def SH:DU X (.builtin "sorted") (mY X.K):=by
 intro h1 s S H xs us Q I r h;obtain⟨l,zs,rfl,hq,h2,q⟩:=h;obtain⟨u,rfl,rx⟩:=vals1 r;cases rx;obtain⟨h0,rv,pl,hz⟩:=I.list hq;have hl:zs.length=h0.length:=by rw[<-rv.length,AI]
 refine sorted_strs I (zs0:=zs) (by lia) (λQ' hQ=>collect_list (A:=X.A.in1) pl.isList (hQ h0 zs _ s.toks s.drawn rv (.refl _) (λb ob z=>?_) ?_) (by rw[BA];lia)) q
 .show((s.heap.push (tG "list" #[] 0)).update s.heap.objs.size _).get? b=U ob;rw[Mq _ _ _ _ (BS (A7 z))];exact BD _ z
 .rw[Rk,uv];exact E2 _
noncomputable def Mc(P:sY)(w:si)(D:OK)(zs:List Str):HO:=.ext λh=>Ep P w h D zs
def px(P:sY)(w:si)(K:vH):List V->Hp->VK->Prop:=λxs H Q=>∃(a:OK)(ys:List Str),xs=[.ref a]/\AS K H a (ys.map V.str)/\ys.length<=1000/\∀D,H D=J->Q (.ref D) (upd H D (Mc P w D (Dv [] ys)))
def fq(hP:X.prog=P)(hw:X.w=w)(hK:X.K=K)(hc:X.calm=Y):DU X (.type "set") (px P w K):=by
 subst hP;subst hw;subst hK;intro h3 s S H xs us Q I r h;obtain⟨a,ys,rfl,ha,hz,q⟩:=h;obtain⟨u,rfl,rx⟩:=vals1 r;cases rx;obtain⟨h0,rv,pl,_⟩:=I.tuple ha;have hh:X.A.handled=J:=I.ok.hd hc;have hl:ys.length=h0.length:=by rw[<-rv.length,AI]
 refine dC (items:=h0.toArray) (ys:=ys) hh pl (by simpa using hl) (λi v z h1 h2=>?_) (by delta tO;simp;lia) λh' tk hS kp=>?_
 .have e:(ys.map V.str)[i]? =U (V.str z):=by rw[A1,h2];rfl
  obtain⟨u,hu,t,ht⟩:=rv.get e;rw[Vc,hu] at h1;cases AZ h1;exact⟨t,ht⟩
 .have h4:=hS;obtain⟨o,es,ep,t,ho,_⟩:=hS;have I1:=I.laid (t':=tk) (h':=h') (a:=s.heap.objs.size) (o:=.ext λh=>Ep X.prog X.w h s.heap.objs.size (Dv [] ys)) kp (Ac _)
   ⟨h4,⟨o,ho⟩,λh1 h2 x e=>x.at e⟩;exact⟨.ref s.heap.objs.size,_,I1,Z,q _ (I.hok.fresh (Ac _))⟩
def nX(P:sY)(w:si):List V->Hp->VK->Prop:=λxs H Q=>∃(a:OK)(zs:List Str),xs=[.ref a]/\H a=U (Mc P w a zs)/\
 ∀(D:OK)(ys:List Str),H D=J->ys.Perm zs->ys.Pairwise (λa b=>OV b a=vc)->Q (.ref D) (upd H D (.lst (ys.map V.str)))
def de(hP:X.prog=P)(hw:X.w=w)(hc:X.calm=Y):DU X (.builtin "sorted") (nX P w):=by
 subst hP;subst hw;intro h0 s S H xs us Q I r h;obtain⟨a,zs,rfl,ha,q⟩:=h;obtain⟨u,rfl,rx⟩:=vals1 r;cases rx;have hh:X.A.handled=J:=I.ok.hd hc;have hS:Ep X.prog X.w s.heap a zs:=(I.hok a _ ha).1;have hz:zs.length<=1000000:=by
  obtain⟨o,es,ep,t,_,_,_,_,_,_,hb,_⟩:=hS;have:tO=4096:=rfl
  lia
 refine sorted_strs I hz (λQ' hQ=>gF (A:=X.A.in1) hh hS λvs h' d tv pm kp sz=>hQ vs (vs.map L2.tx) h' s.toks d (P1 (by simp) λi x u h1 h2=>?_) pm kp (Ge sz)) q;rw[Bf,A1,h2] at h1;cases AZ h1;obtain⟨z,t,rfl⟩:=tv u (Bv h2);exact⟨t,Z⟩
def lj(K:vH):List V->Hp->VK->Prop:=λxs H Q=>∃(l:OK)(ps:List (OK×List Key))(sh:List Bool),xs=[.ref l]/\AL K H l (ps.map λp=>V.ref p.1)/\sh≠[]/\(∀p∈ps,H p.1=U (.tup (p.2.map kV))/\p.2.map kd=sh)/\ps.length<=1000000/\
 ∀(D:OK)(qs:List (OK×List Key)),H D=J->qs.Perm ps->qs.Pairwise (λa b=>DN b.2 a.2=vc)->Q (.ref D) (upd H D (.lst (qs.map λp=>V.ref p.1)))
def SI:DU X (.builtin "sorted") (lj X.K):=by
 intro h4 s S H xs us Q I r h;obtain⟨l,ps,sh,rfl,hq,h8,hp,hz,q⟩:=h;obtain⟨u,rfl,rx⟩:=vals1 r;cases rx;obtain⟨h9,rv,pl,_⟩:=I.list hq;have ei:=Wv rv;subst ei;have hl:(ps.map λp=>Value.ref p.1).length=ps.length:=AI ..;have gi:∀k,k<ps.length->(ps.map λp=>Value.ref p.1).getD k Value.none=Value.ref (ps.getD k (0,[])).1:=λk hk=>by rw[C3,A1,Ar hk,C3,Ar hk];rfl
 have mi:∀k,k<ps.length->ps.getD k (0,[])∈ps:=λk hk=>by rw[C3,Ar hk];exact Ez hk
 refine V5 (collect_list (A:=X.A.in1) pl.isList ⟨by lia,K2 ps,λi j hi hj e=>?_,λh2 h' kp=>?_,λp h2 e pp h6 h7 hD=>?_⟩ (by rw[BA];lia))
 .rw[hl] at hi hj;rw[gi i hi,gi j hj] at e;have e1:=(hp _ (mi i hi)).1;rw[Value.ref.inj e,(hp _ (mi j hj)).1] at e1;have e2:=Yk (HO.tup.inj (AZ e1));delta K2 Fb;rw[e2]
 .refine iJ (sh:=sh) (λx hx=>?_) (λx hx=>(hp x hx).2) h8 (by lia);obtain⟨_,us,ru,o,h1,h2,n,h3⟩:=(show BY X.prog X.w H s.heap x.1 (.tup (x.2.map kV)) from I.hok x.1 _ (hp x hx).1);refine⟨us,ru,o,kp _ _ ?_,h2,n,h3⟩;show((s.heap.push (tG "list" #[] 0)).update s.heap.objs.size _).get? x.1=U o;rw[Mq _ _ _ _ (BS (A7 h1))];exact BD _ h1
 .rw[hl] at pp h6;have h5:∀i∈p,i<ps.length:=λi hi=>Hu.mp (pp.mem_iff.mp hi);have h0:p.length=ps.length:=by rw[pp.length_eq,Mz]
  have eo:F6 (ps.map λp=>Value.ref p.1) p=(p.map λi=>ps.getD i (0,[])).map λp=>Value.ref p.1:=by delta F6;rw[Bf];exact EI λi hi=>gi i (h5 i hi)
  rw[eo] at hD;have z:((s.heap.push (tG "list" #[] 0)).update s.heap.objs.size (Obj.mapSeq (·++(ps.map λp=>Value.ref p.1).toArray))).objs.size=s.heap.objs.size+1:=by rw[Rk,uv]
  have I1:=I.laid (t':=s.toks) (h':=h2) (a:=s.heap.objs.size+1) (o:=.lst ((p.map λi=>ps.getD i (0,[])).map λp=>V.ref p.1)) (λb ob q=>h7 b ob (by show((s.heap.push (tG "list" #[] 0)).update s.heap.objs.size _).get? b=U ob;rw[Mq _ _ _ _ (BS (A7 q))];exact BD _ q)) (E2 _)
   ⟨by rw[AI,AI,h0,BA];lia,_,e,WN _,by rw[<-z];exact hD⟩;show EP X h4 S Q _ _;dsimp only;rw[z];refine⟨.ref (s.heap.objs.size+1),_,I1,Z,q _ _ (I.hok.fresh (E2 _)) ?_ ?_⟩
  .have:=pp.map λi=>ps.getD i (0,[]);rw[Z0] at this;exact this
  .rw[My,Oa];intro i j hi hj e0;have h1:=h6 i j (by lia) (by lia);rw[C3,Ar hi,C3,Ar hj] at h1;have e3:=Pu lexOrd (ps.map (·.2)) (a:=Fb ps p[j]) (b:=Fb ps p[i]) (WS (h5 _ (Ez hj)));have e5:DN (Fb ps p[j]) (Fb ps p[i])=decide (K2 ps p[j]<K2 ps p[i]):=e3;show DN (Fb ps p[j]) (Fb ps p[i])=vc;rw[e5];exact BG (by simpa using h1)
end
abbrev OU:hX:=WR
abbrev cH:hX:=V4
abbrev cF:hX:=WL
noncomputable def FE(c:Nat):Bool:=(!decide (([c]:List Nat)<("a" :Str).cps.toList))&&(!decide (("z" :Str).cps.toList<[c]))
def isNm(w:Str):Bool:=(!decide (w=""))&&w.cps.toList.all FE
noncomputable def MR(w:Str):Str:=Txt.slice w (U 1) (U (-1))
def IJ(w:Str):Bool:=Txt.startswith w "[" &&(Txt.endswith w "]" &&isNm (MR w))
def EG(w:Str):Str×Str:=if IJ w=Y then("to",MR w) else("word",w)
noncomputable def Cb(t:Str):List Str:=(Txt.split t " ").filter λp=> !decide (p="")
def VA(w:Str):Dt:=.tup [.str (EG w).1,.str (EG w).2]
def QX:Sp:=λvs H Q _=>∃w:Str,vs=[.str w]/\w.length<=100000/\∀H',AM H H'->Q (.bl (isNm w)) H'
def bJ:Sp:=λvs H Q _=>∃w:Str,vs=[.str w]/\w.length<=100000/\∀p H',AM H H'->H p=J->H' p=U (.tup [.str (EG w).1,.str (EG w).2])->Q (.ref p) H'
def ae:Sp:=λvs H Q _=>∃t:Str,vs=[.str t]/\t.length<=10000/\∀D H',AM H H'->Rep H' (.lst ((Cb t).map VA)) (.ref D)->Q (.ref D) H'
def qt:A3 ["word"] ["word"] (Aq OU):=by left
def UY(F:Ak K "is_name" "is_name" OU f fd)(hall:mg "all" =J):AX P w K mg base Ai 1 f fd ["word"] QX:=by
 refine F.ok qt ?_ ?_
 .rintro _ _ _ _ ⟨_,rfl,_⟩;rfl
 .rintro _ A _ s H _ Q E hr ⟨x,rfl,hx,k⟩;refine⟨_,AR (An (P7 (IB Gp (pv 0) Ab (Am _))
   (QC (Bh (hV Z) Z hall boot_all (AE (E6 (ts:=["sign"]) (cap:=[]) (ix:=[]) (cl:=[]) (JZ Z Z (by left) (by left)) (ZS (pv 0))
    (λ_ _ _ _ _=>Bg (i:=0) LB Z (AY Z) (Cn Z)) (λ_ _ _ _ _=>HX) (λ_ _ _ _ _=>iU WX WX Ab (pv 0) Ab (by with_unfolding_all rfl))) AJ))))),?_⟩;refine⟨_,Z,Z,_,Z,?_⟩;by_cases e:x=""
  .refine El (by rw[e]) ?_;have:isNm x=vc:=by delta isNm;rw[Bc e];rfl
   have q:=k H (AM.refl H);rw[this] at q;exact q
  .refine Hb (λz=>e (V.str.inj z)) ?_;have en:isNm x=x.cps.toList.all FE:=by delta isNm;rw[BG e];rfl
   have el:x.cps.toList.length<=100000:=by simpa[Str.length] using hx
   refine⟨_,Z,x,Z,λD hD=>Xh (λi H'=>i<=x.cps.toList.length/\H'=upd H D (.lst ((x.cps.toList.take i).map λc=>.bl (FE c)))) ⟨CB _,Z⟩ ?_ ?_⟩
   .rintro i c H' hc ⟨hi,rfl⟩;have h2:i<x.cps.toList.length:=(BP.mp hc).1;refine⟨Ff,_,Z,_,_,Z,Z,_,Z,?_⟩;have h0:∀b:Bool,b=FE c->∃ys,(upd H D (.lst ((x.cps.toList.take i).map λc=>.bl (FE c)))) D=U (.lst ys)/\ys.length<sizeLine/\
     i+1<=x.cps.toList.length/\upd (upd H D (.lst ((x.cps.toList.take i).map λc=>.bl (FE c)))) D (.lst (ys++[V.bl b]))=upd H D (.lst ((x.cps.toList.take (i+1)).map λc=>.bl (FE c))):=by
     rintro b rfl;refine⟨_,AN,?_,h2,?_⟩
     .rw[AI,Bk,BA]
      lia
     .rw[Jg,Cf,hc,BL];rfl
    by_cases h1:([c]:List Nat)<("a" :Str).cps.toList
    .refine El h1 ?_;exact h0 vc (by delta FE;rw[Bc h1];rfl)
    .refine Hb h1 ?_;refine⟨_,_,Z,Z,?_⟩;exact h0 _ (by delta FE;rw[BG h1];rfl)
   .rintro H' ⟨_,rfl⟩;refine⟨D,x.cps.toList.map FE,Z,AL.of ?_,?_⟩
    .rw[AN,CH,Bf];rfl
    .have q:=k _ (Ag (o:=.lst ((x.cps.toList.take x.cps.toList.length).map λc=>.bl (FE c))) hD);rw[en] at q;have ea:(x.cps.toList.map FE).all id=x.cps.toList.all FE:=by rw[List.all_map];rfl
     rw[ea];exact q
def bM:A3 ["word","inner"] ["word"] (Aq cH):=by left
variable{fdI:sj}
def oo(F:Ak K "read_word" "read_word" cH f fd)(FI:Ak K "is_name" "is_name" OU fI fdI)(bI:Binds K fdI ["word"] [])(mI:mg "is_name" =U (.ref fI))(hall:mg "all" =J):
 AX P w K mg base Ai 2 f fd ["word"] bJ:=by
 have GI:AX P w K mg base Ai 1 fI fdI ["word"] QX:=UY FI hall;refine F.ok bM ?_ ?_
 .rintro _ _ _ _ ⟨_,rfl,_⟩;rfl
 .rintro _ A _ s H _ Q E hr ⟨x,rfl,hx,k⟩;have h1:x.length<=sizeLine:=by rw[BA];lia
  have h2:(MR x).length<=100000:=BI (PF x _ _) hx;refine⟨_,AU (Ax (i:=1) bM.nd Z (AY Z) (F0 Kh (pv 0) (DY Aa) (DY (Du Dr Aa))))
   (AU (Ay (PW.pt (FY (Ej (Jq Ml PySem.F.slot_str_startswith PySem.F.type_str_startswith fL (pv 0) (AE Ab AJ)))
    (FY (Ej (Jq Ml PySem.F.slot_str_endswith PySem.F.type_str_endswith j6 (pv 0) (AE Ab AJ)))
    (HV (Ej (Cs GI hr Z mI FI.kp bI .nil BF (AE (pv 1) AJ)))))))
    (AR (An (Cm (AE Ab (AE (pv 1) AJ))))) BC)
   (AR (An (Cm (AE Ab (AE (pv 0) AJ)))))),?_⟩;refine⟨_,Z,_,Z,_,Z,_,Z,x,Z,h1,?_⟩;have h0:IJ x=vc->∀H1,AM H H1->∀p,H1 p=J->Q (.ref p) (upd H1 p (.tup [.str "word",.str x])):=λe H1 s1 p hp=>by
   have er:EG x=(("word" :Str),x):=by delta EG;rw[e];rfl
   refine k p _ (s1.upd (s1.free hp)) (s1.free hp) ?_;rw[AN,er]
  refine⟨_,Z,Z,_,_,Z,Z,_,Z,?_⟩
  cases e1:Txt.startswith x "[" with
  |false=>refine BV (BV ⟨_,Z,by exact zw,h0 (by delta IJ;rw[e1];rfl) H (AM.refl H)⟩)
  |true=>
   refine Bs ⟨_,Z,Z,_,_,Z,Z,_,Z,?_⟩
   cases e2:Txt.endswith x "]" with
   |false=>refine BV (BV ⟨_,Z,by exact zw,h0 (by delta IJ;rw[e1,e2];rfl) H (AM.refl H)⟩)
   |true=>
    refine Bs ⟨_,Z,MR x,Z,h2,λH1 s1=>⟨_,Z,?_⟩⟩
    cases e3:isNm (MR x) with
    |false=>refine BV ⟨_,Z,by exact zw,h0 (by delta IJ;rw[e1,e2,e3];rfl) H1 s1⟩
    |true=>
     refine Bs ⟨_,Z,by exact zw,λp hp=>?_⟩;have er:EG x=(("to" :Str),MR x):=by delta EG IJ;rw[e1,e2,e3];rfl
     refine k p _ (s1.upd (s1.free hp)) (s1.free hp) ?_;rw[AN,er];rfl
def Vu(t p:Str)(h:p∈Txt.split t " "):p.length<=t.length:=by
 have hw:=M9 t " " (by decide);have h2:p.length<=((Txt.split t " ").map (·.length)).sum:=by
  generalize Txt.split t " " =L at h
  induction L with
  |nil=>cases h
  |cons a r ih=>
   rw[Au,Bn];rcases BM.mp h with e|e
   .subst e;lia
   .have:=ih e;lia
 have h3:1<=(Txt.split t " ").length:=Of h
 lia
def qg:A3 ["text"] ["text"] (Aq cF):=by left
def qF(F:Ak K "split_up" "split_up" cF f fd)(HR:Hv P w K mg base "read_word" 2 ["word"] bJ):
 AX P w K mg base Ai 3 f fd ["text"] ae:=by
 refine F.ok qg ?_ ?_
 .rintro _ _ _ _ ⟨_,rfl,_⟩;rfl
 .rintro _ A _ s H _ Q E hr ⟨x,rfl,hx,k⟩;refine⟨_,AR (An (E6 (ts:=["piece"]) (cap:=[]) (ix:=[]) (cl:=[]) (JZ Z Z (by left) (by left))
   (HY (Jq Ml vQ vR Xr (pv 0) (AE Ab AJ)))
   (λ_ _ _ _ _=>Bg (i:=0) LB Z (AY Z) (Cn Z)) (λ_ _ _ _ _=>Ls (As Gp (pv 0) Ab (Am _)))
   (λ_ _ _ _ _=>Cj HR hr Z BF (AE (pv 0) AJ)))),?_⟩;have h8:(Txt.split x " ").length<=10001:=by
   have:=M9 x " " (by decide)
   lia
  refine⟨_,Z,Z,x,_,Z,Z,by left,by rw[BA];lia,λD0 h3=>?_⟩;refine⟨D0,Z,⟨_,AL.of AN⟩,λD hD=>?_⟩;have h1:D0≠D:=A8 AN hD;have h2:H D=J:=(Ag h3).free hD;refine Gf (xs:=(Txt.split x " ").map V.str) (λi H'=>AM H H'/\H' D0=U (.lst ((Txt.split x " ").map V.str))/\∃ys,H' D=U (.lst ys)/\ys.length<=i/\
   Ah (Ex H' D) ((((Txt.split x " ").take i).filter λp:Str=> !decide (p="")).map VA) ys) ?_ ?_ ?_ ?_
  .refine⟨((AM.refl H).upd h3).upd h2,?_,[],AN,Ac _,Ah.nil⟩;rw[AO h1,AN]
  .rintro i H' _ ⟨_,h0,_⟩;exact AL.of h0
  .rintro i v H' hv ⟨sm,h0,ys,hy,h9,rp⟩;rw[A1] at hv
   cases ep:(Txt.split x " ")[i]?with
   |none=>rw[ep] at hv;cases hv
   |some pc=>
    rw[ep] at hv;obtain rfl:V.str pc=v:=AZ hv;have hi:i<(Txt.split x " ").length:=(BP.mp ep).1;have h5:pc.length<=100000:=by
     have:=Vu x pc (Bv ep)
     lia
    refine⟨Ff,⟨_,Z,Z,_,Z,?_⟩⟩;by_cases e:pc=""
    .refine El (by rw[e]) ⟨sm,h0,ys,hy,by lia,?_⟩;rw[Cf,ep,Mt];have:(Option.toList (U pc)).filter (λp:Str=> !decide (p=""))=[]:=by rw[e];rfl
     rw[this,CW];exact rp
    .refine Hb (λz=>e (V.str.inj z)) ⟨_,Z,pc,Z,h5,λp H2 s2 hp h7=>?_⟩;have h6:p≠D:=(A8 hy hp).symm;have h4:H2 D=U (.lst ys):=s2 _ _ hy;refine⟨ys,h4,by rw[BA];lia,(sm.trans s2).upd h2,by rw[AO h1];exact s2 _ _ h0,ys++[.ref p],AN,by rw[A9,Ey];lia,?_⟩;rw[Cf,ep,Mt];have:(Option.toList (U pc)).filter (λp:Str=> !decide (p=""))=[pc]:=by show List.filter (λp:Str=> !decide (p="")) [pc]=[pc];rw[Ed (by simpa using e)];rfl
     rw[this,BL,Ex.upd];refine(rp.same (Ex.mono s2)).snoc ?_;refine Rep.MY (Ex.at h7 h6) ?_;exact(Ah.snoc (Ah.snoc Ah.nil (Rep.str _)) (Rep.str _))
  .rintro H' ⟨sm,_,ys,hy,_,rp⟩;rw[AI,CH] at rp;exact k D H' sm (Rep.Hi hy (rp.same Ex.sub))
structure JE(K:vH)(mg:Str->Option AB)(cR fR:OK):Prop where
 mR:mg "Refusal" =U (.ref cR)
 rd:readsIn K cR (.type "type")=Y
 fi:findCls K (.ref cR) (.type "type") "__init__" =U (.val (.ref fR))
 sp:uc K (.ref cR) "__getattribute__" =U (U (.builtin "type.__getattribute__"))
 kp:tM K (.ref fR)=Y
 cat:Um K cR
def Ir(K:vH):Sp:=λvs H Q _=>∃e C ws h0,vs=[.ref e,.str h0]/\H e=U (xO e C J ws)/\Dc K C "answer" /\∀D,H D=J->D≠e->Q .BB (upd (upd H D (.xd [("answer",.str h0)])) e (xO e C (U D) ws))
def oQ:A3 ["self","answer"] ["self","answer"] (Aq KJ):=by left
def nJ(F:Ak K "__init__" "Refusal.__init__" KJ f fd):AX P w K mg base Ai 1 f fd ["self","answer"] (Ir K):=by
 refine F.ok oQ ?_ ?_
 .rintro _ _ _ _ ⟨_,_,_,_,rfl,_⟩;rfl
 .rintro _ A _ s H _ Q E hr ⟨e,C,ws,h0,rfl,he,xa,q⟩;refine⟨_,(AR (kY (pv 0) (pv 1) Z)),?_⟩;exact⟨_,Z,_,Z,e,C,ws,Z,he,xa,λd hd ne=>q d hd ne⟩
variable{fR cR:OK}{fdR:sj}
def Lz{st:hX}{p1 p2 p3 p4 p5 p6:Pos}(F:Ak K "__init__" qual st f fd)(vj:A3 ["self"] ["self"] (Aq st))
 (hb:F3 st=[.Expr (.Call (.Attribute (.Name "Refusal" p1) "__init__" p2) [.Name "self" p3,.Constant (.str msg) k p4] [] p5) p6])(hg:(Aq st).names.lookup ("Refusal" :Str)=U .globalImplicit)(hs:(Aq st).names.lookup ("self" :Str)=U .local)
 (T:JE K mg cR fR)(G:AX P w K mg base Ai 1 fR fdR ["self","answer"] (Ir K))(bR:Binds K fdR ["self","answer"] [])(xa:Dc K C "answer")
 (ht:∀env:Env,∃pl:Sem Bool,sd (.Call (.Attribute (.Name "Refusal" p1) "__init__" p2) [.Name "self" p3,.Constant (.str msg) k p4] [] p5) env=(do
  let ov<-sd (.Name "Refusal" p1) env
  standAt p2.atName
  let(f,first)<-uP [ov] (uf ov "__init__" pl)
  callWith p5 f first (tF p5 (dq [.Name "self" p3,.Constant (.str msg) k p4] env)) (uG p5 (tP [] env)))):AX P w K mg base Ai 2 f fd ["self"] (F4 C "answer" msg):=by
 refine F.ok vj (λvs H Q E h=>?_) (λh2 A h0 s H vs Q E hr h=>?_)
 .obtain⟨e,ws,rfl,_⟩:=h;rfl
 .obtain⟨e,ws,rfl,he,q⟩:=h;rw[hb];obtain⟨pl,h1⟩:=ht (Jy Ai P w K mg base ["self"] qual (Aq st) f h2 A h0 s H E).env;refine⟨_,(AR (Bq (iC (pl:=pl) hg T.mR T.rd T.fi T.sp T.kp G hr bR .nil BF (AE (pv 0 (hv:=AY hs)) (AE Ab AJ)) (ht:=h1)))),?_⟩;exact⟨_,Z,e,C,ws,msg,Z,he,xa,λD hD ne=>q D hD ne⟩
structure Rz(P:sY)(w:si)(K:vH)(mg:Str->Option AB)(base:sf)(cR:OK)(x msg:Str):Prop where
 ex:∃C fI fd bm,mg x=U (.ref C)/\VO K C fI bm/\AX P w K mg base Ai 2 fI fd ["self"] (F4 C "answer" msg)/\Binds K fd ["self"] []/\Ug K C cR/\Dc K C "answer"
def Xw(K:vH)(cR:OK)(E:XK)(H:Hp)(msg:Str):Prop:=∀C D H',Ug K C cR->Dc K C "answer" ->AM H H'->H' D=U (.xd [("answer",.str msg)])->E (.ref C) (U D) H'
def Xw.mono{E:XK}(h:Xw K cR E H msg)(s:AM H H1):Xw K cR E H1 msg:=λC D H' a b c d=>h C D H' a b (s.trans c) d
def Kt{E:XK}{np:Pos}(R:Rz P w K mg base cR x msg)
 (hr:Br (k+3) (Gy P w K mg base N qual scope f cd A outer s H E).A)(hg:Gl (Gy P w K mg base N qual scope f cd A outer s H E) x)(hdb:(x==("__debug__" :Str))=vc:=by decide):
 PS (Gy P w K mg base N qual scope f cd A outer s H E) (.Raise (U (.Call (.Name x np) [] [] cpos)) J pos) (λ_ _ H=>Xw K cR E H msg):=by
 obtain⟨C,fI,fd,bm,hm,M,F,hb,xs,xa⟩:=R.ex;have h1:Br (2+1) (Gy P w K mg base N qual scope f cd A outer s H E).A:=hr.mono (by lia);intro h0 s1 S H1 D I h;refine iu M F h1 hg hm hb hdb h0 s1 S H1 D I λe D' ws he hD ne=>h C D' _ xs xa ?_ ?_
 .exact AM.trans (Ag hD) (Ag (by rw[AO (DI ne)];exact he))
 .rw[AO ne,AN]
def jI:A3 ["self"] ["self"] (Aq Rv):=by left
def gR(F:Ak K "__init__" "NoPage.__init__" Rv f fd)(T:JE K mg cR fR)(G:AX P w K mg base Ai 1 fR fdR ["self","answer"] (Ir K))(bR:Binds K fdR ["self","answer"] [])(xa:Dc K C "answer"):
 AX P w K mg base Ai 2 f fd ["self"] (F4 C "answer" "no page"):=Lz F jI Z Z Z T G bR xa (λ_=>⟨_,Z⟩)
def iF:A3 ["self"] ["self"] (Aq Rx):=by left
def fb(F:Ak K "__init__" "NoName.__init__" Rx f fd)(T:JE K mg cR fR)(G:AX P w K mg base Ai 1 fR fdR ["self","answer"] (Ir K))(bR:Binds K fdR ["self","answer"] [])(xa:Dc K C "answer"):
 AX P w K mg base Ai 2 f fd ["self"] (F4 C "answer" "no name"):=Lz F iF Z Z Z T G bR xa (λ_=>⟨_,Z⟩)
def eG:A3 ["self"] ["self"] (Aq Rm):=by left
def dS(F:Ak K "__init__" "SamePage.__init__" Rm f fd)(T:JE K mg cR fR)(G:AX P w K mg base Ai 1 fR fdR ["self","answer"] (Ir K))(bR:Binds K fdR ["self","answer"] [])(xa:Dc K C "answer"):
 AX P w K mg base Ai 2 f fd ["self"] (F4 C "answer" "same page"):=Lz F eG Z Z Z T G bR xa (λ_=>⟨_,Z⟩)
def kj:A3 ["self"] ["self"] (Aq R0):=by left
def hU(F:Ak K "__init__" "Taken.__init__" R0 f fd)(T:JE K mg cR fR)(G:AX P w K mg base Ai 1 fR fdR ["self","answer"] (Ir K))(bR:Binds K fdR ["self","answer"] [])(xa:Dc K C "answer"):
 AX P w K mg base Ai 2 f fd ["self"] (F4 C "answer" "taken"):=Lz F kj Z Z Z T G bR xa (λ_=>⟨_,Z⟩)
def gX:A3 ["self"] ["self"] (Aq Rr):=by left
def eN(F:Ak K "__init__" "NoPlace.__init__" Rr f fd)(T:JE K mg cR fR)(G:AX P w K mg base Ai 1 fR fdR ["self","answer"] (Ir K))(bR:Binds K fdR ["self","answer"] [])(xa:Dc K C "answer"):
 AX P w K mg base Ai 2 f fd ["self"] (F4 C "answer" "no place"):=Lz F gX Z Z Z T G bR xa (λ_=>⟨_,Z⟩)
def gB:A3 ["self"] ["self"] (Aq Rq):=by left
def eY(F:Ak K "__init__" "NoWords.__init__" Rq f fd)(T:JE K mg cR fR)(G:AX P w K mg base Ai 1 fR fdR ["self","answer"] (Ir K))(bR:Binds K fdR ["self","answer"] [])(xa:Dc K C "answer"):
 AX P w K mg base Ai 2 f fd ["self"] (F4 C "answer" "no words"):=Lz F gB Z Z Z T G bR xa (λ_=>⟨_,Z⟩)
def Df(ws:List PR):Dt:=.lst (ws.map De)
noncomputable def Ho(ws:List PR):List Str:=(ws.filter λp=>decide (p.1=("to" :Str))).map (·.2)
noncomputable def C4(ws:List PR)(a b:Str):List PR:=ws.map λp=>if p=(("to" :Str),a) then(("to" :Str),b) else p
def bA:Sp:=λvs H Q _=>∃v ws a b,vs=[v,.str a,.str b]/\Rep H (Df ws) v/\ws.length<=100000/\∀u H',AM H H'->Rep H' (Df (C4 ws a b)) u->Q u H'
def qd:A3 ["words","name","fresh"] ["words","name","fresh"] (Aq NC):=by left
def oV(F:Ak K "point_on" "point_on" NC f fd):AX P w K mg base Ai 1 f fd ["words","name","fresh"] bA:=by
 refine F.ok qd ?_ ?_
 .rintro _ _ _ _ ⟨_,_,_,_,rfl,_⟩;rfl
 .rintro h5 A _ s H _ Q E hr ⟨v,ws,a,b,rfl,rp,hz,q⟩;have h6:=CZ hr;have hu:(A.deeper (tu "point_on" (Aq NC) s.heap.objs.size f h5)).units<tE:=by lia
  refine⟨_,(AR (An (E6 (ts:=["word"]) (cap:=["name","fresh"]) (ix:=[1,2]) (jG Z Z (by left) (by left) Z (by left) Z Z Z Z Z Z Z Z) (HY (pv 0))
   (λ_ _ _ _ _=>Bg (i:=0) (sQ (by left) (by left) (by left)) Z (AY Z) (Cn Z)) (λ_ _ _ _ _=>HX)
   (λ_ _ _ _ _=>jD (As (XF hu) (pv 0) (Cm (AE Ab (AE (pv 1) AJ))) (Am _)) (Cm (AE Ab (AE (pv 2) AJ))) (pv 0))))),?_⟩;obtain⟨l,xs,rfl,hl,rr⟩:=FU rp;refine⟨_,Z,l,Z,⟨_,AL.of hl⟩,λD hD=>Gf (xs:=xs) (λi H'=>CI H D ((C4 (ws.take i) a b).map De) H') ?_ (λi H' _ c=>AL.of (c.same _ _ hl)) (λi x H' ex c=>?_) λH' c=>?_⟩
  .exact CI.start hD
  .obtain⟨p,ep,rx⟩:=Ik rr ex;obtain⟨ad,rfl,ha⟩:=Nm rx;have h1:=c.same _ _ ha;refine⟨Ff,_,Z,_,Z,(by exact zw),λt ht=>?_⟩;have c2:=c.ext (Ag (o:=.tup [.str "to",.str a]) ht);refine⟨ad,t,p,(("to" :Str),a),Z,Z,by rw[AO (A8 h1 ht)];exact h1,AN,_,Z,?_⟩;have h0:((C4 (ws.take i) a b).map De).length<=200000:=by
    have h2:=Ef i ws;delta C4;rw[AI,AI]
    lia
   have es:C4 (ws.take (i+1)) a b=C4 (ws.take i) a b++[if p=(("to" :Str),a) then(("to" :Str),b) else p]:=KN ep;rw[es,BL];by_cases z:p=(("to" :Str),a)
   .rw[Bc z,AG z];refine Bs ⟨_,Z,(by exact zw),λt2 h3=>?_⟩;have c3:=c2.ext (Ag (o:=.tup [.str "to",.str b]) h3);obtain⟨ys,h4,_⟩:=c2.lst;refine c3.push (Tw (Ex.at AN ?_)) h0;intro zz;rw[zz,h4] at h3;cases h3
   .rw[BG z,AF z];refine BV ⟨_,Z,?_⟩;refine c2.push (Tw (Ex.at ?_ ?_)) h0
    .rw[AO (A8 h1 ht)];exact h1
    .intro zz;rw[zz,hD] at ha;cases ha
  .have e:xs.length=ws.length:=by have:=rr.1;rw[AI] at this;lia
   rw[e,CH] at c;exact q _ _ c.same c.done
structure IL(mg:Str->Option AB):Prop where
 sum:mg "sum" =J
 so:mg "sorted" =J
 set:mg "set" =J
 len:mg "len" =J
 en:mg "enumerate" =J
 lst:mg "list" =J
 all:mg "all" =J
 mn:mg "min" =J
abbrev Pg:=Str×List PR
def Az(AA:List (Str×V)):List (Key×V):=Fh Sum.inr id AA
structure Di(H:Hp)(AA:List (Str×V))(AD:List Pg):Prop where
 len:AA.length=AD.length
 row:∀(i:Nat) kv p,AA[i]? =U kv->AD[i]? =U p->kv.1=p.1/\Rep H (Df p.2) kv.2
theorem Di.same{H H':Hp}{AA:List (Str×V)}{AD:List Pg}(g:Di H AA AD)(s:AM H H'):Di H' AA AD:=⟨g.len,λi kv p a b=>⟨(g.row i kv p a b).1,(g.row i kv p a b).2.same s⟩⟩
variable{AD:List Pg}{kk:List (Key×V)}
def Di.ex{AA:List (Str×V)}(g:Di H AA AD)(hd:H d=U (.dK kk)):Di (Ex H d) AA AD:=⟨g.len,λi kv p a b=>⟨(g.row i kv p a b).1,Lb hd (g.row i kv p a b).2⟩⟩
structure Md(AD:List Pg):Prop where
 Dh:AD.length<=1000
 short:∀p∈AD,p.2.length<=100000
def Im{o:HO}:AM (Ex H d) (upd H d o):=λb u e=>by
 delta Ex at e;by_cases z:b=d
 .rw[AG z] at e;cases e
 .rw[AF z] at e;rw[AO z];exact e
def WY{o:HO}(hd:H d=U (.dK kk))(s:AM (upd H d o) H2):AM H (upd H2 d (.dK kk)):=λb u e=>by
 by_cases z:b=d
 .subst z;rw[hd] at e;cases e;exact AN
 .rw[AO z];exact s b u (by rw[AO z];exact e)
def QF{AA:List (Str×V)}{k:Key}{x:V}(h:(Az AA)[i]? =U (k,x)):∃n,AA[i]? =U (n,x)/\k=Sum.inr n:=by
 have h':(AA.map λp=>((Sum.inr p.1:Key),p.2))[i]? =U (k,x):=h;rw[A1] at h'
 cases e:AA[i]?with
 |none=>rw[e] at h';cases h'
 |some kv=>rw[e] at h';have:=AZ h';cases this;exact⟨kv.1,Z,Z⟩
noncomputable def MN(ws:List PR)(a:Str):Int:=((ws.countP λq=>decide (q=(("to" :Str),a)):Nat):Int)
def cnt(AD:List Pg)(a:Str):Int:=(AD.map λp=>MN p.2 a).sum
def aE:Sp:=λvs H Q _=>∃d a h1 h0,vs=[.ref d,.str a]/\H d=U (.dK (Az h1))/\Di H h1 h0/\Md h0/\∀H',AM H H'->Q (.int (cnt h0 a)) H'
noncomputable def D1(AD:List Pg)(a:Str):List Str:=(AD.filter λp=>p.2.any λq=>decide (q=(("to" :Str),a))).map (·.1)
def pP:A3 ["pages","name"] ["pages","name"] (Aq Rh):=by left
def Sa(r:Ah H (ns.map Dt.int) ys):ys=ns.map V.int:=by
 apply LN;intro i;rw[A1]
 cases e:ys[i]?with
 |none=>have h1:=Ob.mp e;have h2:=r.1;rw[AI] at h2;rw[HD (by lia)];rfl
 |some y=>obtain⟨n,hn,rn⟩:=Ik r e;rw[hn];cases rn;rfl
def oE(F:Ak K "count_pointers" "count_pointers" Rh f fd)(O:IL mg):AX P w K mg base Ai 1 f fd ["pages","name"] aE:=by
 refine F.ok pP ?_ ?_
 .rintro _ _ _ _ ⟨_,_,_,_,rfl,_⟩;rfl
 .rintro _ A _ s H _ Q E hr ⟨d,a,h0,h3,rfl,hd,g,sm,q⟩;have h8:=CZ hr;refine⟨_,(AR (An (Bh (W4 Z) Z O.sum vW (AE (YE (E6 (ts:=["words"]) (cap:=["name"]) (ix:=[1]) (Jb Z Z (by left) (by left) Z Z Z Z Z)
   (lI (Ny LJ VT vX Wm (pv 0))) (λ_ _ _ _ _=>Bg (i:=0) (IS (by left)) Z (AY Z) (Cn Z)) (λ_ _ _ _ _=>HX)
   (λ_ _ _ _ _=>mU K Z D4 PySem.F.slot_list_count PySem.F.type_list_count (dN h8) (pv 0) (AE (Cm (AE Ab (AE (pv 1) AJ))) AJ)))) AJ)))),?_⟩;refine⟨d,Az h0,hd,_,Z,.inr (.inr (.inl ⟨Z,.inl ⟨_,hd⟩⟩)),d,_,Z,Z,hd,λp hp=>⟨p,d,Az h0,Z,AN,by rw[AO (A8 hd hp)];exact hd,λo D hD=>?_⟩⟩;have s1:AM H (upd H p (Hc p d)):=Ag hp;have h4:(upd H p (Hc p d)) d=U (.dK (Az h0)):=s1 _ _ hd;have g1:=(g.same s1).ex h4;generalize upd H p (Hc p d)=H1 at s1 h4 g1 hD;have g2:=g1.same (Im (o:=.BZ o (.dK (Az h0))));have h5:(upd H1 d (.BZ o (.dK (Az h0)))) d=U (.BZ o (.dK (Az h0))):=AN;refine gA (λi H'=>CI (upd H1 d (.BZ o (.dK (Az h0)))) D (((h3.take i).map λp=>MN p.2 a).map Dt.int) H') (CI.start hD) (λi H' c=>c.same _ _ h5) (λi k x H' ex c=>?_) λH' c=>?_
  .obtain⟨n,h6,rfl⟩:=QF ex;have hi:i<h3.length:=by rw[<-g.len];exact(BP.mp h6).1
   have ep:h3[i]? =U h3[i]:=Ar hi;obtain⟨_,h7⟩:=g2.row i _ _ h6 ep;obtain⟨l,xs,rfl,hl,rr⟩:=FU (h7.same c.same);refine⟨Ff,_,Z,.inl ⟨Z,_,AL.of hl⟩,_,Z,(by exact zw),λt ht=>?_⟩;have st:=Ag (o:=.tup [.str "to",.str a]) ht;have c2:=c.ext st;refine⟨t,l,(("to" :Str),a),h3[i].2,xs,Z,Z,AN,st _ _ hl,rr.same st,?_⟩;rw[KN (f:=λp:Pg=>MN p.2 a) ep,BL];refine c2.push (.int _) ?_;have h1:=Ef i h3;have h2:=sm.Dh;rw[AI,AI]
   lia
  .have e:(Az h0).length=h3.length:=by show(h0.map _).length=_;rw[AI];exact g.len
   rw[e,CH] at c;obtain⟨ys,hy,ry⟩:=c.lst;have nd:D≠d:=λz=>by rw[z,AN] at hD;cases hD
   refine⟨o,c.same _ _ h5,D,(h3.map λp:Pg=>MN p.2 a),Z,AL.of ?_,q _ (s1.trans (WY h4 c.same))⟩;rw[AO nd,hy,Sa ry]
def lQ:((["page","words"]:List Str)++(["name"]:List Str)).Nodup:=by left
def Z8:Sp:=λvs H Q _=>∃d a h1 h0,vs=[.ref d,.str a]/\H d=U (.dK (Az h1))/\Di H h1 h0/\Md h0/\h0.length<64/\∀u H',AM H H'->Rep H' (.lst ((He (D1 h0 a)).map Dt.str)) u->Q u H'
def KY{ns:List Str}(r:Ah H (ns.map Dt.str) ys):ys=ns.map V.str:=by
 apply LN;intro i;rw[A1]
 cases e:ys[i]?with
 |none=>have h1:=Ob.mp e;have h2:=r.1;rw[AI] at h2;rw[HD (by lia)];rfl
 |some y=>obtain⟨n,hn,rn⟩:=Ik r e;rw[hn];cases rn;rfl
def qH:A3 ["pages","name"] ["pages","name"] (Aq Rf):=by left
def nN(F:Ak K "pages_pointing" "pages_pointing" Rf f fd)(O:IL mg):AX P w K mg base Ai 1 f fd ["pages","name"] Z8:=by
 refine F.ok qH ?_ ?_
 .rintro _ _ _ _ ⟨_,_,_,_,rfl,_⟩;rfl
 .rintro _ A _ s H _ Q E hr ⟨d,a,h4,h0,rfl,hd,g,sm,e8,q⟩;have e1:=CZ hr;refine⟨_,(AR (An (Bh SH Z O.so Ld (AE (YE (E6 (ts:=["page","words"]) (cap:=["name"]) (ix:=[1]) (Jb Z Z (by left) (by left) Z Z Z Z Z)
   (Xm (Ny LJ VW vY Xi (pv 0))) (λ_ _ _ _ _=>X9 (K:=K) (i:=0) (j:=1) Z Z lQ Z (AY Z) (Cn Z) Z (AY Z) (Cn Z))
   (λ_ _ _ _ _=>Ls (As (iR e1) (Cm (AE Ab (AE (pv 2) AJ))) (pv 1) Z)) (λ_ _ _ _ _=>pv 0))) AJ)))),?_⟩;refine⟨d,Az h4,hd,_,Z,.inr (.inr (.inl ⟨Z,.inl ⟨_,hd⟩⟩)),d,_,Z,Z,hd,λp hp=>⟨p,d,Az h4,Z,AN,by rw[AO (A8 hd hp)];exact hd,λo D hD=>?_⟩⟩;have s1:AM H (upd H p (II p d)):=Ag hp;have h5:(upd H p (II p d)) d=U (.dK (Az h4)):=s1 _ _ hd;have g1:=(g.same s1).ex h5;generalize upd H p (II p d)=H1 at s1 h5 g1 hD;have g2:=g1.same (Im (o:=.BZ o (.dK (Az h4))));have h6:(upd H1 d (.BZ o (.dK (Az h4)))) d=U (.BZ o (.dK (Az h4))):=AN;refine dn (λi H'=>CI (upd H1 d (.BZ o (.dK (Az h4)))) D ((D1 (h0.take i) a).map Dt.str) H') (CI.start hD) (λi H' c=>c.same _ _ h6) (λi k x pr H' ex e4 c=>?_) λH' c=>?_
  .obtain⟨n,h7,rfl⟩:=QF ex;have hi:i<h0.length:=by rw[<-g.len];exact(BP.mp h7).1
   have ep:h0[i]? =U h0[i]:=Ar hi;obtain⟨en,h9⟩:=g2.row i _ _ h7 ep;have en:n=h0[i].1:=en;obtain⟨l,xs,rfl,hl,rr⟩:=FU (h9.same c.same);have s2:=Ag (o:=.tup [kV (Sum.inr n),.ref l]) e4;have c2:=c.ext s2;have e6:=s2 _ _ hl;have e0:=rr.same s2;refine⟨pr,_,Z,AS.of AN,Z,_,_,Z,_,_,Z,Z,aY,_,Z,(by exact zw),λt ht=>?_⟩;have st:=Ag (o:=.tup [.str "to",.str a]) ht;have c3:=c2.ext st;refine⟨_,Z,t,l,(("to" :Str),a),h0[i].2,xs,Z,Z,AN,st _ _ e6,e0.same st,_,Z,?_⟩;have es:D1 (h0.take (i+1)) a=D1 (h0.take i) a++(if(h0[i].2.any λq=>decide (q=(("to" :Str),a)))=Y then[h0[i].1] else[]):=by delta D1;rw[take_succ_filter ep,BL];congr 1;split<;>rfl
   rw[es,BL];by_cases z:(h0[i].2.any λq=>decide (q=(("to" :Str),a)))=Y
   .rw[z,AG Z];refine Bs ⟨_,Z,?_⟩;have e2:kV (Sum.inr n)=V.str h0[i].1:=by rw[<-en];rfl
    refine c3.push (d:=.str h0[i].1) (y:=kV (Sum.inr n)) (by rw[e2];exact .str _) ?_;have h1:=Ef i h0;have h2:=sm.Dh;have h3:=Ee (λp:Pg=>p.2.any λq=>decide (q=(("to" :Str),a))) (h0.take i);delta D1;rw[AI,AI]
    lia
   .have z':(h0[i].2.any λq=>decide (q=(("to" :Str),a)))=vc:=(Bool.not_eq_true _).mp z;rw[z',AF Ck,La,CW];exact BV c3
  .have e:(Az h4).length=h0.length:=by show(h4.map _).length=_;rw[AI];exact g.len
   rw[e,CH] at c;obtain⟨ys,hy,ry⟩:=c.lst;have nd:D≠d:=λz=>by rw[z,AN] at hD;cases hD
   have s3:=s1.trans (WY h5 c.same);refine⟨o,c.same _ _ h6,D,D1 h0 a,Z,AL.of (by rw[AO nd,hy,KY ry]),?_,λD2 h8 e7 e5 e3=>?_⟩
   .have h3:=Ee (λp:Pg=>p.2.any λq=>decide (q=(("to" :Str),a))) h0;delta D1;rw[AI]
    lia
   .refine q _ _ (s3.trans (Ag e7)) ?_;show Rep _ (.lst ((Fg ES (D1 h0 a)).map Dt.str)) _;rw[<-Kg ES e5 e3];exact Rep.Hi AN (Sl h8)
def mB:((["place","word"]:List Str)++(["plain"]:List Str)).Nodup:=by left
noncomputable def CT(z:Str):Nat->List PR->List Int
 |_,[]=>[]
 |k,p::ws=>(if p=(("word" :Str),z) then[(k:Int)] else[])++CT z (k+1) ws
theorem Wb(z:Str)(p:PR):∀(ws:List PR)(k:Nat),CT z k (ws++[p])=CT z k ws++(if p=(("word" :Str),z) then[((k+ws.length:Nat):Int)] else[])
 |[],k=>by simp[CT]
 |q::ws,k=>by rw[O0,CT,CT,Wb z p ws (k+1),Bt,Bw];rw[show k+1+ws.length=k+(ws.length+1) by lia]
theorem Sg(z:Str):∀(ws:List PR)(k:Nat),(CT z k ws).length<=ws.length
 |[],k=>by simp[CT]
 |q::ws,k=>by have:=Sg z ws (k+1);rw[CT,A9,Bw];split<;>simp<;>lia
def aB:Sp:=λvs H Q _=>∃v ws z,vs=[v,.str z]/\Rep H (Df ws) v/\ws.length<=100000/\∀u H',AM H H'->Rep H' (.lst ((CT z 0 ws).map Dt.int)) u->Q u H'
noncomputable def Cu(p:PR):Str:=if p.1=("to" :Str) then "[" ++p.2++ "]" else p.2
def QH(ws:List PR):Str:=Qq " " (ws.map Cu)
def ag:Sp:=λvs H Q _=>∃v p,vs=[v]/\Rep H (De p) v/\p.2.length<=4000000/\Q (.str (Cu p)) H
def oU:A3 ["words","plain"] ["words","plain"] (Aq PJ):=by left
def mv(F:Ak K "places_of" "places_of" PJ f fd)(O:IL mg):AX P w K mg base Ai 1 f fd ["words","plain"] aB:=by
 refine F.ok oU ?_ ?_
 .rintro _ _ _ _ ⟨_,_,_,rfl,_⟩;rfl
 .rintro h4 A _ s H _ Q E hr ⟨v,ws,z,rfl,rp,hz,q⟩;have h5:=CZ hr;have hu:(A.deeper (tu "places_of" (Aq PJ) s.heap.objs.size f h4)).units<tE:=by lia
  refine⟨_,(AR (An (E6 (ts:=["place","word"]) (cap:=["plain"]) (ix:=[1]) (Jb Z Z (by left) (by left) Z Z Z Z Z) (Ye Z O.en (AE (pv 0) AJ))
   (λ_ _ _ _ _=>X9 (K:=K) (i:=0) (j:=1) Z Z mB Z (AY Z) (Cn Z) Z (AY Z) (Cn Z))
   (λ_ _ _ _ _=>Ls (As (XF hu) (pv 1) (Cm (AE Ab (AE (pv 2) AJ))) (Am _))) (λ_ _ _ _ _=>pv 0)))),?_⟩;obtain⟨l,xs,rfl,hl,rr⟩:=FU rp;refine⟨_,Z,l,Z,⟨_,AL.of hl⟩,λD hD=>gV (xs:=xs) (λi H'=>CI H D ((CT z 0 (ws.take i)).map Dt.int) H') (CI.start hD) (λi H' _ c=>AL.of (c.same _ _ hl)) (λi x pr H' ex h0 c=>?_) λH' c=>?_⟩
  .obtain⟨p,ep,rx⟩:=Ik rr ex;obtain⟨ad,rfl,ha⟩:=Nm rx;have s2:=Ag (o:=.tup [.int i,.ref ad]) h0;have c2:=c.ext s2;have h3:=c2.same _ _ ha;refine⟨pr,_,Z,AS.of AN,Z,_,_,Z,_,_,Z,Z,aY,_,Z,_,Z,(by exact zw),λt ht=>?_⟩;have st:=Ag (o:=.tup [.str "word",.str z]) ht;have c3:=c2.ext st;refine⟨ad,t,p,(("word" :Str),z),Z,Z,st _ _ h3,AN,_,Z,?_⟩;have hi:i<ws.length:=(BP.mp ep).1;have es:CT z 0 (ws.take (i+1))=CT z 0 (ws.take i)++(if p=(("word" :Str),z) then[(i:Int)] else[]):=by rw[Cf,ep];show CT z 0 (ws.take i++[p])=_;rw[Wb,Bk,LR (by lia),KP]
   rw[es,BL];by_cases y:p=(("word" :Str),z)
   .rw[Bc y,AG y];refine Bs ⟨_,Z,?_⟩;refine c3.push (.int _) ?_;have h1:=Sg z (ws.take i) 0;have h2:=Ef i ws;rw[AI]
    lia
   .rw[BG y,AF y,La,CW];exact BV c3
  .have e:xs.length=ws.length:=by have:=rr.1;rw[AI] at this;lia
   rw[e,CH] at c;exact q _ _ c.same c.done
def bb:A3 ["word","inner"] ["word"] (Aq PL):=by left
def qK(F:Ak K "tell_word" "tell_word" PL f fd):AX P w K mg base Ai 1 f fd ["word"] ag:=by
 refine F.ok bb ?_ ?_
 .rintro _ _ _ _ ⟨_,_,rfl,_⟩;rfl
 .rintro _ A _ s H _ Q E hr ⟨v,p,rfl,rp,hz,q⟩;refine⟨_,(AU (Ax (i:=1) bb.nd Z (AY Z) (A0 (pv 0))) (AU (Ay (As BQ (A0 (pv 0)) Ab (Am _)) (AR (An (kC (pv 1) (by left) (by left)))) BC) (AR (An (pv 1))))),?_⟩;obtain⟨a,rfl,ha⟩:=Nm rp;refine⟨_,Z,a,_,_,_,Z,Z,AS.of ha,BX (j:=1) Z,?_⟩;refine⟨_,Z,a,_,_,_,Z,Z,AS.of ha,BX (j:=0) Z,Z,_,Z,?_⟩;delta Cu at q;by_cases y:p.1=("to" :Str)
  .rw[AG y] at q;refine GB (λ_=>⟨_,Z,p.2,Z,hz,q⟩) (λn=>absurd (Bc (show V.str p.1=V.str "to" by rw[y])) n)
  .rw[AF y] at q;refine GB (λn=>absurd (V.str.inj (HF n)) y) (λ_=>⟨_,Z,q⟩)
noncomputable def wt(p:PR):Nat:=max 40 p.2.length+3
def wsum(ws:List PR):Nat:=(ws.map wt).sum
theorem Ll:∀ws:List PR,ws.length*43<=wsum ws
 |[]=>by simp[wsum]
 |p::ws=>by
  have h:=Ll ws;unfold wsum at h⊢;rw[Au,Bn,Bw,Nat.succ_mul];have:43<=wt p:=by delta wt;lia
  lia
def Pe(a b:List PR):wsum (a++b)=wsum a+wsum b:=by delta wsum;rw[BL,List.sum_append]
theorem Xb:∀{ws:List PR}{p:PR},p∈ws->wt p<=wsum ws
 |q::ws,p,h=>by
  delta wsum;rw[Au,Bn];rcases BM.mp h with e|e
  .rw[e];lia
  .have:=Xb e;unfold wsum at this
   lia
def PX(p:PR):(Cu p).length<=p.2.length+2:=by
 delta Cu;split
 .rw[FJ,FJ];have e1:("[" :Str).length=1:=by left
  have e2:("]" :Str).length=1:=by left
  lia
 .lia
theorem Sn(k:Nat)(hk:k<=1):∀(ws:List PR)(acc:Nat),(ws.map Cu).foldl (·+·.length+k) acc<=acc+wsum ws
 |[],acc=>by simp[wsum]
 |p::ws,acc=>by
  rw[Au,List.foldl_cons];have h1:=Sn k hk ws (acc+(Cu p).length+k);have h2:=PX p;unfold wsum at h1⊢;rw[Au,Bn];have:p.2.length+3<=wt p:=by delta wt;lia
  lia
theorem W9(g:Str)(hg:g.length<=1):∀(ws:List PR)(acc:Array Nat),((ws.map Cu).foldl (λacc p=>acc++g.cps++p.cps) acc).size<=acc.size+wsum ws
 |[],acc=>by simp[wsum]
 |p::ws,acc=>by
  rw[Au,List.foldl_cons];have h1:=W9 g hg ws (acc++g.cps++(Cu p).cps);rw[Array.size_append,Array.size_append] at h1;have h2:=PX p;have h3:g.cps.size=g.length:=Z;have h4:(Cu p).cps.size=(Cu p).length:=Z;delta wsum at h1⊢;rw[Au,Bn];have:p.2.length+3<=wt p:=by delta wt;lia
  lia
def Yg{g:Str}(hg:g.length<=1):∀ws:List PR,(Qq g (ws.map Cu)).length<=wsum ws
 |[]=>CB _
 |[p]=>by
  have:=PX p;have h:p.2.length+3<=wt p:=by delta wt;lia
  show(Cu p).length<=(List.map wt [p]).sum;rw[Au,Bn]
  lia
 |p::q::r=>by
  have h1:=W9 g hg (q::r) (Cu p).cps;have h2:=PX p;have h:p.2.length+3<=wt p:=by delta wt;lia
  have h4:(Cu p).cps.size=(Cu p).length:=Z;show(((q::r).map Cu).foldl (λh0 p=>h0++g.cps++p.cps) (Cu p).cps).size<=_;unfold wsum at h1⊢;rw[show List.map wt (p::q::r)=wt p::List.map wt (q::r) from Z,Bn]
  lia
def bh:Sp:=λvs H Q _=>∃v ws,vs=[v]/\Rep H (Df ws) v/\wsum ws<=4000000/\∀H',AM H H'->Q (.str (QH ws)) H'
def rJ:A3 ["words"] ["words"] (Aq SA):=by left
def pC{fW:OK}{fdW:sj}(F:Ak K "tell_text" "tell_text" SA f fd)(FW:Ak K "tell_word" "tell_word" PL fW fdW)(bW:Binds K fdW ["word"] [])(mW:mg "tell_word" =U (.ref fW)):AX P w K mg base Ai 2 f fd ["words"] bh:=by
 have GW:AX P w K mg base Ai 1 fW fdW ["word"] ag:=qK FW;refine F.ok rJ ?_ ?_
 .rintro _ _ _ _ ⟨_,_,rfl,_⟩;rfl
 .rintro _ A _ s H _ Q E hr ⟨v,ws,rfl,rp,tl,q⟩;refine⟨_,(AR (An (Jq Ml vZ va YH Ab (AE (E6 (ts:=["word"]) (cap:=[]) (ix:=[]) (JZ Z Z (by left) (by left)) (HY (pv 0))
   (λ_ _ _ _ _=>Bg (i:=0) LB Z (AY Z) (Cn Z)) (λ_ _ _ _ _=>HX) (λ_ _ _ _ _=>Cs GW hr Z mW FW.kp bW .nil BF (AE (pv 0) AJ))) AJ)))),?_⟩;obtain⟨l,xs,rfl,hl,rr⟩:=FU rp;refine⟨Z,_,Z,l,Z,⟨_,AL.of hl⟩,λD hD=>Gf (xs:=xs) (λi H'=>CI H D (((ws.take i).map Cu).map Dt.str) H') (CI.start hD) (λi H' _ c=>AL.of (c.same _ _ hl)) (λi x H' ex c=>?_) λH' c=>?_⟩
  .obtain⟨p,ep,rx⟩:=Ik rr ex;refine⟨Ff,_,Z,x,p,Z,rx.same c.same,?_,?_⟩
   .have:=Xb (Bv ep);have h:p.2.length+3<=wt p:=by delta wt;lia
    lia
   rw[KN ep,BL];refine c.push (.str _) ?_;have h2:=Ef i ws;have h3:=Ll ws;rw[AI,AI]
   lia
  .have e:xs.length=ws.length:=by have:=rr.1;rw[AI] at this;lia
   rw[e,CH] at c;obtain⟨ys,hy,ry⟩:=c.lst;have lb:(" " :Str).length=1:=by left
   refine⟨" ",D,ws.map Cu,Z,Z,AL.of (by rw[hy,KY ry]),?_,?_,q _ c.same⟩
   .have:=Sn (" " :Str).length (by lia) ws 0;rw[BA]
    lia
   .have:=Yg (g:=" ") (by lia) ws;rw[BA]
    lia
def mE{α γ:Type}[DecidableEq α]{R:(α×β)->(α×γ)->Prop}(hR:∀t p,R t p->t.1=p.1){k:α}{u:β}{v:γ}(hn:R (k,u) (k,v))(l:List (α×β))(m:List (α×γ))(hl:l.length=m.length)(h:∀(i:Nat) t p,l[i]? =U t->m[i]? =U p->R t p):
 (AW l k u).length=(AW m k v).length/\∀(i:Nat) t p,(AW l k u)[i]? =U t->(AW m k v)[i]? =U p->R t p:=by
 have ek:∀(l:List (α×β))(m:List (α×γ)),l.length=m.length->(∀(i:Nat) t p,l[i]? =U t->m[i]? =U p->R t p)->(l.any λp=>decide (p.1=k))=(m.any λp=>decide (p.1=k)):=by
  intro l
  induction l with
  |nil=>intro m hl _;cases m with|nil=>rfl|cons _ _=>cases hl
  |cons t l ih=>
   intro m hl h
   cases m with
   |nil=>cases hl
   |cons p m=>rw[Ie,Ie,ih m (by simpa using hl) λi t p a b=>h (i+1) t p (by simpa using a) (by simpa using b),hR t p (h 0 t p Z Z)]
 have e:=ek l m hl h;delta AW;rw[<-e];by_cases c:(l.any λp=>decide (p.1=k))=Y
 .rw[AG c,AG c];refine⟨by rw[AI,AI,hl],λi t p a b=>?_⟩;rw[A1] at a b
  cases e1:l[i]?with
  |none=>rw[e1] at a;cases a
  |some t0=>
   cases e2:m[i]?with
   |none=>rw[e2] at b;cases b
   |some p0=>
    rw[e1] at a;rw[e2] at b;have h0:=h i t0 p0 e1 e2;have hk:=hR _ _ h0;have a':(if t0.1=k then(t0.1,u) else t0)=t:=AZ a;have b':(if p0.1=k then(p0.1,v) else p0)=p:=AZ b;by_cases z:t0.1=k
    .rw[AG z] at a';rw[AG (hk▸z)] at b';rw[<-a',<-b',<-hk,z];exact hn
    .rw[AF z] at a';rw[AF (hk▸z)] at b';rw[<-a',<-b'];exact h0
 .rw[AF c,AF c];refine⟨by rw[A9,A9,hl];rfl,λi t p a b=>?_⟩;by_cases hi:i<l.length
  .rw[DH hi] at a;rw[DH (by lia)] at b;exact h i t p a b
  .rw[C6 (by lia)] at a;rw[C6 (by lia),<-hl] at b
   cases ez:i-l.length with
   |zero=>
    rw[ez] at a b;have a':(k,u)=t:=by simpa using a
    have b':(k,v)=p:=by simpa using b
    rw[<-a',<-b'];exact hn
   |succ j=>rw[ez] at a;simp at a
theorem ZG{α β γ:Type}[DecidableEq α]{R:(α×β)->(α×γ)->Prop}(hR:∀t p,R t p->t.1=p.1)(k:α):∀(l:List (α×β))(m:List (α×γ)),l.length=m.length->(∀(i:Nat) t p,l[i]? =U t->m[i]? =U p->R t p)->
 (AH l k=J/\AH m k=J)\/∃u v,AH l k=U u/\AH m k=U v/\R (k,u) (k,v)
 |[],[],_,_=>.inl ⟨Z,Z⟩
 |t::l,p::m,hl,h=>by
  have h0:=h 0 t p Z Z;have hk:=hR _ _ h0;delta AH;rw[C9,C9,<-hk];by_cases z:t.1=k
  .rw[Bc z];refine .inr ⟨t.2,p.2,Z,Z,?_⟩;rw[<-z];have e:(t.1,p.2)=p:=by rw[hk]
   rw[e];exact h0
  .rw[BG z];exact ZG hR k l m (by simpa using hl) λi t p a b=>h (i+1) t p (by simpa using a) (by simpa using b)
 |[],_::_,hl,_=>by cases hl
 |_::_,[],hl,_=>by cases hl
def Di.get{AA:List (Str×V)}(g:Di H AA AD)(n:Str):(AH AA n=J/\AH AD n=J)\/∃v ws,AH AA n=U v/\AH AD n=U ws/\Rep H (Df ws) v:=by
 rcases ZG (R:=λt p=>t.1=p.1/\Rep H (Df p.2) t.2) (λ_ _ r=>r.1) n AA AD g.len g.row with z|⟨u,v,a,b,c⟩
 .exact .inl z
 .exact .inr ⟨u,v,a,b,c.2⟩
def Di.put{AA:List (Str×V)}(g:Di H AA AD)(n:Str){ws:List PR}(r:Rep H (Df ws) v):Di H (AW AA n v) (AW AD n ws):=
 let⟨a,b⟩:=mE (R:=λt p=>t.1=p.1/\Rep H (Df p.2) t.2) (λ_ _ r=>r.1) (k:=n) (u:=v) (v:=ws) ⟨Z,r⟩ AA AD g.len g.row
 ⟨a,b⟩
def Di.drop{AA:List (Str×V)}(g:Di H AA AD)(n:Str):Di H (AQ AA n) (AQ AD n):=
 let⟨a,b⟩:=Tc (R:=λt p=>t.1=p.1/\Rep H (Df p.2) t.2) (λ_ _ r=>r.1) n AA AD g.len g.row
 ⟨a,b⟩
def Ha(AA:List (Str×V))(n:Str):BU (Az AA) (.inr n)=AH AA n:=by delta Az;rw[D6 EN];cases AH AA n<;>rfl
def Ly(AA:List (Str×V))(n:Str)(v:V):putK (Az AA) (.inr n) v=Az (AW AA n v):=Ii (g:=id) EN n v AA
def TZ(AA:List (Str×V))(n:Str):I0 (Az AA) (.inr n)=Az (AQ AA n):=KU (g:=id) EN n AA
structure Ci(cN:OK)(H:Hp)(a d:OK)(AA:List (Str×V))(AD:List Pg):Prop where
 ins:∃dx,H a=U (.ins cN dx [("pages",.ref d)])
 B1:H d=U (.dK (Az AA))
 AD:Di H AA AD
theorem Ci.same{cN:OK}{H H':Hp}{a d:OK}{AA:List (Str×V)}{AD:List Pg}(g:Ci cN H a d AA AD)(s:AM H H'):Ci cN H' a d AA AD:=
 let⟨dx,h⟩:=g.ins
 ⟨⟨dx,s _ _ h⟩,s _ _ g.B1,g.AD.same s⟩
variable{cN:OK}
theorem Ci.upd{AA kvs':List (Str×V)}{pgs':List Pg}(g:Ci cN H a d AA AD)(g':Di H kvs' pgs'):Ci cN (upd H d (.dK (Az kvs'))) a d kvs' pgs':=by
 obtain⟨dx,h⟩:=g.ins;refine⟨⟨dx,?_⟩,AN,?_⟩
 .rw[AO (CN h g.B1 (by intro z;cases z))];exact h
 .exact(g'.ex g.B1).same Im
structure Fn(K:vH)(cN:OK):Prop where
 cl:IW K cN
 nf:Kk K cN "pages"
noncomputable def keys(AD:List Pg):List Str:=AD.map (·.1)
def Zm(K:vH)(cN cR:OK):Sp:=λvs H Q E=>∃a d n h1 h0,vs=[.ref a,.str n]/\Ci cN H a d h1 h0/\(∀ws,AH h0 n=U ws->∀H',AM H H'->Q .BB H')/\(AH h0 n=J->Xw K cR E H "no page")
def Zd(K:vH)(cN cR:OK):Sp:=λvs H Q E=>∃a d n h1 h0,vs=[.ref a,.str n]/\Ci cN H a d h1 h0/\n.length<=100000/\(isNm n=vc->Xw K cR E H "no name")/\(∀ws,isNm n=Y->AH h0 n=U ws->Xw K cR E H "taken")/\(isNm n=Y->AH h0 n=J->∀H',AM H H'->Q .BB H')
def lN:A3 ["self","name"] ["self","name"] (Aq Ri):=by left
def lH(F:Ak K "need_page" "Nook.need_page" Ri f fd)(C:Fn K cN)(R:Rz P w K mg base cR "NoPage" "no page"):AX P w K mg base (Cw P w) 4 f fd ["self","name"] (Zm K cN cR):=by
 refine IV F lN ?_ ?_
 .rintro _ _ _ _ ⟨_,_,_,_,_,rfl,_⟩;rfl
 .rintro _ A _ s H _ Q E hr ⟨a,d,n,h1,AD,rfl,g,q1,q2⟩;have h0:=CZ hr;refine⟨_,(AR (Ay (Jj (Pa h0 (pv 1) (DD (pv 0) Z))) (AR (Kt (k:=0) R hr Z)) BC)),?_⟩;obtain⟨dx,hi⟩:=g.ins;refine⟨_,Z,_,Z,a,cN,dx,_,_,Z,hi,C.cl,C.nf,Z,d,_,Z,BN.kq (k:=.inr n) g.B1,_,Z,?_⟩;rw[Ha];rcases g.AD.get n with⟨e1,e2⟩|⟨v,ws,e1,e2,_⟩
  .rw[e1];exact Bs (q2 e2)
  .rw[e1];exact BV (q1 ws e2 H (AM.refl H))
def mj:A3 ["self","name"] ["self","name"] (Aq RE):=by left
def lM(F:Ak K "need_free_name" "Nook.need_free_name" RE f fd)(C:Fn K cN)(R1:Rz P w K mg base cR "NoName" "no name")(R2:Rz P w K mg base cR "Taken" "taken")
 (FI:Ak K "is_name" "is_name" OU fI fdI)(bI:Binds K fdI ["word"] [])(mI:mg "is_name" =U (.ref fI))(O:IL mg):AX P w K mg base (Cw P w) 4 f fd ["self","name"] (Zd K cN cR):=by
 have GI:AX P w K mg base Ai 1 fI fdI ["word"] QX:=UY FI O.all;refine IV F mj ?_ ?_
 .rintro _ _ _ _ ⟨_,_,_,_,_,rfl,_⟩;rfl
 .rintro _ A _ s H _ Q E hr ⟨a,d,n,h1,AD,rfl,g,hz,q1,q2,q3⟩;have h0:=CZ hr;refine⟨_,(AU (Ay (Ip (Ej (Cs GI hr.mn Z mI FI.kp bI .nil BF (AE (pv 1) AJ)))) (AR (Kt (k:=0) R1 hr Z)) BC) (AR (Ay (Jj (ZX h0 (pv 1) (DD (pv 0) Z))) (AR (Kt (k:=0) R2 hr Z)) BC))),?_⟩;refine⟨_,Z,n,Z,hz,λH1 s1=>⟨_,Z,?_⟩⟩
  cases en:isNm n with
  |false=>exact Bs ((q1 en).mono s1)
  |true=>
   refine BV ?_;have g1:=g.same s1;obtain⟨dx,hi⟩:=g1.ins;refine⟨_,Z,_,Z,a,cN,dx,_,_,Z,hi,C.cl,C.nf,Z,d,_,Z,BN.kq (k:=.inr n) g1.B1,_,Z,?_⟩;rw[Ha];rcases g1.AD.get n with⟨e1,e2⟩|⟨v,ws,e1,e2,_⟩
   .rw[e1];exact BV (q3 en e2 H1 s1)
   .rw[e1];exact Bs ((q2 ws en e2).mono s1)
theorem Lm{α β:Type}[DecidableEq α]{k:α}{v w:β}:∀{l:List (α×β)}{i:Nat},(l.map (·.1)).Nodup->l[i]? =U (k,w)->AW l k v=l.set i (k,v)
 |[],i,_,h=>by simp at h
 |p::l,0,nd,h=>by
  have e:p=(k,w):=by simpa using h
  subst e;have h0:=E1.mp nd;have h1:l.map (λp=>if p.1=k then(p.1,v) else p)=l:=by
   conv=>rhs;rw[<-NB l]
   refine EI λq hq=>?_;have:q.1≠k:=λz=>h0.1 (by rw[<-z];exact Aw.mpr ⟨q,hq,Z⟩);rw[AF this];rfl
  delta AW;rw[AG (by rw[Ie];simp),Au,h1];simp
 |p::l,i+1,nd,h=>by
  have h':l[i]? =U (k,w):=by simpa using h
  have h0:=E1.mp nd;have ih:=Lm (v:=v) h0.2 h';have ne:p.1≠k:=λz=>h0.1 (by show p.1∈_;rw[z];exact Aw.mpr ⟨_,Bv h',Z⟩);have any:(l.any λq=>decide (q.1=k))=Y:=HH.mpr ⟨_,Bv h',Bc Z⟩;unfold AW at ih⊢;rw[AG any] at ih;rw[AG (by rw[Ie,any,Bool.or_true]),Au,ih,AF ne];rfl
def DT(AD:List Pg)(n m:Str):List Pg:=AD.map λp=>(p.1,C4 p.2 n m)
def FZ(AD:List Pg)(n m:Str)(i:Nat):List Pg:=DT (AD.take i) n m++AD.drop i
def V6(AD:List Pg)(n m:Str)(i:Nat):(FZ AD n m i).map (·.1)=AD.map (·.1):=by delta FZ DT;rw[BL,Bf];show(AD.take i).map (·.1)++_=_;rw[<-BL,D5]
def gU{n m:Str}{p:Pg}(h:AD[i]? =U p):(FZ AD n m i)[i]? =U p:=by have hi:=(BP.mp h).1;delta FZ DT;rw[C6 (by rw[AI,Bk];lia),AI,Bk,LR (by lia),FQ,LM,Nat.add_zero];exact h
def dR{n m:Str}{p:Pg}(h:AD[i]? =U p):(FZ AD n m i).set i (p.1,C4 p.2 n m)=FZ AD n m (i+1):=by
 have hi:=(BP.mp h).1;delta FZ DT;have hl:((AD.take i).map λp:Pg=>(p.1,C4 p.2 n m)).length=i:=by rw[AI,Bk];lia
 rw[List.set_append_right _ _ (by lia),hl,FQ,Cf,h,BL,Bt];congr 1;rw[Oc hi,List.set_cons_zero];rfl
def BO(AD:List Pg):Nat:=(AD.map λp=>wsum p.2).sum
theorem Lw:∀{AD:List Pg}{p:Pg},p∈AD->wsum p.2<=BO AD
 |q::AD,p,h=>by
  delta BO;rw[Au,Bn];rcases BM.mp h with e|e
  .rw[e];lia
  .have:=Lw e;unfold BO at this
   lia
structure DL(AD:List Pg):Prop where
 nd:(AD.map (·.1)).Nodup
 Dh:AD.length<=900
 BO:BO AD<=3900000
def DL.GQ(n:DL AD):Md AD:=⟨BI n.Dh (by lia),λp hp=>by
 have h1:=Lw hp;have h2:=Ll p.2;have h3:=n.BO
 lia⟩
def Xa(ws:List PR)(n m:Str):(C4 ws n m).length=ws.length:=by delta C4;rw[AI]
def Yn(cN:OK):Sp:=λvs H Q _=>∃a d n m h2 h0,vs=[.ref a,.str n,.str m]/\Ci cN H a d h2 h0/\DL h0/\∀H' h1,AM (Ex H d) H'->Ci cN H' a d h1 (DT h0 n m)->Q .BB H'
def Yc:A3 ["self","name","fresh","page"] ["self","name","fresh"] (Aq RJ):=by left
def i6{fP:OK}{fdP:sj}(F:Ak K "point_all_on" "Nook.point_all_on" RJ f fd)(C:Fn K cN)(O:IL mg)(FP:Ak K "point_on" "point_on" NC fP fdP)(bP:Binds K fdP ["words","name","fresh"] [])(mP:mg "point_on" =U (.ref fP)):
 AX P w K mg base Ai 2 f fd ["self","name","fresh"] (Yn cN):=by
 have GP:AX P w K mg base Ai 1 fP fdP ["words","name","fresh"] bA:=oV FP;refine F.ok Yc ?_ ?_
 .rintro _ _ _ _ ⟨_,_,_,_,_,_,rfl,_⟩;rfl
 .rintro _ A _ s H _ Q E hr ⟨a,d,n,m,h0,AD,rfl,g,nc,q⟩;have h5:=CZ hr;refine⟨_,(AR (DC C8 Z (HY (E3 (JY Z) Z O.lst F1 (AE (DD (pv 0) Z) AJ))) (Bg (i:=3) Yc.nd Z (AY Z))
   (AR (Eh h5 (DD (pv 0) Z) (pv 3) (Cs GP hr Z mP FP.kp bP .nil BF (AE (DB h5 (DD (pv 0) Z) (pv 3) (λ_ _=>rfl)) (AE (pv 1) (AE (pv 2) AJ)))) Z)))),?_⟩;obtain⟨dx,hi⟩:=g.ins;refine⟨_,Z,a,cN,dx,_,_,Z,hi,C.cl,C.nf,Z,d,_,Z,g.B1,λL hL=>⟨L,Z,⟨_,AL.of AN⟩,?_⟩⟩;have s1:=Ag (o:=.lst ((Az h0).map λkv=>kV kv.1)) hL;have g1:=g.same s1;have h6:(upd H L (.lst ((Az h0).map λkv=>kV kv.1))) L=U (.lst ((Az h0).map λkv=>kV kv.1)):=AN;have e7:=g.B1;generalize upd H L (.lst ((Az h0).map λkv=>kV kv.1))=H1 at s1 g1 h6;have h2:(Az h0).length=AD.length:=by show(h0.map _).length=_;rw[AI];exact g.AD.len
  refine HN (xs:=(Az h0).map λkv=>kV kv.1) (λi S H'=>S[0]? =U (U (.ref a))/\S[1]? =U (U (.str n))/\S[2]? =U (U (.str m))/\3<S.length/\AM (Ex H1 d) H'/\H' L=U (.lst ((Az h0).map λkv=>kV kv.1))/\∃h1,Ci cN H' a d h1 (FZ AD n m i))
   ⟨Z,Z,Z,by show 3<4;decide,Ex.sub,h6,h0,g1⟩ (λi S H' _ c=>AL.of c.2.2.2.2.2.1) (λi x S H' ex c=>?_) (λS H' c=>?_)
  .obtain⟨e0,e1,e2,e3,sm,e9,h1,g'⟩:=c;have ek:x=kV (Sum.inr (h0.map (·.1))[i]!):=by
    rw[A1] at ex
    cases e:(Az h0)[i]?with
    |none=>rw[e] at ex;cases ex
    |some kv=>rw[e] at ex;obtain⟨nm,e5,e6⟩:=QF (k:=kv.1) (x:=kv.2) e;have:kV kv.1=x:=AZ ex;rw[<-this,e6];congr 2;rw[List.getElem!_eq_getElem?_getD,A1,e5];rfl
   have h3:i<AD.length:=by have:=(BP.mp ex).1;rw[AI,h2] at this;exact this
   have ep:AD[i]? =U AD[i]:=Ar h3;have hk:i<h0.length:=by rw[g.AD.len];exact h3
   have en:(h0.map (·.1))[i]! =AD[i].1:=by rw[List.getElem!_eq_getElem?_getD,A1,Ar hk];exact(g.AD.row i _ _ (Ar hk) ep).1
   rw[en] at ek;subst ek;have h4:((FZ AD n m i).map (·.1)).Nodup:=by rw[V6];exact nc.nd
   have h7:=gU (n:=n) (m:=m) ep;have gt:AH (FZ AD n m i) AD[i].1=U AD[i].2:=Il h4 h7;obtain⟨s3,Fl⟩:=g'.ins;rcases g'.AD.get AD[i].1 with⟨_,z⟩|⟨v,ws,v1,v2,h8⟩
   .rw[gt] at z;cases z
   .rw[gt] at v2;cases v2;have p0:(S.set 3 (U (kV (Sum.inr AD[i].1))))[0]? =U (U (.ref a)):=by rw[Ol (by decide)];exact e0
    have p1:(S.set 3 (U (kV (Sum.inr AD[i].1))))[1]? =U (U (.str n)):=by rw[Ol (by decide)];exact e1
    have p2:(S.set 3 (U (kV (Sum.inr AD[i].1))))[2]? =U (U (.str m)):=by rw[Ol (by decide)];exact e2
    have p3:(S.set 3 (U (kV (Sum.inr AD[i].1))))[3]? =U (U (kV (Sum.inr AD[i].1))):=Og e3;have dg:BN H' d (kV (Sum.inr AD[i].1)) (U v):=by have:=BN.kq (k:=.inr AD[i].1) g'.B1;rw[Ha,v1] at this;exact this
    have h9:AD[i].2.length<=100000:=nc.GQ.short _ (Ez h3);refine⟨_,p0,a,cN,s3,_,_,Z,Fl,C.cl,C.nf,Z,_,p3,d,_,Z,dg,_,p1,_,p2,v,_,n,m,Z,h8,h9,λu H2 s2 ru=>?_⟩;have g2:=g'.same s2;obtain⟨s0,Fj⟩:=g2.ins;have e4:(Az h1).length<sizeLine:=by
     show(h1.map _).length<_;rw[AI,g'.AD.len,BA];have:=A2 List.length (V6 AD n m i);rw[AI,AI] at this;have:=nc.Dh
     lia
    have dp:=DO.kq (k:=.inr AD[i].1) (v:=u) g2.B1 e4;rw[Ly] at dp;refine⟨_,p0,a,cN,s0,_,_,Z,Fj,C.cl,C.nf,Z,_,p3,d,_,Z,dp,?_⟩;have g3:=g2.upd (g2.AD.put AD[i].1 ru);have es:AW (FZ AD n m i) AD[i].1 (C4 AD[i].2 n m)=FZ AD n m (i+1):=(Lm (k:=AD[i].1) (w:=AD[i].2) h4 h7).trans (dR ep);rw[es] at g3;have e8:L≠d:=λz=>by rw[z,e7] at hL;cases hL
    refine⟨p0,p1,p2,by rw[List.length_set];exact e3,?_,by rw[AO e8];exact s2 _ _ e9,_,g3⟩;have n1:(Ex H1 d) d=J:=by delta Ex;rw[AG Z]
    exact(sm.trans s2).upd n1
  .obtain⟨_,_,_,_,sm,_,h1,g'⟩:=c;have e:FZ AD n m ((Az h0).map λkv=>kV kv.1).length=DT AD n m:=by rw[AI,h2];delta FZ;rw[CH,List.drop_length,CW]
   rw[e] at g';exact q H' h1 ((Ex.mono s1).trans sm) g'
def Cz{α:Type}[DecidableEq α]{k j:α}{v:β}:∀l:List (α×β),AH (AW l k v) j=if j=k then U v else AH l j:=λl=>by
 have hm:∀l:List (α×β),AH (l.map λp=>if p.1=k then(p.1,v) else p) j=if j=k then(if(l.any λp=>decide (p.1=k))=Y then U v else J) else AH l j:=by
  intro l
  induction l with
  |nil=>simp[AH]
  |cons p l ih=>
   unfold AH at ih⊢;rw[Au,C9,C9,Ie];by_cases z:p.1=k
   .rw[AG z];by_cases y:j=k
    .rw[AG y,Bc (show(p.1,v).1=j by rw[y];exact z),Bc z,Bool.true_or,AG Z];rfl
    .rw[AF y,BG (show¬(p.1,v).1=j from λx=>y (x.symm.trans z))];rw[AF y] at ih;exact ih
   .rw[AF z];by_cases y:j=k
    .rw[AG y,BG z,Ry,BG (show¬p.1=j from λx=>z (x.trans y))];rw[AG y] at ih;exact ih
    .rw[AF y];rw[AF y] at ih
     cases decide (p.1=j) with
     |true=>rfl
     |false=>exact ih
 delta AW;by_cases c:(l.any λp=>decide (p.1=k))=Y
 .rw[AG c,hm l];by_cases y:j=k
  .rw[AG y,AG y,AG c]
  .rw[AF y,AF y]
 .rw[AF c];have hn:∀p∈l,¬p.1=k:=λp hp z=>c (HH.mpr ⟨p,hp,Bc z⟩);delta AH;rw[RZ];by_cases y:j=k
  .rw[AG y,Vq.mpr (λp hp=>by rw[y];simp[hn p hp])];rw[C9,Bc (show(k,v).1=j from y.symm)];rfl
  .rw[AF y,C9,BG (show¬(k,v).1=j from λx=>y x.symm)];cases List.find? (λp=>decide (p.1=j)) l<;>rfl
inductive Rs where
 |no (msg:Str)|ok (r:Dt) (AD:List Pg)|un (AD:List Pg)
def Out(K:vH)(cN cR:OK)(H:Hp)(a d:OK)(Q:VK)(E:XK):Rs->Prop
 |.no msg=>Xw K cR E H msg
 |.ok r pgs'=>∀H' h0 u,AM (Ex H d) H'->Ci cN H' a d h0 pgs'->Rep H' r u->Q u H'
 |.un pgs'=>∀H' h0 u,AM (Ex H d) H'->Ci cN H' a d h0 pgs'->Q u H'
def FX(t:Str):List PR:=(Cb t).map EG
def FT(AD:List Pg)(n t:Str):Rs:=if isNm n=Y then .ok (.int (FX t).length) (AW AD n (FX t)) else .no "no name"
def renamed(AD:List Pg)(n m:Str)(ws:List PR):List Pg:=DT (AW (AQ AD n) m ws) n m
def FR(AD:List Pg)(n m:Str):Rs:=match AH AD n with
 |none=>.no "no page"
 |some ws=>if isNm m=Y then(match AH AD m with
  |some _=>.no "taken"
  |none=>.ok (.int (cnt (renamed AD n m ws) m)) (renamed AD n m ws)) else .no "no name"
def joined(AD:List Pg)(n o:Str)(w1 w2:List PR):List Pg:=DT (AW (AQ AD o) n (w1++w2)) o n
def ET(AD:List Pg)(n o:Str):Rs:=match AH AD n with
 |none=>.no "no page"
 |some w1=>match AH AD o with
  |none=>.no "no page"
  |some w2=>if n=o then .no "same page" else .ok (.int (cnt (joined AD n o w1 w2) n)) (joined AD n o w1 w2)
def cutAt(AD:List Pg)(n m:Str)(ws:List PR)(k:Nat):List Pg:=AW (AW AD m (ws.drop k)) n (ws.take k++[(("to" :Str),m)])
def Fc(AD:List Pg)(n:Str)(pl:Int)(m:Str):Rs:=match AH AD n with
 |none=>.no "no page"
 |some ws=>if isNm m=Y then(match AH AD m with
  |some _=>.no "taken"
  |none=>if pl<0\/(ws.length:Int)<pl then .no "no place" else .ok (.int ((ws.drop pl.toNat).length:Nat)) (cutAt AD n m ws pl.toNat)) else .no "no name"
def FV(AD:List Pg)(n:Str):Rs:=match AH AD n with
 |none=>.no "no page"
 |some _=>.ok (.int (cnt AD n)) (AQ AD n)
def E7(AD:List Pg)(n:Str):Rs:=match AH AD n with
 |none=>.no "no page"
 |some ws=>.ok (.str (QH ws)) AD
def ZP(AD:List Pg)(n:Str):Rs:=.ok (.lst ((He (D1 AD n)).map Dt.str)) AD
def Gj:(Ex H d) d=J:=by delta Ex;rw[AG Z]
def NH{AA:List (Str×V)}(g:Di H AA AD)(h:AD.length<=1000):(Az AA).length<sizeLine:=by
 show(AA.map _).length<_;rw[AI,g.len,BA]
 lia
def YX(K:vH)(cN cR:OK):Sp:=λvs H Q E=>∃a d n t h1 h0,vs=[.ref a,.str n,.str t]/\Ci cN H a d h1 h0/\DL h0/\n.length<=100000/\t.length<=10000/\Out K cN cR H a d Q E (FT h0 n t)
def ki:A3 ["self","name","text"] ["self","name","text"] (Aq RW):=by left
def iw(F:Ak K "write_page" "Nook.write_page" RW f fd)(C:Fn K cN)(O:IL mg)(R1:Rz P w K mg base cR "NoName" "no name")
 (FI:Ak K "is_name" "is_name" OU fI fdI)(bI:Binds K fdI ["word"] [])(mI:mg "is_name" =U (.ref fI))(HS:Hv P w K mg base "split_up" 3 ["text"] ae):
 AX P w K mg base (Cw P w) 4 f fd ["self","name","text"] (YX K cN cR):=by
 have GI:AX P w K mg base Ai 1 fI fdI ["word"] QX:=UY FI O.all;refine IV F ki ?_ ?_
 .rintro _ _ _ _ ⟨_,_,_,_,_,_,rfl,_⟩;rfl
 .rintro _ A _ s H _ Q E hr ⟨a,d,n,t,h0,AD,rfl,g,nc,hz,h4,q⟩;have h1:=CZ hr;refine⟨_,(AU (Ay (Ip (Ej (Cs GI hr.mn Z mI FI.kp bI .nil BF (AE (pv 1) AJ)))) (AR (Kt (k:=0) R1 hr Z)) BC)
   (AU (Eh h1 (DD (pv 0) Z) (pv 1) (Cj HS hr Z BF (AE (pv 2) AJ)) Z)
   (AR (An (Bh JW Z O.len DX (AE (DB h1 (DD (pv 0) Z) (pv 1) (λ_ _=>rfl)) AJ)))))),?_⟩;refine⟨_,Z,n,Z,hz,λH1 s1=>⟨_,Z,?_⟩⟩;delta FT at q
  cases en:isNm n with
  |false=>rw[en,AF Ck] at q;exact Bs (Xw.mono q s1)
  |true=>
   rw[en,AG Z] at q;refine BV ?_;refine⟨_,Z,t,Z,h4,λD H2 s2 rD=>?_⟩;have g2:=(g.same s1).same s2;obtain⟨dx,hi⟩:=g2.ins;have h3:Rep H2 (Df (FX t)) (.ref D):=by
    have e:Df (FX t)=.lst ((Cb t).map VA):=by delta Df FX;rw[Bf];rfl
    rw[e];exact rD
   have dp:=DO.kq (k:=.inr n) (v:=.ref D) g2.B1 (NH g2.AD (BI nc.Dh (by lia)));rw[Ly] at dp;refine⟨_,Z,a,cN,dx,_,_,Z,hi,C.cl,C.nf,Z,_,Z,d,_,Z,dp,?_⟩;have g3:=g2.upd (g2.AD.put n h3);have s3:AM (Ex H d) (upd H2 d (.dK (Az (AW h0 n (.ref D))))):=((Ex.sub.trans s1).trans s2).upd Gj;generalize upd H2 d (.dK (Az (AW h0 n (.ref D))))=H3 at g3 s3;obtain⟨h5,Fj⟩:=g3.ins;rcases g3.AD.get n with⟨_,z⟩|⟨v,ws,v1,v2,h2⟩
   .rw[Cz,AG Z] at z;cases z
   .have ev:ws=FX t:=by rw[Cz,AG Z] at v2;exact(AZ v2).symm
    subst ev;have dg:BN H3 d (.str n) (U v):=by have:=BN.kq (k:=.inr n) g3.B1;rw[Ha,v1] at this;exact this
    obtain⟨l,xs,rfl,hl,rr⟩:=FU h2;refine⟨_,Z,a,cN,h5,_,_,Z,Fj,C.cl,C.nf,Z,_,Z,d,_,Z,dg,l,xs,Z,.inl (AL.of hl),?_⟩;have el:xs.length=(FX t).length:=by have:=rr.1;rw[AI] at this;exact this.symm
    rw[el];exact q _ _ _ s3 g3 (.int _)
def HW{α:Type}[DecidableEq α](l:List (α×β))(k:α)(v:β):(AW l k v).length<=l.length+1:=by
 delta AW;split
 .rw[AI];lia
 .rw[A9];exact Ac _
theorem NO{α β:Type}[DecidableEq α]{k:α}{v:β}:∀{l:List (α×β)},AH l k=U v->(AQ l k).length+1<=l.length
 |[],h=>by cases h
 |p::l,h=>by
  by_cases c:p.1=k
  .have d1:AQ (p::l) k=AQ l k:=by delta AQ;rw[FF];simp[c]
   rw[d1,Bw];have:=Ee (λp:α×β=>decide (p.1≠k)) l;show(l.filter _).length+1<=_
   lia
  .have d1:AQ (p::l) k=p::AQ l k:=by delta AQ;rw[Ed];simp[c]
   have h':AH l k=U v:=by delta AH at h⊢;rw[C9,BG c] at h;exact h
   have:=NO h';rw[d1,Bw,Bw]
   lia
def ER{α:Type}[DecidableEq α]{l:List (α×β)}{k:α}{v:β}(h:(l.map (·.1)).Nodup):((AW l k v).map (·.1)).Nodup:=by
 delta AW;by_cases c:(l.any λp=>decide (p.1=k))=Y
 .rw[AG c,Bf];have e:(l.map ((λx:α×β=>x.1)∘λp=>if p.1=k then(p.1,v) else p))=l.map (·.1):=EI λp _=>by show(if p.1=k then(p.1,v) else p).1=p.1;split<;>rfl
  rw[e];exact h
 .rw[AF c,BL];refine Oy.mpr ⟨h,by simp,λx hx y hy=>?_⟩;intro z;have h0:y=k:=by simpa using hy
  obtain⟨p,hp,e⟩:=Aw.mp hx;exact c (HH.mpr ⟨p,hp,Bc (e.trans (z.trans h0))⟩)
def Pw(AD:List Pg)(n:Str)(ws:List PR)(nd:(AD.map (·.1)).Nodup):BO (AW AD n ws)<=BO AD+wsum ws:=by
 cases h:AH AD n with
 |none=>
  delta AW;rw[AF (by
   intro c;obtain⟨p,hp,e⟩:=HH.mp c;have e':=HF e;delta AH at h
   cases f:AD.find? (λp=>decide (p.1=n)) with
   |none=>exact absurd e' (by simpa using Vq.mp f p hp)
   |some q=>rw[f] at h;cases h)];delta BO;rw[BL,List.sum_append];simp
 |some w0=>
  obtain⟨i,hi⟩:=Gi h;rw[Lm nd hi];delta BO;have hl:=(BP.mp hi).1;have:∀(l:List Nat)(i x:Nat),(l.set i x).sum<=l.sum+x:=by
   intro l
   induction l with
   |nil=>intro i x;simp
   |cons y l ih=>
    intro i x
    cases i with
    |zero=>simp;lia
    |succ i=>rw[Vp,Bn,Bn];have:=ih i x;lia
  rw[List.map_set];exact this _ _ _
theorem NW{n:Str}{ws:List PR}:∀{AD:List Pg},AH AD n=U ws->BO (AQ AD n)+wsum ws<=BO AD
 |[],h=>by cases h
 |p::AD,h=>by
  by_cases c:p.1=n
  .have d1:AQ (p::AD) n=AQ AD n:=by delta AQ;rw[FF];simp[c]
   have e:p.2=ws:=by delta AH at h;rw[C9,Bc c] at h;exact AZ h
   have:∀l:List Pg,BO (AQ l n)<=BO l:=by
    intro l
    induction l with
    |nil=>exact Ac _
    |cons q l ih=>
     by_cases z:q.1=n
     .have d2:AQ (q::l) n=AQ l n:=by delta AQ;rw[FF];simp[z]
      rw[d2];unfold BO at ih⊢;rw[Au,Bn]
      lia
     .have d2:AQ (q::l) n=q::AQ l n:=by delta AQ;rw[Ed];simp[z]
      rw[d2];unfold BO at ih⊢;rw[Au,Bn,Au,Bn]
      lia
   have:=this AD;rw[d1,<-e];unfold BO at this⊢;rw[Au,Bn]
   lia
  .have d1:AQ (p::AD) n=p::AQ AD n:=by delta AQ;rw[Ed];simp[c]
   have h':AH AD n=U ws:=by delta AH at h⊢;rw[C9,BG c] at h;exact h
   have:=NW h';rw[d1];unfold BO at this⊢;rw[Au,Bn,Au,Bn]
   lia
def DL.moved{n m:Str}{ws:List PR}(nc:DL AD)(h:AH AD n=U ws):DL (AW (AQ AD n) m ws):=by
 refine⟨ER (DQ nc.nd),?_,?_⟩
 .have h1:=HW (AQ AD n) m ws;have h2:=NO h;have h3:=nc.Dh
  lia
 .have h1:=Pw (AQ AD n) m ws (DQ nc.nd);have h2:=NW h;have h3:=nc.BO
  lia
def W0{n m:Str}(s:Md AD):Md (DT AD n m):=by refine⟨by delta DT;rw[AI];exact s.Dh,λp hp=>?_⟩;obtain⟨q,hq,rfl⟩:=Aw.mp hp;show(C4 q.2 n m).length<=_;rw[Xa];exact s.short q hq
def XO(K:vH)(cN cR:OK):Sp:=λvs H Q E=>∃a d n m h1 h0,vs=[.ref a,.str n,.str m]/\Ci cN H a d h1 h0/\DL h0/\m.length<=100000/\Out K cN cR H a d Q E (FR h0 n m)
structure MW(P:sY)(w:si)(K:vH)(mg:Str->Option AB)(base:sf)(cN cR:OK):Prop where
 need:∃f fd,Meth K cN "need_page" f/\AX P w K mg base (Cw P w) 4 f fd ["self","name"] (Zm K cN cR)/\Binds K fd ["self","name"] []
 free:∃f fd,Meth K cN "need_free_name" f/\AX P w K mg base (Cw P w) 4 f fd ["self","name"] (Zd K cN cR)/\Binds K fd ["self","name"] []
 DT:∃f fd,Meth K cN "point_all_on" f/\AX P w K mg base Ai 2 f fd ["self","name","fresh"] (Yn cN)/\Binds K fd ["self","name","fresh"] []
 cnt:∃f fd,mg "count_pointers" =U (.ref f)/\tM K (.ref f)=Y/\AX P w K mg base Ai 1 f fd ["pages","name"] aE/\Binds K fd ["pages","name"] []
def iL:A3 ["self","name","fresh"] ["self","name","fresh"] (Aq RN):=by left
def gG(F:Ak K "rename_page" "Nook.rename_page" RN f fd)(C:Fn K cN)(M:MW P w K mg base cN cR):AX P w K mg base (Cw P w) 5 f fd ["self","name","fresh"] (XO K cN cR):=by
 obtain⟨f1,e5,m1,G1,b1⟩:=M.need;obtain⟨f2,e4,m2,G2,b2⟩:=M.free;obtain⟨f3,e3,m3,G3,b3⟩:=M.DT;obtain⟨f4,e2,m4,k4,G4,b4⟩:=M.cnt;refine IV F iL ?_ ?_
 .rintro _ _ _ _ ⟨_,_,_,_,_,_,rfl,_⟩;rfl
 .rintro _ A _ s H _ Q E hr ⟨a,d,n,m,h0,AD,rfl,g,nc,hz,q⟩;have h6:=CZ hr;refine⟨_,(AU (Bq (D8 (pv 0) C.cl m1 G1 hr b1 .nil E8 (AE (pv 1) AJ))) (AU (Bq (D8 (pv 0) C.cl m2 G2 hr b2 .nil E8 (AE (pv 2) AJ)))
   (AU (Eh h6 (DD (pv 0) Z) (pv 2) (Ja (DD (pv 0) Z) (pv 1) ⟨Z,Z,Z,Z⟩) Z)
   (AU (Bq (D8 (pv 0) C.cl m3 G3 hr.mn b3 .nil BF (AE (pv 1) (AE (pv 2) AJ))))
   (AR (An (Cs G4 hr.mn Z m4 k4 b4 .nil BF (AE (DD (pv 0) Z) (AE (pv 2) AJ))))))))),?_⟩;obtain⟨dx,hi⟩:=g.ins;delta FR at q;refine⟨_,Z,a,dx,_,Z,hi,Z,_,Z,a,d,n,h0,AD,Z,g,λws hw H1 s1=>?_,λhw=>by rw[hw] at q;exact q⟩;rw[hw] at q;have g1:=g.same s1;obtain⟨e1,DG⟩:=g1.ins;refine⟨_,Z,a,e1,_,Z,DG,Z,_,Z,a,d,m,h0,AD,Z,g1,hz,λen=>?_,λw2 en hm=>?_,λen hm H2 s2=>?_⟩
  .dsimp only at q;rw[en,AF Ck] at q;exact Xw.mono q s1
  .dsimp only at q;rw[en,AG Z,hm] at q;exact Xw.mono q s1
  .dsimp only at q;rw[en,AG Z,hm] at q;have g2:=g1.same s2;obtain⟨e0,Fl⟩:=g2.ins;rcases g2.AD.get n with⟨_,z⟩|⟨v,h2,v1,v2,h5⟩
   .rw[hw] at z;cases z
   have ev:h2=ws:=by rw[hw] at v2;exact(AZ v2).symm
   subst ev;have vv:BU (Az h0) (.inr n)=U v:=by rw[Ha];exact v1
   refine⟨_,Z,a,cN,e0,_,_,Z,Fl,C.cl,C.nf,Z,d,Z,.inl ⟨_,.inl g2.B1⟩,_,Z,_,.inr n,_,g2.B1,Z,vv,?_⟩;rw[TZ];have g3:=g2.upd (g2.AD.drop n);have r3:Rep (upd H2 d (.dK (Az (AQ h0 n)))) (Df h2) v:=(Lb g2.B1 h5).same Im;have s3:AM (Ex H d) (upd H2 d (.dK (Az (AQ h0 n)))):=((Ex.sub.trans s1).trans s2).upd Gj;generalize upd H2 d (.dK (Az (AQ h0 n)))=H3 at g3 s3 r3;obtain⟨h9,Fj⟩:=g3.ins;have dp:=DO.kq (k:=.inr m) (v:=v) g3.B1 (NH g3.AD (by have:=NO hw;have:=nc.Dh;lia));rw[Ly] at dp;refine⟨_,Z,a,cN,h9,_,_,Z,Fj,C.cl,C.nf,Z,_,Z,d,_,Z,dp,?_⟩;have g4:=g3.upd (g3.AD.put m r3);have s4:=s3.upd (o:=.dK (Az (AW (AQ h0 n) m v))) Gj;generalize upd H3 d (.dK (Az (AW (AQ h0 n) m v)))=H4 at g4 s4;obtain⟨h8,J2⟩:=g4.ins;have h3:DL (AW (AQ AD n) m h2):=nc.moved hw;refine⟨_,Z,a,h8,_,Z,J2,Z,_,Z,_,Z,a,d,n,m,_,_,Z,g4,h3,λH5 h1 s5 g5=>?_⟩;obtain⟨h7,LC⟩:=g5.ins;have h4:AM (Ex H d) H5:=by have:AM (Ex H d) (Ex H4 d):=Ex.of_none s4 Gj;exact this.trans s5
   refine⟨_,Z,a,cN,h7,_,_,Z,LC,C.cl,C.nf,Z,_,Z,d,m,h1,_,Z,g5.B1,g5.AD,W0 h3.GQ,λH6 s6=>?_⟩;exact q H6 h1 _ (h4.trans s6) (g5.same s6) (.int _)
def YZ{l:OK}{xs:List V}{w1 w2:List PR}(h:H l=U (.lst (xs++ys)))(r1:Ah H (w1.map De) xs)(r2:Ah H (w2.map De) ys):Rep H (Df (w1++w2)) (.ref l):=by
 refine Rep.Hi h ⟨?_,λi d x h1 h2=>?_⟩
 .rw[BL,A9,A9,r1.1,r2.1]
 .rw[BL] at h1;by_cases hi:i<xs.length
  .rw[DH hi] at h2;rw[DH (by rw[r1.1];exact hi)] at h1;exact r1.2 i d x h1 h2
  .rw[C6 (by lia)] at h2;rw[C6 (by rw[r1.1];lia),r1.1] at h1;exact r2.2 _ d x h1 h2
def DL.join{n o:Str}{w1 w2:List PR}(nc:DL AD)(hno:n≠o)(h1:AH AD n=U w1)(h2:AH AD o=U w2):DL (AW (AQ AD o) n (w1++w2)):=by
 have h3:AH (AQ AD o) n=U w1:=by rw[EL hno];exact h1
 refine⟨ER (DQ nc.nd),?_,?_⟩
 .have a1:=HW (AQ AD o) n (w1++w2);have a2:=NO h2;have a3:=nc.Dh
  lia
 ·
  obtain⟨i,hi⟩:=Gi h3;rw[Lm (DQ nc.nd) hi];have a2:=NW h2;have a3:=nc.BO;have h0:∀(l:List Nat)(i x y:Nat),l[i]? =U y->(l.set i x).sum+y=l.sum+x:=by
   intro l
   induction l with
   |nil=>intro i x y h;simp at h
   |cons z l ih=>
    intro i x y h
    cases i with
    |zero=>
     have:z=y:=by simpa using h
     subst this;simp
     lia
    |succ i=>
     rw[Vp,Bn,Bn];have:=ih i x y (by simpa using h)
     lia
  have k1:=h0 ((AQ AD o).map λp:Pg=>wsum p.2) i (wsum (w1++w2)) (wsum w1) (by rw[A1,hi];rfl);have k2:=Pe w1 w2;have e2:((AQ AD o).set i (n,w1++w2)).map (λp:Pg=>wsum p.2)=((AQ AD o).map λp:Pg=>wsum p.2).set i (wsum (w1++w2)):=by rw[List.map_set]
  unfold L2.BO at a2 a3⊢;rw[e2]
  lia
def ZJ(K:vH)(cN cR:OK):Sp:=λvs H Q E=>∃a d n m h1 h0,vs=[.ref a,.str n,.str m]/\Ci cN H a d h1 h0/\DL h0/\Out K cN cR H a d Q E (ET h0 n m)
def ZV(K:vH)(cN cR:OK):Sp:=λvs H Q E=>∃a d n h1 h0,vs=[.ref a,.str n]/\Ci cN H a d h1 h0/\DL h0/\Out K cN cR H a d Q E (FV h0 n)
def ZZ(K:vH)(cN cR:OK):Sp:=λvs H Q E=>∃a d n h1 h0,vs=[.ref a,.str n]/\Ci cN H a d h1 h0/\DL h0/\(∀ws,AH h0 n=U ws->∀H',AM H H'->Q (.str (QH ws)) H')/\(AH h0 n=J->Xw K cR E H "no page")
def ZC(cN:OK):Sp:=λvs H Q _=>∃a d n h1 h0,vs=[.ref a,.str n]/\Ci cN H a d h1 h0/\DL h0/\h0.length<64/\∀u H',AM H H'->Rep H' (.lst ((He (D1 h0 n)).map Dt.str)) u->Q u H'
def Ze:A3 ["self","name","other","behind"] ["self","name","other"] (Aq RU):=by left
def j4(F:Ak K "join_pages" "Nook.join_pages" RU f fd)(C:Fn K cN)(M:MW P w K mg base cN cR)(R:Rz P w K mg base cR "SamePage" "same page"):AX P w K mg base (Cw P w) 5 f fd ["self","name","other"] (ZJ K cN cR):=by
 obtain⟨f1,q0,m1,G1,b1⟩:=M.need;obtain⟨f3,r9,m3,G3,b3⟩:=M.DT;obtain⟨f4,r8,m4,k4,G4,b4⟩:=M.cnt;refine IV F Ze ?_ ?_
 .rintro _ _ _ _ ⟨_,_,_,_,_,_,rfl,_⟩;rfl
 .rintro _ A _ s H _ Q E hr ⟨a,d,n,m,h0,AD,rfl,g,nc,q⟩;have e6:=CZ hr;refine⟨_,(AU (Bq (D8 (pv 0) C.cl m1 G1 hr b1 .nil E8 (AE (pv 1) AJ))) (AU (Bq (D8 (pv 0) C.cl m1 G1 hr b1 .nil E8 (AE (pv 2) AJ)))
   (AU (Ay (As BQ (pv 1) (pv 2) (Am _)) (AR (Kt (k:=1) R hr Z)) BC)
   (AU (Ax (i:=3) Ze.nd Z (AY Z) (Ja (DD (pv 0) Z) (pv 2) ⟨Z,Z,Z,Z⟩))
   (AU (Eh e6 (DD (pv 0) Z) (pv 1) (Al L0 (DB e6 (DD (pv 0) Z) (pv 1) (λ_ _=>rfl)) (pv 3)) Z)
   (AU (Bq (D8 (pv 0) C.cl m3 G3 hr.mn b3 .nil BF (AE (pv 2) (AE (pv 1) AJ))))
   (AR (An (Cs G4 hr.mn Z m4 k4 b4 .nil BF (AE (DD (pv 0) Z) (AE (pv 1) AJ))))))))))),?_⟩;obtain⟨dx,hi⟩:=g.ins;delta ET at q;refine⟨_,Z,a,dx,_,Z,hi,Z,_,Z,a,d,n,h0,AD,Z,g,λw1 e1 H1 s1=>?_,λhw=>by rw[hw] at q;exact q⟩;rw[e1] at q;have g1:=g.same s1;obtain⟨r6,DG⟩:=g1.ins;refine⟨_,Z,a,r6,_,Z,DG,Z,_,Z,a,d,m,h0,AD,Z,g1,λw2 h4 H2 s2=>?_,λhw=>by dsimp only at q;rw[hw] at q;exact Xw.mono q s1⟩;dsimp only at q;rw[h4] at q;refine⟨_,Z,_,Z,Z,_,Z,?_⟩;have r7:(H:Hp)->AM (Ex H d) H:=λ_=>Ex.sub;by_cases h5:n=m
  .dsimp only at q;rw[AG h5] at q;refine Bj (by rw[h5]) (Xw.mono q (s1.trans s2))
  .dsimp only at q;rw[AF h5] at q;refine Bi (λz=>h5 (V.str.inj z)) ?_;have g2:=g1.same s2;obtain⟨r5,Fl⟩:=g2.ins;rcases g2.AD.get m with⟨_,z⟩|⟨v,h3,v1,v2,e8⟩
   .rw[h4] at z;cases z
   have ev:h3=w2:=by rw[h4] at v2;exact(AZ v2).symm
   subst ev;have vv:BU (Az h0) (.inr m)=U v:=by rw[Ha];exact v1
   refine⟨_,Z,a,cN,r5,_,_,Z,Fl,C.cl,C.nf,Z,d,Z,.inl ⟨_,.inl g2.B1⟩,_,Z,_,.inr m,_,g2.B1,Z,vv,?_⟩;rw[TZ];have g3:=g2.upd (g2.AD.drop m);have r3:Rep (upd H2 d (.dK (Az (AQ h0 m)))) (Df h3) v:=(Lb g2.B1 e8).same Im;have s3:AM (Ex H d) (upd H2 d (.dK (Az (AQ h0 m)))):=((Ex.sub.trans s1).trans s2).upd Gj;generalize upd H2 d (.dK (Az (AQ h0 m)))=H3 at g3 s3 r3;obtain⟨r2,Fj⟩:=g3.ins;have h8:AH (AQ AD m) n=U w1:=by rw[EL h5];exact e1
   rcases g3.AD.get n with⟨_,z⟩|⟨u,h6,u1,u2,ru⟩
   .rw[h8] at z;cases z
   have s8:h6=w1:=by rw[h8] at u2;exact(AZ u2).symm
   subst s8;have dg:BN H3 d (.str n) (U u):=by have:=BN.kq (k:=.inr n) g3.B1;rw[Ha,u1] at this;exact this
   obtain⟨l1,e0,rfl,s0,e4⟩:=FU ru;obtain⟨l2,h9,rfl,e9,e3⟩:=FU r3;have z1:e0.length<=100000:=by have h1:=e4.1;rw[AI] at h1;have h2:h6.length<=100000:=nc.GQ.short (n,h6) (by obtain⟨i,hi⟩:=Gi e1;exact Bv hi);lia
   have z2:h9.length<=100000:=by have h1:=e3.1;rw[AI] at h1;have h2:h3.length<=100000:=nc.GQ.short (m,h3) (by obtain⟨i,hi⟩:=Gi h4;exact Bv hi);lia
   refine⟨_,Z,a,cN,r2,_,_,Z,Fj,C.cl,C.nf,Z,_,Z,d,_,Z,dg,_,Z,l1,l2,_,_,Z,Z,s0,e9,by rw[BA];lia,λl hl=>?_⟩;have s4:=Ag (o:=.lst (e0++h9)) hl;have g4:=g3.same s4;have r4:Rep (upd H3 l (.lst (e0++h9))) (Df (h6++h3)) (.ref l):=YZ AN (e4.same s4) (e3.same s4);have e2:=s3.trans s4;generalize upd H3 l (.lst (e0++h9))=H4 at g4 r4 e2;obtain⟨r1,J2⟩:=g4.ins;have dp:=DO.kq (k:=.inr n) (v:=.ref l) g4.B1 (NH g4.AD (by have:=NO h4;have:=nc.Dh;lia));rw[Ly] at dp;refine⟨_,Z,a,cN,r1,_,_,Z,J2,C.cl,C.nf,Z,_,Z,d,_,Z,dp,?_⟩;have g5:=g4.upd (g4.AD.put n r4);have s5:=e2.upd (o:=.dK (Az (AW (AQ h0 m) n (.ref l)))) Gj;generalize upd H4 d (.dK (Az (AW (AQ h0 m) n (.ref l))))=H5 at g5 s5;obtain⟨r0,LC⟩:=g5.ins;have e5:DL (AW (AQ AD m) n (h6++h3)):=nc.join h5 e1 h4;refine⟨_,Z,a,r0,_,Z,LC,Z,_,Z,_,Z,a,d,m,n,_,_,Z,g5,e5,λH6 h7 s6 g6=>?_⟩;obtain⟨s9,VN⟩:=g6.ins;have e7:AM (Ex H d) H6:=(Ex.of_none s5 Gj).trans s6;refine⟨_,Z,a,cN,s9,_,_,Z,VN,C.cl,C.nf,Z,_,Z,d,n,h7,_,Z,g6.B1,g6.AD,W0 e5.GQ,λH7 s7=>?_⟩;exact q H7 h7 _ (e7.trans s7) (g6.same s7) (.int _)
def Zl:A3 ["self","name","led"] ["self","name"] (Aq Rg):=by left
def jf(F:Ak K "drop_page" "Nook.drop_page" Rg f fd)(C:Fn K cN)(M:MW P w K mg base cN cR):AX P w K mg base (Cw P w) 5 f fd ["self","name"] (ZV K cN cR):=by
 obtain⟨f1,h7,m1,G1,b1⟩:=M.need;obtain⟨f4,h6,m4,k4,G4,b4⟩:=M.cnt;refine IV F Zl ?_ ?_
 .rintro _ _ _ _ ⟨_,_,_,_,_,rfl,_⟩;rfl
 .rintro _ A _ s H _ Q E hr ⟨a,d,n,h0,AD,rfl,g,nc,q⟩;have h5:=CZ hr;refine⟨_,(AU (Bq (D8 (pv 0) C.cl m1 G1 hr b1 .nil E8 (AE (pv 1) AJ))) (AU (Ax (i:=2) Zl.nd Z (AY Z) (Cs G4 hr.mn Z m4 k4 b4 .nil BF (AE (DD (pv 0) Z) (AE (pv 1) AJ))))
   (AU (Bq (Ja (DD (pv 0) Z) (pv 1) ⟨Z,Z,Z,Z⟩)) (AR (An (pv 2)))))),?_⟩;obtain⟨dx,hi⟩:=g.ins;delta FV at q;refine⟨_,Z,a,dx,_,Z,hi,Z,_,Z,a,d,n,h0,AD,Z,g,λws hw H1 s1=>?_,λhw=>by rw[hw] at q;exact q⟩;rw[hw] at q;have g1:=g.same s1;obtain⟨h2,DG⟩:=g1.ins;refine⟨_,Z,a,cN,h2,_,_,Z,DG,C.cl,C.nf,Z,_,Z,d,n,h0,_,Z,g1.B1,g1.AD,nc.GQ,λH2 s2=>?_⟩;have g2:=g1.same s2;obtain⟨h1,Fl⟩:=g2.ins;rcases g2.AD.get n with⟨_,z⟩|⟨v,h3,v1,v2,h4⟩
  .rw[hw] at z;cases z
  have vv:BU (Az h0) (.inr n)=U v:=by rw[Ha];exact v1
  refine⟨_,Z,a,cN,h1,_,_,Z,Fl,C.cl,C.nf,Z,d,Z,.inl ⟨_,.inl g2.B1⟩,_,Z,_,.inr n,_,g2.B1,Z,vv,?_⟩;rw[TZ];have g3:=g2.upd (g2.AD.drop n);have s3:AM (Ex H d) (upd H2 d (.dK (Az (AQ h0 n)))):=((Ex.sub.trans s1).trans s2).upd Gj;exact⟨_,Z,q _ _ _ s3 g3 (.int _)⟩
def md:A3 ["self","name"] ["self","name"] (Aq Rt):=by left
def kN(F:Ak K "text_of" "Nook.text_of" Rt f fd)(C:Fn K cN)(M:MW P w K mg base cN cR)(HT:Hv P w K mg base "tell_text" 2 ["words"] bh):
 AX P w K mg base (Cw P w) 5 f fd ["self","name"] (ZZ K cN cR):=by
 obtain⟨f1,h8,m1,G1,b1⟩:=M.need;refine IV F md ?_ ?_
 .rintro _ _ _ _ ⟨_,_,_,_,_,rfl,_⟩;rfl
 .rintro _ A _ s H _ Q E hr ⟨a,d,n,h5,AD,rfl,g,nc,q,qx⟩;have h6:=CZ hr;refine⟨_,(AU (Bq (D8 (pv 0) C.cl m1 G1 hr b1 .nil E8 (AE (pv 1) AJ))) (AR (An (Cj HT hr.mn Z BF (AE (DB h6 (DD (pv 0) Z) (pv 1) (λ_ _=>rfl)) AJ))))),?_⟩;obtain⟨dx,hi⟩:=g.ins;refine⟨_,Z,a,dx,_,Z,hi,Z,_,Z,a,d,n,h5,AD,Z,g,λws hw H1 s1=>?_,qx⟩;have g1:=g.same s1;obtain⟨h7,DG⟩:=g1.ins;rcases g1.AD.get n with⟨_,z⟩|⟨v,h0,v1,v2,h4⟩
  .rw[hw] at z;cases z
  have ev:h0=ws:=by rw[hw] at v2;exact(AZ v2).symm
  subst ev;have dg:BN H1 d (.str n) (U v):=by have:=BN.kq (k:=.inr n) g1.B1;rw[Ha,v1] at this;exact this
  refine⟨_,Z,a,cN,h7,_,_,Z,DG,C.cl,C.nf,Z,_,Z,d,_,Z,dg,v,h0,Z,h4,?_,λH2 s2=>q h0 hw H2 (s1.trans s2)⟩;have h1:=nc.BO;obtain⟨i,hi⟩:=Gi hw;have h2:=Lw (Bv hi);show wsum h0<=_;have h3:wsum h0<=BO AD:=h2
  lia
def mH:A3 ["self","name"] ["self","name"] (Aq Rb):=by left
def kS(F:Ak K "back_from" "Nook.back_from" Rb f fd)(C:Fn K cN)(HT:Hv P w K mg base "pages_pointing" 1 ["pages","name"] Z8):
 AX P w K mg base Ai 2 f fd ["self","name"] (ZC cN):=by
 refine F.ok mH ?_ ?_
 .rintro _ _ _ _ ⟨_,_,_,_,_,rfl,_⟩;rfl
 .rintro _ A _ s H _ Q E hr ⟨a,d,n,h0,AD,rfl,g,nc,h1,q⟩;refine⟨_,(AR (An (Cj HT hr Z BF (AE (DD (pv 0) Z) (AE (pv 1) AJ))))),?_⟩;obtain⟨dx,hi⟩:=g.ins;exact⟨_,Z,a,cN,dx,_,_,Z,hi,C.cl,C.nf,Z,_,Z,d,n,h0,_,Z,g.B1,g.AD,nc.GQ,h1,λu H1 s1 r=>q u H1 s1 r⟩
def XX{xs:List V}{pl:Int}(h0:0<=pl)(h1:pl<=xs.length):Er xs (U pl) J=xs.drop pl.toNat:=by
 delta Er;have e1:BE xs.length 0 (U pl)=pl.toNat:=by
  show(if pl<0 then _ else min pl.toNat xs.length)=_;rw[AF (by lia)]
  lia
 rw[e1];show(xs.drop pl.toNat).take (xs.length-pl.toNat)=_;rw[FG (by rw[EK];exact Ac _)]
def Zn{xs:List V}{pl:Int}(h0:0<=pl)(h1:pl<=xs.length):Er xs J (U pl)=xs.take pl.toNat:=by
 delta Er;have e1:BE xs.length xs.length (U pl)=pl.toNat:=by
  show(if pl<0 then _ else min pl.toNat xs.length)=_;rw[AF (by lia)]
  lia
 rw[e1];show(xs.drop 0).take (pl.toNat-0)=_;rw[O6,Nat.sub_zero]
def gM{ws:List PR}{xs:List V}(r:Ah H (ws.map De) xs)(k:Nat):Ah H ((ws.drop k).map De) (xs.drop k):=by
 refine⟨?_,λi d x h1 h2=>?_⟩
 .have:=r.1;rw[AI] at this;rw[AI,EK,EK,this]
 .rw[PD,LM] at h1;rw[LM] at h2;exact r.2 _ d x h1 h2
def f9{ws:List PR}{xs:List V}(r:Ah H (ws.map De) xs)(k:Nat):Ah H ((ws.take k).map De) (xs.take k):=by
 refine⟨?_,λi d x h1 h2=>?_⟩
 .have:=r.1;rw[AI] at this;rw[AI,Bk,Bk,this]
 .rw[PB] at h1;by_cases hi:i<k
  .rw[List.getElem?_take_of_lt hi] at h1 h2;exact r.2 _ d x h1 h2
  .rw[RP,AF hi] at h2;cases h2
def jM{p:PR}{t:OK}(h:H t=U (.tup (GK p))):Ah H ([p].map De) [.ref t]:=by
 refine⟨Z,λi d x h1 h2=>?_⟩
 match i with
 |0=>cases h1;cases h2;exact Tw h
 |i+1=>simp at h1
def aU(K:vH)(cN cR:OK):Sp:=λvs H Q E=>∃a d n pl m h1 h0,vs=[.ref a,.str n,.int pl,.str m]/\Ci cN H a d h1 h0/\DL h0/\m.length<=100000/\Out K cN cR H a d Q E (Fc h0 n pl m)
def YK(cN:OK):Sp:=λvs H Q _=>∃a dx,vs=[.ref a]/\H a=U (.ins cN dx [])/\∀H' d,H d=J->d≠a->AM (Ex H a) H'->Ci cN H' a d [] []->Q .BB H'
def Z5:A3 ["self","name","place","fresh","words"] ["self","name","place","fresh"] (Aq Rn):=by left
def nU(F:Ak K "cut_page" "Nook.cut_page" Rn f fd)(C:Fn K cN)(M:MW P w K mg base cN cR)(R:Rz P w K mg base cR "NoPlace" "no place")(O:IL mg):AX P w K mg base (Cw P w) 5 f fd ["self","name","place","fresh"] (aU K cN cR):=by
 obtain⟨f1,q8,m1,G1,b1⟩:=M.need;obtain⟨f2,q7,m2,G2,b2⟩:=M.free;refine IV F Z5 ?_ ?_
 .rintro _ _ _ _ ⟨_,_,_,_,_,_,_,rfl,_⟩;rfl
 .rintro _ A _ s H _ Q E hr ⟨a,d,n,pl,m,h3,AD,rfl,g,nc,hz,q⟩;have h4:=CZ hr;refine⟨_,(AU (Bq (D8 (pv 0) C.cl m1 G1 hr b1 .nil E8 (AE (pv 1) AJ))) (AU (Bq (D8 (pv 0) C.cl m2 G2 hr b2 .nil E8 (AE (pv 3) AJ)))
   (AU (Ax (i:=4) Z5.nd Z (AY Z) (DB h4 (DD (pv 0) Z) (pv 1) (λ_ _=>rfl)))
   (AU (Ay (PW.pt (Iw (As Iq (pv 2) Aa (Am _)) (Io (As QO (pv 2) (Bh JW Z O.len DX (AE (pv 4) AJ)) (Am _))))) (AR (Kt (k:=1) R hr Z)) BC)
   (AU (Eh h4 (DD (pv 0) Z) (pv 3) (F0 Pl (pv 4) (DY (pv 2)) Lu) Z)
   (AU (Eh h4 (DD (pv 0) Z) (pv 1) (Al L0 (F0 Pl (pv 4) Lu (DY (pv 2))) (CY (AE (Cm (AE Ab (AE (pv 3) AJ))) AJ))) Z)
   (AR (An (Bh JW Z O.len DX (AE (DB h4 (DD (pv 0) Z) (pv 3) (λ_ _=>rfl)) AJ)))))))))),?_⟩;obtain⟨dx,hi⟩:=g.ins;delta Fc at q;refine⟨_,Z,a,dx,_,Z,hi,Z,_,Z,a,d,n,h3,AD,Z,g,λws hw H1 s1=>?_,λhw=>by rw[hw] at q;exact q⟩;rw[hw] at q;have g1:=g.same s1;obtain⟨q4,DG⟩:=g1.ins;refine⟨_,Z,a,q4,_,Z,DG,Z,_,Z,a,d,m,h3,AD,Z,g1,hz,λen=>?_,λw2 en hm=>?_,λen hm H2 s2=>?_⟩
  .dsimp only at q;rw[en,AF Ck] at q;exact Xw.mono q s1
  .dsimp only at q;rw[en,AG Z,hm] at q;exact Xw.mono q s1
  .dsimp only at q;rw[en,AG Z,hm] at q;dsimp only at q;have g2:=g1.same s2;obtain⟨q3,Fl⟩:=g2.ins;rcases g2.AD.get n with⟨_,z⟩|⟨v,h1,v1,v2,r1⟩
   .rw[hw] at z;cases z
   have ev:h1=ws:=by rw[hw] at v2;exact(AZ v2).symm
   subst ev;have dg:BN H2 d (.str n) (U v):=by have:=BN.kq (k:=.inr n) g2.B1;rw[Ha,v1] at this;exact this
   obtain⟨l,xs,rfl,hl,rr⟩:=FU r1;have el:xs.length=h1.length:=by have:=rr.1;rw[AI] at this;exact this.symm
   have zl:xs.length<=100000:=by have h2:h1.length<=100000:=nc.GQ.short (n,h1) (by obtain⟨i,hi⟩:=Gi hw;exact Bv hi);lia
   refine⟨_,Z,a,cN,q3,_,_,Z,Fl,C.cl,C.nf,Z,_,Z,d,_,Z,dg,?_⟩;refine⟨_,Z,_,_,Z,Z,_,Z,?_⟩;by_cases c1:pl<0
   .rw[AG (.inl c1)] at q;refine Bj c1 ?_;exact Bs (Xw.mono q (s1.trans s2))
   refine Bi c1 ⟨_,Z,_,Z,l,xs,Z,.inl (AL.of hl),_,_,Z,Z,_,Z,?_⟩;by_cases c2:(xs.length:Int)<pl
   .rw[AG (.inr (by rw[<-el];exact c2))] at q;exact Bj c2 (Xw.mono q (s1.trans s2))
   refine Bi c2 ?_;rw[AF (by rw[<-el];exact λz=>z.elim c1 c2)] at q;have p0:0<=pl:=by lia
   have p1:pl<=xs.length:=by lia
   refine⟨_,Z,_,Z,_,Z,l,xs,Z,AL.of hl,λl3 r7=>?_⟩;rw[XX p0 p1];have s3:=Ag (o:=.lst (xs.drop pl.toNat)) r7;have g3:=g2.same s3;have r3:Rep (upd H2 l3 (.lst (xs.drop pl.toNat))) (Df (h1.drop pl.toNat)) (.ref l3):=Rep.Hi AN ((gM rr _).same s3);have e4:AM (Ex H d) (upd H2 l3 (.lst (xs.drop pl.toNat))):=((Ex.sub.trans s1).trans s2).trans s3;have h8:=s3 _ _ hl;have e7:=rr.same s3;generalize upd H2 l3 (.lst (xs.drop pl.toNat))=H3 at g3 r3 e4 h8 e7;obtain⟨q2,Fj⟩:=g3.ins;have dp:=DO.kq (k:=.inr m) (v:=.ref l3) g3.B1 (NH g3.AD (BI nc.Dh (by lia)));rw[Ly] at dp;refine⟨_,Z,a,cN,q2,_,_,Z,Fj,C.cl,C.nf,Z,_,Z,d,_,Z,dp,?_⟩;have g4:=g3.upd (g3.AD.put m r3);have s4:=e4.upd (o:=.dK (Az (AW h3 m (.ref l3)))) Gj;have e1:(upd H3 d (.dK (Az (AW h3 m (.ref l3))))) l=U (.lst xs):=by rw[AO (CN h8 g3.B1 (by intro z;cases z))];exact h8
   have e6:Ah (upd H3 d (.dK (Az (AW h3 m (.ref l3))))) (h1.map De) xs:=by obtain⟨l0,q6,e0,h0,r0⟩:=FU ((Lb g3.B1 (Rep.Hi h8 e7)).same (Im (o:=.dK (Az (AW h3 m (.ref l3))))));cases e0;rw[e1] at h0;cases h0;exact r0
   generalize upd H3 d (.dK (Az (AW h3 m (.ref l3))))=H4 at g4 s4 e1 e6;refine⟨_,Z,_,Z,_,Z,l,xs,Z,AL.of e1,λl5 r6=>⟨_,Z,(by exact zw),λt ht=>⟨(by exact zx),λl6 e9=>?_⟩⟩⟩;rw[Zn p0 p1] at ht e9⊢;have s5:=Ag (o:=.lst (xs.take pl.toNat)) r6;have s6:=Ag (o:=.tup [.str "to",.str m]) ht;have s7:=Ag (o:=.lst [.ref t]) e9;have h9:=s5.trans (s6.trans s7);have h5:=(s6.trans s7) _ _ (AN (H:=H4) (a:=l5) (o:=.lst (xs.take pl.toNat)));have h6:=s7 _ _ (AN (a:=t) (o:=.tup [.str "to",.str m]) (H:=upd H4 l5 (.lst (xs.take pl.toNat))));have h7:=AN (a:=l6) (o:=.lst [V.ref t]) (H:=upd (upd H4 l5 (.lst (xs.take pl.toNat))) t (.tup [.str "to",.str m]));have g7:=g4.same h9;have e5:=e6.same h9;have e3:=s4.trans h9;generalize upd (upd (upd H4 l5 (.lst (xs.take pl.toNat))) t (.tup [.str "to",.str m])) l6 (.lst [V.ref t])=H7 at h5 h6 h7 g7 e5 e3;refine⟨l5,l6,_,_,Z,Z,h5,h7,by rw[Bk,BA,Ey];lia,λl8 r5=>?_⟩;have s8:=Ag (o:=.lst (xs.take pl.toNat++[.ref t])) r5;have g8:=g7.same s8;have r8:Rep (upd H7 l8 (.lst (xs.take pl.toNat++[.ref t]))) (Df (h1.take pl.toNat++[(("to" :Str),m)])) (.ref l8):=YZ AN ((f9 e5 _).same s8) (jM (s8 _ _ h6));have e2:=e3.trans s8;generalize upd H7 l8 (.lst (xs.take pl.toNat++[.ref t]))=H8 at g8 r8 e2;obtain⟨q1,Q1⟩:=g8.ins;have s0:=DO.kq (k:=.inr n) (v:=.ref l8) g8.B1 (NH g8.AD (by have:=HW AD m (h1.drop pl.toNat);have:=nc.Dh;lia));rw[Ly] at s0;refine⟨_,Z,a,cN,q1,_,_,Z,Q1,C.cl,C.nf,Z,_,Z,d,_,Z,s0,?_⟩;have g9:=g8.upd (g8.AD.put n r8);have s9:=e2.upd (o:=.dK (Az (AW (AW h3 m (.ref l3)) n (.ref l8)))) Gj;generalize upd H8 d (.dK (Az (AW (AW h3 m (.ref l3)) n (.ref l8))))=H9 at g9 s9;obtain⟨q0,U9⟩:=g9.ins;have e8:m≠n:=λz=>by rw[z,hw] at hm;cases hm
   rcases g9.AD.get m with⟨_,z⟩|⟨u,wu,u1,u2,ru⟩
   .rw[Cz,AF e8,Cz,AG Z] at z;cases z
   have eu:wu=h1.drop pl.toNat:=by rw[Cz,AF e8,Cz,AG Z] at u2;exact(AZ u2).symm
   subst eu;have q5:BN H9 d (.str m) (U u):=by have:=BN.kq (k:=.inr m) g9.B1;rw[Ha,u1] at this;exact this
   obtain⟨lu,xu,rfl,r4,r2⟩:=FU ru;refine⟨_,Z,a,cN,q0,_,_,Z,U9,C.cl,C.nf,Z,_,Z,d,_,Z,q5,lu,xu,Z,.inl (AL.of r4),?_⟩;have r9:xu.length=(h1.drop pl.toNat).length:=by have:=r2.1;rw[AI] at this;exact this.symm
   rw[r9];exact q _ _ _ s9 g9 (.int _)
def j8:A3 ["self"] ["self"] (Aq SD):=by left
def iY(F:Ak K "__init__" "Nook.__init__" SD f fd)(C:Fn K cN):AX P w K mg base Ai 1 f fd ["self"] (YK cN):=by
 refine F.ok j8 ?_ ?_
 .rintro _ _ _ _ ⟨_,_,rfl,_⟩;rfl
 .rintro _ A _ s H _ Q E hr ⟨a,dx,rfl,hi,q⟩;refine⟨_,(AR (mw (pv 0) Lh Z)),λd hd=>?_⟩;have s1:=Ag (o:=.dK []) hd;have nd:d≠a:=λz=>by rw[z,hi] at hd;cases hd
  have DG:=s1 _ _ hi;refine⟨_,Z,a,cN,dx,_,Z,DG,C.cl,C.nf,(by show 0<1000;decide),?_⟩;refine q _ d hd nd ?_ ⟨⟨dx,AN⟩,by rw[AO nd];exact AN,⟨Z,λi kv p e=>by simp at e⟩⟩;exact(Ex.sub.trans s1).upd (by delta Ex;rw[AG Z])
noncomputable def mk(k:Nat):List (List Int)->List (Int×Nat)
 |[]=>[]
 |r::rs=>r.map (λx=>(x,k))++mk (k+1) rs
theorem SU:∀(xs ys:List (List Int))(k:Nat),mk k (xs++ys)=mk k xs++mk (k+xs.length) ys
 |[],ys,k=>by simp[mk]
 |x::xs,ys,k=>by
  show x.map (λz=>(z,k))++mk (k+1) (xs++ys)=x.map (λz=>(z,k))++mk (k+1) xs++mk (k+(xs.length+1)) ys;rw[SU xs ys (k+1),Bt];have e:k+1+xs.length=k+(xs.length+1):=by lia
  rw[e]
theorem mem_mk:∀(rows:List (List Int))(k:Nat)(p:Int)(r:Nat),(p,r)∈mk k rows↔∃i row,rows[i]? =U row/\r=k+i/\p∈row
 |[],k,p,r=>by simp[mk]
 |x::xs,k,p,r=>by
  show(p,r)∈x.map (λz=>(z,k))++mk (k+1) xs↔_;rw[Be,mem_mk xs (k+1) p r];constructor
  .rintro(h|⟨i,row,h1,h2,h3⟩)
   .obtain⟨z,hz,e⟩:=Aw.mp h;have e1:z=p:=A2 Prod.fst e;have e2:k=r:=A2 Prod.snd e;exact⟨0,x,Z,by lia,by rw[<-e1];exact hz⟩
   .exact⟨i+1,row,by simpa using h1,by lia,h3⟩
  .rintro⟨i,row,h1,h2,h3⟩
   cases i with
   |zero=>
    have e:x=row:=by simpa using h1
    subst e;exact .inl (Aw.mpr ⟨p,h3,by rw[h2];rfl⟩)
   |succ i=>exact .inr ⟨i,row,by simpa using h1,by lia,h3⟩
noncomputable def fl(r:Nat)(acc:Option Int):List (Int×Nat)->Option Int
 |[]=>acc
 |q::t=>fl r (if q.2=r then U q.1 else acc) t
theorem Yb(r:Nat):∀(pre:List (Int×Nat))(acc:Option Int)(q:Int×Nat),fl r acc (pre++[q])=if q.2=r then U q.1 else fl r acc pre
 |[],acc,q=>rfl
 |p::t,acc,q=>Yb r t _ q
theorem Tj(r:Nat):∀(pre:List (Int×Nat))(acc:Option Int)(x:Int),fl r acc pre=U x->acc=U x\/(x,r)∈pre
 |[],acc,x,h=>.inl h
 |q::t,acc,x,h=>by
  rcases Tj r t _ x h with e|e
  .by_cases hq:q.2=r
   .rw[AG hq] at e;refine .inr (BM.mpr (.inl ?_));have:q.1=x:=AZ e;rw[<-this,<-hq]
   .rw[AF hq] at e;exact .inl e
  .exact .inr (Ce _ e)
abbrev Gv(l:List (Int×Nat)):Prop:=l.Pairwise λa b=>a.1<=b.1
theorem UL(r:Nat):∀(pre:List (Int×Nat))(z:Int),Gv pre->(∀q∈pre,z<=q.1)->∃x,fl r (U z) pre=U x/\z<=x
 |[],z,_,_=>⟨z,Z,HL _⟩
 |q::t,z,h,hz=>by
  obtain⟨h1,h2⟩:=IZ.mp h;show∃x,fl r (if q.2=r then U q.1 else U z) t=U x/\z<=x;by_cases hq:q.2=r
  .rw[AG hq];obtain⟨x,e,l⟩:=UL r t q.1 h2 λy hy=>h1 y hy;exact⟨x,e,Int.le_trans (hz q CV) l⟩
  .rw[AF hq];exact UL r t z h2 λy hy=>hz y (Ce _ hy)
theorem Zw(r:Nat):∀(pre:List (Int×Nat))(acc:Option Int)(y:Int),Gv pre->(y,r)∈pre->∃x,fl r acc pre=U x/\y<=x
 |q::t,acc,y,h,hy=>by
  obtain⟨h1,h2⟩:=IZ.mp h;rcases BM.mp hy with e|e
  .subst e;show∃x,fl r (if r=r then U y else acc) t=U x/\y<=x;rw[AG Z];exact UL r t y h2 λz hz=>h1 z hz
  .exact Zw r t _ y h2 e
def IT(n:Nat)(pre:List (Int×Nat))(m:Int):Prop:=∃h0 p k mn,pre=h0++[(p,k)]/\(∀r,r<n->∃x,fl r J pre=U x/\mn<=x)/\(∃r,r<n/\fl r J pre=U mn)/\m=p-mn+1
structure Iu(n:Nat)(qs:List (Int×Nat))(b:Option Int):Prop where
 snd:∀m,b=U m->∃i,i<qs.length/\IT n (qs.take (i+1)) m
 low:∀i,i<qs.length->∀m,IT n (qs.take (i+1)) m->∃m',b=U m'/\m'<=m
noncomputable def GF(s:Int)(row:List Int):Option Int:=(row.filter λx=>decide (s<=x)).head?
def K7(rows:List (List Int))(s m:Int):Prop:=∃e,(∃h0∈rows,s∈h0)/\s<=e/\(∀h0∈rows,∃x,GF s h0=U x/\x<=e)/\(e=s\/∃h0∈rows,GF s h0=U e)/\m=e-s+1
structure L9(rows:List (List Int))(b:Option Int):Prop where
 snd:∀m,b=U m->∃s,K7 rows s m
 low:∀s m,K7 rows s m->∃m',b=U m'/\m'<=m
def NN{s x:Int}{row:List Int}(h:GF s row=U x):x∈row/\s<=x:=by delta GF at h;have hm:=List.mem_of_mem_head? (Option.mem_def.mpr h);have:=Eg.mp hm;exact⟨this.1,HF this.2⟩
def Zo{s y:Int}{row:List Int}(hr:row.Pairwise (·<·))(hy:y∈row)(hs:s<=y):∃x,GF s row=U x/\x<=y:=by
 delta GF;have hm:y∈row.filter λx=>decide (s<=x):=Eg.mpr ⟨hy,Bc hs⟩;have hp:(row.filter λx=>decide (s<=x)).Pairwise (·<·):=hr.filter _
 cases e:row.filter λx=>decide (s<=x) with
 |nil=>rw[e] at hm;cases hm
 |cons a t=>
  rw[e] at hm hp;refine⟨a,Z,?_⟩;rcases BM.mp hm with z|z
  .lia
  .have:=(IZ.mp hp).1 y z
   lia
variable{rows:List (List Int)}{qs:List (Int×Nat)}
def nA(hrow:∀row∈rows,row.Pairwise (·<·))(hp:qs.Perm (mk 0 rows))(hs:Gv qs)(hi:i<qs.length)(h:IT rows.length (qs.take (i+1)) m):∃s m',K7 rows s m'/\m'<=m:=by
 obtain⟨e4,p,k,mn,e,all,⟨r1,e7,h1⟩,em⟩:=h;have e0:Gv (qs.take (i+1)):=hs.sublist (List.take_sublist _ _);have h9:∀x r,(x,r)∈qs.take (i+1)->∃row,rows[r]? =U row/\x∈row:=λx r hx=>by
  have:=hp.mem_iff.mp (GX hx);obtain⟨j,row,h1,h2,h3⟩:=(mem_mk rows 0 x r).mp this;have ej:r=j:=by lia
  rw[ej];exact⟨row,h1,h3⟩
 have h8:∀x r,(x,r)∈qs.take (i+1)->x<=p:=λx r hx=>by
  rw[e] at e0 hx;obtain⟨_,_,h3⟩:=Vf.mp e0;rcases Be.mp hx with z|z
  .exact h3 _ z _ (BW.mpr Z)
  .have:=BW.mp z;have e2:x=p:=A2 Prod.fst this
   lia
 have m1:(mn,r1)∈qs.take (i+1):=(Tj r1 _ J mn h1).elim (λz=>by cases z) id;obtain⟨h6,h0,e6⟩:=h9 mn r1 m1;have h7:∀row∈rows,∃x,GF mn row=U x/\x<=p:=λrow hr=>by
  obtain⟨r,e1,er⟩:=GY.mp hr;obtain⟨x,hx,e5⟩:=all r e1;have m2:(x,r)∈qs.take (i+1):=(Tj r _ J x hx).elim (λz=>by cases z) id;obtain⟨h5,g1,g2⟩:=h9 x r m2;have e3:h5=row:=by rw[Ar e1] at g1;rw[<-er];exact(AZ g1).symm
  rw[e3] at g2;obtain⟨y,hy,ly⟩:=Zo (hrow row hr) g2 e5;exact⟨y,hy,Int.le_trans ly (h8 x r m2)⟩
 have mx:∀l:List (List Int),(∀row∈l,row∈rows)->∃e,mn<=e/\e<=p/\(∀row∈l,∃x,GF mn row=U x/\x<=e)/\(e=mn\/∃row∈l,GF mn row=U e):=by
  intro l
  induction l with
  |nil=>exact λ_=>⟨mn,HL _,h8 mn r1 m1,λrow hr=>(by cases hr),.inl Z⟩
  |cons a t ih=>
   intro hl;obtain⟨e,h1,h2,h3,h4⟩:=ih λrow hr=>hl row (Ce _ hr);obtain⟨x,hx,lx⟩:=h7 a (hl a CV);by_cases hc:x<=e
   .refine⟨e,h1,h2,λrow hr=>?_,h4.imp id λ⟨row,hr,z⟩=>⟨row,Ce _ hr,z⟩⟩;rcases BM.mp hr with z|z
    .rw[z];exact⟨x,hx,hc⟩
    .exact h3 row z
   .refine⟨x,by lia,lx,λrow hr=>?_,.inr ⟨a,CV,hx⟩⟩;rcases BM.mp hr with z|z
    .rw[z];exact⟨x,hx,HL _⟩
    .obtain⟨y,hy,ly⟩:=h3 row z;exact⟨y,hy,by lia⟩
 obtain⟨e2,g1,g2,g3,g4⟩:=mx rows λ_ h=>h;refine⟨mn,e2-mn+1,⟨e2,⟨h6,Bv h0,e6⟩,g1,g3,g4,Z⟩,?_⟩
 lia
def oC(hrow:∀row∈rows,row.Pairwise (·<·))(hp:qs.Perm (mk 0 rows))(hs:Gv qs){s:Int}(h:K7 rows s m):∃i m',i<qs.length/\IT rows.length (qs.take (i+1)) m'/\m'<=m:=by
 obtain⟨e,⟨h6,e3,e6⟩,s1,all,he,em⟩:=h;have e9:∃r,(e,r)∈qs:=by
  have go:∀row∈rows,e∈row->∃r,(e,r)∈qs:=λrow hr hx=>by obtain⟨r,h9,er⟩:=GY.mp hr;exact⟨r,hp.mem_iff.mpr ((mem_mk rows 0 e r).mpr ⟨r,row,by rw[Ar h9,er],by lia,hx⟩)⟩
  rcases he with z|⟨row,hr,z⟩
  .exact go h6 e3 (by rw[z];exact e6)
  .exact go row hr (NN z).1
 obtain⟨re,e2⟩:=e9;have h7:∀(l:List (Int×Nat)),Gv l->(∃q∈l,q.1<=e)->∃i,∃hi:i<l.length,l[i].1<=e/\∀j,i<j->∀hj:j<l.length,e<l[j].1:=by
  intro l
  induction l with
  |nil=>rintro _ ⟨q,hq,_⟩;cases hq
  |cons a t ih=>
   intro hl hq;obtain⟨h1,h2⟩:=IZ.mp hl;by_cases ht:∃q∈t,q.1<=e
   .obtain⟨i,hi,g1,g2⟩:=ih h2 ht;refine⟨i+1,by simp;lia,by simpa using g1,λj hj e0=>?_⟩
    cases j with
    |zero=>lia
    |succ j=>simpa using g2 j (by lia) (by simpa using e0)
   .have ha:a.1<=e:=by
     obtain⟨q,e7,e4⟩:=hq;rcases BM.mp e7 with z|z
     .rw[<-z];exact e4
     .exact absurd ⟨q,z,e4⟩ ht
    refine⟨0,by simp,by simpa using ha,λj hj e0=>?_⟩
    cases j with
    |zero=>lia
    |succ j=>
     have e8:j<t.length:=by simpa using e0
     have:¬t[j].1<=e:=λz=>ht ⟨t[j],Ez e8,z⟩;simp
     lia
 obtain⟨i,hi,g1,g2⟩:=h7 qs hs ⟨(e,re),e2,HL _⟩;have h4:∀x r,(x,r)∈qs->x<=e->(x,r)∈qs.take (i+1):=λx r hx s0=>by
  obtain⟨j,hj,ej⟩:=GY.mp hx;by_cases s2:j<=i
  .rw[List.mem_take_iff_getElem];exact⟨j,by lia,ej⟩
  .have:=g2 j (by lia) hj;rw[ej] at this;have h3:e<x:=this
   lia
 have h5:qs.take (i+1)=qs.take i++[qs[i]]:=by rw[Cf,Ar hi];rfl
 have h8:Gv (qs.take (i+1)):=hs.sublist (List.take_sublist _ _);have pe:qs[i].1=e:=by
  have h1:=h4 e re e2 (HL _);rw[h5] at h1 h8;obtain⟨_,_,h3⟩:=Vf.mp h8;rcases Be.mp h1 with z|z
  .have:e<=qs[i].1:=h3 _ z _ (BW.mpr Z)
   lia
  .rw[<-BW.mp z]
 have e1:∀r,r<rows.length->∃x,fl r J (qs.take (i+1))=U x/\s<=x:=λr hr=>by obtain⟨x,hx,lx⟩:=all rows[r] (Ez hr);obtain⟨h1,h2⟩:=NN hx;have:(x,r)∈qs:=hp.mem_iff.mpr ((mem_mk rows 0 x r).mpr ⟨r,rows[r],Ar hr,by lia,h1⟩);obtain⟨y,hy,ly⟩:=Zw r _ J x h8 (h4 x r this lx);exact⟨y,hy,by lia⟩
 have hn:0<rows.length:=Of e3;have e5:∀n,n<=rows.length->0<n->∃mn,s<=mn/\(∀r,r<n->∃x,fl r J (qs.take (i+1))=U x/\mn<=x)/\∃r,r<n/\fl r J (qs.take (i+1))=U mn:=by
  intro n
  induction n with
  |zero=>intro _ h;lia
  |succ n ih=>
   intro h1 _;obtain⟨x,hx,lx⟩:=e1 n (by lia);by_cases h0:n=0
   .subst h0;refine⟨x,lx,λr hr=>?_,0,by lia,hx⟩;have er:r=0:=by lia
    rw[er];exact⟨x,hx,HL _⟩
   .obtain⟨mn,k1,k2,r,k3,k4⟩:=ih (by lia) (by lia);by_cases hc:mn<=x
    .refine⟨mn,k1,λr' h9=>?_,r,by lia,k4⟩;by_cases er:r'=n
     .rw[er];exact⟨x,hx,hc⟩
     .exact k2 r' (by lia)
    .refine⟨x,lx,λr' h9=>?_,n,by lia,hx⟩;by_cases er:r'=n
     .rw[er];exact⟨x,hx,HL _⟩
     .obtain⟨y,hy,ly⟩:=k2 r' (by lia);exact⟨y,hy,by lia⟩
 obtain⟨mn,k1,k2,k3⟩:=e5 rows.length (Ac _) hn;refine⟨i,e-mn+1,hi,⟨qs.take i,e,qs[i].2,mn,?_,k2,k3,Z⟩,by lia⟩;rw[h5,<-pe]
structure Fm(n:Nat)(pre:List (Int×Nat))(AA:List (Key×V)):Prop where
 nd:(AA.map (·.1)).Nodup
 ks:∀k∈AA.map (·.1),∃r,r<n/\k=Sum.inl (r:Int)
 vl:∀r:Nat,BU AA (Sum.inl (r:Int):Key)=(fl r J pre).map V.int
def Fm.nil:Fm n [] []:=⟨JS,λk hk=>(by cases hk),λr=>rfl⟩
def Wh(AA:List (Key×V))(k:Key)(v:V):(putK AA k v).map (·.1)=if(BU AA k).isSome=Y then AA.map (·.1) else AA.map (·.1)++[k]:=by
 delta putK;rw[Ka];split
 .rw[Bf];refine EI λx _=>?_;show(if x.1=k then(x.1,v) else x).1=x.1;split<;>rfl
 .rw[BL];rfl
variable{pre:List (Int×Nat)}
def Fm.put(h:Fm n pre AA)(p:Int){r:Nat}(hr:r<n):Fm n (pre++[(p,r)]) (putK AA (Sum.inl (r:Int)) (.int p)):=by
 refine⟨?_,?_,λj=>?_⟩
 .rw[Wh];split
  .exact h.nd
  .rename_i e;refine YJ h.nd (jU ?_)
   cases z:BU AA (Sum.inl (r:Int):Key) with
   |none=>rfl
   |some v=>rw[z] at e;exact absurd Z e
 .intro k hk;rw[Wh] at hk;split at hk
  .exact h.ks k hk
  .rcases Be.mp hk with z|z
   .exact h.ks k z
   .exact⟨r,hr,BW.mp z⟩
 .rw[il,Yb];by_cases e:r=j
  .subst e;rw[AG Z,AG Z];rfl
  .rw[AF (λz=>e (by have:=PM z;lia)),AF e];exact h.vl j
theorem Sf{k:Key}{v:V}:∀{AA:List (Key×V)},(AA.map (·.1)).Nodup->(k,v)∈AA->BU AA k=U v
 |q::t,hn,hm=>by
  obtain⟨h1,h2⟩:=E1.mp hn;rcases BM.mp hm with e|e
  .subst e;exact Fz (p:=(k,v)) Z
  .rw[Fx (λz=>h1 (Aw.mpr ⟨_,e,z.symm⟩))];exact Sf h2 e
def dY{k:Key}(h:BU AA k=U v):(k,v)∈AA:=by delta BU at h;obtain⟨q,h1,h2⟩:=KD.mp h;have h3:=RC h1;have h0:=List.find?_some h1;have h4:q.1=k:=HF h0;rw[<-h4,<-h2];exact h3
def Fm.vals(h:Fm n pre AA):∃ns:List Int,AA.map (·.2)=ns.map V.int/\ns.length=AA.length/\∀x,x∈ns↔∃r,r<n/\fl r J pre=U x:=by
 have h0:∀q∈AA,∃x r,q.2=V.int x/\r<n/\q.1=Sum.inl (r:Int)/\fl r J pre=U x:=λq hq=>by obtain⟨r,hr,e⟩:=h.ks q.1 (Aw.mpr ⟨q,hq,Z⟩);have h1:=Sf h.nd (show(q.1,q.2)∈AA from hq);rw[e,h.vl r] at h1;obtain⟨x,h2,h3⟩:=KD.mp h1;exact⟨x,r,h3.symm,hr,e,h2⟩
 refine⟨AA.map λq=>match q.2 with|.int x=>x|_=>0,?_,AI ..,λx=>⟨λhx=>?_,λ⟨r,hr,e⟩=>?_⟩⟩
 .rw[Bf];refine EI λq hq=>?_;obtain⟨x,r,e,_⟩:=h0 q hq;show q.2=V.int (match q.2 with|.int x=>x|_=>0);rw[e]
 .obtain⟨q,hq,e⟩:=Aw.mp hx;obtain⟨y,r,e2,hr,_,e3⟩:=h0 q hq;rw[e2] at e;exact⟨r,hr,by rw[e3];exact A2 U e⟩
 .have h1:=h.vl r;rw[e] at h1;exact Aw.mpr ⟨_,dY h1,Z⟩
theorem NK{α:Type}[DecidableEq α]:∀{l m:List α},l.Nodup->(∀x∈l,x∈m)->l.length<=m.length
 |[],_,_,_=>CB _
 |a::t,m,hn,hs=>by
  obtain⟨h1,h2⟩:=E1.mp hn;have ha:=hs a CV;have:=NK (l:=t) (m:=m.erase a) h2 λx hx=>(List.mem_erase_of_ne (λz=>h1 (by rw[<-z];exact hx))).mpr (hs x (Ce _ hx));rw[List.length_erase_of_mem ha] at this;have hp:0<m.length:=Of ha;rw[Bw]
  lia
noncomputable def Jt(n:Nat):List Key:=(List.range n).map λ(r:Nat)=>(Sum.inl (r:Int):Key)
def Fm.full(h:Fm n pre AA):AA.length=n↔∀r,r<n->∃x,fl r J pre=U x:=by
 have hk:∀k∈AA.map (·.1),k∈Jt n:=λk hk=>by obtain⟨r,hr,e⟩:=h.ks k hk;exact Aw.mpr ⟨r,Hu.mpr hr,e.symm⟩
 have hl:(Jt n).length=n:=by delta Jt;rw[AI,Mz]
 have ha:(Jt n).Nodup:=by
  delta Jt;rw[List.nodup_iff_pairwise_ne,My];refine(List.nodup_iff_pairwise_ne.mp List.nodup_range).imp ?_;intro a b h4 z;have:=PM z
  lia
 constructor
 .intro e r hr;have hm:(Sum.inl (r:Int):Key)∈AA.map (·.1):=by
   by_cases hc:(Sum.inl (r:Int):Key)∈AA.map (·.1)
   .exact hc
   .have h2:=NK (l:=(Sum.inl (r:Int):Key)::AA.map (·.1)) (m:=Jt n) (E1.mpr ⟨hc,h.nd⟩) λx hx=>by
     rcases BM.mp hx with z|z
     .rw[z];exact Aw.mpr ⟨r,Hu.mpr hr,Z⟩
     .exact hk x z
    rw[hl,Bw,AI] at h2
    lia
  obtain⟨q,hq,e2⟩:=Aw.mp hm;have h1:=Sf h.nd (show(q.1,q.2)∈AA from hq);rw[e2,h.vl r] at h1;obtain⟨x,h3,_⟩:=KD.mp h1;exact⟨x,h3⟩
 .intro all;have h1:=NK h.nd hk;have h2:=NK ha (m:=AA.map (·.1)) λk h0=>by obtain⟨r,hr,e⟩:=Aw.mp h0;obtain⟨x,hx⟩:=all r (Hu.mp hr);have h3:=h.vl r;rw[hx] at h3;rw[<-e];exact kE h3
  rw[hl,AI] at h1 h2
  lia
def gZ:Iu n [] J:=⟨λm h=>(by cases h),λi hi=>absurd hi (by simp)⟩
def take_snoc(l:List α)(q:α)(i:Nat)(h:i<(l++[q]).length):(i<l.length/\(l++[q]).take (i+1)=l.take (i+1))\/(i=l.length/\(l++[q]).take (i+1)=l++[q]):=by
 rw[A9,Ey] at h;by_cases hi:i<l.length
 .exact .inl ⟨hi,by rw[Q9 (by lia)]⟩
 .have e:i=l.length:=by lia
  refine .inr ⟨e,?_⟩;rw[FG (by rw[A9,Ey];lia)]
def eU{q:Int×Nat}{b:Option Int}(hn:∀m,¬IT n (pre++[q]) m)(h:Iu n pre b):Iu n (pre++[q]) b:=by
 refine⟨λm e=>?_,λi hi m hm=>?_⟩
 .obtain⟨i,hi,ha⟩:=h.snd m e;refine⟨i,by rw[A9];lia,?_⟩;rw[Q9 (by lia)];exact ha
 .rcases take_snoc pre q i hi with⟨h1,h2⟩|⟨h1,h2⟩
  .rw[h2] at hm;exact h.low i h1 m hm
  .rw[h2] at hm;exact absurd hm (hn m)
def gw{q:Int×Nat}{b:Option Int}{m0:Int}(ha:IT n (pre++[q]) m0)(hu:∀m,IT n (pre++[q]) m->m=m0)(h:Iu n pre b):
 ((b=J\/∃b0,b=U b0/\m0<b0)->Iu n (pre++[q]) (U m0))/\((∃b0,b=U b0/\¬m0<b0)->Iu n (pre++[q]) b):=by
 have h0:(pre++[q]).take (pre.length+1)=pre++[q]:=by rw[FG (by simp)]
 constructor
 .intro hb;refine⟨λm e=>?_,λi hi m hm=>?_⟩
  .cases e;exact⟨pre.length,by simp,by rw[h0];exact ha⟩
  .rcases take_snoc pre q i hi with⟨h1,h2⟩|⟨h1,h2⟩
   .rw[h2] at hm;obtain⟨m',e,l⟩:=h.low i h1 m hm;rcases hb with z|⟨b0,z,l2⟩
    .rw[z] at e;cases e
    .rw[z] at e;have:b0=m':=AZ e;exact⟨m0,Z,by lia⟩
   .rw[h2] at hm;rw[hu m hm];exact⟨m0,Z,HL _⟩
 .rintro⟨b0,z,l2⟩;refine⟨λm e=>?_,λi hi m hm=>?_⟩
  .obtain⟨i,hi,h3⟩:=h.snd m e;refine⟨i,by rw[A9];lia,?_⟩;rw[Q9 (by lia)];exact h3
  .rcases take_snoc pre q i hi with⟨h1,h2⟩|⟨h1,h2⟩
   .rw[h2] at hm;exact h.low i h1 m hm
   .rw[h2] at hm;rw[hu m hm];exact⟨b0,z,by lia⟩
def lg{p:Int}{mn:Int}(h:Fm n (pre++[(p,k)]) AA)(hf:AA.length=n)(hv:∀x,x∈ns↔∃r,r<n/\fl r J (pre++[(p,k)])=U x)
 (hm:mn∈ns)(hl:∀x∈ns,mn<=x):IT n (pre++[(p,k)]) (p-mn+1)/\∀m,IT n (pre++[(p,k)]) m->m=p-mn+1:=by
 have all:=h.full.mp hf;obtain⟨r1,h2,h1⟩:=(hv mn).mp hm;refine⟨⟨pre,p,k,mn,Z,λr hr=>?_,⟨r1,h2,h1⟩,Z⟩,λm hA=>?_⟩
 .obtain⟨x,hx⟩:=all r hr;exact⟨x,hx,hl x ((hv x).mpr ⟨r,hr,hx⟩)⟩
 .obtain⟨h3,p',k',h0,e,g1,⟨r2,h4,g2⟩,em⟩:=hA;have e2:=List.append_inj_right' e Z;have ep:p=p':=A2 Prod.fst (List.singleton_inj.mp e2);have l1:mn<=h0:=hl h0 ((hv h0).mpr ⟨r2,h4,g2⟩);obtain⟨x,hx,l2⟩:=g1 r1 h2;have ex:mn=x:=AZ (h1.symm.trans hx)
  lia
def jw(h:Fm n pre AA)(hf:AA.length≠n)(m:Int):¬IT n pre m:=by rintro⟨_,_,_,mn,_,g1,_⟩;exact hf (h.full.mpr λr hr=>let⟨x,hx,_⟩:=g1 r hr;⟨x,hx⟩)
def kO{a b:Option Int}(ha:L9 rows a)(hb:L9 rows b):a=b:=by
 cases a with
 |none=>
  cases b with
  |none=>rfl
  |some m=>obtain⟨s,h⟩:=hb.snd m Z;obtain⟨_,z,_⟩:=ha.low s m h;cases z
 |some m=>
  obtain⟨s,h⟩:=ha.snd m Z;obtain⟨m2,e2,l2⟩:=hb.low s m h;obtain⟨s3,h3⟩:=hb.snd m2 e2;obtain⟨m4,e4,l4⟩:=ha.low s3 m2 h3;have e5:m=m4:=AZ e4;rw[e2];congr 1
  lia
open Classical in
noncomputable def short(rows:List (List Int)):Option Int:=if h:∃b,L9 rows b then Classical.choose h else J
def Xg{b:Option Int}(h:L9 rows b):short rows=b:=by have hx:∃b,L9 rows b:=⟨b,h⟩;delta short;rw[dif_pos hx];exact kO (Classical.choose_spec hx) h
def rowsOf(ws:List PR)(pl:List Str):List (List Int):=pl.map λz=>CT z 0 ws
noncomputable def NY(rows:List (List Int)):Int:=(rows.map λr=>(r.length:Int)).sum
noncomputable def C1(pl:List Str)(near:Int)(p:Pg):Option (List Key):=match short (rowsOf p.2 pl) with
 |some m=>if m<=near then U [.inl m,.inl (-(NY (rowsOf p.2 pl))),.inr p.1] else J
 |none=>J
def Cd(ws:List Str):List Str:=He (Dv [] ws)
noncomputable def MH(AD:List Pg)(ws:List Str)(near:Int):List (List Key):=AD.filterMap (C1 (Cd ws) near)
noncomputable def F7:List Key->Dt
 |[.inl m,_,.inr n]=>.tup [.str n,.int m]
 |_=>.lst []
noncomputable def GV(AD:List Pg)(ws:List Str)(near:Int):Dt:=.lst ((Fg lexOrd (MH AD ws near)).map F7)
noncomputable def Ct(AD:List Pg):Ap->Rs
 |.write n t=>FT AD n t
 |.rename n m=>FR AD n m
 |.join n o=>ET AD n o
 |.cut n p m=>Fc AD n p m
 |.drop n=>FV AD n
 |.text n=>E7 AD n
 |.back n=>ZP AD n
 |.find ws far=>if ws=[] then .no "no words" else .ok (GV AD ws far) AD
def ZI(K:vH)(cN cR:OK):Sp:=λvs H Q E=>∃a d v ws h1 h2 h0,vs=[.ref a,v,.int h1]/\Ci cN H a d h2 h0/\DL h0/\h0.length<64/\Rep H (.tup (ws.map Dt.str)) v/\ws.length<=9/\Out K cN cR H a d Q E (if ws=[] then .no "no words" else .ok (GV h0 ws h1) h0)
def Uc(K:vH)(cN cR:OK):Sp:=λvs H Q E=>∃a d v x h1 h0,vs=[.ref a,v]/\Ci cN H a d h1 h0/\DL h0/\h0.length<64/\Rep H (Ap.dt x) v/\x.Good/\Out K cN cR H a d Q E (Ct h0 x)
structure cg(P:sY)(w:si)(K:vH)(mg:Str->Option AB)(base:sf)(cN cR:OK):Prop where
 write:∃f fd,Meth K cN "write_page" f/\AX P w K mg base (Cw P w) 4 f fd ["self","name","text"] (YX K cN cR)/\Binds K fd ["self","name","text"] []
 rename:∃f fd,Meth K cN "rename_page" f/\AX P w K mg base (Cw P w) 5 f fd ["self","name","fresh"] (XO K cN cR)/\Binds K fd ["self","name","fresh"] []
 join:∃f fd,Meth K cN "join_pages" f/\AX P w K mg base (Cw P w) 5 f fd ["self","name","other"] (ZJ K cN cR)/\Binds K fd ["self","name","other"] []
 cut:∃f fd,Meth K cN "cut_page" f/\AX P w K mg base (Cw P w) 5 f fd ["self","name","place","fresh"] (aU K cN cR)/\Binds K fd ["self","name","place","fresh"] []
 drop:∃f fd,Meth K cN "drop_page" f/\AX P w K mg base (Cw P w) 5 f fd ["self","name"] (ZV K cN cR)/\Binds K fd ["self","name"] []
 text:∃f fd,Meth K cN "text_of" f/\AX P w K mg base (Cw P w) 5 f fd ["self","name"] (ZZ K cN cR)/\Binds K fd ["self","name"] []
 back:∃f fd,Meth K cN "back_from" f/\AX P w K mg base Ai 2 f fd ["self","name"] (ZC cN)/\Binds K fd ["self","name"] []
 find:∃f fd,Meth K cN "find_pages" f/\AX P w K mg base (Cw P w) 5 f fd ["self","wanted","near"] (ZI K cN cR)/\Binds K fd ["self","wanted","near"] []
def ON{a b:Str}(h:a≠b):V.str a≠V.str b:=λz=>h (V.str.inj z)
def bX:A3 ["nook","deed","kind"] ["nook","deed"] (Aq Sb):=by left
def oh(F:Ak K "do_deed" "do_deed" Sb f fd)(C:Fn K cN)(M:cg P w K mg base cN cR):AX P w K mg base (Cw P w) 6 f fd ["nook","deed"] (Uc K cN cR):=by
 obtain⟨f1,e3,m1,G1,b1⟩:=M.write;obtain⟨f2,e2,m2,G2,b2⟩:=M.rename;obtain⟨f3,e1,m3,G3,b3⟩:=M.join;obtain⟨f4,e0,m4,G4,b4⟩:=M.cut;obtain⟨f5,h9,m5,G5,b5⟩:=M.drop;obtain⟨f6,h8,m6,G6,b6⟩:=M.text;obtain⟨f7,h7,m7,G7,b7⟩:=M.back;obtain⟨f8,h6,m8,G8,b8⟩:=M.find;refine IV F bX ?_ ?_
 .rintro _ _ _ _ ⟨_,_,_,_,_,_,rfl,_⟩;rfl
 .rintro _ A _ s H _ Q E hr ⟨a,d,v,x,h3,h2,rfl,g,nc,h4,rx,h1,q⟩;refine⟨_,(AU (Ax (i:=2) bX.nd Z (AY Z) (A0 (pv 1)))
   (AU (Ay (As BQ (pv 2) Ab (Am _)) (AR (An (D8 (pv 0) C.cl m1 G1 hr.mn b1 .nil E8 (AE (A0 (pv 1)) (AE (A0 (pv 1)) AJ))))) BC)
   (AU (Ay (As BQ (pv 2) Ab (Am _)) (AR (An (D8 (pv 0) C.cl m2 G2 hr b2 .nil E8 (AE (A0 (pv 1)) (AE (A0 (pv 1)) AJ))))) BC)
   (AU (Ay (As BQ (pv 2) Ab (Am _)) (AR (An (D8 (pv 0) C.cl m3 G3 hr b3 .nil E8 (AE (A0 (pv 1)) (AE (A0 (pv 1)) AJ))))) BC)
   (AU (Ay (As BQ (pv 2) Ab (Am _)) (AR (An (D8 (pv 0) C.cl m4 G4 hr b4 .nil E8 (AE (A0 (pv 1)) (AE (A0 (pv 1)) (AE (A0 (pv 1)) AJ)))))) BC)
   (AU (Ay (As BQ (pv 2) Ab (Am _)) (AR (An (D8 (pv 0) C.cl m5 G5 hr b5 .nil E8 (AE (A0 (pv 1)) AJ)))) BC)
   (AU (Ay (As BQ (pv 2) Ab (Am _)) (AR (An (D8 (pv 0) C.cl m6 G6 hr b6 .nil E8 (AE (A0 (pv 1)) AJ)))) BC)
   (AU (Ay (As BQ (pv 2) Ab (Am _)) (AR (An (D8 (pv 0) C.cl m7 G7 hr.mn b7 .nil BF (AE (A0 (pv 1)) AJ)))) BC)
   (AR (An (D8 (pv 0) C.cl m8 G8 hr b8 .nil E8 (AE (A0 (pv 1)) (AE (A0 (pv 1)) AJ))))))))))))),?_⟩;obtain⟨dx,hi⟩:=g.ins
  cases x with
  |write n t=>obtain⟨ad,xs,rfl,h0,rr⟩:=Bu rx;obtain⟨u1,u2,u3,rfl,r1,r2,r3⟩:=EU rr;cases r1;cases r2;cases r3;refine⟨_,Z,ad,_,_,_,Z,Z,AS.of h0,BX (j:=0) Z,?_⟩;refine J9 Z ?_;exact⟨_,Z,a,dx,_,Z,hi,Z,_,Z,ad,_,_,_,Z,Z,AS.of h0,BX (j:=1) Z,_,Z,ad,_,_,_,Z,Z,AS.of h0,BX (j:=2) Z,a,d,n,t,h3,h2,Z,g,nc,BI h1.1 (by lia),BI h1.2 (by lia),q⟩
  |rename n m=>obtain⟨ad,xs,rfl,h0,rr⟩:=Bu rx;obtain⟨u1,u2,u3,rfl,r1,r2,r3⟩:=EU rr;cases r1;cases r2;cases r3;refine⟨_,Z,ad,_,_,_,Z,Z,AS.of h0,BX (j:=0) Z,?_⟩;refine Bm Z (by left) ?_;refine J9 Z ?_;exact⟨_,Z,a,dx,_,Z,hi,Z,_,Z,ad,_,_,_,Z,Z,AS.of h0,BX (j:=1) Z,_,Z,ad,_,_,_,Z,Z,AS.of h0,BX (j:=2) Z,a,d,n,m,h3,h2,Z,g,nc,BI h1.2 (by lia),q⟩
  |join n m=>obtain⟨ad,xs,rfl,h0,rr⟩:=Bu rx;obtain⟨u1,u2,u3,rfl,r1,r2,r3⟩:=EU rr;cases r1;cases r2;cases r3;refine⟨_,Z,ad,_,_,_,Z,Z,AS.of h0,BX (j:=0) Z,?_⟩;refine Bm Z (by left) ?_;refine Bm Z (by left) ?_;refine J9 Z ?_;exact⟨_,Z,a,dx,_,Z,hi,Z,_,Z,ad,_,_,_,Z,Z,AS.of h0,BX (j:=1) Z,_,Z,ad,_,_,_,Z,Z,AS.of h0,BX (j:=2) Z,a,d,n,m,h3,h2,Z,g,nc,q⟩
  |cut n pl m=>obtain⟨ad,xs,rfl,h0,rr⟩:=Bu rx;obtain⟨u1,u2,u3,u4,rfl,r1,r2,r3,r4⟩:=QL rr;cases r1;cases r2;cases r3;cases r4;refine⟨_,Z,ad,_,_,_,Z,Z,AS.of h0,BX (j:=0) Z,?_⟩;refine Bm Z (by left) ?_;refine Bm Z (by left) ?_;refine Bm Z (by left) ?_;refine J9 Z ?_;exact⟨_,Z,a,dx,_,Z,hi,Z,_,Z,ad,_,_,_,Z,Z,AS.of h0,BX (j:=1) Z,_,Z,ad,_,_,_,Z,Z,AS.of h0,BX (j:=2) Z,_,Z,ad,_,_,_,Z,Z,AS.of h0,BX (j:=3) Z,a,d,n,pl,m,h3,h2,Z,g,nc,BI h1.2 (by lia),q⟩
  |drop n=>obtain⟨ad,xs,rfl,h0,rr⟩:=Bu rx;obtain⟨u1,u2,rfl,r1,r2⟩:=Gn rr;cases r1;cases r2;refine⟨_,Z,ad,_,_,_,Z,Z,AS.of h0,BX (j:=0) Z,?_⟩;refine Bm Z (by left) ?_;refine Bm Z (by left) ?_;refine Bm Z (by left) ?_;refine Bm Z (by left) ?_;refine J9 Z ?_;exact⟨_,Z,a,dx,_,Z,hi,Z,_,Z,ad,_,_,_,Z,Z,AS.of h0,BX (j:=1) Z,a,d,n,h3,h2,Z,g,nc,q⟩
  |text n=>
   obtain⟨ad,xs,rfl,h0,rr⟩:=Bu rx;obtain⟨u1,u2,rfl,r1,r2⟩:=Gn rr;cases r1;cases r2;refine⟨_,Z,ad,_,_,_,Z,Z,AS.of h0,BX (j:=0) Z,?_⟩;refine Bm Z (by left) ?_;refine Bm Z (by left) ?_;refine Bm Z (by left) ?_;refine Bm Z (by left) ?_;refine Bm Z (by left) ?_;refine J9 Z ?_;refine⟨_,Z,a,dx,_,Z,hi,Z,_,Z,ad,_,_,_,Z,Z,AS.of h0,BX (j:=1) Z,a,d,n,h3,h2,Z,g,nc,λws hw H' s'=>?_,λhw=>?_⟩
   .have q':Out K cN cR H a d Q E (E7 h2 n):=q;delta E7 at q';rw[hw] at q';exact q' H' h3 _ (Ex.sub.trans s') (g.same s') (.str _)
   .have q':Out K cN cR H a d Q E (E7 h2 n):=q;delta E7 at q';rw[hw] at q';exact q'
  |back n=>obtain⟨ad,xs,rfl,h0,rr⟩:=Bu rx;obtain⟨u1,u2,rfl,r1,r2⟩:=Gn rr;cases r1;cases r2;refine⟨_,Z,ad,_,_,_,Z,Z,AS.of h0,BX (j:=0) Z,?_⟩;refine Bm Z (by left) ?_;refine Bm Z (by left) ?_;refine Bm Z (by left) ?_;refine Bm Z (by left) ?_;refine Bm Z (by left) ?_;refine Bm Z (by left) ?_;refine J9 Z ?_;exact⟨_,Z,a,dx,_,Z,hi,Z,_,Z,ad,_,_,_,Z,Z,AS.of h0,BX (j:=1) Z,a,d,n,h3,h2,Z,g,nc,h4,λu H' s' r=>q H' h3 u (Ex.sub.trans s') (g.same s') r⟩
  |find ws h5=>obtain⟨ad,xs,rfl,h0,rr⟩:=Bu rx;obtain⟨u1,u2,u3,rfl,r1,r2,r3⟩:=EU rr;cases r1;cases r3;refine⟨_,Z,ad,_,_,_,Z,Z,AS.of h0,BX (j:=0) Z,?_⟩;refine Bm Z (by left) ?_;refine Bm Z (by left) ?_;refine Bm Z (by left) ?_;refine Bm Z (by left) ?_;refine Bm Z (by left) ?_;refine Bm Z (by left) ?_;refine Bm Z (by left) ?_;exact⟨_,Z,a,dx,_,Z,hi,Z,_,Z,ad,_,_,_,Z,Z,AS.of h0,BX (j:=1) Z,_,Z,ad,_,_,_,Z,Z,AS.of h0,BX (j:=2) Z,a,d,u2,ws,h5,h3,h2,Z,g,nc,h4,r2,h1.1,q⟩
noncomputable def Rs.next(AD:List Pg):Rs->List Pg
 |.no _=>AD
 |.ok _ p=>p
 |.un p=>p
noncomputable def Rs.Dy:Rs->Option Dt
 |.no m=>U (.str m)
 |.ok r _=>U r
 |.un _=>J
def Zv(cN:OK):Sp:=λvs H Q _=>∃a d v x h2 h0,vs=[.ref a,v]/\Ci cN H a d h2 h0/\DL h0/\h0.length<64/\Rep H (Ap.dt x) v/\x.Good/\
 ∀H' h1 u,AM (Ex H d) H'->Ci cN H' a d h1 ((Ct h0 x).next h0)->(∀r,(Ct h0 x).Dy=U r->Rep H' r u)->Q u H'
noncomputable def D9:List Pg->List Ap->List Pg
 |AD,[]=>AD
 |AD,x::xs=>D9 ((Ct AD x).next AD) xs
theorem WB(x:Ap):∀(xs:List Ap)(AD:List Pg),D9 AD (xs++[x])=(Ct (D9 AD xs) x).next (D9 AD xs)
 |[],AD=>rfl
 |y::ys,AD=>WB x ys _
def Small(AD:List Pg)(xs:List Ap):Prop:=∀k,k<=xs.length->DL (D9 AD (xs.take k))/\(D9 AD (xs.take k)).length<64
def Told(AD:List Pg)(xs:List Ap)(H:Hp)(zs:List V):Prop:=∀(k:Nat)(x:Ap)(v:V)(r:Dt),xs[k]? =U x->zs[k]? =U v->(Ct (D9 AD (xs.take k)) x).Dy=U r->Rep H r v
def Z6(cN:OK):Sp:=λvs H Q _=>∃a d v xs h2 h0,vs=[.ref a,v]/\Ci cN H a d h2 h0/\Rep H (.lst (xs.map Ap.dt)) v/\(∀x∈xs,x.Good)/\xs.length<=1000/\Small h0 xs/\
 ∀H' h1 l zs,AM (Ex H d) H'->Ci cN H' a d h1 (D9 h0 xs)->H' l=U (.lst zs)->zs.length=xs.length->Told h0 xs H' zs->Q (.ref l) H'
def XR(hd:H d=U (.dK kk))(s:AM (Ex H d) H'){x:Dt}(r:Rep H x v):Rep H' x v:=(Lb hd r).same s
def Zz:A3 ["nook","deed","refusal"] ["nook","deed"] (Aq Rw):=by left
def nI{fD:OK}{fdD:sj}(F:Ak K "answer_deed" "answer_deed" Rw f fd)(T:JE K mg cR fR)(GD:AX P w K mg base (Cw P w) 6 fD fdD ["nook","deed"] (Uc K cN cR))(bD:Binds K fdD ["nook","deed"] [])(mD:mg "do_deed" =U (.ref fD))(kD:tM K (.ref fD)=Y):
 AX P w K mg base Ai 7 f fd ["nook","deed"] (Zv cN):=by
 refine F.ok Zz ?_ ?_
 .rintro _ _ _ _ ⟨_,_,_,_,_,_,rfl,_⟩;rfl
 .rintro _ A _ s H _ Q E hr ⟨a,d,v,x,h3,h2,rfl,g,nc,h6,rx,h1,q⟩;refine⟨_,(AR (lU (tb:=λE=>bZ (Nz (Uc K cN cR) [] E (N4 (Es 0) (N4 (Es 1) MF)))) (i:=2) (Rc:=cR) Zz.nd Z Z (λh4 W E hp=>AR (An (Cs GD hr Z mD kD bD .nil hp (AE (pv 0) (AE (pv 1) AJ))))) Z T.mR T.cat ⟨Z,Z⟩)),?_⟩;refine⟨_,Z,_,Z,a,d,v,x,h3,h2,Z,g,nc,h6,rx,h1,?_⟩
  cases e:Ct h2 x with
  |no h5=>rw[e] at q;exact λC D H' xs xa s' hD=>⟨C,D,h5,Z,Z,xs,xa,hD,q H' h3 _ (Ex.sub.trans s') (g.same s') λr er=>by cases er;exact .str _⟩
  |ok r p=>rw[e] at q;exact λH' h0 u s' g' rr=>q H' h0 u s' g' λr er=>by cases er;exact rr
  |un p=>rw[e] at q;exact λH' h0 u s' g'=>q H' h0 u s' g' λr er=>by cases er
def pT:A3 ["nook","deeds"] ["nook","deeds"] (Aq R8):=by left
def lO(F:Ak K "answer_all" "answer_all" R8 f fd)(HA:Hv P w K mg base "answer_deed" 7 ["nook","deed"] (Zv cN)):
 AX P w K mg base Ai 8 f fd ["nook","deeds"] (Z6 cN):=by
 refine F.ok pT ?_ ?_
 .rintro _ _ _ _ ⟨_,_,_,_,_,_,rfl,_⟩;rfl
 .rintro _ A _ s H _ Q E hr ⟨a,d,v,xs,e0,h6,rfl,g,rx,h5,hz,GQ,q⟩;refine⟨_,(AR (An (E6 (ts:=["deed"]) (cap:=["nook"]) (ix:=[0]) (Jb Z Z (by left) (by left) Z Z Z Z Z) (HY (pv 1)) (λ_ _ _ _ _=>Bg (i:=0) (IS (by left)) Z (AY Z) (Cn Z))
   (λ_ _ _ _ _=>HX) (λ_ _ _ _ _=>Sq (Cj HA hr Z BF (AE (pv 1) (AE (pv 0) AJ))))))),?_⟩;obtain⟨l,ys,rfl,hl,rr⟩:=FU rx;have h7:=g.B1;have h9:l≠d:=CN hl h7 (by intro z;cases z);have nD:∀D,H D=J->(Ex H d) D=J:=λD hD=>by
   by_cases z:D=d
   .rw[z];exact Gj
   .delta Ex;rw[AF z];exact hD
  refine⟨_,Z,l,Z,⟨_,AL.of hl⟩,λD hD=>Gf (xs:=ys) (λi H'=>∃H0 zs h1,H'=upd H0 D (.lst zs)/\H0 D=J/\AM (Ex H d) H0/\Ci cN H0 a d h1 (D9 h6 (xs.take i))/\zs.length=i/\Told h6 xs H0 zs) ?_ (λi H' _ c=>?_) (λi x H' ex c=>?_) λH' c=>?_⟩
  .exact⟨H,[],e0,Z,hD,Ex.sub,g,Z,λk x v r _ ev=>by cases ev⟩
  .obtain⟨H0,zs,h1,rfl,h0,s0,_⟩:=c;have e:=s0 _ _ (Ex.at hl h9);exact AL.of (by rw[AO (A8 e h0)];exact e)
  .obtain⟨H0,zs,h1,rfl,h0,s0,g',rz,tl⟩:=c;obtain⟨x0,h3,h8⟩:=Ik rr ex;have hi:i<xs.length:=(BP.mp h3).1;obtain⟨nc,e3⟩:=GQ i (by lia);have eE:Ex (upd H0 D (.lst zs)) D=H0:=by
    rw[Ex.upd];funext b;by_cases z:b=D
    .rw[z,Ex.self,h0]
    .rw[Ex.ne z]
   refine⟨Ff,D,zs,AN,?_⟩;rw[eE];refine⟨_,Z,_,Z,a,d,x,x0,h1,_,Z,g',nc,e3,XR h7 s0 h8,h5 x0 (Bv h3),λH2 h4 u s2 g2 r2 h2=>?_⟩;have e2:xs.take (i+1)=xs.take i++[x0]:=by rw[Cf,h3];rfl
   refine⟨zs,AN,?_,H2,zs++[u],h4,by rw[Jg],h2,(Ex.of_none s0 Gj).trans s2,by rw[e2,WB];exact g2,?_,?_⟩
   .rw[BA]
    lia
   .rw[A9,Ey,rz]
   .intro k y v r ey ev er;by_cases hk:k<zs.length
    .rw[DH hk] at ev;exact XR g'.B1 s2 (tl k y v r ey ev er)
    .rw[C6 (by lia)] at ev;have e1:k=i:=by
      have:=(BP.mp ev).1;rw[Ey] at this
      lia
     subst e1;rw[rz,FQ] at ev;cases ev;rw[h3] at ey;cases ey;exact r2 r er
  .obtain⟨H0,zs,h1,rfl,h0,s0,g',rz,tl⟩:=c;have e:ys.length=xs.length:=by have:=rr.1;rw[AI] at this;lia
   rw[e,CH] at g';have su:=Ag (o:=.lst zs) h0;exact q _ h1 _ zs (s0.trans su) (g'.same su) AN (by lia) λk x v r ex ev er=>(tl k x v r ex ev er).same su
abbrev cP:hX:=Vt
abbrev bj:hX:=V9
def Kj(H:Hp)(as:List OK)(rows:List (List Int)):Prop:=as.length=rows.length/\∀(i:Nat) a h0,as[i]? =U a->rows[i]? =U h0->H a=U (.lst (h0.map V.int))
def Kj.same{as:List OK}(s:AM H H')(h:Kj H as rows):Kj H' as rows:=⟨h.1,λi a h0 h1 h2=>s _ _ (h.2 i a h0 h1 h2)⟩
noncomputable def keysOf(q:Int×Nat):List Key:=[Sum.inl q.1,Sum.inl (q.2:Int)]
def Jc(H:Hp)(l:List (OK×Int×Nat)):Prop:=∀p∈l,H p.1=U (.tup [.int p.2.1,.int (p.2.2:Int)])
def Jc.same{l:List (OK×Int×Nat)}(s:AM H H')(h:Jc H l):Jc H' l:=λp hp=>s _ _ (h p hp)
def bH:Sp:=λvs H Q _=>∃(a:OK)(as:List OK)(h0:List (List Int)),vs=[.ref a]/\H a=U (.lst (as.map V.ref))/\Kj H as h0/\(mk 0 h0).length<=1000000/\h0.length<=100/\
 ∀(D:OK)(l:List (OK×Int×Nat))(H':Hp),AM H H'->H' D=U (.lst (l.map λp=>V.ref p.1))->Jc H' l->(l.map (·.2)).Perm (mk 0 h0)->Gv (l.map (·.2))->Q (.ref D) H'
noncomputable def Hl:List Key->Int×Nat
 |[.inl a,.inl b]=>(a,b.toNat)
 |_=>(0,0)
def Pj(q:Int×Nat):Hl (keysOf q)=q:=by show(q.1,(q.2:Int).toNat)=q;rw[Hq]
def i7{a b:Int×Nat}(h:DN (keysOf b) (keysOf a)=vc):a.1<=b.1:=by
 have h':(if(Sum.inl b.1:Key)=Sum.inl a.1 then DN [Sum.inl (b.2:Int)] [Sum.inl (a.2:Int)] else Eb (Sum.inl b.1) (Sum.inl a.1))=vc:=h;by_cases e:(Sum.inl b.1:Key)=Sum.inl a.1
 .have:=PM e
  lia
 .rw[AF e] at h';have:¬b.1<a.1:=Ou h'
  lia
def dQ(rows:List (List Int))(i:Nat):(mk 0 (rows.take i)).length<=(mk 0 rows).length:=by
 have e:=SU (rows.take i) (rows.drop i) 0;rw[D5] at e;rw[e,A9]
 lia
def Vy(rows:List (List Int))(i:Nat)(row:List Int)(h:rows[i]? =U row):mk 0 (rows.take (i+1))=mk 0 (rows.take i)++row.map λx=>(x,i):=by have hi:i<rows.length:=(BP.mp h).1;rw[Cf,h];show mk 0 (rows.take i++[row])=_;rw[SU,Bk,LR (by lia),KP];show _++(row.map (λx=>(x,i))++[])=_;rw[CW]
def Qa:A3 ["rows","marks","number","row"] ["rows"] (Aq cP):=by left
def pY(F:Ak K "places_in_order" "places_in_order" cP f fd)(hen:mg "enumerate" =J)(hso:mg "sorted" =J):AX P w K mg base Ai 1 f fd ["rows"] bH:=by
 refine F.ok Qa ?_ ?_
 .rintro _ _ _ _ ⟨_,_,_,rfl,_⟩;rfl
 .rintro _ A _ s H _ Q E hr ⟨a,as,h0,rfl,ha,h2,s6,s3,k⟩;refine⟨_,AU (Ax (i:=1) Qa.nd Z (AY Z) (CY AJ))
   (AU (DC C8 Z (Ye Z hen (AE (pv 0) AJ)) (Nw Z (HU (Bg (i:=2) Qa.nd Z (Cn Z)) (HU (Bg (i:=3) Qa.nd Z (AY Z)) Nd)))
    (AR (Bq (Jq D4 PySem.F.slot_list_extend PySem.F.type_list_extend gI (pv 1)
     (AE (E6 (ts:=["place"]) (cap:=["number"]) (ix:=[2]) (Jb Z Z (by left) (by left) Z Z Z Z Z) (HY (pv 3))
      (λ_ _ _ _ _=>Bg (i:=0) (IS (by left)) Z (AY Z) (Cn Z)) (λ_ _ _ _ _=>HX) (λ_ _ _ _ _=>Cm (AE (pv 0) (AE (pv 1) AJ)))) AJ)))))
   (AR (An (Bh SI Z hso Ld (AE (pv 1) AJ))))),?_⟩;refine⟨by exact zy,λmr h9=>?_⟩;have e8:a≠mr:=A8 ha h9;refine⟨_,Z,a,Z,⟨_,AL.of (by rw[AO e8];exact ha)⟩,?_⟩;refine jW (K:=K) (a:=a) (xs:=as.map V.ref) (λi S H'=>∃(v2 v3:Option V)(l:List (OK×Int×Nat)),S=[U (.ref a),U (.ref mr),v2,v3]/\AM H H'/\H' mr=U (.lst (l.map λp=>V.ref p.1))/\Jc H' l/\l.map (·.2)=mk 0 (h0.take i))
   ⟨J,J,[],Z,(AM.refl H).upd h9,AN,λp hp=>(by cases hp),Z⟩ (λi S H' _ ⟨_,_,_,_,sm,_⟩=>AL.of (sm _ _ ha)) ?_ ?_
  .rintro i x p S H' hx hp ⟨v2,v3,l,rfl,sm,hm,pl,el⟩;rw[A1] at hx
   cases ea:as[i]?with
   |none=>rw[ea] at hx;cases hx
   |some ai=>
   rw[ea] at hx;obtain rfl:V.ref ai=x:=AZ hx;have hi:i<h0.length:=by rw[<-h2.1];exact(BP.mp ea).1
   have er:h0[i]? =U h0[i]:=Ar hi;generalize h0[i]=h3 at er;have e7:H ai=U (.lst (h3.map V.int)):=h2.2 i ai h3 ea er;have s1:AM H' (upd H' p (.tup [.int (i:Int),.ref ai])):=Ag hp;have s0:=A2 List.length (Vy h0 i h3 er);have s5:=dQ h0 (i+1);have e4:=A2 List.length el;rw[A9,AI] at s0;rw[AI] at e4;refine⟨p,_,Z,AS.of AN,Z,_,_,Z,_,_,Z,Z,?_⟩;have e0:=s1 _ _ hm;refine⟨_,Z,.inl ⟨Z,_,AL.of e0⟩,_,Z,ai,Z,⟨_,AL.of ((sm.trans s1) _ _ e7)⟩,λD hD=>?_⟩;have s4:mr≠D:=A8 e0 hD;refine Gf (K:=K) (xs:=h3.map V.int) (λj H2=>∃t:List (OK×Int×Nat),AM (upd H' p (.tup [.int (i:Int),.ref ai])) H2/\H2 D=U (.lst (t.map λp=>V.ref p.1))/\Jc H2 t/\t.map (·.2)=(h3.take j).map λx=>(x,i))
    ⟨[],Ag hD,AN,λp hp=>(by cases hp),Z⟩ (λj H2 _ ⟨_,s2,_⟩=>AL.of (s2 _ _ ((sm.trans s1) _ _ e7))) ?_ ?_
   .rintro j y H2 hy ⟨t,s2,h5,pt,et⟩;rw[A1] at hy
    cases ey:h3[j]?with
    |none=>rw[ey] at hy;cases hy
    |some z=>
    rw[ey] at hy;obtain rfl:V.int z=y:=AZ hy;have hj:j<h3.length:=(BP.mp ey).1;have h8:=A2 List.length et;rw[AI,AI,Bk] at h8;refine⟨Ff,_,Z,_,Z,by exact zw,λtp h6=>⟨t.map λp=>V.ref p.1,(Ag h6) _ _ h5,by rw[AI,BA];lia,t++[(tp,z,i)],(s2.upd (s2.free h6)).upd hD,?_,λq hq=>?_,?_⟩⟩
    .rw[AN,BL];rfl
    .have e9:tp≠D:=(A8 h5 h6).symm;rcases Be.mp hq with e|e
     .have h1:=pt q e;rw[AO (CN h1 h5 (by intro zz;cases zz)),AO (A8 h1 h6)];exact h1
     .rw[BW.mp e,AO e9,AN]
    .rw[BL,et,Cf,ey,BL];rfl
   .rintro H2 ⟨t,s2,h5,pt,et⟩;rw[AI,CH] at et;have h8:=A2 List.length et;rw[AI,AI] at h8;have e6:=s2 _ _ e0;refine⟨mr,D,_,_,Z,Z,e6,h5,by rw[AI,AI,BA];lia,U (.int (i:Int)),U (.ref ai),l++t,Z,(sm.trans (s1.trans s2)).upd h9,?_,λq hq=>?_,?_⟩
    .rw[AN,BL]
    .have h1:H2 q.1=U (.tup [.int q.2.1,.int (q.2.2:Int)]):=by
      rcases Be.mp hq with e|e
      .exact(s1.trans s2) _ _ (pl q e)
      .exact pt q e
     rw[AO (CN h1 e6 (by intro zz;cases zz))];exact h1
    .rw[BL,el,et,Vy h0 i h3 er]
  .rintro S H' ⟨v2,v3,l,rfl,sm,hm,pl,el⟩;rw[AI,h2.1,CH] at el;have e4:=A2 List.length el;rw[AI] at e4;refine⟨_,Z,mr,l.map (λp=>(p.1,keysOf p.2)),[Y,Y],Z,AL.of (by rw[hm,Bf];rfl),by simp,λq hq=>?_,by rw[AI];lia,λD qs hD h4 hsort=>?_⟩
   .obtain⟨p,hp,e⟩:=Aw.mp hq;rw[<-e];exact⟨pl p hp,Z⟩
   .have h7:∀q∈qs,∃p∈l,q=(p.1,keysOf p.2):=λq hq=>by obtain⟨p,hp,e⟩:=Aw.mp (h4.mem_iff.mp hq);exact⟨p,hp,e.symm⟩
    have s7:qs.map (λq=>(q.1,keysOf (Hl q.2)))=qs:=by
     conv=>rhs;rw[<-NB qs]
     refine EI λq hq=>?_;obtain⟨p,hp,e⟩:=h7 q hq;rw[e];show(p.1,keysOf (Hl (keysOf p.2)))=(p.1,keysOf p.2);rw[Pj]
    have p2:(qs.map λq=>(q.1,Hl q.2)).Perm l:=by
     have:=h4.map λq=>(q.1,Hl q.2);rw[Bf] at this;have e3:l.map ((λq:OK×List Key=>(q.1,Hl q.2))∘λp:OK×Int×Nat=>(p.1,keysOf p.2))=l:=by
      conv=>rhs;rw[<-NB l]
      refine EI λp hp=>?_;show(p.1,Hl (keysOf p.2))=p;rw[Pj]
     rw[e3] at this;exact this
    refine k D (qs.map λq=>(q.1,Hl q.2)) _ (sm.upd (sm.free hD)) ?_ (λq hq=>?_) ?_ ?_
    .rw[AN,Bf];rfl
    .have h1:=pl q (p2.mem_iff.mp hq);rw[AO (A8 h1 hD)];exact h1
    .rw[<-el];exact p2.map (·.2)
    .show Gv ((qs.map λq=>(q.1,Hl q.2)).map (·.2));rw[Bf];delta Gv;rw[My];refine List.Pairwise.imp_of_mem ?_ hsort;intro x y hx hy e5;obtain⟨p,hp,e1⟩:=h7 x hx;obtain⟨q,hq,e2⟩:=h7 y hy;rw[e1,e2] at e5⊢;show(Hl (keysOf p.2)).1<=(Hl (keysOf q.2)).1;rw[Pj,Pj];exact i7 e5
noncomputable def Ur:Option Int->V
 |none=>.BB
 |some m=>.int m
def bF:Sp:=λvs H Q _=>∃(a:OK)(as:List OK)(h0:List (List Int)),vs=[.ref a]/\H a=U (.lst (as.map V.ref))/\Kj H as h0/\(mk 0 h0).length<=1000000/\h0.length<=100/\
 ∀(b:Option Int)(qs:List (Int×Nat))(H':Hp),AM H H'->qs.Perm (mk 0 h0)->Gv qs->Iu h0.length qs b->Q (Ur b) H'
def YV(h:Fm n pre AA):AA.length<=n:=by
 have:=NK h.nd (m:=Jt n) λk hk=>by obtain⟨r,hr,e⟩:=h.ks k hk;exact Aw.mpr ⟨r,Hu.mpr hr,e.symm⟩
 rw[AI] at this;delta Jt at this;rw[AI,Mz] at this;exact this
def K4:A3 ["rows","latest","best","place","number","length"] ["rows"] (Aq bj):=by left
def WC:DU X (.builtin "len") (λxs H Q=>∃a AA,xs=[V.ref a]/\H a=U (.dK AA)/\Q (.int AA.length) H):=by intro h0 s S H xs us Q I r h;obtain⟨a,AA,rfl,ha,q⟩:=h;obtain⟨u,rfl,ru⟩:=vals1 r;cases ru;exact o9 I (.inl ha) λt s' I'=>⟨.int AA.length,H,I',⟨t,Z⟩,q⟩
def pQ(F:Ak K "shortest" "shortest" bj f fd)(HP:Hv P w K mg base "places_in_order" 1 ["rows"] bH)
 (hlen:mg "len" =J)(hmin:mg "min" =J):AX P w K mg base Ai 2 f fd ["rows"] bF:=by
 refine F.ok K4 ?_ ?_
 .rintro _ _ _ _ ⟨_,_,_,rfl,_⟩;rfl
 .rintro _ A _ s H _ Q E hr ⟨a,as,h4,rfl,ha,h9,q1,s5,k⟩;have hu:=CZ hr;refine⟨_,AU (Ax (i:=1) K4.nd Z (AY Z) Lh)
   (AU (Ax (i:=2) K4.nd Z (AY Z) ZF)
   (AU (DC C8 Z (HY (Cj HP hr Z BF (AE (pv 0) AJ))) (Nw Z (HU (Bg (i:=3) K4.nd Z (AY Z)) (HU (Bg (i:=4) K4.nd Z (AY Z)) Nd)))
    (AU (Eh hu (pv 1) (pv 4) (pv 3) Z)
    (AR (Ay (As BQ (Bh WC Z hlen DX (AE (pv 1) AJ)) (Bh JW Z hlen DX (AE (pv 0) AJ)) (Am _))
     (AU (Ax (i:=5) K4.nd Z (AY Z) (Al DJ (Al Lx (pv 3) (Bh (fM Z) Z hmin boot_min (AE (Ny LJ VT vX Wm (pv 1)) AJ))) Aa))
     (AR (Ay (PW.pt (Iw (Jj (lP (pv 2))) (Io (As Iq (pv 5) (pv 2) (Am _))))) (AR (Ax (i:=2) K4.nd Z (AY Z) (pv 5))) BC)))
     BC))))
   (AR (An (pv 2))))),?_⟩;intro d hd;have q3:a≠d:=A8 ha hd;have s0:AM H (upd H d (.dK [])):=Ag hd;refine⟨_,Z,a,as,h4,Z,s0 _ _ ha,h9.same s0,q1,s5,λD l H1 s1 hD pl h6 e0=>?_⟩;have q0:H1 d=U (.dK []):=s1 _ _ AN;have n:=h4.length;generalize eq:l.map (·.2)=qs at h6 e0;refine⟨D,Z,⟨_,AL.of hD⟩,?_⟩;have r8:l.length=qs.length:=by rw[<-eq,AI]
  refine HN (K:=K) (a:=D) (xs:=l.map λp=>V.ref p.1) (λi S H'=>∃(b:Option Int)(v3 v4 v5:Option V)(e3:List (Key×V)),S=[U (.ref a),U (.ref d),U (Ur b),v3,v4,v5]/\AM H H'/\H' D=U (.lst (l.map λp=>V.ref p.1))/\Jc H' l/\H' d=U (.dK e3)/\
   Fm h4.length (qs.take i) e3/\Iu h4.length (qs.take i) b) ⟨J,J,J,J,[],Z,s0.trans s1,hD,pl,q0,Fm.nil,gZ⟩ (λi S H' _ ⟨_,_,_,_,_,_,_,h,_⟩=>AL.of h) ?_ ?_
  .rintro i x S H' hx ⟨b,v3,v4,v5,e3,rfl,sm,r2,e9,s4,s6,h7⟩;rw[A1] at hx
   cases el:l[i]?with
   |none=>rw[el] at hx;cases hx
   |some q=>
   rw[el] at hx;obtain rfl:V.ref q.1=x:=AZ hx;have hi:i<l.length:=(BP.mp el).1;obtain⟨ad,p,r⟩:=q;have hq:=e9 _ (Bv el);have r3:qs[i]? =U (p,r):=by rw[<-eq,A1,el];rfl
   have s9:r<h4.length:=by
    have:=h6.mem_iff.mp (Bv r3);obtain⟨j,q2,h1,h2,_⟩:=(mem_mk h4 0 p r).mp this;have:=(BP.mp h1).1
    lia
   have e4:qs.take (i+1)=qs.take i++[(p,r)]:=by rw[Cf,r3];rfl
   have h3:=s6.put p s9;rw[<-e4] at h3;have q4:=(YV s6);have s3:=(YV h3);refine⟨ad,_,Z,AS.of hq,Z,_,_,Z,_,_,Z,Z,?_⟩;refine⟨_,Z,_,Z,_,Z,d,_,Z,DO.kq (k:=Sum.inl (r:Int)) s4 (by rw[BA];lia),?_⟩;generalize q5:putK e3 (Sum.inl (r:Int)) (V.int p)=h0 at h3 s3;have h8:(upd H' d (.dK h0)) d=U (.dK h0):=AN;have r1:∀b o,H' b=U o->(∀z,o≠.dK z)->(upd H' d (.dK h0)) b=U o:=λb o h hz=>by rw[AO (CN h s4 (hz e3))];exact h
   have e2:AM H (upd H' d (.dK h0)):=sm.upd hd;have e6:=r1 D _ r2 (by intro z zz;cases zz);have e5:Jc (upd H' d (.dK h0)) l:=λy hy=>r1 _ _ (e9 y hy) (by intro z zz;cases zz);generalize upd H' d (.dK h0)=H2 at h8 e2 e6 e5;refine⟨_,Z,d,h0,Z,h8,_,Z,a,_,Z,.inl (AL.of (e2 _ _ ha)),Z,_,Z,?_⟩;have r4:((as.map V.ref).length:Nat)=h4.length:=by rw[AI];exact h9.1
   by_cases h5:h0.length=h4.length
   .refine Bj (by rw[r4,h5]) ?_;obtain⟨ns,hv,r0,s2⟩:=h3.vals;have r6:ns≠[]:=by
     intro z;rw[z] at r0;have:0<h4.length:=RO (CB _) s9;simp at r0
     lia
    refine⟨_,Z,_,Z,.inr (.inr (.inl ⟨Z,.inl ⟨_,h8⟩⟩)),d,h0,Z,Z,h8,λvp s8=>⟨vp,d,h0,ns,Z,AN,(Ag s8) _ _ h8,hv,r6,λmn r7 r9=>⟨_,_,Z,Z,_,_,Z,Z,?_⟩⟩⟩;have sv:AM H2 (upd H2 vp (Hc vp d)):=Ag s8;generalize upd H2 vp (Hc vp d)=H3 at sv;have e1:=s2;rw[e4] at h3 e1;obtain⟨r5,e8⟩:=lg h3 h5 e1 r7 r9;obtain⟨up1,s7⟩:=gw r5 e8 h7;rw[<-e4] at up1 s7;rw[<-e4] at h3
    cases b with
    |none=>refine⟨_,Z,_,Z,Bj Z (Bs ⟨_,Z,?_⟩)⟩;exact⟨U (p-mn+1),_,_,_,h0,Z,e2.trans sv,sv _ _ e6,e5.same sv,sv _ _ h8,h3,up1 (.inl Z)⟩
    |some b0=>
     refine⟨_,Z,_,Z,Bi (by intro z;cases z) ⟨_,Z,_,Z,_,_,Z,Z,_,Z,?_⟩⟩;by_cases e7:p-mn+1<b0
     .refine Bj e7 ⟨_,Z,?_⟩;exact⟨U (p-mn+1),_,_,_,h0,Z,e2.trans sv,sv _ _ e6,e5.same sv,sv _ _ h8,h3,up1 (.inr ⟨b0,Z,e7⟩)⟩
     .refine Bi e7 ?_;exact⟨U b0,_,_,_,h0,Z,e2.trans sv,sv _ _ e6,e5.same sv,sv _ _ h8,h3,s7 ⟨b0,Z,e7⟩⟩
   .refine Bi (by rw[r4];intro z;exact h5 (by have:=V.int.inj z;lia)) ?_;refine⟨b,_,_,_,h0,Z,e2,e6,e5,h8,h3,?_⟩;rw[e4];rw[e4] at h3;exact eU (λm=>jw h3 h5 m) h7
  .rintro S H' ⟨b,v3,v4,v5,e3,rfl,sm,r2,e9,s4,s6,h7⟩;rw[AI,r8,CH] at h7;exact⟨_,Z,k b qs H' sm h6 e0 h7⟩
def kl(hrow:∀row∈rows,row.Pairwise (·<·))(hp:qs.Perm (mk 0 rows))(hs:Gv qs){a:Option Int}(ha:Iu rows.length qs a):L9 rows a:=by
 have low:∀s m,K7 rows s m->∃m',a=U m'/\m'<=m:=λs m h=>by obtain⟨i,m',hi,h1,l1⟩:=oC hrow hp hs h;obtain⟨m2,e2,l2⟩:=ha.low i hi m' h1;exact⟨m2,e2,by lia⟩
 refine⟨λm e=>?_,low⟩;obtain⟨i,hi,h1⟩:=ha.snd m e;obtain⟨s,m',h2,l1⟩:=nA hrow hp hs hi h1;obtain⟨m2,e2,l2⟩:=low s m' h2;rw[e] at e2;have:m=m2:=AZ e2;have:m=m':=by lia
 exact⟨s,this▸h2⟩
def UJ:Sp:=λvs H Q _=>∃(a:OK)(as:List OK)(h0:List (List Int)),vs=[.ref a]/\H a=U (.lst (as.map V.ref))/\Kj H as h0/\(∀h1∈h0,h1.Pairwise (·<·))/\(mk 0 h0).length<=1000000/\h0.length<=100/\
 ∀H',AM H H'->Q (Ur (short h0)) H'
def Zh{vs:List V}{Q:VK}{E:XK}(h:UJ vs H Q E):bF vs H Q E:=by obtain⟨a,as,h0,e,ha,hr,h3,h1,h2,k⟩:=h;refine⟨a,as,h0,e,ha,hr,h1,h2,λb qs H' s hp hs hb=>?_⟩;have:=k H' s;rw[Xg (kl h3 hp hs hb)] at this;exact this
theorem Zq:∀(rows:List (List Int))(k n:Nat),(∀r∈rows,r.length<=n)->(mk k rows).length<=rows.length*n
 |[],_,_,_=>by simp[mk]
 |r::rows,k,n,h=>by
  have ih:=Zq rows (k+1) n λx hx=>h x (Ce _ hx);have h1:=h r CV;show(r.map (λx=>(x,k))++mk (k+1) rows).length<=_;rw[A9,AI,Bw,Nat.succ_mul]
  lia
theorem Y4(z:Str):∀(ws:List PR)(k:Nat),∀x∈CT z k ws,(k:Int)<=x
 |[],k,x,h=>by cases h
 |p::ws,k,x,h=>by
  rw[CT] at h;rcases Be.mp h with e|e
  .split at e
   .rw[BW.mp e];exact HL _
   .cases e
  .have:=Y4 z ws (k+1) x e
   lia
theorem Nl(z:Str):∀(ws:List PR)(k:Nat),(CT z k ws).Pairwise (·<·)
 |[],k=>List.Pairwise.nil
 |p::ws,k=>by
  rw[CT];split
  .refine IZ.mpr ⟨λx hx=>?_,Nl z ws (k+1)⟩;have:=Y4 z ws (k+1) x hx
   lia
  .exact Nl z ws (k+1)
theorem X1:∀(ws S:List Str),(Dv S ws).length<=S.length+ws.length
 |[],S=>by simp[Dv]
 |z::ws,S=>by
  have h1:=X1 ws (Dx S z);have h2:=XY S z;rw[Dv,Bw]
  lia
def fB(ws:List Str):(Cd ws).length<=ws.length:=by delta Cd;rw[(HM ES _).length_eq];have:=X1 ws [];simpa using this
def jk{zs:List V}(r:Ah H (rows.map λr=>Dt.lst (r.map Dt.int)) zs):∃as,zs=as.map V.ref/\Kj H as rows:=by
 have h3:∀(i:Nat) v,zs[i]? =U v->∃a h0,v=.ref a/\rows[i]? =U h0/\H a=U (.lst (h0.map V.int)):=λi v e=>by obtain⟨h0,er,rd⟩:=Ik r e;obtain⟨a,xs,rfl,ha,rr⟩:=FU rd;rw[Sa rr] at ha;exact⟨a,h0,Z,er,ha⟩
 refine⟨zs.map λv=>match v with|.ref a=>a|_=>0,?_,?_,λi a h0 h1 h2=>?_⟩
 .rw[Bf];conv=>lhs;rw[<-NB zs]
  refine EI λv hv=>?_;obtain⟨i,hi⟩:=Om hv;obtain⟨a,_,rfl,_⟩:=h3 i v hi;rfl
 .have:=r.1;rw[AI] at this;rw[AI,this]
 .rw[A1] at h1
  cases e:zs[i]?with
  |none=>rw[e] at h1;cases h1
  |some v=>rw[e] at h1;obtain⟨b,h4,rfl,e2,hb⟩:=h3 i v e;rw[h2] at e2;cases AZ e2;cases AZ h1;exact hb
def di(hK:X.K=K):DU X (.builtin "len") (λxs H Q=>∃p ys,xs=[.ref p]/\(AL K H p ys\/AS K H p ys)/\Q (.int ys.length) H):=by subst hK;exact JW
def Y6:Sp:=λvs H Q _=>∃d v h0 h2 h1 ws,vs=[.ref d,v,.int h0]/\H d=U (.dK (Az h2))/\Di H h2 h1/\Md h1/\Rep H (.tup (ws.map Dt.str)) v/\ws.length<=9/\∀H' u,AM H H'->Rep H' (GV h1 ws h0) u->Q u H'
def lh{o:HO}(s:AM H H'):AM (Ex H d) (upd H' d o):=λb u e=>by
 by_cases z:b=d
 .rw[z,Ex.self] at e;cases e
 .rw[Ex.ne z] at e;rw[AO z];exact s _ _ e
def eQ{pl:List Str}{near:Int}{p:Pg}{k:List Key}(h:C1 pl near p=U k):∃m c n,k=[.inl m,.inl c,.inr n]:=by
 delta C1 at h
 cases e:short (rowsOf p.2 pl) with
 |none=>rw[e] at h;cases h
 |some m=>
  rw[e] at h;dsimp only at h;split at h
  .exact⟨_,_,_,(AZ h).symm⟩
  .cases h
def qc{y:Str}{a b c:V}:JK [x,y,z] [] S [U a,U b,U c]:=⟨[U a,U b,U c],Z,Z⟩
def Jk:A3 ["pages","wanted","near","plains","found","page","words","rows","length","places"] ["pages","wanted","near"] (Aq R9):=by left
def lz:sq "set" =U (.type "set"):=by left
def nj:((["length","places","page"]:List Str)++([]:List Str)).Nodup:=by left
def kW(F:Ak K "pages_near" "pages_near" R9 f fd)(O:IL mg)
 (HP:Hv P w K mg base "places_of" 1 ["words","plain"] aB)
 (HS:Hv P w K mg base "shortest" 2 ["rows"] UJ):AX P w K mg base Ai 3 f fd ["pages","wanted","near"] Y6:=by
 obtain⟨_,_,GP,bP,mP,kP⟩:=HP.ex;refine F.ok Jk ?_ ?_
 .rintro _ _ _ _ ⟨_,_,_,_,_,_,rfl,_⟩;rfl
 .rintro _ A _ s H _ Q E hr ⟨d,v,h6,e3,h9,ws,rfl,hd,g,q2,rv,c1,q⟩;have c3:=CZ hr;refine⟨_,(AU (Ax (i:=3) Jk.nd Z (AY Z) (Bh (de (P:=P) (w:=w) Z Z Z) Z O.so Ld (AE (E3 (fq (P:=P) (w:=w) (K:=K) Z Z Z Z) Z O.set lz (AE (pv 1) AJ)) AJ)))
   (AU (Ax (i:=4) Jk.nd Z (AY Z) (CY AJ))
   (AU (jy (DC C8 Z (Xm (Ny LJ VW vY Xi (pv 0))) (Nw Z (HU (Bg (i:=5) Jk.nd Z (AY Z)) (HU (Bg (i:=6) Jk.nd Z (Cn Z)) Nd)))
    (AU (Yw (i:=7) (ts:=["plain"]) (cap:=["words"]) (ix:=[6]) (Jb Z Z (by left) (by left) Z Z Z Z Z) Jk.nd Z Z (HY (pv 3))
     (λ_ _ _ _ _=>Bg (i:=0) (IS (by left)) Z (AY Z) (Cn Z)) (λ_ _ _ _ _=>HX) (λ_ _ _ _ _=>Sq (Cs (GP.mono (by decide:1<=2)) hr Z mP kP bP .nil BF (AE (pv 1) (AE (pv 0) AJ)))))
    (AU (Ax (i:=8) Jk.nd Z (AY Z) (Cj HS hr Z BF (AE (pv 7) AJ)))
    (AR (Ay (PW.pt (FY (Jj (kf (pv 8))) (HV (As aQ (pv 8) (pv 2) (Am _)))))
     (AU (Ax (i:=9) Jk.nd Z (AY Z) (Bh (W4 Z) Z O.sum vW (AE (E6 (ts:=["row"]) (cap:=[]) (ix:=[]) (cl:=[]) (JZ Z Z (by left) (by left)) (HY (pv 7))
      (λ_ _ _ _ _=>Bg (i:=0) LB Z (AY Z) (Cn Z)) (λ_ _ _ _ _=>HX) (λ_ _ _ _ _=>Bh (di (K:=K) Z) Z O.len DX (AE (pv 0) AJ))) AJ)))
     (AR (Bq (Jq D4 Ew Eu EM (pv 4) (AE (Cm (AE (pv 8) (AE (Du Dr (pv 9)) (AE (pv 5) AJ)))) AJ))))) BC))))))
   (AR (An (E6 (ts:=["length","places","page"]) (cap:=[]) (ix:=[]) (cl:=[]) (JZ Z Z (by left) (by left)) (HY (Bh SI Z O.so Ld (AE (pv 4) AJ)))
    (λ_ _ _ _ _=>jo (K:=K) (i:=0) (j:=1) (l:=2) Z Z nj Z (AY Z) (Cn Z) Z (AY Z) (Cn Z) Z (AY Z) (Cn Z)) (λ_ _ _ _ _=>HX) (λ_ _ _ _ _=>Cm (AE (pv 2) (AE (pv 0) AJ))))))))),?_⟩;obtain⟨av,xs,rfl,ha,rr⟩:=Bu rv;rw[KY rr] at ha;refine⟨_,Z,av,ws,Z,AS.of ha,by lia,λDz hz=>⟨Dz,Dv [] ws,Z,AN,λDp ys b7 pz sz=>?_⟩⟩;have ey:ys=Cd ws:=Kg ES pz sz;have q0:=fB ws;rw[<-ey] at q0;have s1:AM H (upd (upd H Dz (Mc P w Dz (Dv [] ws))) Dp (.lst (ys.map V.str))):=(Ag hz).trans (Ag b7);have a2:(upd (upd H Dz (Mc P w Dz (Dv [] ws))) Dp (.lst (ys.map V.str))) Dp=U (.lst (ys.map V.str)):=AN;refine⟨by exact zy,λfo r8=>?_⟩;have s2:=s1.trans (Ag (o:=.lst []) r8);have q5:=(Ag (o:=.lst []) r8) _ _ a2;have q9:(upd (upd (upd H Dz (Mc P w Dz (Dv [] ws))) Dp (.lst (ys.map V.str))) fo (.lst [])) fo=U (.lst []):=AN;have b3:H fo=J:=s1.free r8;have b0:Dp≠fo:=A8 a2 r8;generalize upd (upd (upd H Dz (Mc P w Dz (Dv [] ws))) Dp (.lst (ys.map V.str))) fo (.lst [])=H2 at s2 q5 q9;have s8:=s2 _ _ hd;refine⟨d,Az e3,s8,_,Z,.inr (.inr (.inl ⟨Z,.inl ⟨_,s8⟩⟩)),d,_,Z,Z,s8,λp hp=>⟨p,d,Az e3,Z,AN,by rw[AO (A8 s8 hp)];exact s8,λo=>?_⟩⟩;have gE:=g.ex hd;have sE:AM (Ex H d) (upd (upd H2 p (II p d)) d (.BZ o (.dK (Az e3)))):=lh (s2.trans (Ag hp));have a9:Dp≠d:=CN q5 s8 (by intro z;cases z);have r6:fo≠d:=CN q9 s8 (by intro z;cases z);have b2:(upd (upd H2 p (II p d)) d (.BZ o (.dK (Az e3)))) Dp=U (.lst (ys.map V.str)):=by rw[AO a9];exact(Ag hp) _ _ q5
  have b4:(upd (upd H2 p (II p d)) d (.BZ o (.dK (Az e3)))) fo=U (.lst []):=by rw[AO r6];exact(Ag hp) _ _ q9
  refine gb (λi S H'=>∃(v5 v6 v7 v8 v9:Option V)(l:List (OK×List Key)),S=[U (.ref d),U (.ref av),U (.int h6),U (.ref Dp),U (.ref fo),v5,v6,v7,v8,v9]/\AM (Ex H d) H'/\H' d=U (.BZ o (.dK (Az e3)))/\H' Dp=U (.lst (ys.map V.str))/\
   H' fo=U (.lst (l.map λp=>V.ref p.1))/\(∀q∈l,H' q.1=U (.tup (q.2.map kV)))/\l.map (·.2)=(h9.take i).filterMap (C1 ys h6)) ⟨J,J,J,J,J,[],Z,sE,AN,b2,b4,λq hq=>(by cases hq),Z⟩ (λi S H' ⟨_,_,_,_,_,_,_,_,h,_⟩=>h) ?_ ?_
  .rintro i k x pr S H' ex b1 ⟨v5,v6,v7,v8,v9,l,rfl,sm,r9,a1,q8,hl,el⟩;obtain⟨n,a5,rfl⟩:=QF ex;have hi:i<h9.length:=by rw[<-g.len];exact(BP.mp a5).1
   have ep:h9[i]? =U h9[i]:=Ar hi;obtain⟨en,r4⟩:=gE.row i _ _ a5 ep;have en:n=h9[i].1:=en;have r4:Rep (Ex H d) (Df h9[i].2) x:=r4;have wl:h9[i].2.length<=100000:=q2.short _ (Ez hi);generalize h9[i]=pg at ep en r4 wl;have s3:AM H' (upd H' pr (.tup [kV (Sum.inr n),x])):=Ag b1;refine⟨pr,_,Z,AS.of AN,Z,_,_,Z,_,_,Z,Z,?_⟩;generalize upd H' pr (.tup [kV (Sum.inr n),x])=H3 at s3;have t3:=sm.trans s3;have e6:=s3 _ _ a1;refine⟨_,Z,Dp,Z,⟨_,AL.of e6⟩,λD hD=>Gf (xs:=ys.map V.str) (λj H4=>∃H0 zs,H4=upd H0 D (.lst zs)/\H0 D=J/\AM H3 H0/\Ah H0 ((rowsOf pg.2 (ys.take j)).map λr=>Dt.lst (r.map Dt.int)) zs) ?_ (λj H4 _ c=>?_) (λj y H4 h8 c=>?_) λH4 c=>?_⟩
   .exact⟨H3,[],Z,hD,AM.refl _,Ah.nil⟩
   .obtain⟨H0,zs,rfl,h0,s0,_⟩:=c;have e:=s0 _ _ e6;exact AL.of (by rw[AO (A8 e h0)];exact e)
   .obtain⟨H0,zs,rfl,h0,s0,rz⟩:=c;rw[A1] at h8
    cases ez:ys[j]?with
    |none=>rw[ez] at h8;cases h8
    |some z=>
    rw[ez] at h8;obtain rfl:V.str z=y:=AZ h8;have eE:Ex (upd H0 D (.lst zs)) D=H0:=by
     rw[Ex.upd];funext b;by_cases c:b=D
     .rw[c,Ex.self,h0]
     .rw[Ex.ne c]
    refine⟨Ff,D,zs,AN,?_⟩;rw[eE];refine⟨_,Z,_,Z,x,pg.2,z,Z,r4.same (t3.trans s0),wl,λu H5 s5 ru h5=>?_⟩;refine⟨zs,AN,?_,H5,zs++[u],by rw[Jg],h5,s0.trans s5,?_⟩
    .have h1:=rz.1;unfold rowsOf at h1;rw[AI,AI] at h1;have h2:=Ef j ys;rw[BA]
     lia
    .have e2:rowsOf pg.2 (ys.take (j+1))=rowsOf pg.2 (ys.take j)++[CT z 0 pg.2]:=by delta rowsOf;rw[Cf,ez,BL];rfl
     rw[e2,BL];exact(rz.same s5).snoc ru
   .obtain⟨H0,zs,rfl,h0,s0,rz⟩:=c;rw[AI,CH] at rz;obtain⟨as,rfl,ra⟩:=jk rz;have s4:AM H0 (upd H0 D (.lst (as.map V.ref))):=Ag h0;have t1:(upd H0 D (.lst (as.map V.ref))) D=U (.lst (as.map V.ref)):=AN;have r5:=ra.same s4;have t5:=s0.trans s4;generalize upd H0 D (.lst (as.map V.ref))=H4 at s4 t1 r5 t5;have rl:(rowsOf pg.2 ys).length=ys.length:=by delta rowsOf;rw[AI]
    have t6:∀row∈rowsOf pg.2 ys,row.Pairwise (·<·):=λrow q4=>by obtain⟨z,_,rfl⟩:=Aw.mp q4;exact Nl z pg.2 0
    have t7:∀row∈rowsOf pg.2 ys,row.length<=100000:=λrow q4=>by obtain⟨z,_,rfl⟩:=Aw.mp q4;exact BI (Sg z pg.2 0) wl
    have t8:(mk 0 (rowsOf pg.2 ys)).length<=1000000:=by
     have:=Zq (rowsOf pg.2 ys) 0 100000 t7;rw[rl] at this;have h2:ys.length*100000<=9*100000:=Ve _ (by lia)
     lia
    generalize er:rowsOf pg.2 ys=h7 at r5 rl t6 t7 t8 rz ra;refine⟨_,Z,D,as,h7,Z,t1,r5,t6,t8,by lia,λH5 s5=>?_⟩;have s9:=t5.trans s5;have e9:=(s3.trans s9) _ _ r9;have e5:=s9 _ _ e6;have e8:=(s3.trans s9) _ _ q8;have q7:∀q∈l,H5 q.1=U (.tup (q.2.map kV)):=λq hq=>(s3.trans s9) _ _ (hl q hq);have q1:=t3.trans s9;have t2:(h9.take (i+1)).filterMap (C1 ys h6)=(h9.take i).filterMap (C1 ys h6)++(C1 ys h6 pg).toList:=by rw[Cf,ep,RG];show _++List.filterMap (C1 ys h6) [pg]=_;congr 1
    cases hs:short h7 with
    |none=>
     refine⟨_,Z,_,Z,El Z ?_⟩;have e1:C1 ys h6 pg=J:=by delta C1;rw[er,hs]
     exact⟨_,_,_,_,_,l,Z,q1,e9,e5,e8,q7,by rw[t2,e1,el];simp⟩
    |some m=>
     refine⟨_,Z,_,Z,Hb (by intro z;cases z) ⟨_,Z,_,Z,_,_,Z,Z,_,Z,?_⟩⟩;by_cases r7:m<=h6
     .refine Bj r7 ?_;have e1:C1 ys h6 pg=U [.inl m,.inl (-(NY h7)),.inr pg.1]:=by delta C1;rw[er,hs];exact AG r7
      have a3:=s5 _ _ t1;have q3:=r5.same s5;refine⟨_,Z,D,Z,⟨_,AL.of a3⟩,λD2 b9=>Gf (xs:=as.map V.ref) (λj H6=>CI H5 D2 (((h7.take j).map λr=>(r.length:Int)).map Dt.int) H6) (CI.start b9) (λj H6 _ c=>AL.of (c.same _ _ a3)) (λj y H6 h8 c=>?_) λH6 c=>?_⟩
      .rw[A1] at h8
       cases ea:as[j]?with
       |none=>rw[ea] at h8;cases h8
       |some aj=>
       rw[ea] at h8;obtain rfl:V.ref aj=y:=AZ h8;have hj:j<h7.length:=by rw[<-q3.1];exact(BP.mp ea).1
       have a4:h7[j]? =U h7[j]:=Ar hj;have b5:=c.same _ _ (q3.2 j aj _ ea a4);refine⟨Ff,_,Z,aj,_,Z,.inl (AL.of b5),?_⟩;rw[KN (f:=λr:List Int=>(r.length:Int)) a4,BL,AI];refine c.push (.int _) ?_;rw[AI,AI];have:=Ef j h7
       lia
      .rw[AI,q3.1,CH] at c;obtain⟨z2,t9,a7⟩:=c.lst;rw[Sa a7] at t9;have s6:=c.same;have e7:=s6 _ _ e8;have ll:l.length<=1000:=by
        have h1:=A2 List.length el;have h2:=Od (C1 ys h6) (h9.take i);have h3:=Ef i h9;have h4:=q2.Dh;rw[AI] at h1
        lia
       refine⟨D2,_,Z,AL.of t9,_,Z,.inl ⟨Z,_,AL.of e7⟩,_,Z,_,Z,_,Z,_,Z,by exact zv,λtp r0=>?_⟩;have st:=Ag (o:=.tup [.int m,.int (-(((h7.map λr=>(r.length:Int))).sum)),kV (Sum.inr n)]) r0;have r3:=st _ _ e7;have s7:=s6.trans st;have hE:(Ex H d) fo=J:=by rw[Ex.ne r6];exact b3
       have a8:tp≠fo:=(A8 e7 r0).symm;refine⟨fo,_,_,Z,Z,r3,by rw[AI,BA];lia,?_⟩;refine⟨_,_,_,_,_,l++[(tp,[.inl m,.inl (-(NY h7)),.inr pg.1])],Z,(q1.trans s7).upd hE,by rw[AO r6.symm];exact s7 _ _ e9,by rw[AO b0];exact s7 _ _ e5,?_,λq hq=>?_,?_⟩
       .rw[AN,BL];rfl
       .rcases Be.mp hq with e|e
        .have h1:=s7 _ _ (q7 q e);rw[AO (CN h1 r3 (by intro z;cases z))];exact h1
        .rw[BW.mp e,AO a8,AN,en];rfl
       .rw[BL,el,t2,e1];rfl
     .refine Bi r7 ?_;have e1:C1 ys h6 pg=J:=by delta C1;rw[er,hs];exact AF r7
      exact⟨_,_,_,_,_,l,Z,q1,e9,e5,e8,q7,by rw[t2,e1,el];simp⟩
  .rintro S H' ⟨v5,v6,v7,v8,v9,l,rfl,sm,r9,a1,q8,hl,el⟩;have e0:(Az e3).length=h9.length:=by show(e3.map _).length=_;rw[AI];exact g.len
   rw[e0,CH] at el;refine⟨o,r9,?_⟩;have sH:AM H (upd H' d (.dK (Az e3))):=λb u e=>by
    by_cases z:b=d
    .subst z;rw[hd] at e;cases e;exact AN
    .rw[AO z];exact sm b u (Ex.at e z)
   have r2:(upd H' d (.dK (Az e3))) fo=U (.lst (l.map λp=>V.ref p.1)):=by rw[AO r6];exact q8
   have q6:∀q∈l,(upd H' d (.dK (Az e3))) q.1=U (.tup (q.2.map kV)):=λq hq=>by have h1:=hl q hq;rw[AO (CN h1 r9 (by intro z;cases z))];exact h1
   generalize upd H' d (.dK (Az e3))=HA at sH r2 q6;have t4:∀q∈l,∃m c n,q.2=[.inl m,.inl c,.inr n]:=λq hq=>by have h1:q.2∈l.map (·.2):=Aw.mpr ⟨q,hq,Z⟩;rw[el] at h1;obtain⟨p',_,e⟩:=Ov.mp h1;exact eQ e
   have ll:l.length<=1000:=by
    have h1:=A2 List.length el;have h2:=Od (C1 ys h6) h9;have h4:=q2.Dh;rw[AI] at h1
    lia
   refine⟨_,Z,fo,l,[Y,Y,vc],Z,AL.of r2,by simp,λq hq=>⟨q6 q hq,?_⟩,by lia,λDs qs b6 e4 r1=>?_⟩
   .obtain⟨m,c,n,e⟩:=t4 q hq;rw[e];rfl
   have c0:qs.map (·.2)=Fg lexOrd (MH h9 ws h6):=by
    refine Kg lexOrd ?_ ?_
    .have:=e4.map (·.2);rw[el,ey] at this;exact this
    .exact My.mpr r1
   have sB:=Ag (o:=.lst (qs.map λp=>V.ref p.1)) b6;have t0:(upd HA Ds (.lst (qs.map λp=>V.ref p.1))) Ds=U (.lst (qs.map λp=>V.ref p.1)):=AN;generalize upd HA Ds (.lst (qs.map λp=>V.ref p.1))=HB at sB t0;have a6:=sH.trans sB;refine⟨Ds,Z,⟨_,AL.of t0⟩,λD3 b8=>Gf (xs:=qs.map λp=>V.ref p.1) (λj H6=>CI HB D3 (((qs.take j).map (·.2)).map F7) H6) (CI.start b8) (λj H6 _ c=>AL.of (c.same _ _ t0)) (λj y H6 h8 c=>?_) λH6 c=>?_⟩
   .rw[A1] at h8
    cases ea:qs[j]?with
    |none=>rw[ea] at h8;cases h8
    |some qq=>
    rw[ea] at h8;obtain rfl:V.ref qq.1=y:=AZ h8;have hq:qq∈l:=e4.mem_iff.mp (Bv ea);obtain⟨m,c',n,e⟩:=t4 qq hq;have a0:=(sB.trans c.same) _ _ (q6 qq hq);rw[e] at a0;refine⟨qq.1,_,Z,AS.of a0,Z,_,_,Z,_,_,Z,_,_,Z,Z,qc,_,Z,_,Z,by exact zw,λtp r0=>?_⟩;have st:=Ag (o:=.tup [kV (Sum.inr n),kV (Sum.inl m)]) r0;have c2:=c.ext st;have nt:tp≠D3:=by obtain⟨zz,hz,_⟩:=c.lst;exact(A8 hz r0).symm
    rw[KN (f:=λq:OK×List Key=>q.2) ea,BL];refine c2.push (d:=F7 qq.2) ?_ ?_
    .rw[e];exact Rep.MY (Ex.at AN nt) (Ah.snoc (Ah.snoc Ah.nil (.str n)) (.int m))
    .rw[AI,AI];have h1:=Ef j qs;have h2:=e4.length_eq
     lia
   .rw[AI,CH,c0] at c;exact q _ _ (a6.trans c.same) c.done
abbrev Tr:=Str×Str×Bool
noncomputable def JA(x:Tr):Dt:=.tup [.str x.1,.str x.2.1,.bl x.2.2]
def T9(AD:List Pg)(n:Str):List Tr:=(Ho ((AH AD n).getD [])).map λt=>(n,t,(AH AD t).isSome)
def JC(AD:List Pg):List Tr:=(He (keys AD)).flatMap (T9 AD)
def nP{x:Tr}(r:Rep H (JA x) y):∃t,y=.ref t/\H t=U (.tup [.str x.1,.str x.2.1,.bl x.2.2]):=by obtain⟨a,xs,rfl,ha,rr⟩:=Bu r;obtain⟨u,v,z,rfl,r1,r2,r3⟩:=EU rr;cases r1;cases r2;cases r3;exact⟨a,Z,ha⟩
def mK{x:Tr}{t:OK}(h:H t=U (.tup [.str x.1,.str x.2.1,.bl x.2.2])):Rep H (JA x) (.ref t):=
 Rep.MY h (Ah.snoc (Ah.snoc (Ah.snoc Ah.nil (.str _)) (.str _)) (.bl _))
def mh:A3 ["self","wanted","near"] ["self","wanted","near"] (Aq RV):=by left
def kR(F:Ak K "find_pages" "Nook.find_pages" RV f fd)(C:Fn K cN)(R:Rz P w K mg base cR "NoWords" "no words")(O:IL mg)(HT:Hv P w K mg base "pages_near" 3 ["pages","wanted","near"] Y6):
 AX P w K mg base (Cw P w) 4 f fd ["self","wanted","near"] (ZI K cN cR):=by
 refine IV F mh ?_ ?_
 .rintro _ _ _ _ ⟨_,_,_,_,_,_,_,rfl,_⟩;rfl
 .rintro _ A _ s H _ Q E hr ⟨a,d,v,ws,h3,h0,AD,rfl,g,nc,h5,rv,h2,q⟩;have h4:=CZ hr;refine⟨_,(AU (Ay (As BQ (Bh JW Z O.len DX (AE (pv 1) AJ)) Aa (Am _)) (AR (Kt (k:=0) R hr Z)) BC) (AR (An (Cj HT hr Z BF (AE (DD (pv 0) Z) (AE (pv 1) (AE (pv 2) AJ))))))),?_⟩;have h1:=rv;obtain⟨av,xs,rfl,ha,rr⟩:=Bu rv;rw[KY rr] at ha;refine⟨_,Z,av,_,Z,.inr (AS.of ha),Z,_,Z,?_⟩;by_cases e:ws=[]
  .rw[AG e] at q;subst e;exact Bj Z q
  .rw[AF e] at q;refine Bi (λz=>e ?_) ?_
   .have:=V.int.inj z;rw[AI] at this;exact Oe.mp (by lia)
   .obtain⟨dx,hi⟩:=g.ins;exact⟨_,Z,a,cN,dx,_,_,Z,hi,C.cl,C.nf,Z,_,Z,_,Z,d,.ref av,h3,h0,AD,ws,Z,g.B1,g.AD,nc.GQ,h1,h2,λH1 u s1 r=>q H1 h0 u (Ex.sub.trans s1) (g.same s1) r⟩
def WU:Sp:=λvs H Q _=>∃v xs,vs=[v]/\Rep H (.lst (xs.map Ap.dt)) v/\(∀x∈xs,x.Good)/\xs.length<=1000/\Small [] xs/\∀H' l zs,AM H H'->H' l=U (.lst zs)->zs.length=xs.length->Told [] xs H' zs->Q (.ref l) H'
def pB{o p:HO}(ha:H a=J)(hdx:H dx=J)(hd:(upd (upd H dx o) a p) d=J)(hda:d≠a)(s1:AM (Ex (upd (upd H dx o) a p) a) H1):AM H H1/\H d=J:=by
 refine⟨λb u e=>?_,?_⟩
 .refine s1 b u ?_;have n1:b≠a:=A8 e ha;have n2:b≠dx:=A8 e hdx;rw[Ex.at (by rw[AO n1,AO n2];exact e) n1]
 .rw[AO hda] at hd;by_cases n2:d=dx
  .rw[n2,AN] at hd;cases hd
  .rw[AO n2] at hd;exact hd
def fK:A3 ["deeds"] ["deeds"] (Aq SO):=by left
def dw(F:Ak K "answers" "answers" SO f fd)(M:Mk K cN fI)(GI:AX P w K mg base Ai 1 fI fdI ["self"] (YK cN))(bI:Binds K fdI ["self"] [])(mN:mg "Nook" =U (.ref cN))
 (HA:Hv P w K mg base "answer_all" 8 ["nook","deeds"] (Z6 cN)):AX P w K mg base Ai 9 f fd ["deeds"] WU:=by
 refine F.ok fK ?_ ?_
 .rintro _ _ _ _ ⟨_,_,rfl,_⟩;rfl
 .rintro _ A _ s H _ Q E hr ⟨v,xs,rfl,rv,h0,hl,GQ,q⟩;refine⟨_,(AR (An (Cj HA hr Z BF (AE (iQ M GI hr.mn Z mN bI .nil BF) (AE (pv 0) AJ))))),?_⟩;intro a dx ha h3 h6;refine⟨a,dx,Z,AN,λH1 d hd h4 s1 g=>⟨Z,?_⟩⟩;obtain⟨sH,h5⟩:=pB ha h3 hd h4 s1;exact⟨_,Z,a,d,v,xs,[],[],Z,g,rv.same sH,h0,hl,GQ,λH2 h1 l zs s2 g2 hz h2 t=>q H2 l zs (λb z e=>s2 b z (Ex.at (sH _ _ e) (A8 e h5))) hz h2 t⟩
theorem Yq:∀{l:List Pg}{i:Nat}{p q:Pg},l[i]? =U p->BO (l.set i q)+wsum p.2=BO l+wsum q.2
 |x::l,0,p,q,h=>by
  cases AZ h;delta BO;rw[List.set_cons_zero,Au,Bn,Au,Bn]
  lia
 |x::l,i+1,p,q,h=>by
  have ih:=Yq (l:=l) (i:=i) (p:=p) (q:=q) (by simpa using h);unfold BO at ih⊢;rw[Vp,Au,Bn,Au,Bn]
  lia
def YY{l:List Pg}{n:Str}{w0 ws:List PR}(nd:(l.map (·.1)).Nodup)(h:AH l n=U w0):BO (AW l n ws)+wsum w0=BO l+wsum ws:=by obtain⟨i,hi⟩:=Gi h;rw[Lm nd hi];exact Yq hi
def lG(ws:List PR)(n m:Str)(hm:m.length<=40):wsum (C4 ws n m)<=wsum ws:=by
 delta C4 wsum
 induction ws with
 |nil=>simp
 |cons p ws ih=>
  rw[Au,Au,Bn,Au,Bn];have:wt (if p=(("to" :Str),n) then(("to" :Str),m) else p)<=wt p:=by
   split
   .show max 40 m.length+3<=wt p;delta wt
    lia
   .exact Ac _
  lia
def Y9(AD:List Pg)(n m:Str)(hm:m.length<=40):BO (DT AD n m)<=BO AD:=by
 delta DT BO
 induction AD with
 |nil=>simp
 |cons p AD ih=>
  rw[Au,Au,Bn,Au,Bn];have:=lG p.2 n m hm;show wsum (C4 p.2 n m)+_<=_
  lia
def Po(AD:List Pg)(n m:Str):(DT AD n m).map (·.1)=AD.map (·.1):=by delta DT;rw[Bf];rfl
def kc(x:Str):(EG x).2.length<=x.length:=by
 delta EG;split
 .exact PF x _ _
 .exact Ac _
def eB(t:Str):wsum (FX t)<=44*(t.length+1):=by
 have h:=M9 t " " (by decide);delta FX Cb;generalize Txt.split t " " =L at h;have:∀L:List Str,wsum ((L.filter λp:Str=> !decide (p=("" :Str))).map EG)<=43*L.length+(L.map (·.length)).sum:=by
  intro L
  induction L with
  |nil=>simp[wsum]
  |cons x L ih=>
   rw[Au,Bn,Bw];by_cases e:x=("" :Str)
   .rw[FF (by simp[e])]
    lia
   .rw[Ed (by simp[e])];unfold wsum at ih⊢;rw[Au,Au,Bn];have:wt (EG x)<=43+x.length:=by
     have:=kc x;delta wt
     lia
    lia
 have h2:=this L;have h3:43*L.length<=43*(t.length+1):=RK _ (by lia)
 lia
structure Sz(k:Nat)(AD:List Pg):Prop where
 nd:(AD.map (·.1)).Nodup
 len:AD.length<=k
 BO:BO AD<=50000*k
def Sz.more(s:Sz k AD):Sz (k+1) AD:=⟨s.nd,Nat.le_succ_of_le s.len,by have:=s.BO;lia⟩
def TU(AD:List Pg)(n:Str):(AQ AD n).length<=AD.length:=Ee _ _
def gQ(AD:List Pg)(n:Str):L2.BO (AQ AD n)<=L2.BO AD:=by
 delta AQ L2.BO
 induction AD with
 |nil=>simp
 |cons p AD ih=>
  rw[Au,Bn];by_cases e:p.1=n
  .rw[FF (by simp[e])];lia
  .rw[Ed (by simp[e]),Au,Bn];lia
theorem Sz.next{k:Nat}{AD:List Pg}(s:Sz k AD){x:Ap}(g:x.Good):Sz (k+1) ((Ct AD x).next AD):=by
 have s':=s.more;have st:=s.BO;have sl:=s.len
 cases x with
 |write n t=>
  show Sz (k+1) ((FT AD n t).next AD);delta FT;split
  .refine⟨ER s.nd,BI (HW _ _ _) (by lia),?_⟩;have h1:=Pw AD n (FX t) s.nd;have h2:=eB t;have h3:t.length<=1000:=g.2;show L2.BO (AW AD n (FX t))<=_
   lia
  .exact s'
 |rename n m=>
  show Sz (k+1) ((FR AD n m).next AD);delta FR
  cases e:AH AD n with
  |none=>exact s'
  |some ws=>
   dsimp only;split
   .cases e2:AH AD m with
    |some _=>exact s'
    |none=>
     show Sz (k+1) (renamed AD n m ws);delta renamed;refine⟨by rw[Po];exact ER (DQ s.nd),?_,?_⟩
     .have h1:=HW (AQ AD n) m ws;have h2:=TU AD n;show(List.map _ _).length<=_;rw[AI]
      lia
     .have h1:=Y9 (AW (AQ AD n) m ws) n m g.2;have h2:=Pw (AQ AD n) m ws (DQ s.nd);have h3:=NW e
      lia
   .exact s'
 |join n o=>
  show Sz (k+1) ((ET AD n o).next AD);delta ET
  cases e:AH AD n with
  |none=>exact s'
  |some w1=>
   dsimp only
   cases e2:AH AD o with
   |none=>exact s'
   |some w2=>
    dsimp only;split
    .exact s'
    .rename_i hne;show Sz (k+1) (joined AD n o w1 w2);delta joined;refine⟨by rw[Po];exact ER (DQ s.nd),?_,?_⟩
     .have h1:=HW (AQ AD o) n (w1++w2);have h2:=TU AD o;show(List.map _ _).length<=_;rw[AI]
      lia
     .have h1:=Y9 (AW (AQ AD o) n (w1++w2)) o n g.1;have h2:=YY (ws:=w1++w2) (DQ (k:=o) s.nd) (show AH (AQ AD o) n=U w1 by rw[EL hne];exact e);have h3:=NW e2;rw[Pe] at h2
      lia
 |cut n pl m=>
  show Sz (k+1) ((Fc AD n pl m).next AD);delta Fc
  cases e:AH AD n with
  |none=>exact s'
  |some ws=>
   dsimp only;split
   .cases e2:AH AD m with
    |some _=>exact s'
    |none=>
     dsimp only;split
     .exact s'
     .show Sz (k+1) (cutAt AD n m ws pl.toNat);delta cutAt;have e3:AH (AW AD m (ws.drop pl.toNat)) n=U ws:=by rw[Cz];rw[AF (λz=>by rw[z,e2] at e;cases e)];exact e
      have IS:((AW AD m (ws.drop pl.toNat)).map (·.1)).Nodup:=ER s.nd;refine⟨ER IS,?_,?_⟩
      .obtain⟨i,hi⟩:=Gi e3;rw[Lm IS hi,List.length_set];have:=HW AD m (ws.drop pl.toNat)
       lia
      .have h1:=YY (ws:=ws.take pl.toNat++[(("to" :Str),m)]) IS e3;have h2:=Pw AD m (ws.drop pl.toNat) s.nd;have h3:wsum (ws.take pl.toNat)+wsum (ws.drop pl.toNat)=wsum ws:=by rw[<-Pe,D5]
       rw[Pe] at h1;have h4:wsum [(("to" :Str),m)]=43:=by
        have:m.length<=40:=g.2;show(max 40 m.length+3)+0=43
        lia
       lia
   .exact s'
 |drop n=>
  show Sz (k+1) ((FV AD n).next AD);delta FV
  cases e:AH AD n with
  |none=>exact s'
  |some ws=>
   refine⟨DQ s.nd,BI (TU _ _) (by lia),?_⟩;have:=gQ AD n;show L2.BO (AQ AD n)<=_
   lia
 |text n=>
  show Sz (k+1) ((E7 AD n).next AD);delta E7
  cases e:AH AD n with
  |none=>exact s'
  |some ws=>exact s'
 |back n=>exact s'
 |find ws h0=>
  show Sz (k+1) (Rs.next AD (if ws=[] then .no "no words" else .ok (GV AD ws h0) AD));split
  .exact s'
  .exact s'
theorem P9:∀(xs:List Ap)(k:Nat)(AD:List Pg),Sz k AD->(∀x∈xs,x.Good)->Sz (k+xs.length) (D9 AD xs)
 |[],k,AD,s,_=>s
 |x::xs,k,AD,s,g=>by have:=P9 xs (k+1) _ (s.next (g x CV)) λy hy=>g y (Ce _ hy);rw[Bw,show k+(xs.length+1)=k+1+xs.length by lia];exact this
def T7:Sz 0 []:=⟨JS,Ac _,Ac _⟩
def jF{xs:List Ap}(g:∀x∈xs,x.Good)(hl:xs.length<=63):Small [] xs:=λk hk=>by
 have s:=P9 (xs.take k) 0 [] T7 λx hx=>g x (GX hx);have h0:(xs.take k).length<=63:=by rw[Bk];lia
 have h1:=s.len;have h2:=s.BO;refine⟨⟨s.nd,by lia,?_⟩,by lia⟩;have:50000*(0+(xs.take k).length)<=50000*63:=RK _ (by lia)
 lia
section
variable[DecidableEq α]
def BJ{l:List (α×β)}{k:α}{v:β}(h:AH l k=U v):(k,v)∈l:=by obtain⟨i,hi⟩:=Gi h;exact Bv hi
def Fy{l:List (α×β)}{k:α}{v:β}(nd:(l.map (·.1)).Nodup)(h:(k,v)∈l):AH l k=U v:=by obtain⟨i,hi⟩:=Om h;exact Il nd hi
def NT{l:List (α×β)}{k:α}(h:k∈l.map (·.1)):∃v,AH l k=U v:=by
 cases e:AH l k with
 |some v=>exact⟨v,Z⟩
 |none=>exact absurd h (NV e)
def TL{l:List (α×β)}{k:α}{v:β}(h:AH l k=U v):k∈l.map (·.1):=Aw.mpr ⟨_,BJ h,Z⟩
def NF{l m:List (α×β)}(hk:l.map (·.1)=m.map (·.1))(nd:(l.map (·.1)).Nodup)(h:∀k,k∈l.map (·.1)->AH l k=AH m k):l=m:=by
 have h0:l.length=m.length:=by have:=A2 List.length hk;simpa using this
 refine LN λi=>?_;by_cases hi:i<l.length
 .have hj:i<m.length:=by lia
  have e1:l[i]? =U l[i]:=Ar hi;have e2:m[i]? =U m[i]:=Ar hj;have ek:l[i].1=m[i].1:=by have:=A2 (λx=>x[i]?) hk;rw[A1,A1,e1,e2] at this;exact AZ this
  have g1:=Il nd e1;have g2:=Il (hk▸nd) e2;have:=h l[i].1 (Aw.mpr ⟨_,Ez hi,Z⟩);rw[g1,ek,g2] at this;rw[e1,e2];exact A2 U (Prod.ext ek (AZ this))
 .rw[HD (by lia),HD (by lia)]
def Ig(l:List (α×β))(k:α)(v:β):(AW l k v).map (·.1)=if k∈l.map (·.1) then l.map (·.1) else l.map (·.1)++[k]:=by
 by_cases h:k∈l.map (·.1)
 .obtain⟨w,hw⟩:=NT h;rw[AG h];have hm:=BJ hw;delta AW;rw[AG (HH.mpr ⟨_,hm,by simp⟩),Bf];refine EI λp _=>?_;show(if p.1=k then(p.1,v) else p).1=p.1;split<;>rfl
 .rw[AF h];have hn:AH l k=J:=by
   cases e:AH l k with
   |none=>rfl
   |some w=>exact absurd (TL e) h
  rw[Hz hn,BL];rfl
def KW(l:List (α×β))(k:α):(AQ l k).map (·.1)=(l.map (·.1)).filter λx=>decide (x≠k):=by delta AQ;rw[List.filter_map];rfl
def JR(l:List (α×β))(k:α):AH (AQ l k) k=J:=by
 cases e:AH (AQ l k) k with
 |none=>rfl
 |some v=>have:=BJ e;unfold AQ at this;have:=(Eg.mp this).2;simp at this
def Je{l:List (α×β)}{k:α}{v:β}{p:α×β}(h:p∈AW l k v):p∈l\/p=(k,v):=by
 delta AW at h;split at h
 .obtain⟨q,hq,e⟩:=Aw.mp h;split at e
  .rename_i e1;rw[<-e,e1];exact .inr Z
  .rw[<-e];exact .inl hq
 .rcases Be.mp h with z|z
  .exact .inl z
  .exact .inr (BW.mp z)
def Gg{l:List (α×β)}{k:α}{p:α×β}(h:p∈AQ l k):p∈l/\p.1≠k:=by delta AQ at h;have:=Eg.mp h;exact⟨this.1,by simpa using this.2⟩
def IA{l:List (α×β)}{k:α}{p:α×β}(h:p∈l)(hk:p.1≠k):p∈AQ l k:=Eg.mpr ⟨h,by simpa using hk⟩
end
def sh(names:List (Str×Int))(w:Wd):PR:=if w.to=Y then(("to" :Str),if w.no= -1 then w.nm else nameOf names w.no) else(("word" :Str),w.nm)
def Af(n:Nk)(no:Int):List PR:=((AH n.texts no).getD []).map (sh n.names)
def vw(n:Nk):List Pg:=n.names.map λp=>(p.1,Af n p.2)
def Ec(names:List (Str×Int))(w:Wd):Prop:=w.to=Y->(w.no= -1/\AH names w.nm=J)\/∃nm,(nm,w.no)∈names
structure Bo(n:Nk):Prop where
 CO:(n.names.map (·.1)).Nodup
 inj:(n.names.map (·.2)).Nodup
 CF:(n.texts.map (·.1)).Nodup
 tx:∀p∈n.names,∃ws,AH n.texts p.2=U ws
 own:∀p∈n.texts,∃nm,(nm,p.1)∈n.names
 lt:∀p∈n.texts,0<=p.1/\p.1<n.made
 wd:∀p∈n.texts,∀w∈p.2,Ec n.names w
variable{l:List (Str×Int)}
def Jh(inj:(l.map (·.2)).Nodup){a b:Str}(ha:(a,no)∈l)(hb:(b,no)∈l):a=b:=by
 induction l with
 |nil=>cases ha
 |cons p l ih=>
  rw[Au,E1] at inj;rcases BM.mp ha with e1|e1
  .rcases BM.mp hb with e2|e2
   .rw[<-e1] at e2;exact(JX e2).1.symm
   .exact absurd (Aw.mpr ⟨_,e2,by rw[<-e1]⟩) inj.1
  .rcases BM.mp hb with e2|e2
   .exact absurd (Aw.mpr ⟨_,e1,by rw[<-e2]⟩) inj.1
   .exact ih inj.2 e1 e2
def SX(inj:(l.map (·.2)).Nodup){a:Str}(h:(a,no)∈l):nameOf l no=a:=by
 delta nameOf
 cases e:l.find? λp=>decide (p.2=no) with
 |none=>have:=Vq.mp e _ h;simp at this
 |some p=>
  have h1:=RC e;have h2:p.2=no:=by simpa using List.find?_some e
  show p.1=a;exact Jh inj (show(p.1,no)∈l by rw[<-h2];exact h1) h
variable{nm:Str}
def Bo.EE{n:Nk}(b:Bo n)(h:(nm,no)∈n.names):0<=no/\no<n.made:=by obtain⟨ws,hw⟩:=b.tx _ h;exact b.lt _ (BJ hw)
def Dm(n:Nk):(vw n).map (·.1)=n.names.map (·.1):=by delta vw;rw[Bf];rfl
def Dq(n:Nk)(k:Str):AH (vw n) k=(AH n.names k).map (Af n):=by
 delta vw AH;generalize n.names=l
 induction l with
 |nil=>rfl
 |cons p l ih=>
  rw[Au];by_cases e:p.1=k
  .rw[Mm (by simpa using e),Mm (by simpa using e)];rfl
  .rw[Mn (by simpa using e),Mn (by simpa using e)];exact ih
def Tp(l:List Pg)(a b k:Str):AH (DT l a b) k=(AH l k).map λws=>C4 ws a b:=by
 delta DT AH
 induction l with
 |nil=>rfl
 |cons p l ih=>
  rw[Au];by_cases e:p.1=k
  .rw[Mm (by simpa using e),Mm (by simpa using e)];rfl
  .rw[Mn (by simpa using e),Mn (by simpa using e)];exact ih
def Nb(n:Nk)(g:Wd->Wd)(no:Int):AH (n.I9 g).texts no=(AH n.texts no).map (List.map g):=by
 show AH (n.texts.map λp=>(p.1,p.2.map g)) no=_;delta AH;generalize n.texts=l
 induction l with
 |nil=>rfl
 |cons p l ih=>
  rw[Au];by_cases e:p.1=no
  .rw[Mm (by simpa using e),Mm (by simpa using e)];rfl
  .rw[Mn (by simpa using e),Mn (by simpa using e)];exact ih
def Bo.same{n:Nk}(b:Bo n){a k:Str}{no':Int}(ha:AH n.names a=U no)(hk:AH n.names k=U no'):no'=no↔k=a:=by
 constructor
 .intro e;rw[e] at hk;exact Jh b.inj (BJ hk) (BJ ha)
 .intro e;rw[e,ha] at hk;exact(AZ hk).symm
def Bo.text{n:Nk}(b:Bo n){a:Str}(ha:AH n.names a=U no):∃ws,AH n.texts no=U ws/\∀w∈ws,Ec n.names w:=by obtain⟨ws,hw⟩:=b.tx _ (BJ ha);exact⟨ws,hw,b.wd _ (BJ hw)⟩
noncomputable def KA(a b:Str)(p:PR):PR:=if p=(("to" :Str),a) then(("to" :Str),b) else p
def TF(ws:List PR)(a b:Str):C4 ws a b=ws.map (KA a b):=rfl
def oN{a:Str}:((("word" :Str),x):PR)≠(("to" :Str),a):=by intro z;have:("word" :Str)="to" :=(JX z).1;exact absurd this (by left)
def YO(a b x:Str):KA a b (("word" :Str),x)=(("word" :Str),x):=AF oN
def Zx(a b:Str):KA a b (("to" :Str),a)=(("to" :Str),b):=AG Z
def Pd{a b:Str}(h:x≠a):KA a b (("to" :Str),x)=(("to" :Str),x):=AF λz=>h (JX z).2
def E5{w:Wd}(h:w.to=vc):sh names w=(("word" :Str),w.nm):=by delta sh;rw[h];rfl
def E4{w:Wd}(h:w.to=Y)(hn:w.no= -1):sh names w=(("to" :Str),w.nm):=by delta sh;rw[AG h,AG hn]
def iq{w:Wd}(h:w.to=Y)(hn:w.no≠-1):sh names w=(("to" :Str),nameOf names w.no):=by delta sh;rw[AG h,AF hn]
def EV(inj:(names.map (·.2)).Nodup){w:Wd}(h:w.to=Y)(hn:w.no≠-1)(hx:(x,w.no)∈names):sh names w=(("to" :Str),x):=by rw[iq h hn,SX inj hx]
variable{ws:List Wd}
def UG{n n':Nk}{g:Wd->Wd}{h:PR->PR}(e1:AH n.texts no=U ws)(e2:AH n'.texts no=U (ws.map g))(hw:∀w∈ws,sh n'.names (g w)=h (sh n.names w)):Af n' no=(Af n no).map h:=by delta Af;rw[e1,e2];show(ws.map g).map _=(ws.map _).map h;rw[Bf,Bf];exact EI λw h0=>hw w h0
def TJ{k:Str}{v:Int}(inj:(l.map (·.2)).Nodup)(hk:AH l k=J)(hv:v∉l.map (·.2)):((AW l k v).map (·.2)).Nodup:=by
 rw[Hz hk,BL];refine Oy.mpr ⟨inj,by simp,λa ha b hb e=>?_⟩;have:b=v:=by simpa using hb
 rw[<-e] at this;exact hv (this▸ha)
def NQ{k:Str}(inj:(l.map (·.2)).Nodup):((AQ l k).map (·.2)).Nodup:=by delta AQ;exact List.Nodup.sublist ((RL).map _) inj
section
variable{n:Nk}{o:Str}
def PK(ho:AH n.names o=J):(n.added o).names=n.names++[(o,n.made)]:=Hz ho
def NL(no:Int):AH (n.added o).texts no=((if no=n.made then U [] else AH n.texts no):Option (List Wd)).map (List.map (CQ o n.made)):=by show AH (Nk.I9 _ (CQ o n.made)).texts no=_;rw[Nb];show(AH (AW n.texts n.made []) no).map _=_;rw[Cz]
def Bo.fresh(b:Bo n):n.made∉n.names.map (·.2):=λh=>by
 obtain⟨p,hp,e⟩:=Aw.mp h;have:=(b.EE (nm:=p.1) (no:=p.2) hp).2
 lia
def WM(b:Bo n)(h0:0<=n.made)(ho:AH n.names o=J){w:Wd}(ok:Ec n.names w):sh (n.added o).names (CQ o n.made w)=sh n.names w/\Ec (n.added o).names (CQ o n.made w):=by
 have h1:((n.added o).names.map (·.2)).Nodup:=TJ b.inj ho b.fresh;rw[PK ho] at h1⊢;delta CQ
 cases ht:w.to with
 |false=>rw[AF (λz=>by cases z.1)];exact⟨by rw[E5 ht,E5 ht],λz=>by rw[ht] at z;cases z⟩
 |true=>
  rcases ok ht with⟨hl,h4⟩|⟨x,hx⟩
  .by_cases e:w.nm=o
   .rw[AG ⟨Z,hl,e⟩];have h3:(o,n.made)∈n.names++[(o,n.made)]:=Dk _ (BW.mpr Z);refine⟨?_,λ_=>.inr ⟨o,h3⟩⟩;rw[E4 ht hl,e];exact EV h1 (w:=⟨Y,o,n.made⟩) Z (by show n.made≠-1;lia) h3
   .rw[AF (λz=>e z.2.2)];refine⟨by rw[E4 ht hl,E4 ht hl],λ_=>.inl ⟨hl,?_⟩⟩;rw[<-Hz ho,Cz,AF e];exact h4
  .have hp:=b.EE hx;have hn:w.no≠-1:=by lia
   rw[AF (λz=>hn z.2.1)];have h2:(x,w.no)∈n.names++[(o,n.made)]:=GZ _ hx;exact⟨by rw[EV h1 ht hn h2,EV b.inj ht hn hx],λ_=>.inr ⟨x,h2⟩⟩
theorem Bo.added(b:Bo n)(h0:0<=n.made)(ho:AH n.names o=J):Bo (n.added o):=by
 have h5:=PK ho;have tn:AH n.texts n.made=J:=by
  cases e:AH n.texts n.made with
  |none=>rfl
  |some ws=>have:=(b.lt _ (BJ e)).2;dsimp only at this;lia
 have h4:(n.added o).texts=(AW n.texts n.made []).map λp=>(p.1,p.2.map (CQ o n.made)):=Z;have kt:(n.added o).texts.map (·.1)=n.texts.map (·.1)++[n.made]:=by rw[h4,Bf];show(AW n.texts n.made []).map (·.1)=_;rw[Hz tn,BL];rfl
 have h2:((n.added o).texts.map (·.1)).Nodup:=by rw[h4,Bf];exact ER b.CF
 have h1:∀p∈(n.added o).texts,∃q∈AW n.texts n.made [],p=(q.1,q.2.map (CQ o n.made)):=λp hp=>by rw[h4] at hp;obtain⟨q,hq,e⟩:=Aw.mp hp;exact⟨q,hq,e.symm⟩
 refine⟨ER b.CO,TJ b.inj ho b.fresh,h2,λp hp=>?_,λp hp=>?_,λp hp=>?_,λp hp w hw=>?_⟩
 .rw[NL];rw[h5] at hp;rcases Be.mp hp with e|e
  .obtain⟨ws,hw⟩:=b.tx p e;by_cases z:p.2=n.made
   .rw[AG z];exact⟨_,Z⟩
   .rw[AF z,hw];exact⟨_,Z⟩
  .rw[BW.mp e,AG Z];exact⟨_,Z⟩
 .obtain⟨q,hq,rfl⟩:=h1 p hp;rw[h5];rcases Je hq with e|e
  .obtain⟨nm,h⟩:=b.own q e;exact⟨nm,GZ _ h⟩
  .rw[e];exact⟨o,Dk _ (BW.mpr Z)⟩
 .obtain⟨q,hq,rfl⟩:=h1 p hp;show 0<=q.1/\q.1<n.made+1;rcases Je hq with e|e
  .have:=b.lt q e
   lia
  .rw[e];show 0<=n.made/\n.made<n.made+1
   lia
 .obtain⟨q,hq,rfl⟩:=h1 p hp;obtain⟨w0,h3,rfl⟩:=Aw.mp hw;rcases Je hq with e|e
  .exact(WM b h0 ho (b.wd q e w0 h3)).2
  .rw[e] at h3;cases h3
def XI(b:Bo n)(h0:0<=n.made)(ho:AH n.names o=J)(hw:AH n.texts no=U ws):Af (n.added o) no=Af n no:=by
 have h2:no≠n.made:=by have:=(b.lt _ (BJ hw)).2;dsimp only at this;lia
 have e2:AH (n.added o).texts no=U (ws.map (CQ o n.made)):=by rw[NL,AF h2,hw];rfl
 have:=UG (h:=id) hw e2 λw h1=>(WM b h0 ho (b.wd _ (BJ hw) w h1)).1;rw[this,NB]
def XD(b:Bo n)(h0:0<=n.made)(ho:AH n.names o=J):vw (n.added o)=AW (vw n) o []:=by
 have hv:AH (vw n) o=J:=by rw[Dq,ho];rfl
 rw[Hz hv];delta vw;rw[PK ho,BL];congr 1
 .refine EI λp hp=>?_;obtain⟨ws,hw⟩:=b.tx p hp;show(p.1,Af (n.added o) p.2)=_;rw[XI b h0 ho hw]
 .show[(o,Af (n.added o) n.made)]=_;delta Af;rw[NL,AG Z];rfl
end
section
variable{n:Nk}{a:Str}
def Nk.Cp(n:Nk)(no:Int)(ws:List Wd):Nk:={n with texts:=AW n.texts no ws}
theorem Bo.Cp(b:Bo n)(ha:AH n.names a=U no)(ok:∀w∈ws,Ec n.names w):Bo (n.Cp no ws):=by
 refine⟨b.CO,b.inj,ER b.CF,λp hp=>?_,λp hp=>?_,λp hp=>?_,λp hp w hw=>?_⟩
 .show∃x,AH (AW n.texts no ws) p.2=U x;rw[Cz];by_cases z:p.2=no
  .rw[AG z];exact⟨_,Z⟩
  .rw[AF z];exact b.tx p hp
 .rcases Je hp with e|e
  .exact b.own p e
  .rw[e];exact⟨a,BJ ha⟩
 .rcases Je hp with e|e
  .exact b.lt p e
  .rw[e];exact b.EE (BJ ha)
 .rcases Je hp with e|e
  .exact b.wd p e w hw
  .rw[e] at hw;exact ok w hw
def Px(b:Bo n)(ha:AH n.names a=U no):vw (n.Cp no ws)=AW (vw n) a (ws.map (sh n.names)):=by
 have h3:a∈(vw n).map (·.1):=by rw[Dm];exact TL ha
 refine NF ?_ (by rw[Dm];exact b.CO) λk hk=>?_
 .rw[Ig,AG h3,Dm,Dm];rfl
 .rw[Dq,Cz,Dq];rw[Dm] at hk;obtain⟨h0,h2⟩:=NT hk;have h1:AH n.names k=U h0:=h2;show(AH n.names k).map (Af (n.Cp no ws))=_;rw[h1];show U (Af (n.Cp no ws) h0)=_;have e:Af (n.Cp no ws) h0=((AH (AW n.texts no ws) h0).getD []).map (sh n.names):=Z;rw[e,Cz];by_cases z:k=a
  .rw[AG z,AG ((b.same ha h1).mpr z)];rfl
  .rw[AF z,AF (λy=>z ((b.same ha h1).mp y))];rfl
end
def YM{l:List Pg}{k:Str}{x y:List PR}(nd:(l.map (·.1)).Nodup):AW (AW l k x) k y=AW l k y:=by
 refine NF ?_ (ER (ER nd)) λj hj=>?_
 .rw[Ig,Ig,Ig];by_cases h:k∈l.map (·.1)
  .rw[AG h,AG h]
  .rw[AF h,AG (by simp)]
 .rw[Cz,Cz,Cz];split<;>rfl
section
variable{n:Nk}{a o:Str}
def Nk.renamed(n:Nk)(a o:Str)(no:Int):Nk:=({n with names:=AQ n.names a}:Nk).named o no
def NM{a o:Str}(h:AH l o=J):AH (AQ l a) o=J:=by
 by_cases z:o=a
 .rw[z];exact JR ..
 .rw[EL z];exact h
def Lg(ho:AH n.names o=J):(n.renamed a o no).names=AQ n.names a++[(o,no)]:=Hz (NM ho)
def YB(b:Bo n)(ha:AH n.names a=U no)(ho:AH n.names o=J):((n.renamed a o no).names.map (·.2)).Nodup:=by refine TJ (NQ b.inj) (NM ho) λh=>?_;obtain⟨p,hp,e⟩:=Aw.mp h;obtain⟨h1,h2⟩:=Gg hp;exact h2 (Jh b.inj (show(p.1,no)∈n.names by rw[<-e];exact h1) (BJ ha))
def XH(b:Bo n)(ha:AH n.names a=U no)(ho:AH n.names o=J){w:Wd}(ok:Ec n.names w):sh (n.renamed a o no).names (CQ o no w)=KA a o (sh n.names w)/\Ec (n.renamed a o no).names (CQ o no w):=by
 have h0:=YB b ha ho;have e1:o≠a:=λz=>by rw[z,ha] at ho;cases ho
 have h8:=b.EE (BJ ha);have h6:(o,no)∈(n.renamed a o no).names:=by rw[Lg ho];exact Dk _ (BW.mpr Z)
 have gn:∀k,k≠o->AH n.names k=J->AH (n.renamed a o no).names k=J:=λk h1 h2=>by show AH (AW (AQ n.names a) o no) k=J;rw[Cz,AF h1];exact NM h2
 have mn:∀x m,(x,m)∈n.names->x≠a->(x,m)∈(n.renamed a o no).names:=λx m h1 h2=>by rw[Lg ho];exact GZ _ (IA h1 h2)
 obtain⟨t,nm,m⟩:=w;delta CQ
 cases t with
 |false=>rw[AF (λz=>by cases z.1)];exact⟨by rw[E5 Z,E5 Z,YO],λz=>by cases z⟩
 |true=>
  rcases ok Z with⟨hl,h9⟩|⟨x,hx⟩
  .have e0:m= -1:=hl;have h3:AH n.names nm=J:=h9;have h7:nm≠a:=λz=>by rw[z,ha] at h3;cases h3
   rw[E4 (names:=n.names) Z hl,Pd h7];by_cases e:nm=o
   .rw[AG ⟨Z,e0,e⟩];refine⟨?_,λ_=>.inr ⟨o,h6⟩⟩;show _=(("to" :Str),nm);rw[e];exact EV h0 (w:=⟨Y,_,no⟩) Z (by show no≠-1;lia) h6
   .rw[AF (λz=>e z.2.2)];exact⟨E4 Z hl,λ_=>.inl ⟨hl,gn _ e h3⟩⟩
  .have h4:(x,m)∈n.names:=hx;have hp:=b.EE h4;have hn:m≠-1:=by lia
   rw[AF (λz=>hn z.2.1),EV b.inj (w:=⟨Y,nm,m⟩) Z hn h4];by_cases e:x=a
   .have em:m=no:=by have h1:=Fy b.CO h4;rw[e,ha] at h1;exact(AZ h1).symm
    rw[e,Zx];have h5:(o,m)∈(n.renamed a o no).names:=by rw[em];exact h6
    exact⟨EV h0 (w:=⟨Y,nm,m⟩) Z hn h5,λ_=>.inr ⟨o,h5⟩⟩
   .rw[Pd e];exact⟨EV h0 (w:=⟨Y,nm,m⟩) Z hn (mn _ _ h4 e),λ_=>.inr ⟨x,mn _ _ h4 e⟩⟩
def YU(m:Int):AH (n.renamed a o no).texts m=(AH n.texts m).map (List.map (CQ o no)):=Nb _ _ _
theorem Bo.renamed(b:Bo n)(ha:AH n.names a=U no)(ho:AH n.names o=J):Bo (n.renamed a o no):=by
 have h2:(n.renamed a o no).texts=n.texts.map λp=>(p.1,p.2.map (CQ o no)):=Z;have h0:∀p∈(n.renamed a o no).texts,∃q∈n.texts,p=(q.1,q.2.map (CQ o no)):=λp hp=>by rw[h2] at hp;obtain⟨q,hq,e⟩:=Aw.mp hp;exact⟨q,hq,e.symm⟩
 refine⟨ER (DQ b.CO),YB b ha ho,by rw[h2,Bf];exact b.CF,λp hp=>?_,λp hp=>?_,λp hp=>?_,λp hp w hw=>?_⟩
 .rw[YU];rw[Lg ho] at hp;have:∃ws,AH n.texts p.2=U ws:=by
   rcases Be.mp hp with e|e
   .exact b.tx p (Gg e).1
   .rw[BW.mp e];exact b.tx (a,no) (BJ ha)
  obtain⟨ws,hw⟩:=this;rw[hw];exact⟨_,Z⟩
 .obtain⟨q,hq,rfl⟩:=h0 p hp;obtain⟨nm,h⟩:=b.own q hq;rw[Lg ho];by_cases z:nm=a
  .have:q.1=no:=by have h1:=Fy b.CO h;rw[z,ha] at h1;exact(AZ h1).symm
   exact⟨o,Dk _ (by show(o,q.1)∈_;rw[this];exact BW.mpr Z)⟩
  .exact⟨nm,GZ _ (IA h z)⟩
 .obtain⟨q,hq,rfl⟩:=h0 p hp;exact b.lt q hq
 .obtain⟨q,hq,rfl⟩:=h0 p hp;obtain⟨w0,h3,rfl⟩:=Aw.mp hw;exact(XH b ha ho (b.wd q hq w0 h3)).2
def Y5(b:Bo n)(ha:AH n.names a=U no)(ho:AH n.names o=J):vw (n.renamed a o no)=DT (AW (AQ (vw n) a) o (Af n no)) a o:=by
 have h3:(vw n).map (·.1)=n.names.map (·.1):=Dm n;refine NF ?_ (by rw[Dm];exact ER (DQ b.CO)) λk hk=>?_
 .rw[Dm,Po,Ig,KW,h3];show(AW (AQ n.names a) o no).map (·.1)=_;rw[Ig,KW]
 .rw[Dq,Tp,Cz];show(AH (AW (AQ n.names a) o no) k).map _=_;rw[Cz];have h0:∀m x,AH n.names x=U m->Af (n.renamed a o no) m=C4 (Af n m) a o:=λm x hx=>by obtain⟨ws,h1,h2⟩:=b.text hx;rw[TF];exact UG (h:=KA a o) h1 (by rw[YU,h1];rfl) λw hw=>(XH b ha ho (h2 w hw)).1
  by_cases z:k=o
  .rw[AG z,AG z];exact A2 U (h0 no a ha)
  .rw[AF z,AF z];by_cases z2:k=a
   .rw[z2,JR,JR];rfl
   .rw[EL z2,EL z2,Dq]
    cases e:AH n.names k with
    |none=>rfl
    |some m=>exact A2 U (h0 m k e)
end
section
variable{n:Nk}{a o:Str}{no2:Int}
def Nk.dropped(n:Nk)(a:Str)(no:Int):Nk:=({n with names:=AQ n.names a,texts:=AQ n.texts no}:Nk).turned no a (-1)
def WO(b:Bo n)(ha:AH n.names a=U no){w:Wd}(ok:Ec n.names w):sh (AQ n.names a) (CS no a (-1) w)=sh n.names w/\Ec (AQ n.names a) (CS no a (-1) w):=by
 have h3:=NQ (k:=a) b.inj;obtain⟨t,nm,m⟩:=w;delta CS
 cases t with
 |false=>rw[AF (λz=>by cases z.1)];exact⟨by rw[E5 Z,E5 Z],λz=>by cases z⟩
 |true=>
  have h4:=b.EE (BJ ha);rcases ok Z with⟨hl,h5⟩|⟨x,hx⟩
  .have h6:m= -1:=hl;rw[AF (λz=>by have h2:m=no:=z.2;lia)];exact⟨by rw[E4 Z hl,E4 Z hl],λ_=>.inl ⟨hl,NM h5⟩⟩
  .have h0:(x,m)∈n.names:=hx;have hn:m≠-1:=by have:=b.EE h0;lia
   rw[EV b.inj (w:=⟨Y,nm,m⟩) Z hn h0];by_cases e:m=no
   .rw[AG ⟨Z,e⟩];have ex:x=a:=Jh b.inj (by rw[<-e];exact h0) (BJ ha);rw[ex];exact⟨E4 (w:=⟨Y,a,-1⟩) Z Z,λ_=>.inl ⟨Z,JR ..⟩⟩
   .rw[AF (λz=>e z.2)];have ex:x≠a:=λz=>by have h1:=Fy b.CO h0;rw[z,ha] at h1;exact e (AZ h1).symm
    exact⟨EV h3 (w:=⟨Y,nm,m⟩) Z hn (IA h0 ex),λ_=>.inr ⟨x,IA h0 ex⟩⟩
theorem Bo.dropped(b:Bo n)(ha:AH n.names a=U no):Bo (n.dropped a no):=by
 have h4:(n.dropped a no).texts=(AQ n.texts no).map λp=>(p.1,p.2.map (CS no a (-1))):=Z;have h0:∀p∈(n.dropped a no).texts,∃q∈n.texts,q.1≠no/\p=(q.1,q.2.map (CS no a (-1))):=λp hp=>by rw[h4] at hp;obtain⟨q,hq,e⟩:=Aw.mp hp;exact⟨q,(Gg hq).1,(Gg hq).2,e.symm⟩
 refine⟨DQ b.CO,NQ b.inj,by rw[h4,Bf];exact DQ b.CF,λp hp=>?_,λp hp=>?_,λp hp=>?_,λp hp w hw=>?_⟩
 .obtain⟨h1,h2⟩:=Gg hp;obtain⟨ws,hw⟩:=b.tx p h1;have h3:p.2≠no:=λz=>h2 (Jh b.inj (show(p.1,no)∈n.names by rw[<-z];exact h1) (BJ ha));have:AH (n.dropped a no).texts p.2=(AH (AQ n.texts no) p.2).map (List.map (CS no a (-1))):=Nb _ _ _;rw[this,EL h3,hw];exact⟨_,Z⟩
 .obtain⟨q,hq,h3,rfl⟩:=h0 p hp;obtain⟨nm,h⟩:=b.own q hq;refine⟨nm,IA h λz=>h3 ?_⟩;have h1:=Fy b.CO h;have z':nm=a:=z;rw[z',ha] at h1;exact(AZ h1).symm
 .obtain⟨q,hq,_,rfl⟩:=h0 p hp;exact b.lt q hq
 .obtain⟨q,hq,_,rfl⟩:=h0 p hp;obtain⟨w0,h5,rfl⟩:=Aw.mp hw;exact(WO b ha (b.wd q hq w0 h5)).2
def lJ(b:Bo n)(ha:AH n.names a=U no):vw (n.dropped a no)=AQ (vw n) a:=by
 refine NF ?_ (by rw[Dm];exact DQ b.CO) λk hk=>?_
 .rw[Dm,KW,Dm];exact KW ..
 .rw[Dq];show(AH (AQ n.names a) k).map _=_;by_cases z:k=a
  .rw[z,JR,JR];rfl
  .rw[EL z,EL z,Dq]
   cases e:AH n.names k with
   |none=>rfl
   |some m=>
    obtain⟨ws,h1,h2⟩:=b.text e;have h0:m≠no:=λy=>z ((b.same ha e).mp y);have e2:AH (n.dropped a no).texts m=U (ws.map (CS no a (-1))):=by have:AH (n.dropped a no).texts m=(AH (AQ n.texts no) m).map (List.map (CS no a (-1))):=Nb _ _ _;rw[this,EL h0,h1];rfl
    have:=UG (n':=n.dropped a no) (h:=id) h1 e2 λw hw=>(WO b ha (h2 w hw)).1;show U (Af (n.dropped a no) m)=U (Af n m);rw[this,NB]
end
section
variable{n:Nk}{a o:Str}{no2:Int}{w1 w2:List Wd}
def WQ(b:Bo n)(ha:AH n.names a=U no)(ho:AH n.names o=U no2)(hne:a≠o){w:Wd}(ok:Ec n.names w):sh (AQ n.names o) (CS no2 "" no w)=KA o a (sh n.names w)/\Ec (AQ n.names o) (CS no2 "" no w):=by
 have h3:=NQ (k:=o) b.inj;have h7:(a,no)∈AQ n.names o:=IA (BJ ha) hne;have h9:=b.EE (BJ ha);have h5:=b.EE (BJ ho);obtain⟨t,nm,m⟩:=w;delta CS
 cases t with
 |false=>rw[AF (λz=>by cases z.1)];exact⟨by rw[E5 Z,E5 Z,YO],λz=>by cases z⟩
 |true=>
  rcases ok Z with⟨hl,h6⟩|⟨x,hx⟩
  .have e0:m= -1:=hl;have h4:AH n.names nm=J:=h6;have h8:nm≠o:=λz=>by rw[z,ho] at h4;cases h4
   rw[AF (λz=>by have h2:m=no2:=z.2;lia)];exact⟨by rw[E4 Z hl,E4 Z hl,Pd h8],λ_=>.inl ⟨hl,NM h6⟩⟩
  .have h0:(x,m)∈n.names:=hx;have hn:m≠-1:=by have:=b.EE h0;lia
   rw[EV b.inj (w:=⟨Y,nm,m⟩) Z hn h0];by_cases e:m=no2
   .rw[AG ⟨Z,e⟩];have ex:x=o:=Jh b.inj (by rw[<-e];exact h0) (BJ ho);rw[ex,Zx];exact⟨EV h3 (w:=⟨Y,"",no⟩) Z (by show no≠-1;lia) h7,λ_=>.inr ⟨a,h7⟩⟩
   .rw[AF (λz=>e z.2)];have ex:x≠o:=λz=>by have h1:=Fy b.CO h0;rw[z,ho] at h1;exact e (AZ h1).symm
    rw[Pd ex];exact⟨EV h3 (w:=⟨Y,nm,m⟩) Z hn (IA h0 ex),λ_=>.inr ⟨x,IA h0 ex⟩⟩
def Sh(m:Int):AH (n.joined no o no2 w1 w2).texts m=((if m=no then U (w1++w2) else AH (AQ n.texts no2) m):Option (List Wd)).map (List.map (CS no2 "" no)):=by show AH (Nk.I9 _ (CS no2 "" no)).texts m=_;rw[Nb];show(AH (AW (AQ n.texts no2) no (w1++w2)) m).map _=_;rw[Cz]
theorem Bo.joined(b:Bo n)(ha:AH n.names a=U no)(ho:AH n.names o=U no2)(hne:a≠o)(h1:AH n.texts no=U w1)(h2:AH n.texts no2=U w2):Bo (n.joined no o no2 w1 w2):=by
 have nn:no≠no2:=λz=>hne ((b.same ho ha).mp z);have h5:(n.joined no o no2 w1 w2).texts=(AW (AQ n.texts no2) no (w1++w2)).map λp=>(p.1,p.2.map (CS no2 "" no)):=Z;have h0:∀p∈(n.joined no o no2 w1 w2).texts,∃q,((q∈n.texts/\q.1≠no2)\/q=(no,w1++w2))/\p=(q.1,q.2.map (CS no2 "" no)):=λp hp=>by
  rw[h5] at hp;obtain⟨q,hq,e⟩:=Aw.mp hp;refine⟨q,?_,e.symm⟩;rcases Je hq with z|z
  .exact .inl (Gg z)
  .exact .inr z
 refine⟨DQ b.CO,NQ b.inj,by rw[h5,Bf];exact ER (DQ b.CF),λp hp=>?_,λp hp=>?_,λp hp=>?_,λp hp w hw=>?_⟩
 .obtain⟨g1,g2⟩:=Gg hp;obtain⟨ws,hw⟩:=b.tx p g1;rw[Sh];by_cases z:p.2=no
  .rw[AG z];exact⟨_,Z⟩
  .have h3:p.2≠no2:=λz=>g2 (Jh b.inj (show(p.1,no2)∈n.names by rw[<-z];exact g1) (BJ ho));rw[AF z,EL h3,hw];exact⟨_,Z⟩
 .obtain⟨q,hq,rfl⟩:=h0 p hp;rcases hq with⟨hq,h6⟩|rfl
  .obtain⟨nm,h⟩:=b.own q hq;refine⟨nm,IA h λz=>h6 ?_⟩;have g1:=Fy b.CO h;have z':nm=o:=z;rw[z',ho] at g1;exact(AZ g1).symm
  .exact⟨a,IA (BJ ha) hne⟩
 .obtain⟨q,hq,rfl⟩:=h0 p hp;rcases hq with⟨hq,_⟩|rfl
  .exact b.lt q hq
  .exact b.EE (BJ ha)
 .obtain⟨q,hq,rfl⟩:=h0 p hp;obtain⟨w0,h4,rfl⟩:=Aw.mp hw;refine(WQ b ha ho hne ?_).2;rcases hq with⟨hq,_⟩|rfl
  .exact b.wd q hq w0 h4
  .rcases Be.mp h4 with z|z
   .exact b.wd _ (BJ h1) w0 z
   .exact b.wd _ (BJ h2) w0 z
def Yy(b:Bo n)(ha:AH n.names a=U no)(ho:AH n.names o=U no2)(hne:a≠o)(h1:AH n.texts no=U w1)(h2:AH n.texts no2=U w2):
 vw (n.joined no o no2 w1 w2)=DT (AW (AQ (vw n) o) a (Af n no++Af n no2)) o a:=by
 have h3:(vw n).map (·.1)=n.names.map (·.1):=Dm n;have h0:∀ws:List Wd,(∀w∈ws,Ec n.names w)->(ws.map (CS no2 "" no)).map (sh (AQ n.names o))=(ws.map (sh n.names)).map (KA o a):=λws h=>by rw[Bf,Bf];exact EI λw hw=>(WQ b ha ho hne (h w hw)).1
 refine NF ?_ (by rw[Dm];exact DQ b.CO) λk hk=>?_
 .rw[Dm,Po,Ig,KW,h3,AG]
  .exact KW ..
  .exact Eg.mpr ⟨TL ha,by simpa using hne⟩
 .rw[Dq,Tp,Cz];show(AH (AQ n.names o) k).map _=_;by_cases z:k=o
  .rw[z,JR,AF hne.symm,JR];rfl
  .rw[EL z];by_cases y:k=a
   .rw[AG y,y,ha];show U (((AH (n.joined no o no2 w1 w2).texts no).getD []).map (sh (AQ n.names o)))=U (C4 _ o a);rw[Sh,AG Z,TF];show U (((w1++w2).map (CS no2 "" no)).map (sh (AQ n.names o)))=_;rw[h0 _ λw hw=>by
     rcases Be.mp hw with z|z
     .exact b.wd _ (BJ h1) w z
     .exact b.wd _ (BJ h2) w z];delta Af;rw[h1,h2,BL];rfl
   .rw[AF y,EL z,Dq]
    cases e:AH n.names k with
    |none=>rfl
    |some m=>obtain⟨ws,g1,g2⟩:=b.text e;have m1:m≠no:=λq=>y ((b.same ha e).mp q);have m2:m≠no2:=λq=>z ((b.same ho e).mp q);show U (((AH (n.joined no o no2 w1 w2).texts m).getD []).map (sh (AQ n.names o)))=U (C4 (Af n m) o a);rw[Sh,AF m1,EL m2,g1,TF];show U ((ws.map (CS no2 "" no)).map (sh (AQ n.names o)))=_;rw[h0 ws g2];delta Af;rw[g1];rfl
end
def Nk.wrote(n:Nk)(a t:Str):Nk:=match AH n.names a with
 |some no=>n.Cp no (F5 n.names t)
 |none=>(n.added a).Cp n.made (F5 (n.added a).names t)
def Nk.IM(n:Nk)(no:Int)(k:Nat)(o:Str):Nk:=((n.added o).Cp n.made (((AH (n.added o).texts no).getD []).drop k)).Cp no (((AH (n.added o).texts no).getD []).take k++[⟨Y,o,n.made⟩])
def str_list{a b:Str}:a=b↔a.cps.toList=b.cps.toList:=⟨λh=>by rw[h],λh=>Vz h⟩
theorem WD(l:List Nat)(a:Nat):∀m,(List.range m).filterMap (λk=>l[a+k]?)=(l.drop a).take m
 |0=>by simp
 |m+1=>by rw[List.range_succ,RG,WD l a m,List.take_succ,LM];congr 1
def slice_list(x:Str)(l u:Option Int)(lo hi:Nat)(hl:lo<=x.length)(hu:hi<=x.length)
 (DG:Builtin.Str.strSliceIndices l u 1 x.length=sliceRange (lo:Int) (hi:Int) 1):(Txt.slice x l u).cps.toList=(x.cps.toList.drop lo).take (hi-lo):=by
 have hn:x.cps.toList.length=x.length:=by simp[Str.length]
 have h1:Builtin.Str.strSliceIndices l u 1 x.length=(List.range (hi-lo)).map λk=>lo+k:=by
  rw[DG];delta sliceRange;simp only[show(1:Int)>0 by decide,CL];have ec:((if(lo:Int)<(hi:Int) then((hi:Int)-lo+1-1)/1 else 0):Int).toNat=hi-lo:=by split<;>lia
  rw[ec];refine EI λk _=>?_;show((lo:Int)+1*(k:Int)).toNat=lo+k
  lia
 delta Txt.slice;rw[h1];split
 .rename_i h;have:hi-lo=x.length:=by simpa using h
  have h0:lo=0:=by lia
  rw[h0,O6,FG (by lia)]
 .show(((List.range (hi-lo)).map λk=>lo+k).filterMap λi=>x.cps[i]?)=_;rw[List.filterMap_map];have:=WD x.cps.toList lo (hi-lo);rw[<-this];have ef:((λi=>x.cps[i]?)∘λk=>lo+k)=λk=>x.cps.toList[lo+k]? :=funext λk=>by show x.cps[lo+k]? =_;rw[HE]
  rw[ef]
def gc(x:Str):(Txt.slice x J (U 1)).cps.toList=x.cps.toList.take 1:=by
 have:=slice_list x J (U 1) 0 (min 1 x.length) (CB _) (Nat.min_le_right ..) (by
  delta Builtin.Str.strSliceIndices;simp only[show(1:Int)>0 by decide,CL,show¬(1:Int)<0 by decide,Bx];congr 1
  lia);rw[this,O6];have hn:x.cps.toList.length=x.length:=by simp[Str.length]
 by_cases h:1<=x.length
 .rw[show min 1 x.length-0=1 by lia]
 .rw[FG (by lia),FG (by lia)]
def cu(x:Str):(Txt.slice x (U (-1)) J).cps.toList=x.cps.toList.drop (x.length-1):=by
 have:=slice_list x (U (-1)) J (x.length-1) x.length (by lia) (Ac _) (by
  delta Builtin.Str.strSliceIndices;simp only[show(1:Int)>0 by decide,CL,show(-1:Int)<0 by decide];congr 1
  lia);rw[this];have hn:x.cps.toList.length=x.length:=by simp[Str.length]
 rw[FG (by rw[EK];lia)]
def dH(x:Str):(Txt.slice x (U 1) (U (-1))).cps.toList=(x.cps.toList.drop 1).take (x.length-2):=by
 have:=slice_list x (U 1) (U (-1)) (min 1 x.length) (x.length-1) (Nat.min_le_right ..) (by lia) (by delta Builtin.Str.strSliceIndices;simp only[show(1:Int)>0 by decide,CL,show(-1:Int)<0 by decide,show¬(1:Int)<0 by decide,Bx];congr 1<;>lia);rw[this];have hn:x.cps.toList.length=x.length:=by simp[Str.length]
 by_cases h:1<=x.length
 .rw[show min 1 x.length=1 by lia,show x.length-1-1=x.length-2 by lia]
 .rw[show x.length-1-min 1 x.length=0 by lia,show x.length-2=0 by lia];simp
def QA:("[" :Str).cps.toList=[91]:=by left
def P6:("]" :Str).cps.toList=[93]:=by left
def Py(a b:Str):(a++b).cps.toList=a.cps.toList++b.cps.toList:=by show(a.cps++b.cps).toList=_;rw[Ga]
def gJ(x:Str):decide (V.str (Txt.slice x J (U 1))=V.str "[")=Txt.startswith x "[" :=by
 have hn:x.cps.toList.length=x.length:=by simp[Str.length]
 have l1:("[" :Str).length=1:=by left
 have e1:(V.str (Txt.slice x J (U 1))=V.str "[")↔x.cps.toList.take 1=[91]:=by rw[V.str.injEq,str_list,gc,QA]
 have e2:Txt.startswith x "[" =Y↔x.cps.toList.take 1=[91]:=by
  delta Txt.startswith Builtin.Str.subAt;rw[l1,Ft,Ow,Fw,<-KH,QA,Vh];constructor
  .intro h;have:=h.2;simpa[VS] using this
  .intro h;refine⟨?_,by simpa[VS] using h⟩;have:=A2 List.length h;rw[Bk,hn] at this;have t2:min 1 x.length=1:=this
   lia
 cases e:Txt.startswith x "[" with
 |true=>exact Bc (e1.mpr (e2.mp e))
 |false=>exact BG λz=>by rw[e2.mpr (e1.mp z)] at e;cases e
def ke(x:Str):decide (V.str (Txt.slice x (U (-1)) J)=V.str "]")=Txt.endswith x "]" :=by
 have hn:x.cps.toList.length=x.length:=by simp[Str.length]
 have l1:("]" :Str).length=1:=by left
 have e1:(V.str (Txt.slice x (U (-1)) J)=V.str "]")↔x.cps.toList.drop (x.length-1)=[93]:=by rw[V.str.injEq,str_list,cu,P6]
 have e2:Txt.endswith x "]" =Y↔x.cps.toList.drop (x.length-1)=[93]:=by
  delta Txt.endswith Builtin.Str.subAt;rw[l1,Ft,Ow,Fw,<-KH,P6,Vh];have et:∀h:1<=x.length,List.extract x.cps.toList (x.length-1) (x.length-1+1)=x.cps.toList.drop (x.length-1):=λh=>by rw[VS,FG (by rw[EK];lia)]
  constructor
  .intro h;rw[<-et (by lia)];exact h.2
  .intro h;have h1:1<=x.length:=by
    have:=A2 List.length h;rw[EK,hn] at this;have t2:x.length-(x.length-1)=1:=this
    lia
   exact⟨by lia,by rw[et h1];exact h⟩
 cases e:Txt.endswith x "]" with
 |true=>exact Bc (e1.mpr (e2.mp e))
 |false=>exact BG λz=>by rw[e2.mpr (e1.mp z)] at e;cases e
def Kf(z:Str):Co z=isNm z:=by
 delta Co isNm;congr 1;generalize z.cps.toList=l
 induction l with
 |nil=>rfl
 |cons c l ih=>
  have hb:FE c= !Dw c:=by delta FE Dw;rw[Bool.not_or]
  rw[LW,hb,<-ih]
  cases e:Dw c with
  |true=>rw[Ed e];rfl
  |false=>rw[FF (by simp[e])];rfl
def Xd(p:Str):IG p=IJ p:=by delta IG IJ;rw[gJ,ke,Kf];rfl
def fT(x:Str):Txt.slice ("[" ++x++ "]") (U 1) (U (-1))=x:=by
 rw[str_list,dH,Py,Py,QA,P6];have hn:x.cps.toList.length=x.length:=by simp[Str.length]
 have hl:("[" ++x++ "]" :Str).length=x.length+2:=by
  have:("[" ++x++ "]" :Str).cps.toList.length=("[" ++x++ "]" :Str).length:=by simp[Str.length]
  rw[<-this,Py,Py,QA,P6];simp;omega
 rw[hl,Bt];show((x.cps.toList++[93]).take (x.length+2-2))=_;rw[Q9 (by lia),FG (by lia)]
def SQ(inj:(names.map (·.2)).Nodup)(pos:∀p∈names,0<=p.2)(t:Str):(F5 names t).map (sh names)=FX t/\∀w∈F5 names t,Ec names w:=by
 have one:∀p:Str,(EC names p=J/\p="")\/∃w,EC names p=U w/\p≠ "" /\sh names w=EG p/\Ec names w:=λp=>by
  delta EC;by_cases hp:IG p=Y
  .rw[AG hp];refine .inr ⟨_,Z,λz=>?_,?_,λ_=>?_⟩
   .rw[z] at hp;exact absurd hp (by left)
   .have h0:IJ p=Y:=by rw[<-Xd];exact hp
    have er:EG p=(("to" :Str),inner p):=by delta EG;rw[AG h0];rfl
    rw[er]
    cases e:AH names (inner p) with
    |none=>exact E4 (w:=⟨Y,inner p,-1⟩) Z Z
    |some no=>have hm:=BJ e;have:=pos _ hm;exact EV inj (w:=⟨Y,inner p,no⟩) Z (by show no≠-1;have t2:(0:Int)<=no:=this;lia) hm
   .cases e:AH names (inner p) with
    |none=>exact .inl ⟨Z,Z⟩
    |some no=>exact .inr ⟨inner p,BJ e⟩
  .rw[AF hp];by_cases he:p=""
   .rw[AG he];exact .inl ⟨Z,he⟩
   .rw[AF he];refine .inr ⟨_,Z,he,?_,λz=>by cases z⟩;have h0:¬IJ p=Y:=by rw[<-Xd];exact hp
    have er:EG p=(("word" :Str),p):=by delta EG;rw[AF h0]
    rw[er];exact E5 Z
 delta F5 FX Cb;generalize Txt.split t " " =L
 induction L with
 |nil=>exact⟨Z,λw hw=>by cases hw⟩
 |cons p L ih=>
  obtain⟨h2,h1⟩:=ih;rcases one p with⟨e1,e2⟩|⟨w,e1,e2,e3,e4⟩
  .rw[List.filterMap_cons_none e1,FF (by simp[e2])];exact⟨h2,h1⟩
  .rw[List.filterMap_cons_some e1,Ed (by simp[e2]),Au,Au,h2,e3];refine⟨Z,λw' h3=>?_⟩;rcases BM.mp h3 with z|z
   .rw[z];exact e4
   .exact h1 w' z
def wl(n:Nk):Prop:=∀p∈n.texts,∀w∈p.2,w.nm.length<=1000
structure Bd(n:Nk):Prop where
 b:Bo n
 h0:0<=n.made
 nm:∀p∈n.names,p.1.length<=40
 wl:wl n
def Ym(o:Str)(no:Int)(w:Wd):(CQ o no w).nm=w.nm:=by delta CQ;split<;>rfl
def Yr{other:Int}{w:Wd}(h1:nm.length<=1000)(h2:w.nm.length<=1000):(CS no nm other w).nm.length<=1000:=by
 delta CS;split
 .exact h1
 .exact h2
def P5{n:Nk}{g:Wd->Wd}(h:wl n)(hg:∀w,w.nm.length<=1000->(g w).nm.length<=1000):wl (n.I9 g):=λp hp w hw=>by obtain⟨q,hq,rfl⟩:=Aw.mp hp;obtain⟨w0,h0,rfl⟩:=Aw.mp hw;exact hg w0 (h q hq w0 h0)
def T8{n:Nk}(h:wl n)(hw:∀w∈ws,w.nm.length<=1000):wl {n with texts:=AW n.texts no ws}:=λp hp w h0=>by
 rcases Je hp with e|e
 .exact h p e w h0
 .rw[e] at h0;exact hw w h0
def Yv{n:Nk}(h:wl n):wl {n with texts:=AQ n.texts no}:=λp hp w h0=>h p (Gg hp).1 w h0
def Wi{t:Str}(ht:t.length<=1000):∀w∈F5 names t,w.nm.length<=1000:=λw hw=>by
 delta F5 at hw;obtain⟨p,hp,e⟩:=Ov.mp hw;have h1:=Vu t p hp;delta EC at e;split at e
 .cases AZ e;have:=PF p (U 1) (U (-1));show(inner p).length<=1000;delta inner
  lia
 .split at e
  .cases e
  .cases AZ e;show p.length<=1000
   lia
theorem Bd.added{n:Nk}{o:Str}(h:Bd n)(ho:AH n.names o=J)(hl:o.length<=40):Bd (n.added o):=by
 refine⟨h.b.added h.h0 ho,by show 0<=n.made+1;have:=h.h0;lia,λp hp=>?_,P5 (T8 (n:={n with made:=n.made+1}) h.wl (λw hw=>by cases hw)) λw hw=>by rw[Ym];exact hw⟩;rw[PK ho] at hp;rcases Be.mp hp with e|e
 .exact h.nm p e
 .rw[BW.mp e];exact hl
theorem Bd.Cp{n:Nk}{a:Str}{no:Int}{ws:List Wd}(h:Bd n)(ha:AH n.names a=U no)(ok:∀w∈ws,Ec n.names w)(hw:∀w∈ws,w.nm.length<=1000):Bd (n.Cp no ws):=
 ⟨h.b.Cp ha ok,h.h0,h.nm,T8 h.wl hw⟩
noncomputable def Ap.asks:Ap->Bool
 |.text _=>Y
 |.back _=>Y
 |.find _ _=>Y
 |_=>vc
def Ao(n:Nk)(a:Str):Int:=(AH n.names a).getD 0
def Ba(n:Nk)(no:Int):List Wd:=(AH n.texts no).getD []
def N1(n:Nk):Ap->Nk
 |.write a t=>n.wrote a t
 |.rename a o=>n.renamed a o (Ao n a)
 |.join a o=>n.joined (Ao n a) o (Ao n o) (Ba n (Ao n a)) (Ba n (Ao n o))
 |.cut a p o=>n.IM (Ao n a) p.toNat o
 |.drop a=>n.dropped a (Ao n a)
 |_=>n
def Ek(n:Nk)(x:Ap):Nk:=if x.asks=Y then n else if BH n x="" then N1 n x else n
def X0{n:Nk}{a t:Str}(h:Bd n)(hl:a.length<=40)(ht:t.length<=1000):Bd (n.wrote a t)/\vw (n.wrote a t)=AW (vw n) a (FX t):=by
 have h1:∀{m:Nk},Bd m->∀p∈m.names,0<=p.2:=λhm p hp=>(hm.b.EE (nm:=p.1) (no:=p.2) hp).1;delta Nk.wrote
 cases e:AH n.names a with
 |some no=>obtain⟨p1,p2⟩:=SQ h.b.inj (h1 h) t;exact⟨h.Cp e p2 (Wi ht),by rw[Px h.b e,p1]⟩
 |none=>
  have h':=h.added e hl;have e2:AH (n.added a).names a=U n.made:=by show AH (AW n.names a n.made) a=_;rw[Cz,AG Z]
  obtain⟨p1,p2⟩:=SQ h'.b.inj (h1 h') t;refine⟨h'.Cp e2 p2 (Wi ht),?_⟩;show vw ((n.added a).Cp n.made _)=_;rw[Px h'.b e2,p1,XD h.b h.h0 e,YM (by rw[Dm];exact h.b.CO)]
def mz{n:Nk}{a o:Str}(h:Bd n)(ha:AH n.names a=U no)(ho:AH n.names o=J)(hl:o.length<=40):
 Bd (n.IM no k o)/\vw (n.IM no k o)=AW (AW (vw n) o ((Af n no).drop k)) a ((Af n no).take k++[(("to" :Str),o)]):=by
 have h1:=h.added ho hl;have em:AH (n.added o).names o=U n.made:=by show AH (AW n.names o n.made) o=_;rw[Cz,AG Z]
 have h8:a≠o:=λz=>by rw[z,ho] at ha;cases ha
 have ea:AH (n.added o).names a=U no:=by show AH (AW n.names o n.made) a=_;rw[Cz,AF h8];exact ha
 obtain⟨w0,h7,h9⟩:=h.b.text ha;obtain⟨ws,hw,ok⟩:=h1.b.text ea;have pg:Af n no=ws.map (sh (n.added o).names):=by rw[<-XI h.b h.h0 ho h7];delta Af;rw[hw];rfl
 have h4:∀w∈ws,w.nm.length<=1000:=λw h3=>h1.wl _ (BJ hw) w h3;delta Nk.IM;rw[hw];show Bd (((n.added o).Cp n.made (ws.drop k)).Cp no (ws.take k++[⟨Y,o,n.made⟩]))/\_;have h2:=h1.Cp (ws:=ws.drop k) em (λw h3=>ok w (LK h3)) λw h3=>h4 w (LK h3);have h6:∀w∈ws.take k++[(⟨Y,o,n.made⟩:Wd)],Ec (n.added o).names w:=λw h3=>by
  rcases Be.mp h3 with z|z
  .exact ok w (GX z)
  .rw[BW.mp z];exact λ_=>.inr ⟨o,BJ em⟩
 have h5:AH ((n.added o).Cp n.made (ws.drop k)).names a=U no:=ea;refine⟨h2.Cp h5 h6 λw h3=>?_,?_⟩
 .rcases Be.mp h3 with z|z
  .exact h4 w (GX z)
  .rw[BW.mp z];show o.length<=1000
   lia
 .show vw (((n.added o).Cp n.made (ws.drop k)).Cp no (ws.take k++[⟨Y,o,n.made⟩]))=_;have sm:sh (n.added o).names ⟨Y,o,n.made⟩=(("to" :Str),o):=EV h1.b.inj (w:=⟨Y,o,n.made⟩) Z (by show n.made≠-1;have:=h.h0;lia) (BJ em);rw[Px h2.b h5,Px h1.b em,XD h.b h.h0 ho,YM (by rw[Dm];exact h.b.CO)];show AW (AW (vw n) o ((ws.drop k).map (sh (n.added o).names))) a ((ws.take k++[(⟨Y,o,n.made⟩:Wd)]).map (sh (n.added o).names))=_;rw[pg,BL,PD,PB];show AW _ a (_++[sh (n.added o).names (Wd.mk Y o n.made)])=_;rw[sm]
theorem Bd.renamed{n:Nk}{a o:Str}{no:Int}(h:Bd n)(ha:AH n.names a=U no)(ho:AH n.names o=J)(hl:o.length<=40):Bd (n.renamed a o no):=by
 refine⟨h.b.renamed ha ho,h.h0,λp hp=>?_,P5 (n:={n with names:=AW (AQ n.names a) o no}) h.wl λw hw=>by rw[Ym];exact hw⟩;rw[Lg ho] at hp;rcases Be.mp hp with e|e
 .exact h.nm p (Gg e).1
 .rw[BW.mp e];exact hl
theorem Bd.dropped{n:Nk}{a:Str}{no:Int}(h:Bd n)(ha:AH n.names a=U no):Bd (n.dropped a no):=
 ⟨h.b.dropped ha,h.h0,λp hp=>h.nm p (Gg hp).1,P5 (n:={n with names:=AQ n.names a,texts:=AQ n.texts no}) (Yv (n:=n) h.wl) λw hw=>Yr (by have:=h.nm _ (BJ ha);dsimp only at this;lia) hw⟩
theorem Bd.joined{n:Nk}{a o:Str}{no no2:Int}{w1 w2:List Wd}(h:Bd n)(ha:AH n.names a=U no)(ho:AH n.names o=U no2)(hne:a≠o)(h1:AH n.texts no=U w1)(h2:AH n.texts no2=U w2):Bd (n.joined no o no2 w1 w2):=by
 refine⟨h.b.joined ha ho hne h1 h2,h.h0,λp hp=>h.nm p (Gg hp).1,P5 (T8 (n:={n with names:=AQ n.names o,texts:=AQ n.texts no2}) (Yv (n:=n) h.wl) λw hw=>?_) λw hw=>Yr (by left) hw⟩;rcases Be.mp hw with z|z
 .exact h.wl _ (BJ h1) w z
 .exact h.wl _ (BJ h2) w z
def C2(s:Str):Rs->Prop
 |.no m=>s=m/\m≠ ""
 |.ok _ _=>s=""
 |.un _=>s=""
def Tx(n:Nk)(x:Ap):C2 (BH n x) (Ct (vw n) x):=by
 have hg:=Dq n
 cases x with
 |write a t=>
  show C2 (if Co a=Y then "" else "no name") (FT (vw n) a t);delta FT;rw[Kf];by_cases e:isNm a=Y
  .rw[AG e,AG e];exact Z
  .rw[AF e,AF e];exact⟨Z,by left⟩
 |rename a o=>
  show C2 (if AH n.names a=J then "no page" else if Co o=vc then "no name" else if AH n.names o=J then "" else "taken") (FR (vw n) a o);delta FR;rw[Kf,hg a]
  cases e:AH n.names a with
  |none=>rw[AG Z];exact⟨Z,by left⟩
  |some no=>
   rw[AF (by simp)];show C2 _ (if isNm o=Y then _ else _)
   cases e2:isNm o with
   |false=>exact⟨Z,by left⟩
   |true=>
    rw[AG Z,AF (by simp),hg o]
    cases e3:AH n.names o with
    |none=>rw[AG Z];exact Z
    |some h1=>rw[AF (by simp)];exact⟨Z,by left⟩
 |join a o=>
  show C2 (if AH n.names a=J then "no page" else if AH n.names o=J then "no page" else if a=o then "same page" else "") (ET (vw n) a o);delta ET;rw[hg a]
  cases e:AH n.names a with
  |none=>rw[AG Z];exact⟨Z,by left⟩
  |some no=>
   rw[AF (by simp),hg o]
   cases e2:AH n.names o with
   |none=>rw[AG Z];exact⟨Z,by left⟩
   |some h1=>
    rw[AF (by simp)];show C2 _ (if a=o then _ else _);by_cases e3:a=o
    .rw[AG e3,AG e3];exact⟨Z,by left⟩
    .rw[AF e3,AF e3];exact Z
 |cut a p o=>
  show C2 (match AH n.names a with
   |none=>"no page"
   |some no=>if Co o=vc then "no name" else if AH n.names o=J then(if p<0 then "no place" else if((AH n.texts no).getD []).length<p then "no place" else "") else "taken") (Fc (vw n) a p o);delta Fc;rw[Kf,hg a]
  cases e:AH n.names a with
  |none=>exact⟨Z,by left⟩
  |some no=>
   show C2 (if isNm o=vc then _ else _) (if isNm o=Y then _ else _)
   cases e2:isNm o with
   |false=>exact⟨Z,by left⟩
   |true=>
    rw[AG Z,AF (by simp),hg o]
    cases e3:AH n.names o with
    |some h1=>rw[AF (by simp)];exact⟨Z,by left⟩
    |none=>
     rw[AG Z];have h0:(Af n no).length=((AH n.texts no).getD []).length:=by delta Af;rw[AI]
     show C2 _ (if p<0\/((Af n no).length:Int)<p then _ else _);rw[h0];by_cases c1:p<0
     .rw[AG c1,AG (AY c1)];exact⟨Z,by left⟩
     .by_cases c2:(((AH n.texts no).getD []).length:Int)<p
      .rw[AF c1,AG c2,AG (Cn c2)];exact⟨Z,by left⟩
      .rw[AF c1,AF c2,AF (λz=>Or.elim z c1 c2)];exact Z
 |drop a=>
  show C2 (if AH n.names a=J then "no page" else "") (FV (vw n) a);delta FV;rw[hg a]
  cases e:AH n.names a with
  |none=>rw[AG Z];exact⟨Z,by left⟩
  |some no=>rw[AF (by simp)];exact Z
 |text a=>
  show C2 (if AH n.names a=J then "no page" else "") (E7 (vw n) a);delta E7;rw[hg a]
  cases e:AH n.names a with
  |none=>rw[AG Z];exact⟨Z,by left⟩
  |some no=>rw[AF (by simp)];exact Z
 |back a=>exact Z
 |find ws h2=>
  show C2 (if ws=[] then "no words" else "") (if ws=[] then .no "no words" else .ok (GV (vw n) ws h2) (vw n));by_cases e:ws=[]
  .rw[AG e,AG e];exact⟨Z,by left⟩
  .rw[AF e,AF e];exact Z
def jm{n:Nk}(h:Bd n){x:Ap}(g:x.Good):Bd (Ek n x)/\vw (Ek n x)=(Ct (vw n) x).next (vw n):=by
 have br:=Tx n x;have hg:=Dq n;delta Ek;by_cases ha:x.asks=Y
 .rw[AG ha];refine⟨h,?_⟩
  cases x with
  |text a=>show _=(E7 (vw n) a).next (vw n);delta E7;cases AH (vw n) a<;>rfl
  |back a=>rfl
  |find ws h5=>show _=Rs.next (vw n) (if ws=[] then .no "no words" else .ok (GV (vw n) ws h5) (vw n));split<;>rfl
  |_=>cases ha
 .rw[AF ha];by_cases hb:BH n x=""
  .rw[AG hb];rw[hb] at br
   cases x with
   |write a t=>
    obtain⟨r1,r2⟩:=X0 (n:=n) (a:=a) (t:=t) h g.1 g.2;refine⟨r1,r2.trans ?_⟩;have h0:C2 "" (FT (vw n) a t):=br;show _=(FT (vw n) a t).next (vw n);delta FT at h0⊢;by_cases e:isNm a=Y
    .rw[AG e];rfl
    .rw[AF e] at h0;exact absurd h0.1.symm h0.2
   |rename a o=>
    have h0:C2 "" (FR (vw n) a o):=br;show Bd (n.renamed a o (Ao n a))/\vw (n.renamed a o (Ao n a))=(FR (vw n) a o).next (vw n);delta FR Ao at*;rw[hg a] at h0⊢
    cases e:AH n.names a with
    |none=>rw[e] at h0;exact absurd h0.1.symm h0.2
    |some no=>
     rw[e] at h0;have h3:C2 "" (if isNm o=Y then(match AH (vw n) o with|some _=>.no "taken" |none=>.ok (.int (L2.cnt (L2.renamed (vw n) a o (Af n no)) o)) (L2.renamed (vw n) a o (Af n no))) else .no "no name"):=h0;show Bd (n.renamed a o no)/\vw (n.renamed a o no)=Rs.next (vw n) (if isNm o=Y then(match AH (vw n) o with|some _=>.no "taken" |none=>.ok (.int (L2.cnt (L2.renamed (vw n) a o (Af n no)) o)) (L2.renamed (vw n) a o (Af n no))) else .no "no name");by_cases e2:isNm o=Y
     .rw[AG e2,hg o] at h3⊢
      cases e3:AH n.names o with
      |some h4=>rw[e3] at h3;exact absurd h3.1.symm h3.2
      |none=>exact⟨h.renamed e e3 g.2,Y5 h.b e e3⟩
     .rw[AF e2] at h3;exact absurd h3.1.symm h3.2
   |join a o=>
    have h0:C2 "" (ET (vw n) a o):=br;show Bd (n.joined (Ao n a) o (Ao n o) (Ba n (Ao n a)) (Ba n (Ao n o)))/\vw (n.joined (Ao n a) o (Ao n o) (Ba n (Ao n a)) (Ba n (Ao n o)))=(ET (vw n) a o).next (vw n);delta ET at*;rw[hg a,hg o] at h0⊢;delta Ao
    cases e:AH n.names a with
    |none=>rw[e] at h0;exact absurd h0.1.symm h0.2
    |some no=>
     cases e2:AH n.names o with
     |none=>rw[e,e2] at h0;exact absurd h0.1.symm h0.2
     |some h4=>
      rw[e,e2] at h0;have h3:C2 "" (if a=o then .no "same page" else .ok (.int (L2.cnt (L2.joined (vw n) a o (Af n no) (Af n h4)) a)) (L2.joined (vw n) a o (Af n no) (Af n h4))):=h0;show Bd (n.joined no o h4 (Ba n no) (Ba n h4))/\vw (n.joined no o h4 (Ba n no) (Ba n h4))=Rs.next (vw n) (if a=o then .no "same page" else .ok (.int (L2.cnt (L2.joined (vw n) a o (Af n no) (Af n h4)) a)) (L2.joined (vw n) a o (Af n no) (Af n h4)));by_cases e3:a=o
      .rw[AG e3] at h3;exact absurd h3.1.symm h3.2
      .rw[AF e3];obtain⟨w1,h1,_⟩:=h.b.text e;obtain⟨w2,h2,_⟩:=h.b.text e2;delta Ba;rw[h1,h2];exact⟨h.joined e e2 e3 h1 h2,Yy h.b e e2 e3 h1 h2⟩
   |cut a p o=>
    have h0:C2 "" (Fc (vw n) a p o):=br;show Bd (n.IM (Ao n a) p.toNat o)/\vw (n.IM (Ao n a) p.toNat o)=(Fc (vw n) a p o).next (vw n);delta Fc at*;rw[hg a,hg o] at h0⊢;delta Ao
    cases e:AH n.names a with
    |none=>rw[e] at h0;exact absurd h0.1.symm h0.2
    |some no=>
     rw[e] at h0;by_cases e2:isNm o=Y
     .cases e3:AH n.names o with
      |some h4=>rw[e3] at h0;have h3:C2 "" (if isNm o=Y then .no "taken" else .no "no name"):=h0;rw[AG e2] at h3;exact absurd h3.1.symm h3.2
      |none=>
       rw[e3] at h0;have h3:C2 "" (if isNm o=Y then(if p<0\/((Af n no).length:Int)<p then .no "no place" else .ok (.int (((Af n no).drop p.toNat).length:Nat)) (cutAt (vw n) a o (Af n no) p.toNat)) else .no "no name"):=h0;show Bd (n.IM no p.toNat o)/\vw (n.IM no p.toNat o)=Rs.next (vw n) (if isNm o=Y then(if p<0\/((Af n no).length:Int)<p then .no "no place" else .ok (.int (((Af n no).drop p.toNat).length:Nat)) (cutAt (vw n) a o (Af n no) p.toNat)) else .no "no name");rw[AG e2] at h3⊢;by_cases c:p<0\/((Af n no).length:Int)<p
       .rw[AG c] at h3;exact absurd h3.1.symm h3.2
       .rw[AF c];exact mz h e e3 g.2
     .cases e3:AH n.names o with
      |some h4=>rw[e3] at h0;have h3:C2 "" (if isNm o=Y then .no "taken" else .no "no name"):=h0;rw[AF e2] at h3;exact absurd h3.1.symm h3.2
      |none=>rw[e3] at h0;have h3:C2 "" (if isNm o=Y then(if p<0\/((Af n no).length:Int)<p then .no "no place" else .ok (.int (((Af n no).drop p.toNat).length:Nat)) (cutAt (vw n) a o (Af n no) p.toNat)) else .no "no name"):=h0;rw[AF e2] at h3;exact absurd h3.1.symm h3.2
   |drop a=>
    have h0:C2 "" (FV (vw n) a):=br;show Bd (n.dropped a (Ao n a))/\vw (n.dropped a (Ao n a))=(FV (vw n) a).next (vw n);delta FV at*;rw[hg a] at h0⊢;delta Ao
    cases e:AH n.names a with
    |none=>rw[e] at h0;exact absurd h0.1.symm h0.2
    |some no=>exact⟨h.dropped e,lJ h.b e⟩
   |text a=>exact absurd Z ha
   |back a=>exact absurd Z ha
   |find ws h5=>exact absurd Z ha
  .rw[AF hb];refine⟨h,?_⟩;generalize Ct (vw n) x=r at br
   cases r with
   |no m=>rfl
   |ok a b=>exact absurd br hb
   |un a=>exact absurd br hb
def chg(n:Nk):Ap->Int
 |.write a t=>(F5 (n.wrote a t).names t).length
 |.rename a o=>(n.renamed a o (Ao n a)).led (Ao n a)
 |.join a o=>(n.joined (Ao n a) o (Ao n o) (Ba n (Ao n a)) (Ba n (Ao n o))).led (Ao n a)
 |.cut a p o=>((Ba (n.added o) (Ao n a)).length:Int)-p
 |.drop a=>n.led (Ao n a)
 |_=>0
def Wf:Sp:=λvs H Q _=>∃(a:OK)(d:V)(x:Ap)(H0:Hp)(n:Nk),vs=[.ref a,d]/\CC H0 H a n/\Fits n/\Bd n/\n.texts.length<1000/\n.names.length<1000/\Rep H0 x.dt d/\x.Good/\x.asks=vc/\BH n x="" /\
 (∀a' o',x=.join a' o'->(Ba n (Ao n a')++Ba n (Ao n o')).length<=100000)/\∀H',CC H0 H' a (N1 n x)->Q (.int (chg n x)) H'
def Fits.UT{n:Nk}(h:Fits n)(a:Str):Fits {n with names:=AQ n.names a}:=
 ⟨DQ h.CO,h.CF,BI (Ee _ _) h.names,h.texts,h.words⟩
def Fits.QK{n:Nk}(h:Fits n)(no:Int):Fits {n with texts:=AQ n.texts no}:=
 ⟨h.CO,DQ h.CF,h.names,BI (Ee _ _) h.texts,λp hp=>h.words p (Gg hp).1⟩
theorem Fits.named{n:Nk}(h:Fits n)(o:Str)(no:Int)(hl:n.names.length<1000):Fits (n.named o no):=by have h1:Fits {n with names:=AW n.names o no}:=⟨ER h.CO,h.CF,by show(AW n.names o no).length<=1000;have:=HW n.names o no;lia,h.texts,h.words⟩;exact h1.map
theorem CC.ext{H0 H H':Hp}{a:OK}{n:Nk}(h:CC H0 H a n)(s:AM H H'):CC H0 H' a n:=by obtain⟨x,y,z,nk⟩:=h;exact⟨x,y,z,nk.ext s⟩
def Wq{n:Nk}(b:Bo n):AH n.texts n.made=J:=by
 cases e:AH n.texts n.made with
 |none=>rfl
 |some ws=>have:=(b.lt _ (BJ e)).2;dsimp only at this;lia
def Pc{n:Nk}{x:Ap}{a:Str}(h:BH n x="")(hx:(∃o,x=.rename a o)\/(∃o,x=.join a o)\/(∃p o,x=.cut a p o)\/x=.drop a):∃no,AH n.names a=U no:=by
 cases e:AH n.names a with
 |some no=>exact⟨no,Z⟩
 |none=>
  exfalso;rcases hx with⟨o,rfl⟩|⟨o,rfl⟩|⟨p,o,rfl⟩|rfl
  .have h':(if AH n.names a=J then("no page" :Str) else _)="" :=h;rw[e,AG Z] at h';exact absurd h' (by left)
  .have h':(if AH n.names a=J then("no page" :Str) else _)="" :=h;rw[e,AG Z] at h';exact absurd h' (by left)
  .simp only[BH,e] at h;exact absurd h (by left)
  .have h':(if AH n.names a=J then("no page" :Str) else _)="" :=h;rw[e,AG Z] at h';exact absurd h' (by left)
def KZ:A3 ["_law_nook","_law_deed","_law_name","_law_words","_law_number","_law_fresh","_law_many"] ["_law_nook","_law_deed"] (Aq Sr):=by left
def eh{fNa fLe fTu:OK}{fdNa fdLe fdTu:sj}(F:Ak K "_law_changed" "_law_changed" Sr f fd)(O:Own mg)
 (HAd:Hv P w K mg base "_law_added" 2 ["_law_nook","_law_name"] YW)
 (HPi:Hv P w K mg base "_law_penned_in" 2 ["_law_nook","_law_text"] WE)
 (FNa:Ak K "_law_named" "_law_named" Nt fNa fdNa)(bNa:Binds K fdNa ["_law_nook","_law_name","_law_number"] [])(mNa:mg "_law_named" =U (.ref fNa))
 (FLe:Ak K "_law_led" "_law_led" OH fLe fdLe)(bLe:Binds K fdLe ["_law_nook","_law_number"] [])(mLe:mg "_law_led" =U (.ref fLe))
 (HJo:Hv P w K mg base "_law_joined" 2 ["_law_nook","_law_number","_law_other"] Xx)
 (FTu:Ak K "_law_turned" "_law_turned" Ni fTu fdTu)(bTu:Binds K fdTu ["_law_nook","_law_number","_law_name","_law_other"] [])(mTu:mg "_law_turned" =U (.ref fTu)):
 AX P w K mg base Ai 3 f fd ["_law_nook","_law_deed"] Wf:=by
 have c2:AX P w K mg base Ai 1 fNa fdNa ["_law_nook","_law_name","_law_number"] TC:=XT FNa O;have t9:AX P w K mg base Ai 1 fLe fdLe ["_law_nook","_law_number"] UI:=ZD FLe O;have b9:AX P w K mg base Ai 1 fTu fdTu ["_law_nook","_law_number","_law_name","_law_other"] Sv:=Wo FTu O;refine F.ok KZ ?_ ?_
 .rintro _ _ _ _ ⟨_,_,_,_,_,rfl,_⟩;rfl
 .rintro _ A _ s H _ Q E hr ⟨a,dv,x,H0,n,rfl,a3,s4,bd,tl,nl,rd,gd,na,br,jl,q⟩;have e0:=CZ hr;refine⟨_,(AU (Ax (i:=2) KZ.nd Z (AY Z) (A0 (pv 1))) (AU (Ay (As BQ (A0 (pv 1)) Ab (Am _))
   (AU (Ay (Jj (Pa e0 (pv 2) (By e0 (pv 0))))
   (AR (Bq (Cj HAd hr Z BF (AE (pv 0) (AE (pv 2) AJ)))))
   BC) (AU (Ax (i:=3) KZ.nd Z (AY Z) (Cj HPi hr Z BF (AE (pv 0) (AE (A0 (pv 1)) AJ)))) (AU (Eh e0 (By e0 (pv 0)) (DB e0 (By e0 (pv 0)) (pv 2) (λ_ _=>rfl)) (pv 3) Z) (AR (An (Bh Gq Z O.len DX (AE (pv 3) AJ)))))))
   BC) (AU (Ax (i:=4) KZ.nd Z (AY Z) (DB e0 (By e0 (pv 0)) (pv 2) (λ_ _=>rfl))) (AU (Ay (As BQ (A0 (pv 1)) Ab (Am _))
   (AU (Bq (Ja (By e0 (pv 0)) (pv 2) ⟨Z,Z,Z,Z⟩)) (AU (Bq (Cs c2 hr.mn Z mNa FNa.kp bNa .nil BF (AE (pv 0) (AE (A0 (pv 1)) (AE (pv 4) AJ))))) (AR (An (Cs t9 hr.mn Z mLe FLe.kp bLe .nil BF (AE (pv 0) (AE (pv 4) AJ)))))))
   BC) (AU (Ay (As BQ (A0 (pv 1)) Ab (Am _))
   (AR (An (Cj HJo hr Z BF (AE (pv 0) (AE (pv 4) (AE (A0 (pv 1)) AJ))))))
   BC) (AU (Ay (As BQ (A0 (pv 1)) Ab (Am _))
   (AU (Ax (i:=5) KZ.nd Z (AY Z) (Cj HAd hr Z BF (AE (pv 0) (AE (A0 (pv 1)) AJ)))) (AU (Ax (i:=3) KZ.nd Z (AY Z) (DB e0 (By e0 (pv 0)) (pv 4) (λ_ _=>rfl))) (AU (Eh e0 (By e0 (pv 0)) (pv 5) (F0 au (pv 3) (DY (A0 (pv 1))) Lu) Z) (AU (Eh e0 (By e0 (pv 0)) (pv 4) (Al L0 (F0 au (pv 3) Lu (DY (A0 (pv 1)))) (CY (AE (CY (AE Ab (AE (A0 (pv 1)) (AE (pv 5) AJ)))) AJ))) Z) (AR (An (Al Lx (Bh Gq Z O.len DX (AE (pv 3) AJ)) (A0 (pv 1)))))))))
   BC) (AU (Ax (i:=6) KZ.nd Z (AY Z) (Cs t9 hr.mn Z mLe FLe.kp bLe .nil BF (AE (pv 0) (AE (pv 4) AJ)))) (AU (Bq (Ja (By e0 (pv 0)) (pv 4) ⟨Z,Z,Z,Z⟩)) (AU (Bq (Ja (By e0 (pv 0)) (pv 2) ⟨Z,Z,Z,Z⟩)) (AU (Bq (Cs b9 hr.mn Z mTu FTu.kp bTu .nil BF (AE (pv 0) (AE (pv 4) (AE (pv 2) (AE (Du Dr Aa) AJ)))))) (AR (An (pv 6))))))))))))),?_⟩;obtain⟨an,at_,tx,nk⟩:=a3;have sm:=nk.same;have t2:∀{p r:Str},p≠r->V.str p≠V.str r:=λh z=>h (V.str.inj z)
  cases x with
  |write nm t=>
   obtain⟨d,xs,rfl,e5,rs⟩:=Bu rd;obtain⟨u,v,x,rfl,r1,r2,r3⟩:=EU rs;cases Bl r1;cases Bl r2;cases Bl r3;have hd:=sm _ _ e5;refine⟨_,Z,d,_,_,.str nm,Z,Z,AS.of hd,Z,?_⟩;refine Qy Z hd ?_;refine⟨_,Z,_,Z,a,_,Z,Dl nk.ha,an,_,Z,D7 nk.hn nm,_,Z,?_⟩;rcases e:AH n.names nm with _|no;refine Bs ?_;refine⟨_,Z,_,Z,a,nm,H0,n,Z,⟨an,at_,tx,nk⟩,s4,tl,Wq bd.b,λH1 e4=>?_⟩;have g1:AH (n.added nm).names nm=U n.made:=by show AH (AW n.names nm n.made) nm=_;rw[Cz,AG Z]
   have e1:n.wrote nm t=(n.added nm).Cp n.made (F5 (n.added nm).names t):=by delta Nk.wrote;rw[e]
   have LF:(n.added nm).texts.length<=1000:=by
    show((AW n.texts n.made []).map _).length<=1000;rw[AI];have:=HW n.texts n.made []
    lia
   rotate_left
   refine BV ?_;have g1:=e;have e1:n.wrote nm t=n.Cp no (F5 n.names t):=by delta Nk.wrote;rw[e]
   have e4:CC H0 H a n:=⟨an,at_,tx,nk⟩;have LF:n.texts.length<=1000:=by lia
   all_goals
    obtain⟨q2,e7,h4,k1⟩:=e4;have q0:=k1.same _ _ e5;refine⟨_,Z,_,Z,d,_,_,.str t,Z,Z,AS.of q0,Z,a,t,H0,_,Z,⟨q2,e7,h4,k1⟩,gd.2,λL ws H2 s2 hL q8 pw=>?_⟩;have k2:=k1.ext s2;have a4:(CU h4).length<sizeLine:=by
     show(h4.map _).length<_;rw[AI,k1.len,BA]
     lia
    have e6:=D7 k2.hn nm;rw[g1] at e6;have dp:=λno=>DO.kq (k:=.inl no) (v:=.ref L) k2.ht a4;have e2:=λno=>(Ii (g:=λp:OK×List OK=>V.ref p.1) Ei no (L,ws) h4:putK (CU h4) (.inl no) (.ref L)=CU (AW h4 no (L,ws)));simp only[e2] at dp;refine⟨_,Z,_,Z,a,_,Z,Fv k2.ha,_,Z,a,_,Z,Dl k2.ha,_,Z,q2,_,Z,e6,e7,_,Z,dp _,?_⟩;have k3:=λno=>k2.OG no (l:=L) (ws:=ws) (Cb:=_) q8 pw.len pw.at_ (λw hw=>k1.same.free (pw.new w hw));have b6:∀no,(upd H2 e7 (.dK (CU (AW h4 no (L,ws))))) L=U (.lst (ws.map V.ref)):=λno=>by rw[AO (CN q8 k2.ht (by intro z;cases z))];exact q8
    refine⟨_,Z,L,_,Z,.inl (AL.of (b6 _)),?_⟩;have q1:=q _ (by show CC H0 _ a (n.wrote nm t);rw[e1];exact⟨q2,e7,_,k3 _⟩);have ec:chg n (.write nm t)=((ws.map V.ref).length:Nat):=by show((F5 (n.wrote nm t).names t).length:Int)=_;rw[e1,AI,pw.len];rfl
    rw[ec] at q1;exact q1
  |rename nm o=>
   obtain⟨d,xs,rfl,e5,rs⟩:=Bu rd;obtain⟨u,v,x,rfl,r1,r2,r3⟩:=EU rs;cases Bl r1;cases Bl r2;cases Bl r3;have hd:=sm _ _ e5;obtain⟨no,e⟩:=Pc br (.inl ⟨o,Z⟩);have e9:Ao n nm=no:=by delta Ao;rw[e];rfl
   have e6:=D7 nk.hn nm;rw[e] at e6;refine⟨_,Z,d,_,_,.str nm,Z,Z,AS.of hd,Z,?_⟩;refine IP Z hd (by left) ?_;refine⟨_,Z,a,_,Z,Dl nk.ha,_,Z,an,_,Z,e6,?_⟩;refine Qy Z hd ?_;have v1:BU (Fs n.names) (.inr nm)=U (.int no):=by rw[D6 EN,e];rfl
   refine⟨_,Z,a,_,Z,Dl nk.ha,an,Z,.inl ⟨_,.inl nk.hn⟩,_,Z,_,.inr nm,_,nk.hn,Z,v1,?_⟩;rw[KU EN];have e4:=nk.putN (AQ n.names nm);generalize upd H an (.dK (Fs (AQ n.names nm)))=H1 at e4;have q0:=e4.same _ _ e5;have a1:(AQ n.names nm).length<1000:=RO (Ee _ _) nl;refine⟨_,Z,_,Z,d,_,_,.str o,Z,Z,AS.of q0,Z,_,Z,a,o,no,H0,_,Z,⟨an,at_,tx,e4⟩,s4.UT nm,λH2 s0=>?_⟩;refine⟨_,Z,_,Z,a,no,H0,_,Z,s0,(s4.UT nm).named o no a1,λH3 s3=>?_⟩;have q1:=q H3 (by show CC H0 H3 a (n.renamed nm o (Ao n nm));rw[e9];exact s0.ext s3);have ec:chg n (.rename nm o)=((n.renamed nm o no).led no:Nat):=by show((n.renamed nm o (Ao n nm)).led (Ao n nm):Int)=_;rw[e9]
   rw[ec] at q1;exact q1
  |join nm o=>
   obtain⟨d,xs,rfl,e5,rs⟩:=Bu rd;obtain⟨u,v,x,rfl,r1,r2,r3⟩:=EU rs;cases Bl r1;cases Bl r2;cases Bl r3;have hd:=sm _ _ e5;obtain⟨no,e⟩:=Pc br (.inr (.inl ⟨o,Z⟩));have h9:(if AH n.names nm=J then("no page" :Str) else if AH n.names o=J then "no page" else if nm=o then "same page" else "")="" :=br;rw[e,AF (by simp)] at h9
   cases e2:AH n.names o with
   |none=>rw[e2,AG Z] at h9;exact absurd h9 (by left)
   |some r5=>
   rw[e2,AF (by simp)] at h9;have a8:nm≠o:=λz=>by rw[AG z] at h9;exact absurd h9 (by left)
   have e9:Ao n nm=no:=by delta Ao;rw[e];rfl
   have r0:Ao n o=r5:=by delta Ao;rw[e2];rfl
   obtain⟨w1,h1,_⟩:=bd.b.text e;obtain⟨w2,h2,_⟩:=bd.b.text e2;have t0:Ba n no=w1:=by delta Ba;rw[h1];rfl
   have q9:Ba n r5=w2:=by delta Ba;rw[h2];rfl
   have nn:no≠r5:=λz=>a8 ((bd.b.same e2 e).mp z);have t4:=jl nm o Z;rw[e9,r0,t0,q9] at t4;have e6:=D7 nk.hn nm;rw[e] at e6;refine⟨_,Z,d,_,_,.str nm,Z,Z,AS.of hd,Z,?_⟩;refine IP Z hd (by left) ?_;refine⟨_,Z,a,_,Z,Dl nk.ha,_,Z,an,_,Z,e6,?_⟩;refine IP Z hd (by left) ?_;refine Qy Z hd ?_;refine⟨_,Z,_,Z,_,Z,d,_,_,.str o,Z,Z,AS.of hd,Z,a,no,o,H0,n,r5,w1,w2,Z,⟨an,at_,tx,nk⟩,s4,e2,h1,h2,nn,t4,λH2 s0=>?_⟩;have es:N1 n (.join nm o)=n.joined no o r5 w1 w2:=by show n.joined (Ao n nm) o (Ao n o) (Ba n (Ao n nm)) (Ba n (Ao n o))=_;rw[e9,r0,t0,q9]
   have q1:=q H2 (by rw[es];exact s0);have ec:chg n (.join nm o)=((n.joined no o r5 w1 w2).led no:Nat):=by show((n.joined (Ao n nm) o (Ao n o) (Ba n (Ao n nm)) (Ba n (Ao n o))).led (Ao n nm):Int)=_;rw[e9,r0,t0,q9]
   rw[ec] at q1;exact q1
  |cut nm p o=>
   obtain⟨d,xs,rfl,e5,rs⟩:=Bu rd;obtain⟨u,v,x,y,rfl,r1,r2,r3,r4⟩:=QL rs;cases Bl r1;cases Bl r2;cases r3;cases Bl r4;have hd:=sm _ _ e5;obtain⟨no,e⟩:=Pc br (.inr (.inr (.inl ⟨p,o,Z⟩)));have e9:Ao n nm=no:=by delta Ao;rw[e];rfl
   obtain⟨w0,h0,_⟩:=bd.b.text e;have h9:(if Co o=vc then("no name" :Str) else if AH n.names o=J then(if p<0 then "no place" else if((w0.length:Nat):Int)<p then "no place" else "") else "taken")="" :=by have:=br;simp only[BH,e,h0] at this;exact this
   have a7:¬Co o=vc:=λz=>by rw[AG z] at h9;exact absurd h9 (by left)
   rw[AF a7] at h9;have ho:AH n.names o=J:=by
    cases eo:AH n.names o with
    |none=>rfl
    |some z=>rw[eo,AF (by simp)] at h9;exact absurd h9 (by left)
   rw[AG ho] at h9;have p0:¬p<0:=λz=>by rw[AG z] at h9;exact absurd h9 (by left)
   rw[AF p0] at h9;have p1:¬((w0.length:Nat):Int)<p:=λz=>by rw[AG z] at h9;exact absurd h9 (by left)
   have e6:=D7 nk.hn nm;rw[e] at e6;refine⟨_,Z,d,_,_,.str nm,Z,Z,AS.of hd,Z,?_⟩;refine IP Z hd (by left) ?_;refine⟨_,Z,a,_,Z,Dl nk.ha,_,Z,an,_,Z,e6,?_⟩;refine IP Z hd (by left) ?_;refine IP Z hd (by left) ?_;refine Qy Z hd ?_;refine⟨_,Z,_,Z,d,_,_,.str o,Z,Z,AS.of hd,Z,a,o,H0,n,Z,⟨an,at_,tx,nk⟩,s4,tl,Wq bd.b,λH1 e4=>?_⟩;obtain⟨q2,e7,h4,k1⟩:=e4;have q0:=k1.same _ _ e5;have b7:=bd.b.added bd.h0 ho;have a0:no≠n.made:=by have:=(bd.b.EE (BJ e)).2;lia
   have hw:AH (n.added o).texts no=U (w0.map (CQ o n.made)):=by rw[NL,AF a0,h0];rfl
   have q3:(w0.map (CQ o n.made)).length=w0.length:=AI .. ;generalize w0.map (CQ o n.made)=ws at hw q3;obtain⟨l1,h3,g1,q7,DM,t1,r6⟩:=k1.find b7.CF hw;have d1:BN H1 e7 (.int no) (U (.ref l1)):=by have:=BN.kq (k:=.inl no) k1.ht;rw[D6 Ei,g1] at this;exact this
   have c0:0<=p:=by lia
   have c1:p<=(h3.map V.ref).length:=by rw[AI];lia
   have zl:h3.length<=100000:=by
    have:=s4.words _ (BJ h0);dsimp only at this
    lia
   have LF:h4.length<=1000:=by
    have h1:=k1.len;have h2:(n.added o).texts.length<=n.texts.length+1:=by show((AW n.texts n.made []).map _).length<=_;rw[AI];exact HW ..
    lia
   refine⟨_,Z,a,_,Z,Fv k1.ha,_,Z,e7,_,Z,d1,?_⟩;refine⟨_,Z,_,Z,d,_,_,.int p,Z,Z,AS.of q0,Z,_,Z,l1,_,Z,AL.of q7,λl3 b3=>?_⟩;rw[XX c0 c1,<-PD];have s3:=Ag (o:=.lst ((h3.drop p.toNat).map V.ref)) b3;have k2:=k1.ext s3;have r8:(upd H1 l3 (.lst ((h3.drop p.toNat).map V.ref))) l3=U (.lst ((h3.drop p.toNat).map V.ref)):=AN;have r9:=s3 _ _ q7;have at2:=λj w wd (e1:h3[j]? =U w)(e2:ws[j]? =U wd)=>s3 _ _ (t1 j w wd e1 e2);generalize upd H1 l3 (.lst ((h3.drop p.toNat).map V.ref))=H2 at k2 r8 r9 at2;have dp:=DO.kq (k:=.inl n.made) (v:=.ref l3) k2.ht (by show(h4.map _).length<_;rw[AI,BA];lia);have e3:putK (CU h4) (.inl n.made) (.ref l3)=CU (AW h4 n.made (l3,h3.drop p.toNat)):=Ii (g:=λp:OK×List OK=>V.ref p.1) Ei n.made (l3,h3.drop p.toNat) h4;rw[e3] at dp;refine⟨_,Z,a,_,Z,Fv k2.ha,_,Z,e7,_,Z,dp,?_⟩;have k3:=k2.OG n.made (l:=l3) (ws:=h3.drop p.toNat) (Cb:=ws.drop p.toNat) r8 (by rw[EK,EK,DM]) (λj w wd f1 f2=>by
    rw[LM] at f1 f2;exact at2 _ w wd f1 f2) (λw q5=>r6 w (LK q5));have keep:∀b xs,H2 b=U (.lst xs)->(upd H2 e7 (.dK (CU (AW h4 n.made (l3,h3.drop p.toNat))))) b=U (.lst xs):=λb xs f=>by
    rw[AO (CN f k2.ht (by intro z;cases z))];exact f
   have s9:=keep _ _ r9;have t8:=λj w wd (e1:h3[j]? =U w)(e2:ws[j]? =U wd)=>keep _ _ (at2 j w wd e1 e2);generalize upd H2 e7 (.dK (CU (AW h4 n.made (l3,h3.drop p.toNat))))=H3 at k3 s9 t8;have t6:=k3.same _ _ e5;refine⟨_,Z,_,Z,d,_,_,.int p,Z,Z,AS.of t6,Z,_,Z,l1,_,Z,AL.of s9,λl5 b2=>?_⟩;rw[Zn c0 c1,<-PB];have s5:=Ag (o:=.lst ((h3.take p.toNat).map V.ref)) b2;have h5:(upd H3 l5 (.lst ((h3.take p.toNat).map V.ref))) l5=U (.lst ((h3.take p.toNat).map V.ref)):=AN;generalize upd H3 l5 (.lst ((h3.take p.toNat).map V.ref))=H5 at s5 h5;refine⟨_,Z,d,_,_,.str o,Z,Z,AS.of (s5 _ _ t6),Z,_,Z,by exact zv,λwq t5=>⟨by exact zx,λl6 b1=>?_⟩⟩;have s6:=Ag (o:=.lst (⟨Y,o,n.made⟩:Wd).vq) t5;have h6:(upd H5 wq (.lst (⟨Y,o,n.made⟩:Wd).vq)) wq=U (.lst (⟨Y,o,n.made⟩:Wd).vq):=AN;have a6:H0 wq=J:=k3.same.free (s5.free t5);have q6:(upd H5 wq (.lst (⟨Y,o,n.made⟩:Wd).vq)) l6=J:=b1;show∃_,_;have s7:=Ag (o:=.lst [V.ref wq]) q6;have h7:(upd (upd H5 wq (.lst (⟨Y,o,n.made⟩:Wd).vq)) l6 (.lst [V.ref wq])) l6=U (.lst [V.ref wq]):=AN;refine⟨l5,l6,(h3.take p.toNat).map V.ref,[V.ref wq],Z,Z,(s6.trans s7) _ _ h5,h7,by rw[AI,Bk,BA,Ey];lia,λl8 b0=>?_⟩;have s8:=Ag (o:=.lst ((h3.take p.toNat).map V.ref++[V.ref wq])) b0;have q4:=s5.trans (s6.trans (s7.trans s8));have k8:=k3.ext q4;have h8:(upd (upd (upd H5 wq (.lst (⟨Y,o,n.made⟩:Wd).vq)) l6 (.lst [V.ref wq])) l8 (.lst ((h3.take p.toNat).map V.ref++[V.ref wq]))) l8=U (.lst ((h3.take p.toNat).map V.ref++[V.ref wq])):=AN;have a5:=(s7.trans s8) _ _ h6;have b8:=λj w wd (e1:h3[j]? =U w)(e2:ws[j]? =U wd)=>q4 _ _ (t8 j w wd e1 e2);have r7:=q4 _ _ s9;have t7:=DO.kq (k:=.inl no) (v:=.ref l8) k8.ht (by
    show((AW h4 n.made (l3,h3.drop p.toNat)).map _).length<_;rw[AI,BA];have:=HW h4 n.made (l3,h3.drop p.toNat)
    lia);have e8:putK (CU (AW h4 n.made (l3,h3.drop p.toNat))) (.inl no) (.ref l8)=CU (AW (AW h4 n.made (l3,h3.drop p.toNat)) no (l8,h3.take p.toNat++[wq])):=Ii (g:=λp:OK×List OK=>V.ref p.1) Ei no (l8,h3.take p.toNat++[wq]) _;rw[e8] at t7;refine⟨_,Z,a,_,Z,Fv k8.ha,_,Z,e7,_,Z,t7,?_⟩;have k9:=k8.OG no (l:=l8) (ws:=h3.take p.toNat++[wq]) (Cb:=ws.take p.toNat++[⟨Y,o,n.made⟩]) (by rw[BL];exact h8) (by rw[A9,A9,Bk,Bk,DM];rfl) (λj w wd f1 f2=>by
    by_cases hj:j<(h3.take p.toNat).length
    .rw[DH hj] at f1;rw[DH (by rw[Bk] at hj⊢;lia)] at f2;rw[RP] at f1 f2;split at f1
     .rename_i hjp;rw[AG hjp] at f2;exact b8 j w wd f1 f2
     .cases f1
    .have b4:j<(h3.take p.toNat++[wq]).length:=(BP.mp f1).1;rw[A9,Ey] at b4;obtain rfl:j=(h3.take p.toNat).length:=by lia
     have el:(h3.take p.toNat).length=(ws.take p.toNat).length:=by rw[Bk,Bk,DM]
     rw[C6 (Ac _),FQ] at f1;rw[C6 (by lia),el,FQ] at f2;cases AZ f1;cases AZ f2;exact a5) (λw q5=>(Be.mp q5).elim (λz=>r6 w (GX z)) λz=>by rw[BW.mp z];exact a6);have b5:=k9.same _ _ e5;have a9:(upd (upd (upd (upd H5 wq (.lst (⟨Y,o,n.made⟩:Wd).vq)) l6 (.lst [V.ref wq])) l8 (.lst ((h3.take p.toNat).map V.ref++[V.ref wq]))) e7 (.dK (CU (AW (AW h4 n.made (l3,h3.drop p.toNat)) no (l8,h3.take p.toNat++[wq]))))) l1=U (.lst (h3.map V.ref)):=by
    rw[AO (CN r7 k8.ht (by intro z;cases z))];exact r7
   refine⟨_,Z,l1,_,Z,.inl (AL.of a9),_,Z,d,_,_,.int p,Z,Z,AS.of b5,Z,_,_,Z,Z,?_⟩;have ew:Ba (n.added o) no=ws:=by delta Ba;rw[hw];rfl
   have es:N1 n (.cut nm p o)=((n.added o).Cp n.made (ws.drop p.toNat)).Cp no (ws.take p.toNat++[⟨Y,o,n.made⟩]):=by show n.IM (Ao n nm) p.toNat o=_;rw[e9];delta Nk.IM;rw[hw];rfl
   have q1:=q _ (by rw[es];exact⟨q2,e7,_,k9⟩);have ec:chg n (.cut nm p o)=(((h3.map V.ref).length:Nat):Int)-p:=by show((Ba (n.added o) (Ao n nm)).length:Int)-p=_;rw[e9,ew,AI,DM]
   rw[ec] at q1;exact q1
  |drop nm=>
   obtain⟨d,xs,rfl,e5,rs⟩:=Bu rd;obtain⟨u,v,rfl,r1,r2⟩:=Gn rs;cases Bl r1;cases Bl r2;have hd:=sm _ _ e5;obtain⟨no,e⟩:=Pc br (.inr (.inr (.inr Z)));have e9:Ao n nm=no:=by delta Ao;rw[e];rfl
   have e6:=D7 nk.hn nm;rw[e] at e6;obtain⟨w1,h1,_⟩:=bd.b.text e;refine⟨_,Z,d,_,_,.str nm,Z,Z,AS.of hd,Z,?_⟩;refine IP Z hd (by left) ?_;refine⟨_,Z,a,_,Z,Dl nk.ha,_,Z,an,_,Z,e6,?_⟩;refine IP Z hd (by left) ?_;refine IP Z hd (by left) ?_;refine IP Z hd (by left) ?_;refine⟨_,Z,_,Z,a,no,H0,n,Z,⟨an,at_,tx,nk⟩,s4,λH1 s1=>?_⟩;have e4:=nk.ext s1;obtain⟨l1,h3,g1,q7,_⟩:=e4.find s4.CF h1;have v2:BU (CU tx) (.inl no)=U (.ref l1):=by rw[D6 Ei,g1];rfl
   refine⟨_,Z,a,_,Z,Fv e4.ha,at_,Z,.inl ⟨_,.inl e4.ht⟩,_,Z,_,.inl no,_,e4.ht,Z,v2,?_⟩;rw[KU Ei];have s0:=e4.QK no;generalize upd H1 at_ (.dK (CU (AQ tx no)))=H2 at s0;have v1:BU (Fs n.names) (.inr nm)=U (.int no):=by rw[D6 EN,e];rfl
   refine⟨_,Z,a,_,Z,Dl s0.ha,an,Z,.inl ⟨_,.inl s0.hn⟩,_,Z,_,.inr nm,_,s0.hn,Z,v1,?_⟩;rw[KU EN];have t3:=s0.putN (AQ n.names nm);generalize upd H2 an (.dK (Fs (AQ n.names nm)))=H3 at t3;refine⟨_,Z,_,Z,_,Z,_,Z,a,no,nm,-1,H0,_,Z,⟨an,at_,_,t3⟩,(s4.QK no).UT nm,λH4 a2=>⟨_,Z,?_⟩⟩;have q1:=q H4 (by show CC H0 H4 a (n.dropped nm (Ao n nm));rw[e9];exact a2);have ec:chg n (.drop nm)=(n.led no:Nat):=by show(n.led (Ao n nm):Int)=_;rw[e9]
   rw[ec] at q1;exact q1
  |text nm=>cases na
  |back nm=>cases na
  |find ws c3=>cases na
def ji{out:List Dt}{d:Dt}(c:CI H1 D out H)(r:Rep (Ex H D) d y)(hl:out.length<10000000):∃ys,H D=U (.lst ys)/\ys.length<sizeLine/\CI H1 D (out++[d]) (upd H D (.lst (ys++[y]))):=by
 obtain⟨ys,h,rr⟩:=c.lst;refine⟨ys,h,?_,c.same.upd c.fr,c.fr,ys++[y],AN,?_⟩
 .have:=rr.1;rw[BA]
  lia
 .rw[Ex.upd];exact rr.snoc r
def C0(n:Nk)(nm:Str)(w:Wd):List Tr:=if w.to=Y then[(nm,Txt.slice (shown n.names w) (U 1) (U (-1)),!decide (V.int w.no=V.int (-1)))] else[]
def Gu(n:Nk)(nm:Str):List Tr:=(Ba n (Ao n nm)).flatMap (C0 n nm)
def UM(n:Nk):List Tr:=(He (n.names.map (·.1))).flatMap (Gu n)
def Yd:Sp:=λvs H Q _=>∃(a:OK)(H0:Hp)(n:Nk),vs=[.ref a]/\CC H0 H a n/\Fits n/\Bd n/\n.names.length<64/\∀u H',AM H H'->Rep H' (.lst ((UM n).map JA)) u->Q u H'
def iP{n:Nk}(fit:Fits n)(nm:Str):(Gu n nm).length<=100000:=by
 delta Gu Ba;have h:∀ws:List Wd,(ws.flatMap (C0 n nm)).length<=ws.length:=by
  intro ws
  induction ws with
  |nil=>simp
  |cons w ws ih=>
   rw[M0,A9,Bw];have:(C0 n nm w).length<=1:=by delta C0;split<;>simp
   lia
 refine BI (h _) ?_
 cases e:AH n.texts (Ao n nm) with
 |none=>simp
 |some ws=>exact fit.words _ (BJ e)
theorem WW{n:Nk}(fit:Fits n):∀ys:List Str,(ys.flatMap (Gu n)).length<=ys.length*100000
 |[]=>by simp
 |y::ys=>by
  have h1:=iP fit y;have h2:=WW fit ys;rw[M0,A9,Bw,Nat.succ_mul]
  lia
def P0:A3 ["_law_nook","_law_rows","_law_name","_law_word"] ["_law_nook"] (Aq SR):=by left
def i5(F:Ak K "_law_pointers" "_law_pointers" SR f fd)(O:Own mg)(hso:mg "sorted" =J)
 (HSh:Hv P w K mg base "_law_shown" 2 ["_law_nook","_law_word"] Td):AX P w K mg base Ai 3 f fd ["_law_nook"] Yd:=by
 refine F.ok P0 ?_ ?_
 .rintro _ _ _ _ ⟨_,_,_,rfl,_⟩;rfl
 .rintro _ A _ s H _ Q E hr ⟨a,H0,n,rfl,⟨an,s8,tx,nk⟩,h4,bd,t1,q⟩;have h7:=CZ hr;refine⟨_,(AU (Ax (i:=1) P0.nd Z (AY Z) (CY AJ))
   (AU (DC C8 Z (EX (Bh SH Z hso Ld (AE (E3 (JY Z) Z O.lst F1 (AE (By h7 (pv 0)) AJ)) AJ))) (Bg (i:=2) P0.nd Z (AY Z))
    (AR (DC C8 Z (EX (DB h7 (By h7 (pv 0)) (DB h7 (By h7 (pv 0)) (pv 2) (λ_ _=>rfl)) (λ_ _=>rfl))) (Bg (i:=3) P0.nd Z (AY Z))
     (AR (Ay (As BQ (ED (pv 3)) Ab (Am _))
      (AR (Bq (Ea D4 Ew Eu EM (pv 1) (AE (Cm (AE (pv 2) (AE (F0 Kh (Cj HSh hr Z BF (AE (pv 0) (AE (pv 3) AJ))) (DY Aa) (DY (Du Dr Aa))) (AE (IB Gp (ED (pv 3)) (Du Dr Aa) (Am _)) AJ)))) AJ)))) BC)))))
   (AR (An (pv 1))))),?_⟩;refine⟨by exact zy,λtl r3=>?_⟩;have c0:CI H tl ((([]:List Tr)).map JA) (upd H tl (.lst [])):=CI.start r3;have s1:AM H (upd H tl (.lst [])):=Ag r3;generalize upd H tl (.lst [])=H1 at s1 c0;have r1:=nk.ext s1;refine⟨_,Z,a,_,Z,Dl r1.ha,an,_,Z,r1.hn,λld q8=>?_⟩;have ek:((Fs n.names).map λkv=>kV kv.1)=(n.names.map (·.1)).map V.str:=by
   show(n.names.map _).map _=_;rw[Bf,Bf];rfl
  rw[ek];have s2:=Ag (o:=.lst ((n.names.map (·.1)).map V.str)) q8;have h2:(upd H1 ld (.lst ((n.names.map (·.1)).map V.str))) ld=U (.lst ((n.names.map (·.1)).map V.str)):=AN;have c2:=c0.ext s2;generalize upd H1 ld (.lst ((n.names.map (·.1)).map V.str))=H2 at s2 h2 c2;refine⟨ld,n.names.map (·.1),Z,AL.of h2,by rw[AI];exact t1,λDs ys r5 hp hs=>?_⟩;have ey:ys=He (n.names.map (·.1)):=Kg ES hp hs;have s3:=Ag (o:=.lst (ys.map V.str)) r5;have h3:(upd H2 Ds (.lst (ys.map V.str))) Ds=U (.lst (ys.map V.str)):=AN;have c3:=c2.ext s3;have q2:Ds≠tl:=by obtain⟨zz,hz,_⟩:=c2.lst;exact(A8 hz r5).symm
  generalize upd H2 Ds (.lst (ys.map V.str))=H3 at s3 h3 c3;refine⟨Ds,Z,⟨_,AL.of h3⟩,HN (K:=[]) (a:=Ds) (xs:=ys.map V.str) (λi S H'=>∃v2 v3:Option V,S=[U (.ref a),U (.ref tl),v2,v3]/\CI H tl (((ys.take i).flatMap (Gu n)).map JA) H'/\H' Ds=U (.lst (ys.map V.str)))
   ⟨J,J,Z,c3,h3⟩ (λi S H' _ ⟨_,_,_,_,h⟩=>AL.of h) ?_ ?_⟩
  .rintro i y S H' h9 ⟨v2,v3,rfl,c,hD⟩;rw[A1] at h9
   cases ez:ys[i]?with
   |none=>rw[ez] at h9;cases h9
   |some z=>
   rw[ez] at h9;obtain rfl:V.str z=y:=AZ h9;have zk:z∈n.names.map (·.1):=hp.mem_iff.mp (Bv ez);obtain⟨no,e9⟩:=NT zk;have t2:Ao n z=no:=by delta Ao;rw[e9];rfl
   obtain⟨ws,h0,_⟩:=bd.b.text e9;have ew:Ba n no=ws:=by delta Ba;rw[h0];rfl
   have h6:=nk.ext c.same;obtain⟨l1,h5,g1,r4,DM,a0,q1⟩:=h6.find h4.CF h0;have r7:=D7 h6.hn z;rw[e9] at r7;have d1:BN H' s8 (.int no) (U (.ref l1)):=by have:=BN.kq (k:=.inl no) h6.ht;rw[D6 Ei,g1] at this;exact this
   have r9:=h4.words _ (BJ h0);have t6:ws.length<=100000:=r9;have f1:=WW h4 (ys.take i);have f2:=Ef i ys;have f3:=hp.length_eq;rw[AI] at f3;have f4:(ys.take i).length*100000<=63*100000:=Ve _ (by lia);refine⟨_,Z,a,_,Z,Fv h6.ha,_,Z,a,_,Z,Dl h6.ha,_,Z,an,_,Z,r7,s8,_,Z,d1,?_⟩;refine⟨l1,Z,⟨_,AL.of r4⟩,HN (K:=[]) (a:=l1) (xs:=h5.map V.ref) (λj S e3=>∃v3:Option V,S=[U (.ref a),U (.ref tl),U (.str z),v3]/\CI H tl ((((ys.take i).flatMap (Gu n))++(ws.take j).flatMap (C0 n z)).map JA) e3/\e3 Ds=U (.lst (ys.map V.str))/\e3 l1=U (.lst (h5.map V.ref)))
    ⟨v3,Z,by rw[KL,List.flatMap_nil,CW];exact c,hD,r4⟩ (λj S e3 _ ⟨_,_,_,_,h⟩=>AL.of h) ?_ ?_⟩
   .rintro j y S H4 h8 ⟨v3,rfl,c4,e1,s0⟩;rw[A1] at h8
    cases ea:h5[j]?with
    |none=>rw[ea] at h8;cases h8
    |some aw=>
    rw[ea] at h8;obtain rfl:V.ref aw=y:=AZ h8;have hj:j<ws.length:=by rw[<-DM];exact(BP.mp ea).1
    have e2:ws[j]? =U ws[j]:=Ar hj;generalize ws[j]=wd at e2;have r0:=nk.ext c4.same;obtain⟨l4,r8,g4,q9,Ul,t4,_⟩:=r0.find h4.CF h0;rw[g1] at g4;have e4:=AZ g4;have t3:h5=r8:=(JX e4).2;have s4:H4 aw=U (.lst wd.vq):=t4 j aw wd (by rw[<-t3];exact ea) e2;have r6:(ws.take (j+1)).flatMap (C0 n z)=(ws.take j).flatMap (C0 n z)++C0 n z wd:=by rw[Cf,e2,Vm];show _++((C0 n z wd)++[])=_;rw[CW]
    refine⟨_,Z,aw,_,_,.str (if wd.to then "to" else "word"),Z,Z,AL.of s4,Z,Z,_,Z,?_⟩
    cases e8:wd.to with
    |false=>
     refine Bi (by intro z;exact absurd (V.str.inj z) (by left)) ?_;refine⟨_,Z,?_,e1,s0⟩;have ep:C0 n z wd=[]:=by delta C0;rw[e8];rfl
     rw[r6,ep,CW];exact c4
    |true=>
     have ep:C0 n z wd=[(z,Txt.slice (shown n.names wd) (U 1) (U (-1)),!decide (V.int wd.no=V.int (-1)))]:=by delta C0;rw[e8];rfl
     have q0:wd.nm.length<=2000:=by
      have h1:=bd.wl _ (BJ h0) wd (Bv e2)
      lia
     have s9:∀p∈n.names,p.1.length<=2000:=λp q6=>by have:=bd.nm p q6;lia
     have t7:(shown n.names wd).length<=2100:=by
      have l1:("[" :Str).length=1:=by left
      have l2:("]" :Str).length=1:=by left
      have t8:(nameOf n.names wd.no).length<=2000:=by
       delta nameOf
       cases ef:n.names.find? λp=>decide (p.2=wd.no) with
       |none=>show("" :Str).length<=2000;decide+kernel
       |some pp=>exact s9 pp (RC ef)
      delta shown;rw[e8,AG Z];split
      .rw[FJ,FJ];lia
      .rw[FJ,FJ];lia
     obtain⟨z4,q5,_⟩:=c4.lst;refine Bj Z ⟨_,Z,.inl ⟨Z,_,AL.of q5⟩,_,Z,_,Z,_,Z,a,aw,wd,H0,n,Z,⟨an,s8,tx,r0⟩,h4,s4,q0,s9,λH5 s5=>?_⟩;refine⟨_,Z,_,Z,_,Z,shown n.names wd,Z,by rw[BA];lia,_,Z,aw,_,_,.int wd.no,Z,Z,AL.of (s5 _ _ s4),Z,_,Z,Z,by exact zv,λtp r2=>?_⟩;have st:=Ag (o:=.tup [.str z,.str (Txt.slice (shown n.names wd) (U 1) (U (-1))),.bl (!decide (V.int wd.no=V.int (-1)))]) r2;have c6:=(c4.ext s5).ext st;have s6:=s5.trans st;have nt:tp≠tl:=by obtain⟨z5,q4,_⟩:=(c4.ext s5).lst;exact(A8 q4 r2).symm
     have e7:((((ys.take i).flatMap (Gu n))++(ws.take j).flatMap (C0 n z)).map JA).length<10000000:=by
      have t9:((ws.take j).flatMap (C0 n z)).length<=100000:=by
       have s7:∀vs:List Wd,(vs.flatMap (C0 n z)).length<=vs.length:=by
        intro vs
        induction vs with
        |nil=>simp
        |cons w' vs ih=>
         rw[M0,A9,Bw];have:(C0 n z w').length<=1:=by delta C0;split<;>simp
         lia
       have:=s7 (ws.take j);have h2:=Ef j ws
       lia
      rw[AI,A9]
      lia
     obtain⟨z6,q3,q7,c7⟩:=ji c6 (d:=JA (z,Txt.slice (shown n.names wd) (U 1) (U (-1)),!decide (V.int wd.no=V.int (-1)))) (y:=.ref tp) (mK (Ex.at AN nt)) e7;refine⟨tl,z6,_,Z,Z,q3,q7,_,Z,?_,?_,?_⟩
     .rw[r6,ep,<-Bt,BL];exact c7
     .rw[AO q2];exact s6 _ _ e1
     .have h1:=s6 _ _ s0;have nl:l1≠tl:=by obtain⟨l0,t5,g0,t0,_⟩:=nk.find h4.CF h0;rw[g1] at g0;have e0:l1=l0:=(JX (AZ g0)).1;rw[e0];exact A8 t0 c.fr
      rw[AO nl];exact h1
   .rintro S H4 ⟨v3,rfl,c4,e1,s0⟩;have e6:h5.length=ws.length:=DM;rw[AI,e6,CH] at c4;refine⟨_,_,Z,?_,e1⟩;have e5:((ys.take (i+1)).flatMap (Gu n))=(ys.take i).flatMap (Gu n)++ws.flatMap (C0 n z):=by rw[Cf,ez,Vm];show _++((Gu n z)++[])=_;delta Gu;rw[CW,t2,ew]
    rw[e5];exact c4
  .rintro S H' ⟨v2,v3,rfl,c,hD⟩;rw[AI,CH] at c;refine⟨_,Z,q _ _ c.same ?_⟩;have:=c.done;rw[ey] at this;exact this
def fA{n:Nk}(h:Bd n)(hws:AH n.texts no=U ws):ws.map (shown n.names)=(Af n no).map Cu:=by
 have e:Af n no=ws.map (sh n.names):=by delta Af;rw[hws];rfl
 rw[e,Bf];refine EI λw hw=>?_;obtain⟨nm,hn⟩:=h.b.own (no,ws) (BJ hws);obtain⟨h1,h0,ok⟩:=h.b.text (Fy h.b.CO hn);rw[show AH n.texts (no,ws).1=U ws from hws] at h0;cases AZ h0;show shown n.names w=Cu (sh n.names w)
 cases ht:w.to with
 |false=>rw[E5 ht];delta shown Cu;rw[ht,AF Ck,AF (show¬("word" :Str)="to" by left)]
 |true=>
  rcases ok w hw ht with⟨hl,_⟩|⟨x,hx⟩
  .rw[E4 ht hl];delta shown Cu;rw[AG ht,AG hl,AG Z]
  .have hn:w.no≠-1:=by have:=h.b.EE hx;lia
   rw[EV h.b.inj ht hn hx];delta shown Cu;rw[AG ht,AF hn,SX h.b.inj hx,AG Z]
def Z7:Sp:=λvs H Q _=>∃(a:OK)(nm:Str)(no:Int)(H0:Hp)(n:Nk),vs=[.ref a,.str nm]/\CC H0 H a n/\Fits n/\Bd n/\AH n.names nm=U no/\wsum (Af n no)<=4000000/\∀H',AM H H'->Q (.str (QH (Af n no))) H'
def aH:A3 ["_law_nook","_law_name","_law_words"] ["_law_nook","_law_name"] (Aq TN):=by left
def nM(F:Ak K "_law_text_of" "_law_text_of" TN f fd)
 (HSh:Hv P w K mg base "_law_shown" 2 ["_law_nook","_law_word"] Td):AX P w K mg base Ai 3 f fd ["_law_nook","_law_name"] Z7:=by
 refine F.ok aH ?_ ?_
 .rintro _ _ _ _ ⟨_,_,_,_,_,rfl,_⟩;rfl
 .rintro _ A _ s H _ Q E hr ⟨a,nm,no,H0,n,rfl,⟨an,h5,tx,nk⟩,h9,bd,h7,hw,q⟩;have h0:=CZ hr;refine⟨_,AU (Ax (i:=2) aH.nd Z (AY Z) (DB h0 (By h0 (pv 0)) (DB h0 (By h0 (pv 0)) (pv 1) (λ_ _=>rfl)) (λ_ _=>rfl)))
   (AR (An (Ea Ml vZ va YH Ab (AE (E6 (ts:=["_law_word"]) (cap:=["_law_nook"]) (ix:=[0]) (Jb Z Z (by left) (by left) Z Z Z Z Z) (EX (pv 2))
    (λ_ _ _ _ _=>Bg (i:=0) (IS (by left)) Z (AY Z) (Cn Z)) (λ_ _ _ _ _=>HX) (λ_ _ _ _ _=>Cj HSh hr Z BF (AE (pv 1) (AE (pv 0) AJ)))) AJ)))),?_⟩;obtain⟨ws,h4,_⟩:=bd.b.text h7;obtain⟨l1,h6,g1,h8,DM,e8,e5⟩:=nk.find h9.CF h4;have e1:=D7 nk.hn nm;rw[h7] at e1;have d1:BN H h5 (.int no) (U (.ref l1)):=by
   have:=BN.kq (k:=.inl no) nk.ht;rw[D6 Ei,g1] at this;exact this
  refine⟨_,Z,a,_,Z,Fv nk.ha,_,Z,a,_,Z,Dl nk.ha,_,Z,an,_,Z,e1,h5,_,Z,d1,?_⟩;have e0:=fA bd h4;have el:(Af n no).length=ws.length:=by have:=A2 List.length e0;rw[AI,AI] at this;lia
  have e9:=Ll (Af n no);refine⟨Z,_,Z,l1,Z,⟨_,AL.of h8⟩,λD hD=>Gf (xs:=h6.map V.ref) (λi H'=>CI H D (((ws.take i).map (shown n.names)).map Dt.str) H') (CI.start hD) (λi H' _ c=>AL.of (c.same _ _ h8)) (λi x H' ex c=>?_) λH' c=>?_⟩
  .rw[A1] at ex
   cases ea:h6[i]?with
   |none=>rw[ea] at ex;cases ex
   |some aw=>
   rw[ea] at ex;obtain rfl:V.ref aw=x:=AZ ex;have hj:i<ws.length:=by rw[<-DM];exact(BP.mp ea).1
   have h3:ws[i]? =U ws[i]:=Ar hj;generalize ws[i]=wd at h3;have e4:=nk.ext c.same;have e7:H' aw=U (.lst wd.vq):=c.same _ _ (e8 i aw wd ea h3);have e2:wd.nm.length<=2000:=by
    have h1:=bd.wl _ (BJ h4) wd (Bv h3)
    lia
   have e3:∀p∈n.names,p.1.length<=2000:=λp e6=>by have:=bd.nm p e6;lia
   refine⟨Ff,_,Z,_,Z,a,aw,wd,H0,n,Z,⟨an,h5,tx,e4⟩,h9,e7,e2,e3,λH5 s5=>?_⟩;rw[KN (f:=shown n.names) h3,BL];refine(c.ext s5).push (.str _) ?_;have h2:=Ef i ws;rw[AI,AI]
   lia
  .rw[AI,DM,CH,e0] at c;obtain⟨ys,hy,ry⟩:=c.lst;have lb:(" " :Str).length=1:=by left
   refine⟨" ",D,(Af n no).map Cu,Z,Z,AL.of (by rw[hy,KY ry]),?_,?_,q _ c.same⟩
   .have:=Sn (" " :Str).length (by lia) (Af n no) 0;rw[BA]
    lia
   .have:=Yg (g:=" ") (by lia) (Af n no);rw[BA]
    lia
def Hg:DU X (.builtin "isinstance") (λxs H Q=>∃x c t b,xs=[x,.ty c]/\(∀K:vH,Bp K H x t)/\(∀K:vH,uL K t (.type c)=U b)/\Q (.bl b) H):=
 λ_ _ _ _ _ _ _ I r ⟨x,c,t,b,e,y,k,z⟩=>jN _ _ _ _ _ _ _ I r ⟨x,c,t,b,e,y _,k _,z⟩
def pj:DU X (.builtin "isinstance") (λxs H Q=>∃(x:V)(p:OK)(cs:List String)(t:AB)(b:Bool),xs=[x,.ref p]/\H p=U (.tup (cs.map V.ty))/\(∀K:vH,Bp K H x t)/\(∀K:vH,kitAny K t (cs.map Value.type)=U b)/\Q (.bl b) H):=
 λ_ _ _ _ _ _ _ I r ⟨x,p,cs,t,b,e,h,y,k,z⟩=>fe _ _ _ _ _ _ _ I r ⟨x,p,cs,t,b,e,h,y _,k _,z⟩
def bY:Hk X (rR []):=Cv.or (Ql.or QB)
section
variable{o:hY}{to:TE}{id:String}
def qN(pa:uR T)(slot:Slot T name id)(hty:typeOf (.builtin id)=pure (.type "method_descriptor"))(hm:OX X id r)(ho:PE X o to)
 (hbase:sr o name X.env (sd o X.env)=sd o X.env:=by rfl)(hline:(apos.endLine==cpos.line)=Y:=by rfl):PE X (.Call (.Attribute o name apos) [] [] cpos) (ay [] T r to):=
 λh0 s S H Q I h=>Ny pa slot hty hm ho.mc hbase hline h0 s S H Q I ⟨_,h,λ_ _ ⟨y,z⟩=>⟨bU y,z⟩⟩
def qp(hu:X.A.units<tE):CD X (sZ .NotEq) (λx y H Q=>∃a b xs,x=.ref a/\y=.ref b/\AL [] H a xs/\AL [] H b []/\Q (.bl (!xs.isEmpty)) H):=
 λ_ _ _ _ _ _ _ _ _ I r r' ⟨p,b,xs,e,e',q,q',z⟩=>fZ hu _ _ _ _ _ _ _ _ _ I r r' ⟨p,b,xs,e,e',F8 q,F8 q',z⟩
end
abbrev U4:hX:=ZN
abbrev ak:hX:=cW
def ba:Sp:=λvs H Q _=>∃(x y:V)(d:Dt),vs=[x,y]/\Rep H d x/\Rep H d y/\d.sz<=1000000/\∀H',AM H H'->Q (.bl Y) H'
def bQ:Sp:=λvs H Q _=>∃i:Int,vs=[.int i]/\Q (.bl Y) H
def qP:A3 ["_law_found"] ["_law_found"] (Aq U4):=by left
def pU(F:Ak K "_law_whole" "_law_whole" U4 f fd)(O:Own mg):AX P w K mg base Ai 1 f fd ["_law_found"] bQ:=by
 refine F.ok qP ?_ ?_
 .rintro _ _ _ _ ⟨_,rfl,_⟩;rfl
 .rintro _ A _ s H _ Q E hr ⟨i,rfl,k⟩;refine⟨_,AR (An (P7 (Bh Hg Z O.Gw Gk (AE (pv 0) (AE (F2 (v:=.ty "int") Z O.int L6 Z) AJ)))
   (QC (nF (Bh Hg Z O.Gw Gk (AE (pv 0) (AE (F2 (v:=.ty "bool") Z O.bl TH Z) AJ))))))),?_⟩;exact⟨_,Z,_,_,_,_,Z,(λ_=>Bp.int i),(λ_=>IC _),_,Z,Bs ⟨_,Z,_,_,_,_,Z,(λ_=>Bp.int i),(λ_=>Z4),_,Z,k⟩⟩
def Qg:A3 ["_law_found","_law_due","_law_todo","_law_pair","_law_k"] ["_law_found","_law_due"] (Aq ak):=by left
theorem oX{fW:OK}{fdW:sj}(F:Ak K "_law_alike" "_law_alike" ak f fd)(O:Own mg)(FW:Ak K "_law_whole" "_law_whole" U4 fW fdW)(bW:Binds K fdW ["_law_found"] [])(mW:mg "_law_whole" =U (.ref fW)):
 AX P w K mg base Ai 2 f fd ["_law_found","_law_due"] ba:=by
 have GW:AX P w K mg base Ai 1 fW fdW ["_law_found"] bQ:=pU FW O;refine F.ok Qg ?_ ?_
 .rintro _ _ _ _ ⟨_,_,_,rfl,_⟩;rfl
 .rintro _ A _ s H _ Q E hr ⟨x0,y0,d0,rfl,rx0,r9,q9,k⟩;have hu:=hr.Tv;refine⟨_,AU (Ax (i:=2) Qg.nd Z (AY Z) (CY (AE (Cm (AE (pv 0) (AE (pv 1) AJ))) AJ)))
   (AU (jR C8 (As (qp hu) (pv 2) (CY AJ) (Am _))
    (AU (Ax (i:=3) Qg.nd Z (AY Z) (qN D4 PySem.F.slot_list_pop PySem.F.type_list_pop mX (pv 2)))
    (AR (Ay (Ej (Bh pj Z O.Gw Gk (AE (A0 (pv 3)) (AE (Cm (AE (F2 (v:=.ty "list") Z O.lst F1 Z) (AE (F2 (v:=.ty "tuple") Z O.tup Sk Z) AJ))) AJ))))
     (AU (Ay (As Gp (Bh Hg Z O.Gw Gk (AE (A0 (pv 3)) (AE (F2 (v:=.ty "list") Z O.lst F1 Z) AJ))) (Bh Hg Z O.Gw Gk (AE (A0 (pv 3)) (AE (F2 (v:=.ty "list") Z O.lst F1 Z) AJ))) (Am _)) (AR (An IF)) BC)
     (AU (Ay (As Gp (Bh Hg Z O.Gw Gk (AE (A0 (pv 3)) (AE (F2 (v:=.ty "tuple") Z O.tup Sk Z) AJ))) (Bh Hg Z O.Gw Gk (AE (A0 (pv 3)) (AE (F2 (v:=.ty "tuple") Z O.tup Sk Z) AJ))) (Am _)) (AR (An IF)) BC)
     (AU (Ay (As Gp (Bh Gq Z O.len DX (AE (A0 (pv 3)) AJ)) (Bh Gq Z O.len DX (AE (A0 (pv 3)) AJ)) (Am _)) (AR (An IF)) BC)
     (AR (DC C8 Z (PV Z O.JI (AE (Bh Gq Z O.len DX (AE (A0 (pv 3)) AJ)) AJ)) (Bg (i:=4) Qg.nd Z (AY Z))
      (AR (Bq (Ea D4 Ew Eu EM (pv 2) (AE (Cm (AE (CK bY (A0 (pv 3)) (pv 4) (λ_ _=>rfl)) (AE (CK bY (A0 (pv 3)) (pv 4) (λ_ _=>rfl)) AJ))) AJ)))))))))
     (AR (Ay (Ej (Bh Hg Z O.Gw Gk (AE (A0 (pv 3)) (AE (F2 (v:=.ty "str") Z O.str Zf Z) AJ))))
      (AR (Ay (PW.pt (Iw (Ip (Ej (Bh Hg Z O.Gw Gk (AE (A0 (pv 3)) (AE (F2 (v:=.ty "str") Z O.str Zf Z) AJ))))) (Io (As Gp (A0 (pv 3)) (A0 (pv 3)) (Am _))))) (AR (An IF)) BC))
      (AR (Ay (Ej (Bh Hg Z O.Gw Gk (AE (A0 (pv 3)) (AE (F2 (v:=.ty "bool") Z O.bl TH Z) AJ))))
       (AR (Ay (PW.pt (Iw (Ip (Ej (Bh Hg Z O.Gw Gk (AE (A0 (pv 3)) (AE (F2 (v:=.ty "bool") Z O.bl TH Z) AJ))))) (Io (As Gp (A0 (pv 3)) (A0 (pv 3)) (Am _))))) (AR (An IF)) BC))
       (AR (Ay (PW.pt (Iw (Ip (Ej (Cs GW hr Z mW FW.kp bW .nil BF (AE (A0 (pv 3)) AJ)))) (Io (As Gp (A0 (pv 3)) (A0 (pv 3)) (Am _))))) (AR (An IF)) BC))))))))))
   (AR (An IF))),?_⟩;refine⟨_,Z,_,Z,by exact zw,λp0 r2=>⟨by exact zx,λt ht=>?_⟩⟩;have s8:p0≠t:=A8 AN ht;have s0:H t=J:=(Ag r2).free ht;refine⟨λm S H'=>∃(ps:List OK)(ds:List Dt)(v3 v4:Option V),S=[U x0,U y0,U (.ref t),v3,v4]/\H' t=U (.lst (ps.map V.ref))/\AM H H'/\m=Dt.Bz ds/\m<=1000000/\EZ H H' ds ps,
   ⟨Dt.Bz [d0],[p0],[d0],J,J,Z,AN,((AM.refl H).upd r2).upd s0,Z,by simp only[Dt.Bz];lia,?_⟩,?_⟩
  .refine EZ.snoc (ds:=[]) (ps:=[]) (x:=x0) (y:=y0) ⟨Z,λi d p e=>by simp at e⟩ ?_ rx0 r9;rw[AO s8,AN]
  rintro m S H' ⟨ps,ds,v3,v4,rfl,hT,sm,rfl,hm,st⟩;refine⟨_,Z,by exact zy,λq hq=>⟨t,q,_,Z,Z,AL.of (by rw[AO (A8 hT hq)];exact hT),AL.of AN,_,Z,?_⟩⟩;have s1:AM H' (upd H' q (.lst [])):=Ag hq;rcases List.eq_nil_or_concat ps with e|⟨h0,p,e⟩
  .subst e;refine BV ?_;exact k _ (sm.trans s1)
  rw[List.concat_eq_append] at e;subst e;obtain⟨h6,d,x,y,rfl,r8,hp,rx,ry⟩:=st.oA;have q7:t≠q:=A8 hT hq;have q8:p≠t:=CN hp hT (by intro z;cases z);have em:((h0++[p]).map V.ref)=h0.map V.ref++[V.ref p]:=by rw[BL];rfl
  have q4:(!((h0++[p]).map V.ref).isEmpty)=Y:=by rw[em];simp
  rw[q4];refine Bs ⟨λS' H2=>∃(ps:List OK)(ds:List Dt)(v3 v4:Option V),S'=[U x0,U y0,U (.ref t),v3,v4]/\H2 t=U (.lst (ps.map V.ref))/\AM H H2/\Dt.Bz ds<Dt.Bz (h6++[d])/\EZ H H2 ds ps,
   λS' H2 ⟨q0,r6,a3,a4,e1,e2,e3,e4,e5⟩=>⟨Dt.Bz r6,e4,q0,r6,a3,a4,e1,e2,e3,Z,by lia,e5⟩,?_⟩;have r3:(upd H' q (.lst [])) t=U (.lst (h0.map V.ref++[V.ref p])):=by rw[AO q7,hT,em]
  refine⟨_,Z,.inl ⟨Z,_,AL.of r3⟩,t,_,.ref p,Z,Z,r3,by simp,?_⟩;have r5:Dt.Bz (h6++[d])=Dt.Bz h6+d.sz:=by rw[Dt.P2];simp only[Dt.Bz];lia
  have q6:(h0.map V.ref++[V.ref p]).dropLast=h0.map V.ref:=by simp
  rw[q6];generalize s9:upd (upd H' q (.lst [])) t (.lst (h0.map V.ref))=H2;have s2:AM H H2:=by rw[<-s9];exact(sm.trans s1).upd s0
  have t2:H2 t=U (.lst (h0.map V.ref)):=by rw[<-s9];exact AN
  have r1:∀b xs,H' b=U (.tup xs)->H2 b=U (.tup xs):=λb xs e=>by rw[<-s9,AO (CN e hT (by intro z;cases z)),AO (A8 e hq)];exact e
  have p2:H2 p=U (.tup [x,y]):=r1 _ _ hp;have r7:EZ H H2 h6 h0:=r8.same r1;refine⟨_,Z,p,_,1,y,Z,Z,AS.of p2,Z,by exact zw,λtq q1=>?_⟩;generalize r4:upd H2 tq (.tup [V.ty "list",V.ty "tuple"])=H3;have e9:AM H2 H3:=by rw[<-r4];exact Ag q1
  have s3:AM H H3:=s2.trans e9;have t3:H3 t=U (.lst (h0.map V.ref)):=e9 _ _ t2;have p3:H3 p=U (.tup [x,y]):=e9 _ _ p2;have q3:H3 tq=U (.tup [V.ty "list",V.ty "tuple"]):=by rw[<-r4];exact AN
  have s5:EZ H H3 h6 h0:=r7.same λb xs e=>e9 _ _ e;have r0:∃(ps:List OK)(ds:List Dt)(a3 a4:Option V),([U x0,U y0,U (V.ref t),U (V.ref p),v4]:St)=[U x0,U y0,U (.ref t),a3,a4]/\H3 t=U (.lst (ps.map V.ref))/\AM H H3/\Dt.Bz ds<Dt.Bz (h6++[d])/\EZ H H3 ds ps:=by have:=d.Y8;exact⟨h0,h6,_,_,Z,t3,s3,by lia,s5⟩
  cases d with
  |lst h5=>
   cases rx with
   |@lst _ a xs hx lx fx=>
   cases ry with
   |@lst _ b ys hy ly fy=>
   have a3:H3 a=U (.lst xs):=s3 _ _ hx;have b3:H3 b=U (.lst ys):=s3 _ _ hy;have s7:(Dt.lst h5).sz=1+Dt.Bz h5:=by simp only[Dt.sz]
   have q5:=Dt.Kd h5;refine⟨.ref b,tq,["list","tuple"],.type "list",Y,Z,q3,(λ_=>Bp.lst b3),(λ_=>Y7 _ (.inl Z)),_,Z,Bs ?_⟩;refine⟨_,Z,p,_,0,.ref a,Z,Z,AS.of p3,Z,.ref a,"list",.type "list",Y,Z,(λ_=>Bp.lst a3),(λ_=>IC _),_,Z,p,_,1,.ref b,Z,Z,AS.of p3,Z,.ref b,"list",.type "list",Y,Z,(λ_=>Bp.lst b3),(λ_=>IC _),Z,_,Z,El Z ?_⟩;refine⟨_,Z,p,_,0,.ref a,Z,Z,AS.of p3,Z,.ref a,"tuple",.type "list",vc,Z,(λ_=>Bp.lst a3),(λ_=>aW),_,Z,p,_,1,.ref b,Z,Z,AS.of p3,Z,.ref b,"tuple",.type "list",vc,Z,(λ_=>Bp.lst b3),(λ_=>aW),Z,_,Z,El Z ?_⟩;refine⟨_,Z,p,_,0,.ref a,Z,Z,AS.of p3,Z,a,xs,Z,.inl (AL.of a3),_,Z,p,_,1,.ref b,Z,Z,AS.of p3,Z,b,ys,Z,.inl (AL.of b3),Z,_,Z,El (by rw[<-lx,<-ly]) ?_⟩;refine⟨_,Z,p,_,1,.ref b,Z,Z,AS.of p3,Z,b,ys,Z,.inl (AL.of b3),(ys.length:Int),Z,by lia,by lia,?_⟩;refine Lf (lo:=0) (n:=ys.length) (λi S' H4=>∃(h4:List OK)(u4:Option V),S'=[U x0,U y0,U (.ref t),U (.ref p),u4]/\H4 t=U (.lst ((h0++h4).map V.ref))/\AM H H4/\H4 p=U (.tup [.ref a,.ref b])/\EZ H H4 (h6++h5.take i) (h0++h4))
    ⟨[],v4,Z,by rw[CW];exact t3,s3,p3,by rw[KL,CW,CW];exact s5⟩ ?_ ?_
   .rintro i S' H4 hi ⟨h4,u4,rfl,t4,s4,p4,h7⟩;have e8:xs[i]? =U xs[i]:=Ar (by lia);have e7:ys[i]? =U ys[i]:=Ar hi;have e6:h5[i]? =U h5[i]:=Ar (by lia);have q2:(h0++h4).length<=1000000:=by
     have h1:=h7.1;have h2:=Dt.Kd (h6++h5.take i);have h3:=Dt.Kd h6;rw[A9,Bk] at h1
     lia
    have e0:(0:Int)+(i:Nat)=(i:Nat):=Int.zero_add _;refine⟨_,Z,.inl ⟨Z,_,AL.of t4⟩,_,Z,p,_,0,.ref a,Z,Z,AS.of p4,Z,_,Z,.inl ⟨a,xs,_,xs[i],Z,Z,AL.of (s4 _ _ hx),by rw[e0];exact BX e8,_,Z,p,_,1,.ref b,Z,Z,AS.of p4,Z,_,Z,
     .inl ⟨b,ys,_,ys[i],Z,Z,AL.of (s4 _ _ hy),by rw[e0];exact BX e7,by exact zw,λnp h8=>?_⟩⟩⟩;have Ho:t≠np:=A8 t4 h8;have s6:p≠np:=A8 p4 h8;have h9:p≠t:=CN p4 t4 (by intro z;cases z);refine⟨t,_,.ref np,Z,Z,by rw[AO Ho];exact t4,by rw[AI,BA];lia,h4++[np],_,Z,?_,(s4.upd (s4.free h8)).upd s0,by rw[AO h9,AO s6];exact p4,?_⟩
    .rw[AN];simp only[BL,Au,La,Bt]
    .have kk:∀c zs,H4 c=U (.tup zs)->(upd (upd H4 np (.tup [xs[i],ys[i]])) t (.lst ((h0++h4).map V.ref++[V.ref np]))) c=U (.tup zs):=λc zs e=>by rw[AO (CN e t4 (by intro z;cases z)),AO (A8 e h8)];exact e
     rw[Cf,e6,<-Bt,<-Bt];refine(h7.same kk).snoc (x:=xs[i]) (y:=ys[i]) ?_ (fx i _ _ e6 e8) (fy i _ _ e6 e7);rw[AO Ho.symm,AN]
   .rintro S' H4 ⟨h4,u4,rfl,t4,s4,p4,h7⟩;rw[<-ly,CH] at h7;refine⟨h0++h4,h6++h5,_,_,Z,t4,s4,?_,h7⟩;rw[r5,Dt.P2,s7]
    lia
  |tup h5=>
   cases rx with
   |@tup _ a xs hx lx fx=>
   cases ry with
   |@tup _ b ys hy ly fy=>
   have a3:H3 a=U (.tup xs):=s3 _ _ hx;have b3:H3 b=U (.tup ys):=s3 _ _ hy;have s7:(Dt.tup h5).sz=1+Dt.Bz h5:=by simp only[Dt.sz]
   have q5:=Dt.Kd h5;refine⟨.ref b,tq,["list","tuple"],.type "tuple",Y,Z,q3,(λ_=>Bp.tup b3),(λ_=>Y7 _ (.inr Z)),_,Z,Bs ?_⟩;refine⟨_,Z,p,_,0,.ref a,Z,Z,AS.of p3,Z,.ref a,"list",.type "tuple",vc,Z,(λ_=>Bp.tup a3),(λ_=>aF),_,Z,p,_,1,.ref b,Z,Z,AS.of p3,Z,.ref b,"list",.type "tuple",vc,Z,(λ_=>Bp.tup b3),(λ_=>aF),Z,_,Z,El Z ?_⟩;refine⟨_,Z,p,_,0,.ref a,Z,Z,AS.of p3,Z,.ref a,"tuple",.type "tuple",Y,Z,(λ_=>Bp.tup a3),(λ_=>IC _),_,Z,p,_,1,.ref b,Z,Z,AS.of p3,Z,.ref b,"tuple",.type "tuple",Y,Z,(λ_=>Bp.tup b3),(λ_=>IC _),Z,_,Z,El Z ?_⟩;refine⟨_,Z,p,_,0,.ref a,Z,Z,AS.of p3,Z,a,xs,Z,.inr (AS.of a3),_,Z,p,_,1,.ref b,Z,Z,AS.of p3,Z,b,ys,Z,.inr (AS.of b3),Z,_,Z,El (by rw[<-lx,<-ly]) ?_⟩;refine⟨_,Z,p,_,1,.ref b,Z,Z,AS.of p3,Z,b,ys,Z,.inr (AS.of b3),(ys.length:Int),Z,by lia,by lia,?_⟩;refine Lf (lo:=0) (n:=ys.length) (λi S' H4=>∃(h4:List OK)(u4:Option V),S'=[U x0,U y0,U (.ref t),U (.ref p),u4]/\H4 t=U (.lst ((h0++h4).map V.ref))/\AM H H4/\H4 p=U (.tup [.ref a,.ref b])/\EZ H H4 (h6++h5.take i) (h0++h4))
    ⟨[],v4,Z,by rw[CW];exact t3,s3,p3,by rw[KL,CW,CW];exact s5⟩ ?_ ?_
   .rintro i S' H4 hi ⟨h4,u4,rfl,t4,s4,p4,h7⟩;have e8:xs[i]? =U xs[i]:=Ar (by lia);have e7:ys[i]? =U ys[i]:=Ar hi;have e6:h5[i]? =U h5[i]:=Ar (by lia);have q2:(h0++h4).length<=1000000:=by
     have h1:=h7.1;have h2:=Dt.Kd (h6++h5.take i);have h3:=Dt.Kd h6;rw[A9,Bk] at h1
     lia
    have e0:(0:Int)+(i:Nat)=(i:Nat):=Int.zero_add _;refine⟨_,Z,.inl ⟨Z,_,AL.of t4⟩,_,Z,p,_,0,.ref a,Z,Z,AS.of p4,Z,_,Z,.inr (.inl ⟨a,xs,_,xs[i],Z,Z,AS.of (s4 _ _ hx),by rw[e0];exact BX e8,_,Z,p,_,1,.ref b,Z,Z,AS.of p4,Z,_,Z,
     .inr (.inl ⟨b,ys,_,ys[i],Z,Z,AS.of (s4 _ _ hy),by rw[e0];exact BX e7,by exact zw,λnp h8=>?_⟩)⟩)⟩;have Ho:t≠np:=A8 t4 h8;have s6:p≠np:=A8 p4 h8;have h9:p≠t:=CN p4 t4 (by intro z;cases z);refine⟨t,_,.ref np,Z,Z,by rw[AO Ho];exact t4,by rw[AI,BA];lia,h4++[np],_,Z,?_,(s4.upd (s4.free h8)).upd s0,by rw[AO h9,AO s6];exact p4,?_⟩
    .rw[AN];simp only[BL,Au,La,Bt]
    .have kk:∀c zs,H4 c=U (.tup zs)->(upd (upd H4 np (.tup [xs[i],ys[i]])) t (.lst ((h0++h4).map V.ref++[V.ref np]))) c=U (.tup zs):=λc zs e=>by rw[AO (CN e t4 (by intro z;cases z)),AO (A8 e h8)];exact e
     rw[Cf,e6,<-Bt,<-Bt];refine(h7.same kk).snoc (x:=xs[i]) (y:=ys[i]) ?_ (fx i _ _ e6 e8) (fy i _ _ e6 e7);rw[AO Ho.symm,AN]
   .rintro S' H4 ⟨h4,u4,rfl,t4,s4,p4,h7⟩;rw[<-ly,CH] at h7;refine⟨h0++h4,h6++h5,_,_,Z,t4,s4,?_,h7⟩;rw[r5,Dt.P2,s7]
    lia
  |str z=>cases rx;cases ry;refine⟨.str z,tq,["list","tuple"],.type "str",vc,Z,q3,(λ_=>Bp.str z),(λ_=>TK _ (.inl Z)),_,Z,BV ?_⟩;refine⟨_,Z,p,_,1,.str z,Z,Z,AS.of p3,Z,.str z,"str",.type "str",Y,Z,(λ_=>Bp.str z),(λ_=>IC _),_,Z,Bs ?_⟩;refine⟨_,Z,p,_,0,.str z,Z,Z,AS.of p3,Z,.str z,"str",.type "str",Y,Z,(λ_=>Bp.str z),(λ_=>IC _),_,Z,BV ⟨_,Z,p,_,0,.str z,Z,Z,AS.of p3,Z,_,Z,p,_,1,.str z,Z,Z,AS.of p3,Z,Z,_,Z,El Z r0⟩⟩
  |bl z=>cases rx;cases ry;refine⟨.bl z,tq,["list","tuple"],.type "bool",vc,Z,q3,(λ_=>Bp.bl z),(λ_=>TK _ (.inr (.inr Z))),_,Z,BV ?_⟩;refine⟨_,Z,p,_,1,.bl z,Z,Z,AS.of p3,Z,.bl z,"str",.type "bool",vc,Z,(λ_=>Bp.bl z),(λ_=>om),_,Z,BV ?_⟩;refine⟨_,Z,p,_,1,.bl z,Z,Z,AS.of p3,Z,.bl z,"bool",.type "bool",Y,Z,(λ_=>Bp.bl z),(λ_=>IC _),_,Z,Bs ?_⟩;refine⟨_,Z,p,_,0,.bl z,Z,Z,AS.of p3,Z,.bl z,"bool",.type "bool",Y,Z,(λ_=>Bp.bl z),(λ_=>IC _),_,Z,BV ⟨_,Z,p,_,0,.bl z,Z,Z,AS.of p3,Z,_,Z,p,_,1,.bl z,Z,Z,AS.of p3,Z,Z,_,Z,El Z r0⟩⟩
  |int z=>cases rx;cases ry;refine⟨.int z,tq,["list","tuple"],.type "int",vc,Z,q3,(λ_=>Bp.int z),(λ_=>TK _ (.inr (.inl Z))),_,Z,BV ?_⟩;refine⟨_,Z,p,_,1,.int z,Z,Z,AS.of p3,Z,.int z,"str",.type "int",vc,Z,(λ_=>Bp.int z),(λ_=>qE),_,Z,BV ?_⟩;refine⟨_,Z,p,_,1,.int z,Z,Z,AS.of p3,Z,.int z,"bool",.type "int",vc,Z,(λ_=>Bp.int z),(λ_=>Z4),_,Z,BV ?_⟩;exact⟨_,Z,p,_,0,.int z,Z,Z,AS.of p3,Z,z,Z,_,Z,BV ⟨_,Z,p,_,0,.int z,Z,Z,AS.of p3,Z,_,Z,p,_,1,.int z,Z,Z,AS.of p3,Z,Z,_,Z,El Z r0⟩⟩
theorem SV{α:Type}[DecidableEq α]:∀{l m:List α},l.Nodup->(∀x∈l,x∈m)->l.length<=m.length
 |[],_,_,_=>CB _
 |a::t,m,hn,hs=>by
  obtain⟨h1,h2⟩:=E1.mp hn;have ha:=hs a CV;have:=SV (l:=t) (m:=m.erase a) h2 λx hx=>(List.mem_erase_of_ne (λz=>h1 (by rw[<-z];exact hx))).mpr (hs x (Ce _ hx));rw[List.length_erase_of_mem ha] at this;have hp:0<m.length:=Of ha;rw[Bw]
  lia
def Gm(n:Nk)(xs:List Ap):Nk:=xs.foldl Ek n
def eT(n:Nk)(xs:List Ap)(x:Ap):Gm n (xs++[x])=Ek (Gm n xs) x:=by delta Gm;rw[List.foldl_append];rfl
theorem XC:∀(xs:List Ap)(n:Nk),Bd n->(∀x∈xs,x.Good)->Bd (Gm n xs)/\vw (Gm n xs)=D9 (vw n) xs
 |[],n,h,_=>⟨h,Z⟩
 |x::xs,n,h,g=>by obtain⟨p1,p2⟩:=jm h (g x CV);obtain⟨q1,q2⟩:=XC xs (Ek n x) p1 λy hy=>g y (Ce _ hy);refine⟨q1,?_⟩;show vw (Gm (Ek n x) xs)=D9 ((Ct (vw n) x).next (vw n)) xs;rw[q2,p2]
def rT:Bd JF:=⟨⟨JS,JS,JS,λp hp=>(by cases hp),λp hp=>(by cases hp),λp hp=>(by cases hp),λp hp=>(by cases hp)⟩,HL _,λp hp=>(by cases hp),λp hp=>(by cases hp)⟩
def oH{n:Nk}(b:Bo n){p:Int×List Wd}(hp:p∈n.texts):∃nm,(nm,Af n p.1)∈vw n/\(Af n p.1).length=p.2.length:=by obtain⟨nm,h⟩:=b.own p hp;refine⟨nm,Aw.mpr ⟨_,h,Z⟩,?_⟩;delta Af;rw[Fy b.CF (show(p.1,p.2)∈n.texts from hp)];show(p.2.map _).length=_;rw[AI]
def QG(ws:List PR):Nat:=wsum ws
def fits_of{n:Nk}(h:Bd n)(s:Sz k (vw n))(hk:k<=64):Fits n/\n.names.length<=k/\n.texts.length<=k:=by
 have hl:n.names.length<=k:=by have:=s.len;unfold vw at this;rw[AI] at this;exact this
 have ht:n.texts.length<=n.names.length:=by
  have:=SV (l:=n.texts.map (·.1)) (m:=n.names.map (·.2)) h.b.CF λx hx=>by obtain⟨p,hp,rfl⟩:=Aw.mp hx;obtain⟨nm,hn⟩:=h.b.own p hp;exact Aw.mpr ⟨_,hn,Z⟩
  rw[AI,AI] at this;exact this
 refine⟨⟨h.b.CO,h.b.CF,by lia,by lia,λp hp=>?_⟩,hl,by lia⟩;obtain⟨nm,h1,h2⟩:=oH h.b hp;have h3:=Lw h1;have h4:=Ll (Af n p.1);have h5:=s.BO;have h6:QG (Af n p.1)<=L2.BO (vw n):=h3;have h7:50000*k<=50000*64:=RK _ hk;delta QG at h6
 lia
def du{n:Nk}(h:Bd n)(s:Sz k (vw n))(hk:k<=63){a o:Str}(g:(Ap.join a o).Good)(br:BH n (.join a o)=""):(Ba n (Ao n a)++Ba n (Ao n o)).length<=100000:=by
 have s':=s.next g;have be:=Tx n (.join a o);rw[br] at be;have h1:C2 "" (ET (vw n) a o):=be;have s2:Sz (k+1) ((ET (vw n) a o).next (vw n)):=s';delta ET at h1 s2;rw[Dq n a,Dq n o] at h1 s2
 cases e:AH n.names a with
 |none=>rw[e] at h1;exact absurd h1.1.symm h1.2
 |some no=>
  cases e2:AH n.names o with
  |none=>rw[e,e2] at h1;exact absurd h1.1.symm h1.2
  |some h0=>
   rw[e,e2] at h1 s2;have h2:C2 "" (if a=o then .no "same page" else .ok (.int (L2.cnt (L2.joined (vw n) a o (Af n no) (Af n h0)) a)) (L2.joined (vw n) a o (Af n no) (Af n h0))):=h1;have s3:Sz (k+1) (Rs.next (vw n) (if a=o then .no "same page" else .ok (.int (L2.cnt (L2.joined (vw n) a o (Af n no) (Af n h0)) a)) (L2.joined (vw n) a o (Af n no) (Af n h0)))):=s2;by_cases e3:a=o
   .rw[AG e3] at h2;exact absurd h2.1.symm h2.2
   .rw[AF e3] at s3;have s4:Sz (k+1) (L2.joined (vw n) a o (Af n no) (Af n h0)):=s3;have ga:AH (L2.joined (vw n) a o (Af n no) (Af n h0)) a=U (C4 (Af n no++Af n h0) o a):=by delta L2.joined;rw[Tp,Cz,AG Z];rfl
    have h3:=Lw (BJ ga);have h4:=Ll (C4 (Af n no++Af n h0) o a);rw[Xa,A9] at h4;have h5:=s4.BO;have h6:QG (C4 (Af n no++Af n h0) o a)<=L2.BO (L2.joined (vw n) a o (Af n no) (Af n h0)):=h3;delta QG at h6;have l1:(Ba n (Ao n a)).length=(Af n no).length:=by delta Ba Ao Af;rw[e,AI];rfl
    have l2:(Ba n (Ao n o)).length=(Af n h0).length:=by delta Ba Ao Af;rw[e2,AI];rfl
    have h7:50000*(k+1)<=50000*64:=RK _ (by lia);rw[A9,l1,l2]
    lia
def iX{n:Nk}(h:Bd n):UM n=JC (vw n):=by
 delta UM JC;have ek:keys (vw n)=n.names.map (·.1):=Dm n;rw[ek];have h0:∀nm∈He (n.names.map (·.1)),nm∈n.names.map (·.1):=λnm hn=>(HM ES _).mem_iff.mp hn;generalize He (n.names.map (·.1))=L at h0
 induction L with
 |nil=>rfl
 |cons nm L ih=>
  rw[M0,M0,ih λx hx=>h0 x (Ce _ hx)];congr 1;obtain⟨no,h5⟩:=NT (h0 nm CV);obtain⟨ws,h4,ok⟩:=h.b.text h5;delta Gu T9 Ba Ao;rw[Dq,h5];show(((AH n.texts no).getD []).flatMap (C0 n nm))=(Ho (Af n no)).map _;delta Af Ho;rw[h4];show ws.flatMap (C0 n nm)=(((ws.map (sh n.names)).filter λp=>decide (p.1=("to" :Str))).map (·.2)).map _;clear h4
  induction ws with
  |nil=>rfl
  |cons w ws h7=>
   rw[M0,h7 λx hx=>ok x (Ce _ hx),Au];have h6:=ok w CV
   cases ht:w.to with
   |false=>
    have e1:C0 n nm w=[]:=by delta C0;rw[ht];rfl
    rw[e1,E5 ht,FF (by show¬decide (("word" :Str)="to")=Y;decide+kernel)];rfl
   |true=>
    have two:∀x:Str,sh n.names w=(("to" :Str),x)->shown n.names w="[" ++x++ "]" ->(!decide (V.int w.no=V.int (-1)))=(AH (vw n) x).isSome->C0 n nm w=[((nm,x,(AH (vw n) x).isSome):Tr)]:=λx h1 h2 h3=>by delta C0;rw[AG ht,h2,fT,h3]
    rcases h6 ht with⟨hl,hn⟩|⟨x,hx⟩
    .have e1:=two w.nm (E4 ht hl) (by delta shown;rw[AG ht,AG hl]) (by rw[Dq,hn,hl];rfl);rw[e1,E4 ht hl,Ed (by show decide (("to" :Str)="to")=Y;decide+kernel)];rfl
    .have hn:w.no≠-1:=by have:=h.b.EE hx;lia
     have hs:=EV h.b.inj ht hn hx;have hg:AH (vw n) x=U (Af n w.no):=by rw[Dq,Fy h.b.CO hx];rfl
     have e1:=two x hs (by delta shown;rw[AG ht,AF hn,SX h.b.inj hx]) (by rw[hg,BG (λz=>hn (V.int.inj z))];rfl);rw[e1,hs,Ed (by show decide (("to" :Str)="to")=Y;decide+kernel)];rfl
noncomputable def Ap.word:Ap->Str
 |.write _ _=>"write" |.rename _ _=>"rename" |.join _ _=>"join" |.cut _ _ _=>"cut" |.drop _=>"drop" |.text _=>"text" |.back _=>"back" |.find _ _=>"find"
def SN(x:Ap):(Fo (.str x.word) [.str "text",.str "back",.str "find"])=x.asks:=by
 cases x with
 |write a b=>exact(by left:Fo (.str "write") [.str "text",.str "back",.str "find"]=vc)
 |rename a b=>exact(by left:Fo (.str "rename") [.str "text",.str "back",.str "find"]=vc)
 |join a b=>exact(by left:Fo (.str "join") [.str "text",.str "back",.str "find"]=vc)
 |cut a p b=>exact(by left:Fo (.str "cut") [.str "text",.str "back",.str "find"]=vc)
 |drop a=>exact(by left:Fo (.str "drop") [.str "text",.str "back",.str "find"]=vc)
 |text a=>exact(by left:Fo (.str "text") [.str "text",.str "back",.str "find"]=Y)
 |back a=>exact(by left:Fo (.str "back") [.str "text",.str "back",.str "find"]=Y)
 |find a b=>exact(by left:Fo (.str "find") [.str "text",.str "back",.str "find"]=Y)
def j5{x:Ap}(r:Rep H x.dt v):∃d xs,v=.ref d/\H d=U (.tup (.str x.word::xs)):=by
 cases x with
 |write a b=>obtain⟨d,xs,rfl,hd,rs⟩:=Bu r;obtain⟨u,v,x,rfl,r1,_⟩:=EU rs;cases Bl r1;exact⟨d,_,Z,hd⟩
 |rename a b=>obtain⟨d,xs,rfl,hd,rs⟩:=Bu r;obtain⟨u,v,x,rfl,r1,_⟩:=EU rs;cases Bl r1;exact⟨d,_,Z,hd⟩
 |join a b=>obtain⟨d,xs,rfl,hd,rs⟩:=Bu r;obtain⟨u,v,x,rfl,r1,_⟩:=EU rs;cases Bl r1;exact⟨d,_,Z,hd⟩
 |cut a p b=>obtain⟨d,xs,rfl,hd,rs⟩:=Bu r;obtain⟨u,v,x,y,rfl,r1,_⟩:=QL rs;cases Bl r1;exact⟨d,_,Z,hd⟩
 |drop a=>obtain⟨d,xs,rfl,hd,rs⟩:=Bu r;obtain⟨u,v,rfl,r1,_⟩:=Gn rs;cases Bl r1;exact⟨d,_,Z,hd⟩
 |text a=>obtain⟨d,xs,rfl,hd,rs⟩:=Bu r;obtain⟨u,v,rfl,r1,_⟩:=Gn rs;cases Bl r1;exact⟨d,_,Z,hd⟩
 |back a=>obtain⟨d,xs,rfl,hd,rs⟩:=Bu r;obtain⟨u,v,rfl,r1,_⟩:=Gn rs;cases Bl r1;exact⟨d,_,Z,hd⟩
 |find ws h0=>obtain⟨d,xs,rfl,hd,rs⟩:=Bu r;obtain⟨u,v,x,rfl,r1,_⟩:=EU rs;cases Bl r1;exact⟨d,_,Z,hd⟩
def jB{a b:List Int}(h:a.Perm b):a.sum=b.sum:=by
 induction h with
 |nil=>rfl
 |cons x _ ih=>rw[Bn,Bn,ih]
 |swap x y l=>
  simp only[Bn]
  lia
 |trans _ _ i1 i2=>exact i1.trans i2
theorem Xe{α:Type}(f:α->Nat):∀l:List α,(((l.map f).sum:Nat):Int)=(l.map λx=>(f x:Int)).sum
 |[]=>rfl
 |x::l=>by rw[Au,Bn,Au,Bn,Int.natCast_add,Xe f l]
section
variable{n:Nk}{a o:Str}
def i4(b:Bo n)(ha:AH n.names a=U no){w:Wd}(ok:Ec n.names w):Em no w=decide (sh n.names w=(("to" :Str),a)):=by
 have hm:=BJ ha;have h0:=b.EE hm;delta Em
 cases t:w.to with
 |false=>rw[E5 t,BG λz=>absurd (show("word" :Str)="to" from A2 Prod.fst z) (by left)];rfl
 |true=>
  rw[Bool.true_and];rcases ok t with⟨hl,hn⟩|⟨x,hx⟩
  .rw[E4 t hl,BG λz=>by lia,BG λz=>?_];have:w.nm=a:=A2 Prod.snd z;rw[this,ha] at hn;cases hn
  .have hn:w.no≠-1:=by have:=b.EE hx;lia
   rw[EV b.inj t hn hx];by_cases e:w.no=no
   .rw[Bc e,Bc];rw[e] at hx;rw[Jh b.inj hx hm]
   .rw[BG e,BG λz=>e ?_];have:x=a:=A2 Prod.snd z;rw[this] at hx;have h2:=Fy b.CO hx;rw[ha] at h2;exact(AZ h2).symm
def S9(b:Bo n)(ha:AH n.names a=U no):((n.led no:Nat):Int)=cnt (vw n) a:=by
 have pm:(n.texts.map (·.1)).Perm (n.names.map (·.2)):=(List.perm_ext_iff_of_nodup b.CF b.inj).mpr λx=>by
  constructor
  .intro h;obtain⟨p,hp,rfl⟩:=Aw.mp h;obtain⟨nm,h2⟩:=b.own p hp;exact Aw.mpr ⟨_,h2,Z⟩
  .intro h;obtain⟨p,hp,rfl⟩:=Aw.mp h;obtain⟨ws,h2⟩:=b.tx p hp;exact Aw.mpr ⟨_,BJ h2,Z⟩
 delta Nk.led Nk.flat;rw[List.countP_flatMap,Xe];have e1:(n.texts.map λp=>((p.2.countP (Em no):Nat):Int))=(n.texts.map (·.1)).map λk=>((((AH n.texts k).getD []).countP (Em no):Nat):Int):=by rw[Bf];refine EI λp hp=>?_;show _=(((AH n.texts p.1).getD []).countP _:Int);rw[Fy b.CF hp];rfl
 refine(A2 List.sum e1).trans ((jB (pm.map _)).trans ?_);delta L2.cnt vw;rw[Bf,Bf];refine A2 List.sum (EI λp hp=>?_);obtain⟨ws,h2⟩:=b.tx p hp;show((((AH n.texts p.2).getD []).countP (Em no):Nat):Int)=MN (Af n p.2) a;delta MN Af;rw[h2,List.countP_map];refine A2 Nat.cast (List.countP_congr λw hw=>?_);rw[i4 b ha (b.wd _ (BJ h2) w hw)];exact Iff.rfl
def N5(h:AH n.names a=U no):Ao n a=no:=by delta Ao;rw[h];rfl
def j9(h:Bd n){x:Ap}(g:x.Good)(hx:x.asks=vc)(hb:BH n x=""):(Ct (vw n) x).Dy=U (.int (chg n x)):=by
 have some_of:∀z:Str,¬AH n.names z=J->∃k,AH n.names z=U k:=λz q=>by
  cases e:AH n.names z with
  |none=>exact absurd e q
  |some k=>exact⟨k,Z⟩
 have gv:∀{z:Str}{k:Int},AH n.names z=U k->AH (vw n) z=U (Af n k):=λ{z k} e=>by rw[Dq,e];rfl
 have gn:∀{z:Str},AH n.names z=J->AH (vw n) z=J:=λ{z} e=>by rw[Dq,e];rfl
 have h3:("no page" :Str)≠ "" :=by left
 have h2:("no name" :Str)≠ "" :=by left
 cases x with
 |write a t=>
  have hb:(if Co a=Y then("" :Str) else "no name")="" :=hb;by_cases e:Co a=Y
  .obtain⟨r1,_⟩:=X0 (n:=n) (a:=a) (t:=t) h g.1 g.2;have e2:=A2 List.length (SQ r1.b.inj (λp hp=>(r1.b.EE hp).1) t).1;rw[AI] at e2;show(FT (vw n) a t).Dy=U (.int ((F5 (n.wrote a t).names t).length:Nat));delta FT;rw[AG (by rw[<-Kf];exact e),e2];rfl
  .rw[AF e] at hb;exact absurd hb h2
 |rename a o=>
  have hb:(if AH n.names a=J then("no page" :Str) else if Co o=vc then "no name" else if AH n.names o=J then "" else "taken")="" :=hb;by_cases e:AH n.names a=J
  .rw[AG e] at hb;exact absurd hb h3
  rw[AF e] at hb;obtain⟨no,h0⟩:=some_of a e
  cases e2:Co o with
  |false=>rw[AG e2] at hb;exact absurd hb h2
  |true=>
  rw[AF (by rw[e2];decide)] at hb;by_cases e3:AH n.names o=J
  .have b2:=h.b.renamed h0 e3;have g2:AH (n.renamed a o no).names o=U no:=Fy b2.CO (by rw[Lg e3];exact Dk _ CV);have el:=S9 b2 g2;rw[Y5 h.b h0 e3] at el;show(FR (vw n) a o).Dy=U (.int ((n.renamed a o (Ao n a)).led (Ao n a):Nat));rw[N5 h0,el];delta FR;rw[gv h0];dsimp only;rw[AG (by rw[<-Kf];exact e2),gn e3];rfl
  .rw[AF e3] at hb;exact absurd hb (by left)
 |join a o=>
  have hb:(if AH n.names a=J then("no page" :Str) else if AH n.names o=J then "no page" else if a=o then "same page" else "")="" :=hb;by_cases e:AH n.names a=J
  .rw[AG e] at hb;exact absurd hb h3
  rw[AF e] at hb;by_cases e2:AH n.names o=J
  .rw[AG e2] at hb;exact absurd hb h3
  rw[AF e2] at hb;by_cases e3:a=o
  .rw[AG e3] at hb;exact absurd hb (by left)
  obtain⟨no,h0⟩:=some_of a e;obtain⟨h2,h1⟩:=some_of o e2;obtain⟨w1,h6,_⟩:=h.b.text h0;obtain⟨w2,h5,_⟩:=h.b.text h1;have b2:=h.b.joined h0 h1 e3 h6 h5;have g2:AH (n.joined no o h2 w1 w2).names a=U no:=by show AH (AQ n.names o) a=U no;rw[EL e3];exact h0
  have el:=S9 b2 g2;rw[Yy h.b h0 h1 e3 h6 h5] at el;show(ET (vw n) a o).Dy=U (.int ((n.joined (Ao n a) o (Ao n o) (Ba n (Ao n a)) (Ba n (Ao n o))).led (Ao n a):Nat));have t1:Ba n no=w1:=by delta Ba;rw[h6];rfl
  have t2:Ba n h2=w2:=by delta Ba;rw[h5];rfl
  rw[N5 h0,N5 h1,t1,t2,el];delta ET;rw[gv h0];dsimp only;rw[gv h1];dsimp only;rw[AF e3];rfl
 |cut a p o=>
  cases e:AH n.names a with
  |none=>delta BH at hb;dsimp only at hb;rw[e] at hb;exact absurd hb h3
  |some no=>
   delta BH at hb;dsimp only at hb;rw[e] at hb;dsimp only at hb;obtain⟨ws,h4,_⟩:=h.b.text e;have np:("no place" :Str)≠ "" :=by left
   rw[h4] at hb
   cases e2:Co o with
   |false=>rw[AG e2] at hb;exact absurd hb h2
   |true=>
   rw[AF (by rw[e2];decide)] at hb;by_cases e3:AH n.names o=J
   .rw[AG e3] at hb;by_cases e4:p<0
    .rw[AG e4] at hb;exact absurd hb np
    rw[AF e4] at hb;have hb:(if(ws.length:Int)<p then("no place" :Str) else "")="" :=hb;by_cases e5:(ws.length:Int)<p
    .rw[AG e5] at hb;exact absurd hb np
    have h7:Af n no=ws.map (sh n.names):=by delta Af;rw[h4];rfl
    have lt:=(h.b.lt _ (BJ h4)).2;have et:(Ba (n.added o) no).length=ws.length:=by delta Ba;rw[NL,AF (by have:no<n.made:=lt;lia),h4];show(ws.map _).length=_;rw[AI]
    show(Fc (vw n) a p o).Dy=U (.int (((Ba (n.added o) (Ao n a)).length:Int)-p));rw[N5 e,et];delta Fc;rw[gv e];dsimp only;rw[AG (by rw[<-Kf];exact e2),gn e3];dsimp only;rw[h7,AI,AF (by lia)];show U (Dt.int (((ws.map (sh n.names)).drop p.toNat).length:Nat))=_;rw[EK,AI];congr 2
    lia
   .rw[AF e3] at hb;exact absurd hb (by left)
 |drop a=>
  have hb:(if AH n.names a=J then("no page" :Str) else "")="" :=hb;by_cases e:AH n.names a=J
  .rw[AG e] at hb;exact absurd hb h3
  obtain⟨no,h0⟩:=some_of a e;show(FV (vw n) a).Dy=U (.int (n.led (Ao n a):Nat));delta FV;rw[gv h0,N5 h0,S9 h.b h0];rfl
 |text _=>cases hx
 |back _=>cases hx
 |find _ _=>cases hx
end
inductive Hh:Dt->Prop
 |int {i:Int}:Hh (.int i)
 |str {x:Str}:Hh (.str x)
 |tup {ds:List Dt}:(∀d∈ds,Hh d)->Hh (.tup ds)
 |lst {ds:List Dt}:(∀d∈ds,Hh d)->(∀x y:Str,∀i:Int,ds≠[.str x,.str y,.int i])->Hh (.lst ds)
open Classical in
noncomputable def Jx(H:Hp)(a an at_:OK)(tx:List (Int×OK×List OK)):Hp:=λb=>if b=a\/b=an\/b=at_\/∃t∈tx,b∈t.2.2 then J else H b
section
variable{G:Hp}{tx:List (Int×OK×List OK)}{n:Nk}
def lK:AM (Jx H a an at_ tx) H:=λb o e=>by
 delta Jx at e;split at e
 .cases e
 .exact e
def jH(h:Ca G H a an at_ tx n):AM G (Jx H a an at_ tx):=λb o e=>by
 delta Jx;rw[AF]
 .exact h.same b o e
 .rintro(z|z|z|⟨t,ht,z⟩)
  .rw[z,h.fa] at e;cases e
  .rw[z,h.fn] at e;cases e
  .rw[z,h.ft] at e;cases e
  .rw[h.fw t ht b z] at e;cases e
def lW(h:Ca G H a an at_ tx n):Ca (Jx H a an at_ tx) H a an at_ tx n:=
 ⟨lK,h.ha,h.hn,h.ht,h.len,h.EY,AG (.inl Z),AG (.inr (.inl Z)),AG (.inr (.inr (.inl Z))),λt ht w hw=>AG (.inr (.inr (.inr ⟨t,ht,hw⟩))),h.ap⟩
def Yt(h:Ca G H a an at_ tx n){t:Int×OK×List OK}(ht:t∈tx){w:OK}(hw:w∈t.2.2):∃wd:Wd,H w=U (.lst wd.vq):=by
 obtain⟨i,hi⟩:=Om ht;have hl:i<n.texts.length:=by rw[<-h.len];exact(BP.mp hi).1
 obtain⟨_,_,q3,q4⟩:=h.EY i t _ hi (Ar hl);obtain⟨j,hj⟩:=Om hw;have h0:j<n.texts[i].2.length:=by rw[<-q3];exact(BP.mp hj).1
 exact⟨_,q4 j w _ hj (Ar h0)⟩
def ng{wd:Wd}(hl:ds.length=wd.vq.length)(rr:∀(i:Nat) d x,ds[i]? =U d->wd.vq[i]? =U x->Rep H d x):∃x y i,ds=[.str x,.str y,.int i]:=by
 match ds,hl with
 |[d1,d2,d3],_=>have r1:=rr 0 d1 _ Z Z;have r2:=rr 1 d2 _ Z Z;have r3:=rr 2 d3 _ Z Z;cases r1;cases r2;cases r3;exact⟨_,_,_,Z⟩
def kQ(h:Ca G H a an at_ tx n){d:Dt}(r:Rep H d v)(p:Hh d):Rep (Jx H a an at_ tx) d v:=by
 induction r with
 |bl b=>exact .bl b
 |int i=>exact .int i
 |str x=>exact .str x
 |tup hb hl _ ih=>
  cases p with
  |tup p=>
   refine .tup ?_ hl λi d x h1 h2=>ih i d x h1 h2 (p d (Bv h1));delta Jx;rw[AF]
   .exact hb
   .rintro(z|z|z|⟨t,ht,z⟩)
    .rw[z,h.ha] at hb;cases hb
    .rw[z,h.hn] at hb;cases hb
    .rw[z,h.ht] at hb;cases hb
    .obtain⟨wd,e⟩:=Yt h ht z;rw[e] at hb;cases hb
 |lst hb hl rr ih=>
  cases p with
  |lst p pn=>
   refine .lst ?_ hl λi d x h1 h2=>ih i d x h1 h2 (p d (Bv h1));delta Jx;rw[AF]
   .exact hb
   .rintro(z|z|z|⟨t,ht,z⟩)
    .rw[z,h.ha] at hb;cases hb
    .rw[z,h.hn] at hb;cases hb
    .rw[z,h.ht] at hb;cases hb
    .obtain⟨wd,e⟩:=Yt h ht z;rw[e] at hb;have ex:=HO.lst.inj (AZ hb);subst ex;obtain⟨x,y,i,e⟩:=ng hl rr;exact pn x y i e
def ir(zs:List Str):Hh (.lst (zs.map Dt.str)):=.lst (λd hd=>by
 obtain⟨z,_,rfl⟩:=Aw.mp hd;exact .str) λx y i e=>by
  have:=A2 (λl:List Dt=>l[2]?) e;have h2:((zs.map Dt.str)[2]?)=U (.int i):=this;rw[A1] at h2
  cases q:zs[2]?with
  |none=>rw[q] at h2;cases h2
  |some z=>rw[q] at h2;cases h2
def kK(AD:List Pg)(ws:List Str)(far:Int):Hh (GV AD ws far):=by
 have h0:∀k:List Key,Hh (F7 k)/\∀x:Str,F7 k≠.str x:=λk=>by
  delta F7;split
  .refine⟨.tup λd hd=>?_,λx e=>by cases e⟩;rcases BM.mp hd with e|e
   .rw[e];exact .str
   .rw[BW.mp e];exact .int
  .refine⟨.lst (λd hd=>?_) λx y i e=>?_,λx e=>?_⟩
   .cases hd
   .cases e
   .cases e
 delta GV;generalize Fg lexOrd (MH AD ws far)=l;refine .lst (λd hd=>?_) λx y i e=>?_
 .obtain⟨k,_,rfl⟩:=Aw.mp hd;exact(h0 k).1
 .cases l with
  |nil=>cases e
  |cons k l=>exact(h0 k).2 x (Hw e).1
end
def Ju(ws:List Wd)(i:Nat)(z:Str):Prop:=∃w,ws[i]? =U w/\w.to=vc/\w.nm=z
def GH(ws:List Wd)(zs:List Str)(s e:Nat):Prop:=∀z∈zs,∃i,s<=i/\i<e/\Ju ws i z
structure Fd(ws:List Wd)(zs:List Str)(k:Nat)(b:Int):Prop where
 snd:0<=b->∃s e:Nat,s<k/\s<e/\e<=ws.length/\GH ws zs s e/\b=e-s
 low:∀s e:Nat,s<k->s<e->e<=ws.length->GH ws zs s e->0<=b/\b<=e-s
structure IQ(ws:List Wd)(zs:List Str)(s e:Nat)(l:List (Str×Bool)):Prop where
 mem:∀z,z∈l.map (·.1)↔z∈zs/\∀i,s<=i->i<e->¬Ju ws i z
section
variable{s e:Nat}{l:List (Str×Bool)}{b:Int}
def IQ.rj(h:IQ ws zs s e l)(hl:l=[]):GH ws zs s e:=λz hz=>by
 rcases Classical.em (∃i,s<=i/\i<e/\Ju ws i z) with q|q
 .exact q
 .have:=(h.mem z).mpr ⟨hz,λi h1 h2 h3=>q ⟨i,h1,h2,h3⟩⟩;rw[hl] at this;cases this
def IQ.not(h:IQ ws zs s e l)(hl:l≠[]):¬GH ws zs s e:=λc=>by
 cases l with
 |nil=>exact hl Z
 |cons p l=>obtain⟨h1,h2⟩:=(h.mem p.1).mp CV;obtain⟨i,a,b,q⟩:=c _ h1;exact h2 i a b q
def GH.mono{e':Nat}(h:GH ws zs s e)(he:e<=e'):GH ws zs s e':=λz hz=>by obtain⟨i,a,b,q⟩:=h z hz;exact⟨i,a,by lia,q⟩
def IQ.step{w:Wd}(h:IQ ws zs s e l)(hs:s<=e)(hw:ws[e]? =U w):IQ ws zs s (e+1) (if w.to=vc then AQ l w.nm else l):=by
 have h0:∀z,(∀i,s<=i->i<e+1->¬Ju ws i z)↔(∀i,s<=i->i<e->¬Ju ws i z)/\¬(w.to=vc/\w.nm=z):=λz=>by
  constructor
  .intro q;exact⟨λi a b=>q i a (by lia),λ⟨a,b⟩=>q e hs (by lia) ⟨w,hw,a,b⟩⟩
  .rintro⟨q,r⟩ i a b ⟨w',e1,e2,e3⟩;by_cases hi:i<e
   .exact q i a hi ⟨w',e1,e2,e3⟩
   .obtain rfl:i=e:=by lia
    rw[hw] at e1;cases e1;exact r ⟨e2,e3⟩
 refine⟨λz=>?_⟩;rw[h0];by_cases t:w.to=vc
 .rw[AG t,KW,Eg,h.mem,decide_eq_true_iff];exact⟨λ⟨⟨a,b⟩,c⟩=>⟨a,b,λy=>c y.2.symm⟩,λ⟨a,b,c⟩=>⟨⟨a,b⟩,λy=>c ⟨t,y.symm⟩⟩⟩
 .rw[AF t,h.mem];exact⟨λ⟨a,b⟩=>⟨a,b,λy=>t y.1⟩,λ⟨a,b,_⟩=>⟨a,b⟩⟩
def Fd.nil:Fd ws zs 0 (-1):=⟨λh=>by lia,λs e h=>by lia⟩
def Fd.skip(h:Fd ws zs k b)(q:¬GH ws zs k ws.length):Fd ws zs (k+1) b:=
 ⟨λh0=>let⟨s,e,a,r⟩:=h.snd h0;⟨s,e,by lia,r⟩,λs e a b c d=>by
  by_cases z:s<k
  .exact h.low s e z b c d
  .obtain rfl:s=k:=by lia
   exact absurd (d.mono c) q⟩
def Fd.put{e:Nat}(h:Fd ws zs k b)(hk:k<e)(he:e<=ws.length)(c:GH ws zs k e)(n:∀e',e'<e->¬GH ws zs k e'):Fd ws zs (k+1) (if b<0\/(e:Int)-k<b then(e:Int)-k else b):=by
 have low:∀e',k<e'->GH ws zs k e'->e<=e':=λe' _ d=>by
  rcases Nat.lt_or_ge e' e with z|z
  .exact absurd d (n e' z)
  .exact z
 by_cases t:b<0\/(e:Int)-k<b
 .rw[AG t];refine⟨λ_=>⟨k,e,by lia,hk,he,c,Z⟩,λs e' a q r d=>?_⟩;by_cases z:s<k
  .have:=h.low s e' z q r d
   lia
  .obtain rfl:s=k:=by lia
   have:=low e' q d
   lia
 .rw[AF t];refine⟨λh0=>let⟨s,e,a,r⟩:=h.snd h0;⟨s,e,by lia,r⟩,λs e' a q r d=>?_⟩;by_cases z:s<k
  .exact h.low s e' z q r d
  .obtain rfl:s=k:=by lia
   have:=low e' q d
   lia
end
structure QT(H:Hp)(l:OK)(as:List OK)(ws:List Wd):Prop where
 lst:H l=U (.lst (as.map V.ref))
 len:as.length=ws.length
 at_:∀(j:Nat) a w,as[j]? =U a->ws[j]? =U w->H a=U (.lst w.vq)
def QT.same{l:OK}{as:List OK}(h:QT H l as ws)(s:AM H H'):QT H' l as ws:=⟨s _ _ h.lst,h.len,λj a w e1 e2=>s _ _ (h.at_ j a w e1 e2)⟩
def Z9:Sp:=λvs H Q _=>∃(l t:OK)(as:List OK)(ws:List Wd)(zs:List Str),vs=[.ref l,.ref t]/\QT H l as ws/\ws.length<=100000/\H t=U (.tup (zs.map V.str))/\zs≠[]/\zs.length<=9/\∀b H',AM H H'->Fd ws zs ws.length b->Q (.int b) H'
def QS(l:List (Str×Bool)):List (Key×V):=Fh Sum.inr V.bl l
def Kr:A3 ["_law_words","_law_wanted","_law_best","_law_start","_law_left","_law_word","_law_stop"] ["_law_words","_law_wanted"] (Aq Sy):=by left
def nS(F:Ak K "_law_stretch" "_law_stretch" Sy f fd)(O:Own mg):AX P w K mg base Ai 1 f fd ["_law_words","_law_wanted"] Z9:=by
 refine F.ok Kr ?_ ?_
 .rintro _ _ _ _ ⟨_,_,_,_,_,rfl,_⟩;rfl
 .rintro _ A _ s H _ Q E hr ⟨l,t,as,ws,zs,rfl,wa,e7,ht,e4,e6,q⟩;have e5:=CZ hr;refine⟨_,(AU (Ax (i:=2) Kr.nd Z (AY Z) (Du Dr Aa)) (AU (DC C8 Z (PV Z O.JI (AE (Bh Gq Z O.len DX (AE (pv 0) AJ)) AJ)) (Bg (i:=3) Kr.nd Z (AY Z))
   (AU (Ax (i:=4) Kr.nd Z (AY Z) Lh) (AU (DC C8 Z (nW (pv 1)) (Bg (i:=5) Kr.nd Z (AY Z))
   (AR (Eh e5 (pv 4) (pv 5) IF Z))) (AR (DC C8 Z (fu Z O.JI (AE (pv 3) (AE (Bh Gq Z O.len DX (AE (pv 0) AJ)) AJ))) (Bg (i:=6) Kr.nd Z (AY Z))
   (AU (Ay (As BQ (ED (CK Cv (pv 0) (pv 6) (λ_ _=>rfl))) Ab (Am _))
   (AR (Bq (iZ (pv 4) (ED (CK Cv (pv 0) (pv 6) (λ_ _=>rfl))) ZF ⟨Z,Z,Z,Z⟩)))
   BC) (AR (Ay (As BQ (Bh WC Z O.len DX (AE (pv 4) AJ)) Aa (Am _))
   (AU (Ay (PW.pt (Iw (As Iq (pv 2) Aa (Am _)) (Io (As Iq (Al DJ (Al Lx (pv 6) (pv 3)) Aa) (pv 2) (Am _)))))
   (AR (Ax (i:=2) Kr.nd Z (AY Z) (Al DJ (Al Lx (pv 6) (pv 3)) Aa)))
   BC) (AR jC))
   BC)))))))) (AR (An (pv 2))))),?_⟩;have al:(as.map V.ref).length=ws.length:=by rw[AI,wa.len]
  refine⟨_,Z,_,Z,l,_,Z,.inl (AL.of wa.lst),_,Z,by lia,by lia,?_⟩;refine Lf (lo:=0) (n:=(as.map V.ref).length) (λi S H'=>∃(b:Int)(v3 v4 v5 v6:Option V),S=[U (.ref l),U (.ref t),U (.int b),v3,v4,v5,v6]/\AM H H'/\Fd ws zs i b) ⟨-1,J,J,J,J,Z,AM.refl _,Fd.nil⟩ ?_ ?_
  .rintro i S H' hi ⟨b,v3,v4,v5,v6,rfl,sm,sb⟩;rw[al] at hi;intro d hd;have h6:=sm.free hd;have s1:AM H (upd H' d (.dK [])):=sm.upd h6;refine⟨_,Z,t,Z,⟨_,AS.of (s1 _ _ ht)⟩,j3 (K:=K) (a:=t) (xs:=zs.map V.str) (λj S H2=>∃(v5:Option V)(lf:List (Str×Bool)),S=[U (.ref l),U (.ref t),U (.int b),U (.int (0+(i:Int))),U (.ref d),v5,v6]/\AM H H2/\H2 d=U (.dK (QS lf))/\(∀z,z∈lf.map (·.1)↔z∈zs.take j)/\lf.length<=j)
    ⟨v5,[],Z,s1,AN,λz=>Iff.rfl,Ac 0⟩ (λj S H2 _ ⟨_,_,_,s2,_⟩=>AS.of (s2 _ _ ht)) ?_ ?_⟩
   .rintro j y S H2 ey ⟨v5,lf,rfl,s2,h7,ml,ll⟩;rw[A1] at ey
    cases ez:zs[j]?with
    |none=>rw[ez] at ey;cases ey
    |some z=>
    rw[ez] at ey;obtain rfl:V.str z=y:=AZ ey;have hj:=(BP.mp ez).1;have e:=Ii (f:=(Sum.inr:Str->Key)) (g:=V.bl) EN z Y lf;have lp:(AW lf z Y).length<=lf.length+1:=by
     delta AW;split
     .rw[AI];lia
     .rw[A9];exact Ac _
    refine⟨_,Z,_,Z,d,_,Z,DO.kq (k:=Sum.inr z) h7 (by show(lf.map _).length<_;rw[AI,BA];lia),U (.str z),AW lf z Y,Z,s2.upd h6,by rw[AN];exact A2 (λq=>U (HO.dK q)) e,λx=>?_,by lia⟩;rw[Ig,Cf,ez];by_cases h:z∈lf.map (·.1)
    .rw[AG h,ml,Be];exact⟨.inl,λq=>q.elim id λq=>by rw[BW.mp q];exact(ml z).mp h⟩
    .rw[AF h,Be,Be,ml];exact Iff.rfl
   .rintro S H2 ⟨v5,lf,rfl,s2,h7,ml,ll⟩;rw[AI,CH] at ml;have e1:=wa.same s2;have e3:IQ ws zs i i lf:=⟨λz=>by rw[ml];exact⟨λq=>⟨q,λk h1 h2=>by lia⟩,λq=>q.1⟩⟩;refine⟨_,Z,_,Z,l,_,Z,.inl (AL.of e1.lst),_,_,Z,⟨by lia,by lia,by lia,by lia⟩,?_⟩;have en:(((as.map V.ref).length:Nat)-(0+(i:Int)):Int).toNat=ws.length-i:=by rw[al];lia
    rw[en];refine Lf (lo:=0+(i:Int)) (n:=ws.length-i) (λj S H3=>∃(v6:Option V)(lf:List (Str×Bool)),S=[U (.ref l),U (.ref t),U (.int b),U (.int (0+(i:Int))),U (.ref d),v5,v6]/\AM H H3/\H3 d=U (.dK (QS lf))/\IQ ws zs i (i+j) lf/\¬GH ws zs i (i+j)/\lf.length<=9)
     ⟨v6,lf,Z,s2,h7,e3,λc=>?_,by rw[AI] at ll;lia⟩ ?_ ?_
    .cases zs with
     |nil=>exact e4 Z
     |cons z zs=>
      obtain⟨k,h1,h2,_⟩:=c z CV
      lia
    .rintro j S H3 hj ⟨v6,lf,rfl,s3,h4,lt,nc,l9⟩;have h8:i+j<ws.length:=by lia
     have ew:ws[i+j]? =U ws[i+j]:=Ar h8;generalize ws[i+j]=wd at ew;have ha:i+j<as.length:=by rw[wa.len];exact h8
     have ea:as[i+j]? =U as[i+j]:=Ar ha;generalize as[i+j]=aw at ea;have ix:GN (as.map V.ref) (0+(i:Int)+(j:Int))=U (.ref aw):=by rw[show(0+(i:Int)+(j:Int))=((i+j:Nat):Int) by lia];exact BX (by rw[A1,ea];rfl)
     have h5:=wa.same s3;have e0:=h5.at_ _ _ _ ea ew;have h3:=lt.step (Nat.le_add_right i j) ew;dsimp only[EA];refine Lk (λS H4=>∃lf:List (Str×Bool),S=[U (.ref l),U (.ref t),U (.int b),U (.int (0+(i:Int))),U (.ref d),v5,U (.int (0+(i:Int)+(j:Int)))]/\AM H H4/\H4 d=U (.dK (QS lf))/\IQ ws zs i (i+j+1) lf/\lf.length<=9) ?_ ?_
     .rintro S H4 ⟨lf,rfl,s4,h9,lt,l9⟩;refine⟨_,Z,d,_,Z,h9,Z,_,Z,?_⟩;have ll:((QS lf).length:Int)=(lf.length:Nat):=by show(((lf.map _).length:Nat):Int)=_;rw[AI]
      by_cases h0:lf=[]
      .subst h0;have cv:=lt.rj Z;have pt:=sb.put (k:=i) (e:=i+j+1) (by lia) (by lia) cv λe' he c=>nc (c.mono (by lia));have eb:(0+(i:Int)+(j:Int)-(0+(i:Int))+1:Int)=(((i+j+1:Nat)):Int)-(i:Int):=by lia
       rw[<-eb] at pt;refine Bj Z ?_;refine Lk (λS H5=>∃b':Int,S=[U (.ref l),U (.ref t),U (.int b'),U (.int (0+(i:Int))),U (.ref d),v5,U (.int (0+(i:Int)+(j:Int)))]/\H5=H4/\Fd ws zs (i+1) b') ?_ ?_
       .rintro S H5 ⟨b',rfl,rfl,e2⟩;exact⟨b',_,_,_,_,Z,s4,e2⟩
       .intro hG;refine⟨_,Z,_,_,Z,Z,_,Z,?_⟩;by_cases hb:b<0
        .rw[AG (.inl hb)] at pt;exact Bj hb (Bs ⟨_,Z,_,Z,_,_,Z,Z,_,_,Z,Z,hG _ _ ⟨_,Z,Z,pt⟩⟩)
        .refine Bi hb ⟨_,Z,_,Z,_,_,Z,Z,_,_,Z,Z,_,Z,_,_,Z,Z,_,Z,?_⟩;by_cases hc:0+(i:Int)+(j:Int)-(0+(i:Int))+1<b
         .rw[AG (.inr hc)] at pt;exact Bj hc ⟨_,Z,_,Z,_,_,Z,Z,_,_,Z,Z,hG _ _ ⟨_,Z,Z,pt⟩⟩
         .rw[AF λq=>q.elim hb hc] at pt;exact Bi hc (hG _ _ ⟨_,Z,Z,pt⟩)
      .refine Bi (λq=>h0 ?_) ⟨_,lf,Z,s4,h9,lt,lt.not h0,l9⟩;have:=V.int.inj q;rw[ll] at this;exact Oe.mp (by lia)
     .intro hG;refine⟨_,Z,_,Z,l,_,_,.ref aw,Z,Z,AL.of h5.lst,ix,aw,_,_,_,Z,Z,AL.of e0,BX (j:=0) Z,Z,_,Z,?_⟩
      cases tw:wd.to with
      |true=>rw[tw,AF (by decide)] at h3;exact Bi (by rw[AG Z];exact ON (by left)) (hG _ _ ⟨lf,Z,s3,h4,h3,l9⟩)
      |false=>
       rw[tw,AG Z] at h3;have ld:=Ee (λp:Str×Bool=>decide (p.1≠wd.nm)) lf;refine Bj (by rw[AF (by decide)]) ⟨_,Z,d,Z,.inl ⟨_,.inl h4⟩,_,Z,_,Z,l,_,_,.ref aw,Z,Z,AL.of h5.lst,ix,aw,_,_,.str wd.nm,Z,Z,AL.of e0,BX (j:=1) Z,_,Sum.inr wd.nm,h4,Z,λv hv=>?_,λhv=>?_⟩
       .refine hG _ _ ⟨AQ lf wd.nm,Z,s3.upd h6,by rw[AN];exact A2 (λq=>U (HO.dK q)) (KU (f:=(Sum.inr:Str->Key)) (g:=V.bl) EN wd.nm lf),h3,BI ld l9⟩
       .have e:=D6 (f:=(Sum.inr:Str->Key)) (g:=V.bl) EN wd.nm lf;have hg:AH lf wd.nm=J:=by
         cases hg:AH lf wd.nm with
         |none=>rfl
         |some _=>rw[hg] at e;exact absurd (e.symm.trans hv) (by intro z;cases z)
        have ed:AQ lf wd.nm=lf:=List.filter_eq_self.mpr λp hp=>Bc λz=>NV hg (Aw.mpr ⟨p,hp,z⟩);rw[ed] at h3;exact hG _ _ ⟨lf,Z,s3,h4,h3,l9⟩
    .rintro S H3 ⟨v6,lf,rfl,s3,h4,lt,nc,l9⟩;rw[show i+(ws.length-i)=ws.length by lia] at nc;exact⟨b,_,_,_,_,Z,s3,sb.skip nc⟩
  .rintro S H' ⟨b,v3,v4,v5,v6,rfl,sm,sb⟩;rw[al] at sb;exact⟨_,Z,q b H' sm sb⟩
theorem NS(z:Str):∀(ps:List PR)(k:Nat)(x:Int),x∈CT z k ps↔∃i:Nat,x=((k+i:Nat):Int)/\ps[i]? =U (("word" :Str),z)
 |[],k,x=>by
  rw[CT];constructor
  .intro h;cases h
  .rintro⟨i,_,h⟩;cases h
 |p::ps,k,x=>by
  rw[CT,Be,NS z ps (k+1) x];constructor
  .rintro(h|⟨i,e,h⟩)
   .by_cases t:p=(("word" :Str),z)
    .rw[AG t] at h;exact⟨0,BW.mp h,by rw[t];rfl⟩
    .rw[AF t] at h;cases h
   .exact⟨i+1,by rw[e];congr 1;lia,h⟩
  .rintro⟨i,e,h⟩
   cases i with
   |zero=>have t:p=(("word" :Str),z):=AZ h;rw[AG t];exact .inl (by rw[e];exact BW.mpr Z)
   |succ i=>exact .inr ⟨i,by rw[e];congr 1;lia,h⟩
def iz{S:List Str}:x∈Dx S z↔x∈S\/x=z:=by
 delta Dx;by_cases h:z∈S
 .rw[AG h];exact⟨.inl,λq=>q.elim id λe=>e▸h⟩
 .rw[AF h,Be,BW]
theorem Xs:∀(zs S:List Str)(x:Str),x∈Dv S zs↔x∈S\/x∈zs
 |[],S,x=>by rw[Dv];exact⟨.inl,λq=>q.elim id λh=>by cases h⟩
 |z::zs,S,x=>by rw[Dv,Xs zs,iz,BM,or_assoc]
def kJ{S:List Str}(h:S.Nodup):(Dx S z).Nodup:=by
 delta Dx;by_cases t:z∈S
 .rw[AG t];exact h
 .rw[AF t];exact Oy.mpr ⟨h,E1.mpr ⟨JQ,JS⟩,λa ha b hb e=>t (by rw[BW.mp hb] at e;exact e▸ha)⟩
theorem YG:∀(zs S:List Str),S.Nodup->(Dv S zs).Nodup
 |[],_,h=>h
 |z::zs,S,h=>YG zs _ (kJ h)
def PN:x∈Cd zs↔x∈zs:=by delta Cd;rw[(HM ES _).mem_iff,Xs];exact⟨λq=>q.elim (λh=>by cases h) id,.inr⟩
def gS(zs:List Str):(Cd zs).Nodup:=(HM ES _).nodup_iff.mpr (YG zs [] JS)
theorem ZO{s e:Int}:∀{rows:List (List Int)},rows≠[]->(∀row∈rows,∃x,GF s row=U x/\x<=e)->∃f,f<=e/\(∃row∈rows,GF s row=U f)/\∀row∈rows,∃x,GF s row=U x/\x<=f
 |[],h,_=>absurd Z h
 |[r],_,h=>by obtain⟨x,h1,h2⟩:=h r CV;exact⟨x,h2,⟨r,CV,h1⟩,λq hq=>⟨x,by rw[BW.mp hq];exact h1,HL _⟩⟩
 |r::r2::rows,_,h=>by
  obtain⟨x,h1,h2⟩:=h r CV;obtain⟨f,a,⟨q,hq,b⟩,c⟩:=ZO (rows:=r2::rows) (List.cons_ne_nil _ _) λq hq=>h q (Ce _ hq);by_cases t:x<=f
  .refine⟨f,a,⟨q,Ce _ hq,b⟩,λy hy=>?_⟩;rcases BM.mp hy with z|z
   .exact⟨x,by rw[z];exact h1,t⟩
   .exact c y z
  .refine⟨x,h2,⟨r,CV,h1⟩,λy hy=>?_⟩;rcases BM.mp hy with z|z
   .exact⟨x,by rw[z];exact h1,HL _⟩
   .obtain⟨w,e1,e2⟩:=c y z;exact⟨w,e1,by lia⟩
section
variable{ps:List PR}{b:Int}
def fz(hp:∀i z,Ju ws i z↔ps[i]? =U (("word" :Str),z))(hl:ps.length=ws.length)(h0:zs≠[])(st:Fd ws zs ws.length b):L2.short (rowsOf ps (Cd zs))=if b<0 then J else U b:=by
 have up:∀h4∈rowsOf ps (Cd zs),h4.Pairwise (·<·):=λh4 hr=>by obtain⟨z,_,rfl⟩:=Aw.mp hr;exact Nl z ps 0
 have h4:∀z∈zs,CT z 0 ps∈rowsOf ps (Cd zs):=λz hz=>Aw.mpr ⟨z,PN.mpr hz,Z⟩;have inr:∀h4∈rowsOf ps (Cd zs),∃z∈zs,h4=CT z 0 ps:=λh4 hr=>by obtain⟨z,hz,rfl⟩:=Aw.mp hr;exact⟨z,PN.mp hz,Z⟩
 have lt:∀h4∈rowsOf ps (Cd zs),∀x∈h4,∃i:Nat,x=(i:Int)/\i<ws.length:=λh4 hr x hx=>by obtain⟨z,_,rfl⟩:=inr h4 hr;obtain⟨i,e,h⟩:=(NS z ps 0 x).mp hx;exact⟨i,by rw[e,KP],by rw[<-hl];exact(BP.mp h).1⟩
 have low:∀s m,K7 (rowsOf ps (Cd zs)) s m->0<=b/\b<=m:=by
  rintro s m ⟨e,⟨r1,h9,hs⟩,se,all,e0,rfl⟩;obtain⟨s',rfl,h7⟩:=lt r1 h9 s hs;obtain⟨e',rfl,e5⟩:∃i:Nat,e=(i:Int)/\i<ws.length:=by
   rcases e0 with q|⟨r2,h5,q⟩
   .exact⟨s',q,h7⟩
   .exact lt r2 h5 e (NN q).1
  have:=st.low s' (e'+1) h7 (by lia) (by lia) λz hz=>by obtain⟨x,e1,e2⟩:=all _ (h4 z hz);obtain⟨hx,e4⟩:=NN e1;obtain⟨i,e3,h⟩:=(NS z ps 0 x).mp hx;rw[KP] at e3;exact⟨i,by lia,by lia,(hp i z).mpr h⟩
  lia
 refine Xg ⟨λm hm=>?_,λs m h=>?_⟩
 .by_cases hb:b<0
  .rw[AG hb] at hm;cases hm
  .rw[AF hb] at hm;obtain rfl:b=m:=AZ hm;obtain⟨s,e,h1,h2,h3,cv,eb⟩:=st.snd (by lia);have all:∀h4∈rowsOf ps (Cd zs),∃x,GF (s:Int) h4=U x/\x<=(e:Int)-1:=λh4 hr=>by obtain⟨z,hz,rfl⟩:=inr h4 hr;obtain⟨i,a,c,q⟩:=cv z hz;have hx:(i:Int)∈CT z 0 ps:=(NS z ps 0 _).mpr ⟨i,by rw[KP],(hp i z).mp q⟩;obtain⟨x,e1,e2⟩:=Zo (s:=(s:Int)) (Nl z ps 0) hx (by lia);exact⟨x,e1,by lia⟩
   have h8:∃h4∈rowsOf ps (Cd zs),(s:Int)∈h4:=by
    rcases Classical.em (∃z∈zs,Ju ws s z) with⟨z,hz,q⟩|q
    .exact⟨_,h4 z hz,(NS z ps 0 _).mpr ⟨s,by rw[KP],(hp s z).mp q⟩⟩
    .have c2:GH ws zs (s+1) e:=λz hz=>by obtain⟨i,a,c,r⟩:=cv z hz;have:i≠s:=λz2=>q ⟨z,hz,z2▸r⟩;exact⟨i,by lia,c,r⟩
     have:s+1<e:=by
      cases zs with
      |nil=>exact absurd Z h0
      |cons z zs=>
       obtain⟨i,a,c,_⟩:=c2 z CV
       lia
     have:=st.low (s+1) e (by lia) this h3 c2
     lia
   obtain⟨f,a,c,d⟩:=ZO (rows:=rowsOf ps (Cd zs)) (λz=>by obtain⟨r,hr,_⟩:=h8;rw[z] at hr;cases hr) all;obtain⟨r2,h5,q⟩:=c;have h6:K7 (rowsOf ps (Cd zs)) s (f-s+1):=⟨f,h8,(NN q).2,d,.inr ⟨r2,h5,q⟩,Z⟩;have:=low _ _ h6;exact⟨s,(show b=f-s+1 by lia)▸h6⟩
 .obtain⟨h1,h2⟩:=low s m h;exact⟨b,AF (by lia),h2⟩
noncomputable def EF(ws:List Wd):List Str:=(ws.filter λw=> !w.to).map (·.nm)
def many(ws:List Wd)(zs:List Str):Nat:=((EF ws).filter λx=>decide (x∈zs)).length
def kZ{L:List Str}(nd:L.Nodup)(p:PR):((L.map λz=>if p=(("word" :Str),z) then(1:Int) else 0).sum)=if p.1=("word" :Str)/\p.2∈L then 1 else 0:=by
 induction L with
 |nil=>rw[AF λq=>by cases q.2];rfl
 |cons z L ih=>
  obtain⟨h1,h2⟩:=E1.mp nd;rw[Au,Bn,ih h2];by_cases e:p=(("word" :Str),z)
  .rw[AG e,AF λq=>h1 (by rw[e] at q;exact q.2),AG ⟨by rw[e],by rw[e];exact CV⟩];rfl
  .rw[AF e];by_cases t:p.1=("word" :Str)/\p.2∈L
   .rw[AG t,AG ⟨t.1,Ce _ t.2⟩];rfl
   .rw[AF t,AF λq=>?_]
    .rfl
    .rcases BM.mp q.2 with y|y
     .exact e (Prod.ext q.1 y)
     .exact t ⟨q.1,y⟩
def marks_cons(L:List Str)(p:PR):∀(k:Nat)(ps:List PR),(L.map λz=>((CT z k (p::ps)).length:Int)).sum=(L.map λz=>if p=(("word" :Str),z) then(1:Int) else 0).sum+(L.map λz=>((CT z (k+1) ps).length:Int)).sum:=λk ps=>by
 induction L with
 |nil=>rfl
 |cons z L ih=>
  rw[Au,Au,Au,Bn,Bn,Bn,ih,CT];by_cases e:p=(("word" :Str),z)
  .rw[AG e,AG e,A9,Ey]
   lia
  .rw[AF e,AF e,O3]
   lia
theorem WH(names:List (Str×Int)):∀(ws:List Wd)(k:Nat),((Cd zs).map λz=>((CT z k (ws.map (sh names))).length:Int)).sum=(many ws zs:Nat)
 |[],k=>by
  show((Cd zs).map λz=>((CT z k []).length:Int)).sum=0;generalize Cd zs=L
  induction L with
  |nil=>rfl
  |cons z L ih=>rw[Au,Bn,ih];rfl
 |w::ws,k=>by
  rw[Au,marks_cons,WH names ws (k+1),kZ (gS zs)];delta many EF
  cases t:w.to with
  |true=>
   rw[FF (by rw[t];decide),AF λq=>?_]
   .lia
   .have:(sh names w).1=("to" :Str):=by delta sh;rw[AG t]
    exact absurd (this.symm.trans q.1) (by left)
  |false=>
   rw[Ed (by rw[t];rfl),Au,E5 t];by_cases hz:w.nm∈zs
   .rw[AG ⟨Z,PN.mpr hz⟩,Ed (p:=λx:Str=>decide (x∈zs)) (Bc hz),Bw]
    lia
   .rw[AF λq=>hz (PN.mp q.2),FF (by simpa using hz)]
    lia
def pf(names:List (Str×Int))(ws:List Wd)(i:Nat)(z:Str):Ju ws i z↔(ws.map (sh names))[i]? =U (("word" :Str),z):=by
 rw[A1];constructor
 .rintro⟨w,h1,h2,h3⟩;rw[h1,<-h3,<-E5 h2];rfl
 .intro h
  cases e:ws[i]?with
  |none=>rw[e] at h;cases h
  |some w=>
   rw[e] at h;have h:sh names w=(("word" :Str),z):=AZ h
   cases t:w.to with
   |true=>
    have:(sh names w).1=("to" :Str):=by delta sh;rw[AG t]
    rw[h] at this;exact absurd (show("word" :Str)="to" from this) (by left)
   |false=>rw[E5 t] at h;exact⟨w,e,t,A2 Prod.snd h⟩
def jc{near:Int}(h0:zs≠[])(st:Fd ws zs ws.length b):C1 (Cd zs) near (nm,ws.map (sh names))=if 0<b/\b<=near then U [.inl b,.inl (0-(many ws zs:Nat)),.inr nm] else J:=by
 have e:=fz (pf names ws) (AI _) h0 st;have m:NY (rowsOf (ws.map (sh names)) (Cd zs))=(many ws zs:Nat):=by delta NY rowsOf;rw[Bf];exact WH names ws 0
 delta C1;rw[e,m];by_cases hb:b<0
 .rw[AG hb,AF λq=>by lia]
 .have h1:0<b:=by
   obtain⟨s,e,_,h2,_,_,eb⟩:=st.snd (by lia)
   lia
  rw[AF hb];dsimp only;by_cases t:b<=near
  .rw[AG t,AG ⟨h1,t⟩,Int.zero_sub]
  .rw[AF t,AF λq=>t q.2]
end
def ZM:Sp:=λvs H Q _=>∃(a t:OK)(h0:Int)(zs:List Str)(H0:Hp)(n:Nk),vs=[.ref a,.ref t,.int h0]/\CC H0 H a n/\Fits n/\Bd n/\n.names.length<=1000/\H t=U (.tup (zs.map V.str))/\zs≠[]/\zs.length<=9/\∀u H',AM H H'->Rep H' (GV (vw n) zs h0) u->Q u H'
def Ki:A3 ["_law_nook","_law_wanted","_law_near","_law_rows","_law_name","_law_words","_law_length","_law_plain","_law_many"] ["_law_nook","_law_wanted","_law_near"] (Aq UW):=by left
def kz(F:Ak K "_law_hits" "_law_hits" UW f fd)(O:Own mg)(hso:mg "sorted" =J)
 (HSt:Hv P w K mg base "_law_stretch" 1 ["_law_words","_law_wanted"] Z9):AX P w K mg base Ai 2 f fd ["_law_nook","_law_wanted","_law_near"] ZM:=by
 refine F.ok Ki ?_ ?_
 .rintro _ _ _ _ ⟨_,_,_,_,_,_,rfl,_⟩;rfl
 .rintro _ A _ s H _ Q E hr ⟨a,t,near,zs,H0,n,rfl,⟨an,r7,tx,nk⟩,r5,bd,t6,ht,s9,q3,q⟩;have h5:=CZ hr;refine⟨_,(AU (Ax (i:=3) Ki.nd Z (AY Z) (CY AJ)) (AU (DC C8 Z (EX (E3 (JY Z) Z O.lst F1 (AE (By h5 (pv 0)) AJ))) (Bg (i:=4) Ki.nd Z (AY Z))
   (AU (Ax (i:=5) Ki.nd Z (AY Z) (DB h5 (By h5 (pv 0)) (DB h5 (By h5 (pv 0)) (pv 4) (λ_ _=>rfl)) (λ_ _=>rfl))) (AU (Ax (i:=6) Ki.nd Z (AY Z) (Cj HSt hr Z BF (AE (pv 5) (AE (pv 1) AJ)))) (AU (Yw (i:=7) (ts:=["_law_word"]) (cap:=[]) (ix:=[]) (JZ Z Z (by left) (by left)) Ki.nd Z Z (EX (pv 5)) (λ_ _ _ _ _=>Bg (i:=0) LB Z (AY Z) (Cn Z)) (λ_ _ _ _ _=>(Ls (As BQ (ED (pv 0)) Ab (Am _)))) (λ_ _ _ _ _=>(ED (pv 0)))) (AU (Ax (i:=8) Ki.nd Z (AY Z) (Bh Gq Z O.len DX (AE (E6 (ts:=["_law_word"]) (cap:=["_law_wanted"]) (ix:=[1]) (Jb Z Z (by left) (by left) Z Z Z Z Z) (EX (pv 7)) (λ_ _ _ _ _=>Bg (i:=0) (IS (by left)) Z (AY Z) (Cn Z)) (λ_ _ _ _ _=>(Ls (As ah (pv 0) (pv 1) Z))) (λ_ _ _ _ _=>(pv 0))) AJ))) (AR (Ay (PW.pt (FY (As QO (pv 6) Aa (Am _)) (HV (As aQ (pv 6) (pv 2) (Am _)))))
   (AR (Bq (Ea D4 Ew Eu EM (pv 3) (AE (Cm (AE (pv 6) (AE (Al Lx Aa (pv 8)) (AE (pv 4) AJ)))) AJ))))
   BC))))))) (AR (An (E6 (ts:=["_law_row"]) (cap:=[]) (ix:=[]) (JZ Z Z (by left) (by left)) (EX (Bh SI Z hso Ld (AE (pv 3) AJ))) (λ_ _ _ _ _=>Bg (i:=0) LB Z (AY Z) (Cn Z)) (λ_ _ _ _ _=>HX) (λ_ _ _ _ _=>(Cm (AE (A0 (pv 0)) (AE (A0 (pv 0)) AJ))))))))),?_⟩;refine⟨by exact zy,λrq r1=>?_⟩;have s1:AM H (upd H rq (.lst [])):=Ag r1;have h1:(upd H rq (.lst [])) rq=U (.lst []):=AN;generalize upd H rq (.lst [])=H1 at s1 h1;have s8:=nk.ext s1;refine⟨_,Z,a,_,Z,Dl s8.ha,an,_,Z,s8.hn,λL hL=>?_⟩;have ek:((Fs n.names).map λkv=>kV kv.1)=n.names.map λp=>V.str p.1:=by
   show(n.names.map _).map _=_;rw[Bf];rfl
  rw[ek];have s2:AM H (upd H1 L (.lst (n.names.map λp=>V.str p.1))):=s1.trans (Ag hL);have h2:=(Ag (o:=.lst (n.names.map λp=>V.str p.1)) hL) _ _ h1;have t5:H L=J:=s1.free hL;have q2:L≠rq:=(A8 h1 hL).symm;have e9:(upd H1 L (.lst (n.names.map λp=>V.str p.1))) L=U (.lst (n.names.map λp=>V.str p.1)):=AN;generalize upd H1 L (.lst (n.names.map λp=>V.str p.1))=H2 at s2 h2 e9;refine⟨L,Z,⟨_,AL.of e9⟩,HN (K:=[]) (a:=L) (xs:=n.names.map λp=>V.str p.1) (λi S H'=>∃(v4 v5 v6 v7 v8:Option V)(l:List (OK×List Key)),S=[U (.ref a),U (.ref t),U (.int near),U (.ref rq),v4,v5,v6,v7,v8]/\AM H H'/\H' L=U (.lst (n.names.map λp=>V.str p.1))/\
   H' rq=U (.lst (l.map λp=>V.ref p.1))/\(∀q∈l,H' q.1=U (.tup (q.2.map kV))/\∃m c z,q.2=[.inl m,.inl c,.inr z])/\l.map (·.2)=((vw n).take i).filterMap (C1 (Cd zs) near)) ⟨J,J,J,J,J,[],Z,s2,e9,h2,λq hq=>(by cases hq),Z⟩ (λi S H' _ ⟨_,_,_,_,_,_,_,_,h,_⟩=>AL.of h) ?_ ?_⟩
  .rintro i x S H' hx ⟨v4,v5,v6,v7,v8,l,rfl,sm,r4,e5,hl,el⟩;rw[A1] at hx
   cases ep:n.names[i]?with
   |none=>rw[ep] at hx;cases hx
   |some p=>
   rw[ep] at hx;obtain rfl:V.str p.1=x:=AZ hx;obtain⟨nm,no⟩:=p;have r2:=Il bd.b.CO ep;obtain⟨ws,e0,_⟩:=bd.b.text r2;have h4:=nk.ext sm;obtain⟨l1,h8,g1,e7,DM,r8,_⟩:=h4.find r5.CF e0;have r6:=D7 h4.hn nm;rw[r2] at r6;have d1:BN H' r7 (.int no) (U (.ref l1)):=by have:=BN.kq (k:=.inl no) h4.ht;rw[D6 Ei,g1] at this;exact this
   have t1:(vw n)[i]? =U (nm,ws.map (sh n.names)):=by delta vw;rw[A1,ep];show U (nm,Af n no)=_;delta Af;rw[e0];rfl
   have q6:ws.length<=100000:=r5.words _ (BJ e0);have ll:l.length<=1000:=by
    have e1:=A2 List.length el;have e2:=Od (C1 (Cd zs) near) ((vw n).take i);have e3:=Ef i (vw n);have e4:(vw n).length=n.names.length:=by delta vw;rw[AI]
    rw[AI] at e1
    lia
   refine⟨_,Z,a,_,Z,Fv h4.ha,_,Z,a,_,Z,Dl h4.ha,_,Z,an,_,Z,r6,r7,_,Z,d1,?_⟩;refine⟨_,Z,_,Z,l1,t,h8,ws,zs,Z,⟨e7,DM,r8⟩,q6,sm _ _ ht,s9,q3,λb H4 s4 st=>?_⟩;have e1:=jc (names:=n.names) (nm:=nm) (near:=near) s9 st;have s3:((vw n).take (i+1)).filterMap (C1 (Cd zs) near)=((vw n).take i).filterMap (C1 (Cd zs) near)++(C1 (Cd zs) near (nm,ws.map (sh n.names))).toList:=by rw[Cf,t1,RG];show _++List.filterMap (C1 (Cd zs) near) [_]=_;congr 1
   refine⟨_,Z,l1,Z,⟨_,AL.of (s4 _ _ e7)⟩,λD hD=>Gf (K:=[]) (xs:=h8.map V.ref) (λj H5=>CI H4 D ((EF (ws.take j)).map Dt.str) H5) (CI.start hD) (λj H5 _ c=>AL.of (c.same _ _ (s4 _ _ e7))) (λj y H5 ey c=>?_) λH5 c=>?_⟩
   .rw[A1] at ey
    cases ea:h8[j]?with
    |none=>rw[ea] at ey;cases ey
    |some aw=>
    rw[ea] at ey;obtain rfl:V.ref aw=y:=AZ ey;have hj:j<ws.length:=by rw[<-DM];exact(BP.mp ea).1
    have s0:ws[j]? =U ws[j]:=Ar hj;generalize ws[j]=wd at s0;have r3:H5 aw=U (.lst wd.vq):=c.same _ _ (s4 _ _ (r8 j aw wd ea s0));have ef:EF (ws.take (j+1))=EF (ws.take j)++(([wd].filter λw=> !w.to).map (·.nm)):=by delta EF;rw[Cf,s0,Mt,BL];rfl
    refine⟨Ff,_,Z,aw,_,_,_,Z,Z,AL.of r3,BX (j:=0) Z,Z,_,Z,?_⟩
    cases tw:wd.to with
    |true=>
     have s7:EF (ws.take (j+1))=EF (ws.take j):=by rw[ef,FF (by rw[tw];decide)];exact CW _
     rw[s7];exact Bi (by rw[AG Z];exact ON (by left)) c
    |false=>
     have s7:EF (ws.take (j+1))=EF (ws.take j)++[wd.nm]:=by rw[ef,Ed (by rw[tw];rfl)];rfl
     rw[s7,BL];refine Bj (by rw[AF (by decide)]) ⟨_,Z,aw,_,_,.str wd.nm,Z,Z,AL.of r3,BX (j:=1) Z,c.push (d:=.str wd.nm) (.str _) ?_⟩;delta EF;rw[AI,AI];have f1:=Ee (λw:Wd=> !w.to) (ws.take j);have f2:=Ef j ws
     lia
   rw[AI,DM,CH] at c;obtain⟨yp,r0,r9⟩:=c.lst;obtain rfl:=KY r9;have s5:=s4.trans c.same;have t4:(EF ws).length<=100000:=by
    delta EF;rw[AI];have f1:=Ee (λw:Wd=> !w.to) ws
    lia
   refine⟨_,Z,D,Z,⟨_,AL.of r0⟩,λD2 q9=>Gf (K:=[]) (xs:=(EF ws).map V.str) (λj H6=>CI H5 D2 ((((EF ws).take j).filter λx=>decide (x∈zs)).map Dt.str) H6) (CI.start q9) (λj H6 _ c=>AL.of (c.same _ _ r0)) (λj y H6 ey c=>?_) λH6 c=>?_⟩
   .rw[A1] at ey
    cases ez:(EF ws)[j]?with
    |none=>rw[ez] at ey;cases ey
    |some z=>
    rw[ez] at ey;obtain rfl:V.str z=y:=AZ ey;have fl:(zs.map V.str).all Iy=Y:=by rw[List.all_map];exact M6.mpr λ_ _=>rfl
    have t3:Fo (.str z) (zs.map V.str)=decide (z∈zs):=by
     delta Fo;rw[PH];by_cases h:z∈zs
     .rw[Bc h];exact HH.mpr ⟨z,h,Ic z⟩
     .rw[BG h];exact List.any_eq_false.mpr λx hx q=>h ((show x=z from Fw.mp q)▸hx)
    rw[take_succ_filter ez];refine⟨Ff,_,Z,_,Z,t,_,Z,.inr (AS.of (c.same _ _ (s5 _ _ (sm _ _ ht)))),Z,fl,_,Z,?_⟩;show if Fo (.str z) (zs.map V.str)=Y then _ else _;rw[t3];by_cases h:z∈zs
    .rw[AG (Bc h),AG (Bc h),BL];refine⟨_,Z,c.push (d:=.str z) (.str _) ?_⟩;rw[AI];have f1:=Ee (λx:Str=>decide (x∈zs)) ((EF ws).take j);have f2:=Ef j (EF ws)
     lia
    .rw[AF (by simpa using h),AF (by simpa using h),CW];exact c
   rw[AI,CH] at c;obtain⟨ym,q5,q0⟩:=c.lst;have t0:ym.length=many ws zs:=by have:=q0.1;rw[AI] at this;exact this.symm
   refine⟨D2,ym,Z,.inl (AL.of q5),?_⟩;rw[t0];have s6:=s5.trans c.same;have h9:=sm.trans s6;have e8:=s6 _ _ r4;have h3:=s6 _ _ e5;have h7:∀q∈l,H6 q.1=U (.tup (q.2.map kV))/\∃m c z,q.2=[.inl m,.inl c,.inr z]:=λq hq=>⟨s6 _ _ (hl q hq).1,(hl q hq).2⟩;refine⟨_,Z,_,_,Z,Z,_,Z,?_⟩;by_cases hb:0<b
   .refine Bj hb ⟨_,Z,_,Z,_,_,Z,Z,_,Z,?_⟩;by_cases hn:b<=near
    .rw[AG ⟨hb,hn⟩] at e1;refine Bj hn ⟨_,Z,.inl ⟨Z,_,AL.of h3⟩,_,Z,_,Z,_,_,Z,Z,_,Z,by exact zv,λtp h6=>?_⟩;have st:=Ag (o:=.tup [.int b,.int (0-(many ws zs:Nat)),.str nm]) h6;have q1:tp≠rq:=(A8 h3 h6).symm;refine⟨rq,_,_,Z,Z,st _ _ h3,by rw[AI,BA];lia,_,_,_,_,_,l++[(tp,[.inl b,.inl (0-(many ws zs:Nat)),.inr nm])],Z,(h9.trans st).upd r1,by rw[AO q2];exact st _ _ e8,?_,λq hq=>?_,?_⟩
     .rw[AN,BL];rfl
     .rcases Be.mp hq with e|e
      .refine⟨?_,(h7 q e).2⟩;have h1:=st _ _ (h7 q e).1;rw[AO (CN h1 (st _ _ h3) (by intro z;cases z))];exact h1
      .rw[BW.mp e];refine⟨?_,_,_,_,Z⟩;rw[AO q1,AN];rfl
     .rw[BL,el,s3,e1];rfl
    .rw[AF λq=>hn q.2] at e1;exact Bi hn ⟨_,_,_,_,_,l,Z,h9,e8,h3,h7,by rw[s3,e1,el];simp⟩
   .rw[AF λq=>hb q.1] at e1;exact Bi hb (BV ⟨_,_,_,_,_,l,Z,h9,e8,h3,h7,by rw[s3,e1,el];simp⟩)
  .rintro S H' ⟨v4,v5,v6,v7,v8,l,rfl,sm,r4,e5,hl,el⟩;have e4:(vw n).length=n.names.length:=by delta vw;rw[AI]
   rw[AI,<-e4,CH] at el;have ll:l.length<=1000:=by
    have e1:=A2 List.length el;have e2:=Od (C1 (Cd zs) near) (vw n);rw[AI] at e1
    lia
   refine⟨_,Z,rq,l,[kd (.inl 0),kd (.inl 0),kd (.inr "")],Z,AL.of e5,(by intro z;cases z),λq hq=>⟨(hl q hq).1,?_⟩,by lia,λDS qs q8 e6 q7=>?_⟩
   .obtain⟨m,c,z,e⟩:=(hl q hq).2;rw[e];rfl
   have sS:=Ag (o:=.lst (qs.map λp=>V.ref p.1)) q8;have h0:(upd H' DS (.lst (qs.map λp=>V.ref p.1))) DS=U (.lst (qs.map λp=>V.ref p.1)):=AN;generalize upd H' DS (.lst (qs.map λp=>V.ref p.1))=H3 at sS h0;have t2:qs.map (·.2)=Fg lexOrd (MH (vw n) zs near):=Kg lexOrd ((e6.map _).trans (.of_eq el)) (My.mpr q7);refine⟨DS,Z,⟨_,AL.of h0⟩,λD hD=>Gf (K:=[]) (xs:=qs.map λp=>V.ref p.1) (λj H4=>CI H3 D (((qs.take j).map (·.2)).map F7) H4) (CI.start hD) (λj H4 _ c=>AL.of (c.same _ _ h0)) (λj y H4 ey c=>?_) λH4 c=>?_⟩
   .rw[A1] at ey
    cases ez:qs[j]?with
    |none=>rw[ez] at ey;cases ey
    |some z=>
    rw[ez] at ey;obtain rfl:V.ref z.1=y:=AZ ey;obtain⟨h1,m,cc,nm,e⟩:=hl z (e6.mem_iff.mp (Bv ez));have hz:=c.same _ _ (sS _ _ h1);rw[e] at hz;rw[KN ez,BL];refine⟨Ff,_,Z,z.1,_,2,.str nm,Z,Z,AS.of hz,Z,_,Z,z.1,_,0,.int m,Z,Z,AS.of hz,Z,by exact zw,λtp h6=>?_⟩;obtain⟨z5,q4,_⟩:=c.lst;have nt:tp≠D:=(A8 q4 h6).symm;refine(c.ext (Ag h6)).push (d:=F7 z.2) ?_ ?_
    .rw[e];exact Rep.MY (Ex.at AN nt) (Ah.snoc (Ah.snoc Ah.nil (.str _)) (.int _))
    .rw[AI,AI];have f1:=Ef j qs;have f2:=e6.length_eq
     lia
   .rw[AI,CH,t2] at c;exact q _ _ (sm.trans (sS.trans c.same)) c.done
def Y3{ws:List PR}{t:Str}:t∈Ho ws↔(("to" :Str),t)∈ws:=by
 delta Ho;constructor
 .intro h;obtain⟨p,hp,e⟩:=Aw.mp h;obtain⟨h1,h2⟩:=Eg.mp hp;have:p=(("to" :Str),t):=Prod.ext (HF h2) e;exact this▸h1
 .intro h;exact Aw.mpr ⟨_,Eg.mpr ⟨h,Bc Z⟩,Z⟩
def W8(nd:(AD.map (·.1)).Nodup):(∃r∈JC AD,r.2.1=nm/\r.1=z)↔z∈D1 AD nm:=by
 delta JC D1 T9;constructor
 .rintro⟨r,hr,rfl,rfl⟩;obtain⟨m,hm,h⟩:=List.mem_flatMap.mp hr;obtain⟨t,ht,rfl⟩:=Aw.mp h;obtain⟨v,hv⟩:=NT ((HM ES (keys AD)).mem_iff.mp hm);rw[hv] at ht;exact Aw.mpr ⟨_,Eg.mpr ⟨BJ hv,HH.mpr ⟨_,Y3.mp ht,Bc Z⟩⟩,Z⟩
 .intro h;obtain⟨p,hp,rfl⟩:=Aw.mp h;obtain⟨h1,h2⟩:=Eg.mp hp;obtain⟨q,hq,e⟩:=HH.mp h2;have e:=HF e;refine⟨(p.1,nm,(AH AD nm).isSome),List.mem_flatMap.mpr ⟨p.1,(HM ES (keys AD)).mem_iff.mpr (List.mem_map_of_mem h1),Aw.mpr ⟨nm,?_,Z⟩⟩,Z,Z⟩;rw[Fy nd (show(p.1,p.2)∈AD from h1)];exact Y3.mpr (e▸hq)
def aa:Sp:=λvs H Q _=>∃(a:OK)(nm:Str)(H0:Hp)(n:Nk),vs=[.ref a,.str nm]/\CC H0 H a n/\Fits n/\Bd n/\n.names.length<64/\∀u H',AM H H'->Rep H' (.lst ((He (D1 (vw n) nm)).map Dt.str)) u->Q u H'
def U0:A3 ["_law_nook","_law_name","_law_rows","_law_pointer"] ["_law_nook","_law_name"] (Aq US):=by left
def pJ(F:Ak K "_law_back" "_law_back" US f fd)(O:Own mg)(hso:mg "sorted" =J)(HPt:Hv P w K mg base "_law_pointers" 3 ["_law_nook"] Yd):AX P w K mg base Ai 4 f fd ["_law_nook","_law_name"] aa:=by
 refine F.ok U0 ?_ ?_
 .rintro _ _ _ _ ⟨_,_,_,_,rfl,_⟩;rfl
 .rintro _ A _ s H _ Q E hr ⟨a,nm,H0,n,rfl,nk,e5,bd,h8,q⟩;have e3:=CZ hr;refine⟨_,(AU (Ax (i:=2) U0.nd Z (AY Z) Lh) (AU (DC C8 Z (EX (Cj HPt hr Z BF (AE (pv 0) AJ))) (Bg (i:=3) U0.nd Z (AY Z))
   (AR (Ay (As BQ (A0 (pv 3)) (pv 1) (Am _))
   (AR (Eh e3 (pv 2) (A0 (pv 3)) IF Z))
   BC))) (AR (An (Bh SH Z hso Ld (AE (E3 (JY Z) Z O.lst F1 (AE (pv 2) AJ)) AJ)))))),?_⟩;intro d hd;have s1:=Ag (o:=.dK []) hd;refine⟨_,Z,a,H0,n,Z,nk.ext s1,e5,bd,h8,λu H1 s2 ru=>?_⟩;rw[iX bd] at ru;obtain⟨l,xs,rfl,hl,rr⟩:=FU ru;have e4:H1 d=U (.dK []):=s2 _ _ AN;have e0:=s1.trans s2;have nd:((vw n).map (·.1)).Nodup:=by rw[Dm];exact bd.b.CO
  have xl:xs.length=(JC (vw n)).length:=by have:=rr.1;rw[AI] at this;exact this.symm
  refine⟨l,Z,⟨_,AL.of hl⟩,HN (K:=[]) (a:=l) (xs:=xs) (λi S H'=>∃(v3:Option V)(lf:List (Str×Bool)),S=[U (.ref a),U (.str nm),U (.ref d),v3]/\AM H H'/\H' l=U (.lst xs)/\Ah H' ((JC (vw n)).map JA) xs/\H' d=U (.dK (Fh Sum.inr V.bl lf))/\(∀z,z∈lf.map (·.1)↔∃r∈(JC (vw n)).take i,r.2.1=nm/\r.1=z)/\(lf.map (·.1)).Nodup)
   ⟨J,[],Z,e0,hl,rr,e4,λz=>Iff.intro (λh=>nomatch h) (λ⟨_,h,_⟩=>nomatch h),JS⟩ (λi S H' _ ⟨_,_,_,_,h,_⟩=>AL.of h) ?_ ?_⟩
  .rintro i y S H' ey ⟨v3,lf,rfl,sm,h6,h4,h0,ml,h5⟩;obtain⟨r,er,e1⟩:=Ik h4 ey;obtain⟨tp,rfl,h7⟩:=nP e1;have h9:(JC (vw n)).take (i+1)=(JC (vw n)).take i++[r]:=by rw[Cf,er];rfl
   refine⟨_,Z,tp,_,1,.str r.2.1,Z,Z,AS.of h7,Z,_,Z,Z,_,Z,?_⟩;have e2:∀z,z∈lf.map (·.1)->z∈keys (vw n):=λz hz=>by obtain⟨r,hr,h1,h2⟩:=(ml z).mp hz;have h3:=(W8 nd).mp ⟨r,GX hr,h1,h2⟩;unfold D1 at h3;obtain⟨p,hp,e⟩:=Aw.mp h3;exact e▸List.mem_map_of_mem (Eg.mp hp).1
   have ll:lf.length<64:=by
    have h1:=SV h5 e2;have h2:(keys (vw n)).length=n.names.length:=by delta keys vw;rw[AI,AI]
    rw[AI] at h1
    lia
   by_cases e:r.2.1=nm
   .refine Bj (A2 V.str e) ⟨_,Z,_,Z,tp,_,0,.str r.1,Z,Z,AS.of h7,Z,d,_,Z,DO.kq (k:=Sum.inr r.1) h0 (by show(lf.map _).length<_;rw[AI,BA];lia),_,AW lf r.1 Y,Z,sm.upd hd,?_,?_,by rw[AN];exact A2 (λq=>U (HO.dK q)) (Ii (f:=(Sum.inr:Str->Key)) (g:=V.bl) EN r.1 Y lf),λz=>?_,ER h5⟩
    .rw[AO (CN h6 h0 (by intro z;cases z))];exact h6
    .exact⟨h4.1,λi d2 x h1 h2=>(Lb h0 (h4.2 i d2 x h1 h2)).same Im⟩
    .rw[Ig,h9];by_cases h:r.1∈lf.map (·.1)
     .rw[AG h,ml];exact⟨λ⟨r2,h1,h2⟩=>⟨r2,GZ _ h1,h2⟩,λ⟨r2,h1,h2,h3⟩=>by
       rcases Be.mp h1 with q|q
       .exact⟨r2,q,h2,h3⟩
       .rw[BW.mp q] at h3;rw[<-h3];exact(ml _).mp h⟩
     .rw[AF h,Be,ml,BW];constructor
      .rintro(⟨r2,h1,h2⟩|rfl)
       .exact⟨r2,GZ _ h1,h2⟩
       .exact⟨r,Dk _ CV,e,Z⟩
      .rintro⟨r2,h1,h2,h3⟩;rcases Be.mp h1 with q|q
       .exact .inl ⟨r2,q,h2,h3⟩
       .rw[BW.mp q] at h3;exact .inr h3.symm
   .refine Bi (λz=>e (V.str.inj z)) ⟨_,lf,Z,sm,h6,h4,h0,λz=>?_,h5⟩;rw[ml,h9];exact⟨λ⟨r2,h1,h2⟩=>⟨r2,GZ _ h1,h2⟩,λ⟨r2,h1,h2,h3⟩=>by
     rcases Be.mp h1 with q|q
     .exact⟨r2,q,h2,h3⟩
     .rw[BW.mp q] at h2;exact absurd h2 e⟩
  .rintro S H' ⟨v3,lf,rfl,sm,h6,h4,h0,ml,h5⟩;rw[xl,CH] at ml;refine⟨_,Z,d,_,Z,h0,λL hL=>?_⟩;have ek:((Fh (Sum.inr:Str->Key) V.bl lf).map λkv=>kV kv.1)=(lf.map (·.1)).map V.str:=by show(lf.map _).map _=_;rw[Bf,Bf];rfl
   rw[ek];have pm:(lf.map (·.1)).Perm (D1 (vw n) nm):=(List.perm_ext_iff_of_nodup h5 ((RL.map _).nodup nd)).mpr λz=>by rw[ml];exact W8 nd
   have ll:(lf.map (·.1)).length<64:=by
    have h1:=(RL.map (Prod.fst (α:=Str) (β:=List PR)) (l₁:=(vw n).filter λp=>p.2.any λq=>decide (q=(("to" :Str),nm)))).length_le;rw[pm.length_eq];have h2:((vw n).map (·.1)).length=n.names.length:=by rw[Dm,AI]
    exact RO (BI h1 (Nat.le_of_eq h2)) h8
   refine⟨L,lf.map (·.1),Z,AL.of AN,ll,λD ys hD hp hs=>?_⟩;have e6:ys=He (D1 (vw n) nm):=(Kg ES hp hs).trans (jP ES pm);exact q _ _ (sm.trans ((Ag hL).trans (Ag hD))) (Rep.Hi AN (by rw[e6];exact Sl _))
def bV:Sp:=λvs H Q _=>∃(a:OK)(d:V)(x:Ap)(G:Hp)(n:Nk),vs=[.ref a,d]/\CC G H a n/\Fits n/\Bd n/\n.texts.length<1000/\n.names.length<64/\Rep G x.dt d/\x.Good/\BH n x="" /\
 (∀a' o',x=.join a' o'->(Ba n (Ao n a')++Ba n (Ao n o')).length<=100000)/\(∀no,wsum (Af n no)<=4000000)/\
 ∀u H' G' r,CC G' H' a (Ek n x)->AM G G'->(Ct (vw n) x).Dy=U r->Rep G' r u->Q u H'
def rM:A3 ["_law_nook","_law_deed"] ["_law_nook","_law_deed"] (Aq Su):=by left
def oM(F:Ak K "_law_replied" "_law_replied" Su f fd)
 (HTo:Hv P w K mg base "_law_text_of" 3 ["_law_nook","_law_name"] Z7)(HBk:Hv P w K mg base "_law_back" 4 ["_law_nook","_law_name"] aa)
 (HHi:Hv P w K mg base "_law_hits" 2 ["_law_nook","_law_wanted","_law_near"] ZM)(HCh:Hv P w K mg base "_law_changed" 3 ["_law_nook","_law_deed"] Wf):AX P w K mg base Ai 5 f fd ["_law_nook","_law_deed"] bV:=by
 refine F.ok rM ?_ ?_
 .rintro _ _ _ _ ⟨_,_,_,_,_,rfl,_⟩;rfl
 .rintro _ A _ s H _ Q E hr ⟨a,d,x,G,n,rfl,nk,h3,bd,tl,nl,rd,gd,hb,jn,wz,q⟩;refine⟨_,(AU (Ay (As BQ (A0 (pv 1)) Ab (Am _))
   (AR (An (Cj HTo hr.mn Z BF (AE (pv 0) (AE (A0 (pv 1)) AJ)))))
   BC) (AU (Ay (As BQ (A0 (pv 1)) Ab (Am _))
   (AR (An (Cj HBk hr.mn Z BF (AE (pv 0) (AE (A0 (pv 1)) AJ)))))
   BC) (AU (Ay (As BQ (A0 (pv 1)) Ab (Am _))
   (AR (An (Cj HHi hr.mn Z BF (AE (pv 0) (AE (A0 (pv 1)) (AE (A0 (pv 1)) AJ))))))
   BC) (AR (An (Cj HCh hr.mn Z BF (AE (pv 0) (AE (pv 1) AJ)))))))),?_⟩;obtain⟨an,h2,tx,h1⟩:=nk;have sG:=h1.same;obtain⟨ad,es,rfl,e1⟩:=j5 rd;have hh:=sG _ _ e1;by_cases hx:x.asks=Y
  .have pn:Ek n x=n:=by delta Ek;rw[AG hx]
   rw[pn] at q;have h5:∀(u:V)(H':Hp)(r:Dt),AM H H'->(Ct (vw n) x).Dy=U r->Hh r->Rep H' r u->Q u H':=λu H' r s e p ru=>by have k2:=h1.ext s;exact q u H' _ r ⟨an,h2,tx,lW k2⟩ (jH k2) e (kQ k2 ru p)
   cases x with
   |text nm=>
    obtain⟨h8,xs,e,hd,rs⟩:=Bu rd;cases e;obtain⟨u1,u2,rfl,r1,r2⟩:=Gn rs;cases r1;cases r2;have h0:=sG _ _ hd;have hb:(if AH n.names nm=J then("no page" :Str) else "")="" :=hb
    cases e:AH n.names nm with
    |none=>rw[AG e] at hb;exact absurd hb (by left)
    |some no=>
    refine⟨_,Z,ad,_,_,_,Z,Z,AS.of h0,BX (j:=0) Z,Z,_,Z,Bj Z ⟨_,Z,_,Z,ad,_,_,_,Z,Z,AS.of h0,BX (j:=1) Z,a,nm,no,G,n,Z,⟨an,h2,tx,h1⟩,h3,bd,e,wz no,λH' s=>h5 _ H' _ s ?_ .str (.str _)⟩⟩;show(E7 (vw n) nm).Dy=_;delta E7;rw[Dq,e];rfl
   |back nm=>obtain⟨h8,xs,e,hd,rs⟩:=Bu rd;cases e;obtain⟨u1,u2,rfl,r1,r2⟩:=Gn rs;cases r1;cases r2;have h0:=sG _ _ hd;refine⟨_,Z,ad,_,_,_,Z,Z,AS.of h0,BX (j:=0) Z,Z,_,Z,Bi (ON (by left)) ?_⟩;refine⟨_,Z,ad,_,_,_,Z,Z,AS.of h0,BX (j:=0) Z,Z,_,Z,Bj Z ⟨_,Z,_,Z,ad,_,_,_,Z,Z,AS.of h0,BX (j:=1) Z,a,nm,G,n,Z,⟨an,h2,tx,h1⟩,h3,bd,nl,λu H' s ru=>h5 u H' _ s Z (ir _) ru⟩⟩
   |find ws h7=>
    obtain⟨h8,xs,e,hd,rs⟩:=Bu rd;cases e;obtain⟨u1,u2,u3,rfl,r1,r2,r3⟩:=EU rs;cases r1;cases r3;have h0:=sG _ _ hd;obtain⟨wt,ts,rfl,h6,h9⟩:=Bu r2;rw[KY h9] at h6;have hb:(if ws=[] then("no words" :Str) else "")="" :=hb;by_cases h4:ws=[]
    .rw[AG h4] at hb;exact absurd hb (by left)
    refine⟨_,Z,ad,_,_,_,Z,Z,AS.of h0,BX (j:=0) Z,Z,_,Z,Bi (ON (by left)) ?_⟩;refine⟨_,Z,ad,_,_,_,Z,Z,AS.of h0,BX (j:=0) Z,Z,_,Z,Bi (ON (by left)) ?_⟩;refine⟨_,Z,ad,_,_,_,Z,Z,AS.of h0,BX (j:=0) Z,Z,_,Z,Bj Z ⟨_,Z,_,Z,ad,_,_,_,Z,Z,AS.of h0,BX (j:=1) Z,_,Z,ad,_,_,_,Z,Z,AS.of h0,BX (j:=2) Z,a,wt,h7,ws,G,n,Z,⟨an,h2,tx,h1⟩,h3,bd,by lia,sG _ _ h6,h4,gd.1,λu H' s ru=>h5 u H' _ s ?_ (kK _ _ _) ru⟩⟩;show(if ws=[] then Rs.no "no words" else Rs.ok (GV (vw n) ws h7) (vw n)).Dy=_;rw[AF h4];rfl
   |_=>cases hx
  .have hx:x.asks=vc:=by cases e:x.asks with
    |true=>exact absurd e hx
    |false=>rfl
   have pn:Ek n x=N1 n x:=by delta Ek;rw[AF (by rw[hx];decide),AG hb]
   have n1:V.str x.word≠V.str "text" :=λz=>by have aw:=SN x;rw[hx,V.str.inj z] at aw;exact absurd aw (by left)
   have n2:V.str x.word≠V.str "back" :=λz=>by have aw:=SN x;rw[hx,V.str.inj z] at aw;exact absurd aw (by left)
   have n3:V.str x.word≠V.str "find" :=λz=>by have aw:=SN x;rw[hx,V.str.inj z] at aw;exact absurd aw (by left)
   refine⟨_,Z,ad,_,_,_,Z,Z,AS.of hh,BX (j:=0) Z,Z,_,Z,Bi n1 ?_⟩;refine⟨_,Z,ad,_,_,_,Z,Z,AS.of hh,BX (j:=0) Z,Z,_,Z,Bi n2 ?_⟩;refine⟨_,Z,ad,_,_,_,Z,Z,AS.of hh,BX (j:=0) Z,Z,_,Z,Bi n3 ?_⟩;refine⟨_,Z,_,Z,a,_,x,G,n,Z,⟨an,h2,tx,h1⟩,h3,bd,tl,by lia,rd,gd,hx,hb,jn,λH' e0=>?_⟩;exact q _ H' G _ (by rw[pn];exact e0) (AM.refl _) (j9 bd gd hx hb) (.int _)
inductive GJ:Dt->Prop
 |int {i:Int}:GJ (.int i)
 |str {x:Str}:GJ (.str x)
 |tup {ds:List Dt}:(∀d∈ds,GJ d)->GJ (.tup ds)
def V8{zs:List V}(hD:H D=U (.lst zs)){d:Dt}(r:Rep H d v)(n:GJ d):Rep (Ex H D) d v:=by
 induction r with
 |bl b=>exact .bl b
 |int i=>exact .int i
 |str x=>exact .str x
 |lst h hl _ ih=>cases n
 |tup h hl _ ih=>
  cases n with
  |tup n=>exact .tup (Ex.at h (CN h hD (by intro z;cases z))) hl λi d x h1 h2=>ih i d x h1 h2 (n d (Bv h1))
def kX(ws:List Str):∀d∈ws.map Dt.str,GJ d:=λd hd=>by obtain⟨z,_,rfl⟩:=Aw.mp hd;exact .str
def Qm{a b:Dt}(h1:GJ a)(h2:GJ b):GJ (.tup [a,b]):=.tup λd hd=>by
 rcases BM.mp hd with e|e
 .rw[e];exact h1
 .rw[BW.mp e];exact h2
def Pf{a:Dt}{l:List Dt}(h1:GJ a)(h2:GJ (.tup l)):GJ (.tup (a::l)):=.tup λd hd=>by
 rcases BM.mp hd with e|e
 .rw[e];exact h1
 .cases h2 with
  |tup h=>exact h d e
def Ap.cO(d:Ap):GJ d.dt:=by cases d<;>first|exact Qm .str .str|exact Pf .str (Qm .str .str)|exact Pf .str (Qm (.tup (kX _)) .int)|exact Pf .str (Pf .str (Qm .int .str))
def jS{zs:List V}(hD:H D=U (.lst zs)){ds:List Ap}{xs:List V}(r:Ah H (ds.map Ap.dt) xs):Ah (Ex H D) (ds.map Ap.dt) xs:=⟨r.1,λi d x h1 h2=>by have:=Bv h1;obtain⟨e,_,rfl⟩:=Aw.mp this;exact V8 hD (r.2 i _ x h1 h2) e.cO⟩
structure MS(G H:Hp)(L M:OK)(ds ms:List Ap)(xs ys:List V):Prop where
 same:AM G H
 fl:G L=J
 fm:G M=J
 ne:L≠M
 hl:H L=U (.lst xs)
 hm:H M=U (.lst ys)
 rl:Ah H (ds.map Ap.dt) xs
 rm:Ah H (ms.map Ap.dt) ys
section
variable{G:Hp}{M:OK}{ds ms:List Ap}{xs:List V}{d:Ap}{x:V}
def MS.ext(t:MS G H L M ds ms xs ys)(s:AM H H'):MS G H' L M ds ms xs ys:=⟨t.same.trans s,t.fl,t.fm,t.ne,s _ _ t.hl,s _ _ t.hm,t.rl.same s,t.rm.same s⟩
def W2{zs:List V}{o:HO}(hD:H D=U (.lst zs))(r:Ah H (ds.map Ap.dt) xs):Ah (upd H D o) (ds.map Ap.dt) xs:=(jS hD r).same Im
def MS.bE(t:MS G H L M ds ms xs ys)(r:Rep H d.dt x):MS G (upd H M (.lst (ys++[x]))) L M ds (ms++[d]) xs (ys++[x]):=
 ⟨t.same.upd t.fm,t.fl,t.fm,t.ne,by rw[AO t.ne];exact t.hl,AN,W2 t.hm t.rl,by rw[BL];exact(W2 t.hm t.rm).snoc ((V8 t.hm r d.cO).same Im)⟩
def FD(d:Ap):Prop:=d.Good/\∃ws h0,d=.find ws h0/\ws≠[]
theorem Yu:∀l:List (List Key),Dt.Bz (l.map F7)<=3*l.length
 |[]=>Ac _
 |k::l=>by
  have:=Yu l;rw[Au,Bw];show(F7 k).sz+Dt.Bz (l.map F7)<=_;have:(F7 k).sz<=3:=by
   delta F7;split
   .exact Ac _
   .show 1+0<=3;decide
  lia
def lq(AD:List Pg)(ws:List Str)(far:Int):(GV AD ws far).sz<=1+3*AD.length:=by
 delta GV;show 1+Dt.Bz _<=_;have h1:=Yu (Fg lexOrd (MH AD ws far));rw[(HM lexOrd _).length_eq] at h1;have h2:(MH AD ws far).length<=AD.length:=Od _ _
 lia
end
def UH(K:vH):Sp:=λvs H Q _=>∃(a:OK)(ns:List Int),vs=[.ref a]/\AL K H a (ns.map V.int)/\ns.length<=63/\∀H',Q (.bl Y) H'
def bK(K:vH):Sp:=λvs H Q _=>∃(a:OK)(ns:List Int)(m b:Int),vs=[.ref a,.int m,.int b]/\AL K H a (ns.map V.int)/\ns.length<=63/\Q (.int m) H
def lL(ns:List Int)(b:Nat):∃ms:List Int,Er (ns.map V.int) (U 1) (U (1+(b:Int)))=ms.map V.int/\ms.length<=b:=by
 delta Er;refine⟨(ns.drop (BE (ns.map V.int).length 0 (U 1))).take (BE (ns.map V.int).length (ns.map V.int).length (U (1+(b:Int)))-BE (ns.map V.int).length 0 (U 1)),by rw[PB,PD],?_⟩;have e1:=X6 (ns.map V.int).length 0 1;have e2:=X6 (ns.map V.int).length (ns.map V.int).length (1+b);rw[show(U (((1+b:Nat)):Int))=U (1+(b:Int)) by rw[Int.natCast_add];rfl] at e2;rw[Bk,EK,e2,show(U (1:Int))=U ((1:Nat):Int) from Z,e1]
 lia
def cz(hK:X.K=K):DU X (.type "list") (λxs H Q=>∃p ys,xs=[.ref p]/\(AL K H p ys\/AS K H p ys)/\∀l,H l=J->Q (.ref l) (upd H l (.lst ys))):=by subst hK;exact dE
theorem Ti:∀l:List Str,Dt.Bz (l.map Dt.str)=l.length
 |[]=>rfl
 |t::l=>by
  rw[Au,Bw];have:=Ti l;show 1+Dt.Bz (l.map Dt.str)=_
  lia
theorem Wc:∀l:List Ap,(∀d∈l,d.Good)->Dt.Bz (l.map Ap.dt)<=20*l.length
 |[],_=>Ac _
 |d::l,g=>by
  rw[Au,Bw];have:=Wc l λx hx=>g x (Ce _ hx);show d.dt.sz+Dt.Bz (l.map Ap.dt)<=_;have h:d.dt.sz<=20:=by
   have gd:=g d CV
   cases d with
   |find ws h0=>
    have hw:ws.length<=9:=gd.1;show 1+(1+((1+Dt.Bz (ws.map Dt.str))+(1+0)))<=20;rw[Ti]
    lia
   |write a b=>exact(by decide:1+(1+(1+(1+0)))<=20)
   |rename a b=>exact(by decide:1+(1+(1+(1+0)))<=20)
   |join a b=>exact(by decide:1+(1+(1+(1+0)))<=20)
   |cut a p b=>exact(by decide:1+(1+(1+(1+(1+0))))<=20)
   |drop a=>exact(by decide:1+(1+(1+0))<=20)
   |text a=>exact(by decide:1+(1+(1+0))<=20)
   |back a=>exact(by decide:1+(1+(1+0))<=20)
  lia
def rA:A3 ["_law_script","_law_most","_law_bound"] ["_law_script","_law_most","_law_bound"] (Aq QR):=by left
def pk(F:Ak K "_law_room" "_law_room" QR f fd)(O:Own mg):AX P w K mg base Ai 1 f fd ["_law_script","_law_most","_law_bound"] (bK K):=by
 refine F.ok rA ?_ ?_
 .rintro _ _ _ _ ⟨_,_,_,_,rfl,_⟩;rfl
 .rintro _ A _ s H _ Q E hr ⟨a,ns,m,b,rfl,hS,hl,q⟩;refine⟨_,AU (Ay (As QO (Bh JW Z O.len DX (AE (pv 0) AJ)) Aa (Am _)) (AR (An (pv 2))) BC) (AR (An (pv 1))),?_⟩;refine⟨_,Z,a,_,Z,.inl hS,_,_,Z,Z,_,Z,Bi (by rw[AI];lia) ⟨_,Z,q⟩⟩
def ZE(AD:List Pg)(x:Ap):∃r,(Ct AD x).Dy=U r:=by cases x<;>simp only[Ct,FT,FR,ET,Fc,FV,E7,ZP]<;>(repeat' split)<;>exact⟨_,Z⟩
noncomputable def Kw(AD:List Pg)(x:Ap):Dt:=(Ct AD x).Dy.getD (.int 0)
def TY{x:Ap}{r:Dt}(h:(Ct AD x).Dy=U r):Kw AD x=r:=by delta Kw;rw[h];rfl
noncomputable def GC:List Pg->List Ap->List Dt
 |_,[]=>[]
 |AD,x::xs=>Kw AD x::GC ((Ct AD x).next AD) xs
theorem WT(x:Ap):∀(xs:List Ap)(AD:List Pg),GC AD (xs++[x])=GC AD xs++[Kw (D9 AD xs) x]
 |[],_=>rfl
 |y::ys,AD=>by show _::GC _ (ys++[x])=_;rw[WT x ys];rfl
theorem S2:∀(xs:List Ap)(AD:List Pg),(GC AD xs).length=xs.length
 |[],_=>rfl
 |_::ys,_=>A2 Nat.succ (S2 ys _)
theorem X8:∀(xs:List Ap)(AD:List Pg)(k:Nat)(x:Ap),xs[k]? =U x->(GC AD xs)[k]? =U (Kw (D9 AD (xs.take k)) x)
 |[],_,_,_,h=>by cases h
 |y::ys,AD,0,x,h=>by cases AZ h;rfl
 |y::ys,AD,k+1,x,h=>X8 ys _ k x h
def ie{ds:List Ap}{zs:List V}(t:Told [] ds H zs)(hz:zs.length=ds.length):Ah H (GC [] ds) zs:=by
 refine⟨by rw[S2,hz],λi d v h1 h2=>?_⟩;have hi:i<ds.length:=by rw[<-hz];exact(BP.mp h2).1
 have ex:=Ar hi;rw[X8 ds [] i _ ex] at h1;obtain⟨r,er⟩:=ZE (D9 [] (ds.take i)) ds[i];rw[TY er] at h1;cases AZ h1;exact t i _ v _ ex h2 er
def lr{x:Ap}{r:Dt}(h:(Ct AD x).Dy=U r):r.sz<=1+3*AD.length:=by
 have one:1<=1+3*AD.length:=Nat.le_add_right 1 _
 cases x with
 |back n=>
  cases AZ h;show 1+Dt.Bz _<=_;rw[Ti,(HM ES _).length_eq];have:(D1 AD n).length<=AD.length:=by delta D1;rw[AI];exact Ee _ _
  lia
 |find ws h0=>
  have h:(if ws=[] then Rs.no "no words" else Rs.ok (GV AD ws h0) AD).Dy=U r:=h;by_cases e:ws=[]
  .rw[AG e] at h;cases AZ h;exact one
  .rw[AF e] at h;cases AZ h;exact lq AD ws h0
 |_=>
  simp only[Ct,FT,FR,ET,Fc,FV,E7] at h
  (repeat' split at h)<;>(cases AZ h;exact one)
theorem YS{m:Nat}:∀(xs:List Ap)(AD:List Pg),(∀k,(D9 AD (xs.take k)).length<=m)->Dt.Bz (GC AD xs)<=xs.length*(1+3*m)
 |[],_,_=>CB _
 |x::xs,AD,h=>by
  have ih:=YS xs ((Ct AD x).next AD) λk=>h (k+1);have h0:AD.length<=m:=h 0;obtain⟨r,er⟩:=ZE AD x;have h1:=lr er;rw[<-TY er] at h1;rw[Bw,Nat.succ_mul];show(Kw AD x).sz+Dt.Bz (GC _ xs)<=_
  lia
def lY{n:Nk}{x:Ap}(h:BH n x≠ ""):(Ct (vw n) x).Dy=U (.str (BH n x))/\Ek n x=n:=by
 have b:=Tx n x;constructor
 .cases e:Ct (vw n) x with
  |no m=>rw[e] at b;rw[b.1];rfl
  |ok _ _=>rw[e] at b;exact absurd b h
  |un _=>rw[e] at b;exact absurd b h
 .delta Ek;by_cases q:x.asks=Y
  .rw[AG q]
  .rw[AF q,AF h]
def fV{n:Nk}(b:Bo n)(no:Int):wsum (Af n no)<=L2.BO (vw n):=by
 delta Af
 cases e:AH n.texts no with
 |none=>exact CB _
 |some ws=>obtain⟨nm,hm⟩:=b.own _ (BJ e);have:(nm,Af n no)∈vw n:=Aw.mpr ⟨_,hm,Z⟩;have h:=Lw this;unfold Af at h;rw[e] at h;exact h
def Jn:A3 ["_law_script","_law_asked","_law_handed","_law_found","_law_nook","_law_due","_law_deed","_law_text"] ["_law_script"] (Aq MK):=by left
def nV{fRo fBe:OK}{fdRo fdBe:sj}(F:Ak K "law" "law" MK f fd)(O:Own mg)
 (HDe:Hv P w K mg base "_law_deeds" 3 ["_law_cells"] X7)
 (FRo:Ak K "_law_room" "_law_room" QR fRo fdRo)(bRo:Binds K fdRo ["_law_script","_law_most","_law_bound"] [])(mRo:mg "_law_room" =U (.ref fRo))
 (FBe:Ak K "_law_begun" "_law_begun" P8 fBe fdBe)(bBe:Binds K fdBe [] [])(mBe:mg "_law_begun" =U (.ref fBe))
 (HAn:Hv P w K mg base "answers" 9 ["deeds"] WU)
 (HBa:Hv P w K mg base "_law_barred" 2 ["_law_nook","_law_deed"] Xf)
 (HRp:Hv P w K mg base "_law_replied" 5 ["_law_nook","_law_deed"] bV)
 (HAl:Hv P w K mg base "_law_alike" 2 ["_law_found","_law_due"] ba):
 AX P w K mg base Ai 11 f fd ["_law_script"] (UH K):=by
 have r6:AX P w K mg base Ai 1 fRo fdRo ["_law_script","_law_most","_law_bound"] (bK K):=pk FRo O;have r7:AX P w K mg base Ai 1 fBe fdBe [] Ys:=iy FBe;refine F.ok Jn ?_ ?_
 .rintro _ _ _ _ ⟨_,_,rfl,_⟩;rfl
 .rintro _ A _ s H _ Q E hr ⟨a0,ns,rfl,hS,e6,k⟩;refine⟨_,(AU (Ax (i:=1) Jn.nd Z (AY Z) (Cj HDe hr.mn Z BF (AE (F0 Pl (pv 0) (DY Aa) (DY (Al DJ Aa (Cs r6 hr.mn Z mRo FRo.kp bRo .nil BF (AE (pv 0) (AE Aa (AE Aa AJ))))))) AJ))) (AU (Ax (i:=2) Jn.nd Z (AY Z) (E3 (cz (K:=K) Z) Z O.lst F1 (AE (pv 1) AJ))) (AU (Ax (i:=3) Jn.nd Z (AY Z) (Cj HAn hr.mn Z BF (AE (pv 2) AJ))) (AU (Ay (PW.pt (Iw (Ip (Ej (Cj HAl hr.mn Z BF (AE (pv 2) (AE (pv 1) AJ))))) (Io (Ip (Ej (Bh Hg Z O.Gw Gk (AE (pv 3) (AE (F2 (v:=.ty "list") Z O.lst F1 Z) AJ))))))))
   (AR (An IF))
   BC) (AU (Ax (i:=4) Jn.nd Z (AY Z) (Xz r7 hr.mn Z mBe FBe.kp bBe .nil BF)) (AU (Ax (i:=5) Jn.nd Z (AY Z) (CY AJ)) (AU (DC C8 Z (EX (pv 1)) (Bg (i:=6) Jn.nd Z (AY Z))
   (AU (Ax (i:=7) Jn.nd Z (AY Z) (Cj HBa hr.mn Z BF (AE (pv 4) (AE (pv 6) AJ)))) (AR (Ay (As BQ (pv 7) Ab (Am _))
   (AR (Bq (Ea D4 Ew Eu EM (pv 5) (AE (Sq (Cj HRp hr.mn Z BF (AE (pv 4) (AE (pv 6) AJ)))) AJ))))
   (AR (Bq (Ea D4 Ew Eu EM (pv 5) (AE (pv 7) AJ)))))))) (AR (An (Cj HAl hr.mn Z BF (AE (pv 3) (AE (pv 5) AJ)))))))))))),?_⟩;obtain⟨ms,em,r8⟩:=lL ns 44;refine⟨_,Z,_,Z,_,Z,a0,ns,44,150,Z,hS,e6,_,_,Z,Z,_,Z,a0,_,Z,hS,λp hp=>?_⟩;refine⟨p,ms,Z,AL.of (by rw[AN];exact A2 (λz=>U (HO.lst z)) em),by lia,λL ds xs H1 s1 r5 hL rs r9 h0=>?_⟩;have e7:ds.length<=44:=by lia
  have h9:Ah H1 (ds.map Ap.dt) xs:=rs.same Ex.sub;have xl:xs.length=ds.length:=by have:=h9.1;rw[AI] at this;lia
  refine⟨_,Z,L,xs,Z,.inl (AL.of hL),λl hl=>?_⟩;have s2:AM H1 (upd H1 l (.lst xs)):=Ag hl;have rL:Rep (upd H1 l (.lst xs)) (.lst (ds.map Ap.dt)) (.ref L):=Rep.Hi (s2 _ _ hL) (h9.same s2);have rl:Rep (upd H1 l (.lst xs)) (.lst (ds.map Ap.dt)) (.ref l):=Rep.Hi AN (h9.same s2);have e2:=h9.same s2;have e8:=s2 _ _ hL;generalize upd H1 l (.lst xs)=H2 at rL rl e2 e8;refine⟨_,Z,_,_,Z,rl,h0,by lia,jF h0 (by lia),λHA lf zs sA e5 zl h8=>?_⟩;have rz:=ie h8 zl;refine⟨_,Z,_,Z,_,_,_,Z,rl.same sA,rL.same sA,?_,λHB sB=>?_⟩
  .have:=Wc ds h0;show 1+Dt.Bz (ds.map Ap.dt)<=1000000
   lia
  refine⟨_,Z,BV ⟨_,Z,.ref lf,"list",.type "list",Y,Z,(λ_=>Bp.lst (sB _ _ e5)),(λ_=>IC _),_,Z,BV ?_⟩⟩;have s8:=sB _ _ (sA _ _ e8);have r3:=(e2.same sA).same sB;have r2:=rz.same sB;have r4:=sB _ _ e5;clear rz rl rL e2 e8 e5 h8 sA sB s2 hl rs h9 hL r5 s1;refine⟨Z,λa HC s6=>?_⟩;refine⟨by exact zy,λD hD=>?_⟩;have e0:∀{G H':Hp}{n:Nk},CC G H' a n->AM G H':=λh=>let⟨_,_,_,nk⟩:=h;nk.same;refine⟨_,Z,L,Z,⟨_,AL.of ((Ag hD) _ _ (e0 s6 _ _ s8))⟩,HN (K:=[]) (a:=L) (xs:=xs) (λi S H'=>∃(v6 v7:Option V)(H1 G:Hp)(us:List V),S=[U (.ref a0),U (.ref L),U (.ref l),U (.ref lf),U (.ref a),U (.ref D),v6,v7]/\H'=upd H1 D (.lst us)/\H1 D=J/\AM HB G/\CC G H1 a (Gm JF (ds.take i))/\Ah G (GC [] (ds.take i)) us)
   ⟨J,J,HC,HB,[],Z,Z,hD,AM.refl _,s6,Ah.nil⟩ (λi S H' _ ⟨_,_,H1,G,us,_,e,h1,sg,nk,_⟩=>AL.of (by rw[e];exact(Ag h1) _ _ (e0 nk _ _ (sg _ _ s8)))) ?_ ?_⟩
  .rintro i y S H' ey ⟨v6,v7,H1,G,us,rfl,rfl,h1,sg,nk,ru⟩;obtain⟨x,ex,rx⟩:=Ik r3 ey;have hi:i<ds.length:=(BP.mp ex).1;have gi:∀z∈ds.take i,z.Good:=λz hz=>h0 z (GX hz);obtain⟨bd,ev⟩:=XC (ds.take i) JF rT gi;have sz:=P9 (ds.take i) 0 [] T7 gi;have r0:vw (Gm JF (ds.take i))=D9 [] (ds.take i):=ev;rw[<-r0] at sz;have hk:0+(ds.take i).length<=44:=by rw[Bk];lia
   obtain⟨e9,nl,tl⟩:=fits_of bd sz (by lia);have r1:Gm JF (ds.take (i+1))=Ek (Gm JF (ds.take i)) x:=by rw[Cf,ex];exact eT ..
   have h7:GC [] (ds.take (i+1))=GC [] (ds.take i)++[Kw (D9 [] (ds.take i)) x]:=by rw[Cf,ex];exact WT ..
   rw[<-r0] at h7;have gx:=h0 x (Bv ex);have ul:us.length<sizeLine:=by
    have:=ru.1;rw[S2,Bk] at this;rw[BA]
    lia
   generalize Gm JF (ds.take i)=n at nk bd sz e9 nl tl r1 h7;have s4:=rx.same sg;have s7:=nk.ext (Ag (o:=.lst us) h1);refine⟨_,Z,_,Z,a,y,x,G,n,Z,s7,e9,s4.same (e0 s7),gx,λnm no h=>bd.b.tx _ (BJ h),λH3 s3=>?_⟩;have h3:H3 D=U (.lst us):=s3 _ _ AN;have s5:CC G (Ex H3 D) a n:=nk.ext (Ex.of_none ((Ag (o:=.lst us) h1).trans s3) h1);have s9:∀(u:V)(H4 G':Hp)(r:Dt),CC G' H4 a (Ek n x)->AM G G'->(Ct (vw n) x).Dy=U r->Rep G' r u->H4 D=J->∃(v6 v7:Option V)(H1 G:Hp)(s0:List V),[U (V.ref a0),U (.ref L),U (.ref l),U (.ref lf),U (.ref a),U (.ref D),U y,U (.str (BH n x))]=[U (.ref a0),U (.ref L),U (.ref l),U (.ref lf),U (.ref a),U (.ref D),v6,v7]/\upd H4 D (.lst (us++[u]))=upd H1 D (.lst s0)/\H1 D=J/\AM HB G/\CC G H1 a (Gm JF (ds.take (i+1)))/\Ah G (GC [] (ds.take (i+1))) s0:=λu H4 G' r e4 sG er e1 h4=>by refine⟨_,_,H4,G',us++[u],Z,Z,h4,sg.trans sG,by rw[r1];exact e4,?_⟩;rw[h7,TY er];exact(ru.same sG).snoc e1
   refine⟨_,Z,Z,_,Z,?_⟩;by_cases hb:BH n x=""
   .refine Bj (A2 V.str hb) ⟨_,Z,.inl ⟨Z,_,AL.of h3⟩,D,us,h3,_,Z,_,Z,a,y,x,G,n,Z,s5,e9,bd,by lia,by lia,s4,gx,hb,λa' o' e=>?_,λno=>?_,λu H4 G' r e4 sG er e1 h4=>⟨D,us,u,Z,Z,AN,ul,?_⟩⟩
    .subst e;exact du bd sz (by lia) gx hb
    .have h5:=fV bd.b no;have h6:=sz.BO
     lia
    .rw[Jg];exact s9 u H4 G' r e4 sG er e1 h4
   .obtain⟨er,pn⟩:=lY hb;refine Bi (λz=>hb (V.str.inj z)) ⟨_,Z,.inl ⟨Z,_,AL.of h3⟩,_,Z,D,us,_,Z,Z,h3,ul,?_⟩;have e3:upd H3 D (.lst (us++[V.str (BH n x)]))=upd (Ex H3 D) D (.lst (us++[V.str (BH n x)])):=by
     funext b;by_cases c:b=D
     .rw[c,AN,AN]
     .rw[AO c,AO c,Ex.ne c]
    rw[e3];exact s9 _ _ G _ (by rw[pn];exact s5) (AM.refl _) er (.str _) Ex.self
  .rintro S H' ⟨v6,v7,H1,G,us,rfl,rfl,h1,sg,nk,ru⟩;rw[xl,CH] at ru;have sU:=Ag (o:=.lst us) h1;have sH:=(e0 nk).trans sU;refine⟨_,Z,_,Z,_,_,_,Z,Rep.Hi (sH _ _ (sg _ _ r4)) ((r2.same sg).same sH),Rep.Hi AN (ru.same sH),?_,λHJ sJ=>k HJ⟩;show 1+Dt.Bz _<=_;have h2:=YS (m:=44) ds [] λj=>by
    have:=(P9 (ds.take j) 0 [] T7 λz hz=>h0 z (GX hz)).len;have h5:=Ef j ds
    lia
   have h3:ds.length*(1+3*44)<=44*(1+3*44):=Ve _ e7
   lia
section
variable{N R:OK}{q:Str}{bs:List AB}{hd ab:Bool}{sn:List Str}{sub:List AB}{col:Option Bool}{k0 k1 k2 k3 k5:Option AB}
def N3:Iz [.type "Exception",.type "BaseException",.type "object"]:=⟨by left,by left,by left,by left⟩
def o5:Iz [.ref R,.type "Exception",.type "BaseException",.type "object"]:=⟨IE N3.exc Z,IE N3.base Z,IE N3.J8 Z,IE N3.bp Z⟩
def mf(x:K.lookup R=U (uB nm q R N bs bm hd sn sub ab col dd k0 k1 k2 k3 k5 "Exception.__new__"))(y:bm=[.type "Exception",.type "BaseException",.type "object"]):Um K R:=
 ⟨bm,N,λ_ X=>⟨_,_,_,_,_,_,_,_,_,_,_,_,_,_,X _ _ x⟩,by rw[y];exact N3⟩
def X5(x:K.lookup C=U (uB nm q C N bs bm hd sn sub ab col dd k0 k1 k2 k3 k5 "Exception.__new__"))(y:bm=[.ref R,.type "Exception",.type "BaseException",.type "object"])
 (e1:tm K C=Y)(e2:sk K (.ref C) "answer" =U J)(e3:sk K (.ref C) "__setattr__" =U (U (.builtin "object.__setattr__")))(e4:sk K (.ref C) "__getattribute__" =U (U (.builtin "BaseException.__getattribute__")))(e5:sk K (.ref C) "__getattr__" =U J):Dc K C "answer" :=by
 refine⟨e1,e2,e3,e4,e5,?_⟩;delta clsIn;rw[x];subst y;refine⟨_,[.ref C,.ref R],Z,Z,λc hc=>?_⟩;rcases BM.mp hc with e|e
 .exact⟨_,e⟩
 .exact⟨_,BW.mp e⟩
def pE(m:mg x=U (.ref C))(xl:K.lookup C=U (uB nm q C N bs bm hd sn sub ab col dd k0 k1 k2 k3 k5 "Exception.__new__"))(y:bm=[.ref R,.type "Exception",.type "BaseException",.type "object"])
 (ei:sk K (.ref C) "__init__" =U (U (.ref f)))(en:isFn K (.ref f)=Y)(ek:tM K (.ref C)=Y)(xa:Dc K C "answer")
 (F:AX P w K mg base Ai 2 f fd ["self"] (F4 C "answer" msg))(b:Binds K fd ["self"] []):Rz P w K mg base R x msg:=by
 subst y;exact⟨C,f,fd,_,m,⟨⟨N,λ_ X=>⟨_,_,_,_,_,_,_,_,_,_,_,_,_,_,X _ _ xl⟩⟩,ei,o5,en,ek⟩,F,b,⟨_,N,λ_ X=>⟨_,_,_,_,_,_,_,_,_,_,_,_,_,_,X _ _ xl⟩,by rw[RQ,RQ,Ic,Bool.true_or,Bool.or_true]⟩,xa⟩
end
def OF(K:vH):List (Str×hX)->Prop
 |[]=>True
 |(x,st)::r=>(∃f fd,vI K dy x=U (U (.ref f))/\Ak K x x st f fd)/\OF K r
def aX(K:vH)(mg:Str->Option AB):List (Str×hX)->Prop
 |[]=>True
 |(x,st)::r=>(∃f fd,mg x=U (.ref f)/\Ak K x x st f fd)/\aX K mg r
def Ut(K:vH)(C:OK):List (Str×Str×hX)->Prop
 |[]=>True
 |(x,q,st)::r=>(∃f fd,Meth K C x f/\Ak K x q st f fd)/\Ut K C r
def Uo(K:vH)(R:OK):List (Str×Str×hX)->Prop
 |[]=>True
 |(x,q,st)::r=>(∃C f fd,vI K dy x=U (U (.ref C))/\Dc K C "answer" /\Ak K "__init__" q st f fd/\
  ∀(P:sY)(w:si)(mg:Str->Option AB)(h0:sf)(h1:Str),mg x=U (.ref C)->AX P w K mg h0 Ai 2 f fd ["self"] (F4 C "answer" h1)->Binds K fd ["self"] []->Rz P w K mg h0 R x h1)/\Uo K R r
def QW(K:vH):List Str->Prop
 |[]=>True
 |x::r=>vI K dy x=U J/\QW K r
section
variable{st:hX}{R N:OK}{oc kV doc pm cdv ct:AB}{an:Option OK}
theorem TB(X:K.In h)(G:h.Ns dy mg):∀{L:List (Str×hX)},OF K L->aX K mg L
 |[],_=>Cy
 |_::_,⟨⟨f,fd,a,F⟩,t⟩=>⟨⟨f,fd,JT X G a,F⟩,TB X G t⟩
theorem YA(X:K.In h)(G:h.Ns dy mg):∀{L:List Str},QW K L->∀x∈L,mg x=J
 |_::_,⟨a,_⟩,_,.head _=>mg_none_of X G a
 |_::_,⟨_,t⟩,_,.tail _ e=>YA X G t _ e
local macro_rules| `(tactic|trivial)=> `(tactic|(
 intro _ _ _ _ _ _;first
  |exact all1 (λ_=>rfl)
  |exact all2 (λ_ _=>rfl)
  |exact qm (λ_ _ _=>rfl)
  |exact qM Z
  |exact qh (λ_ _ _ _=>rfl)))
def hv{st:hX}(F:Ak K x x st f fd)(G:AX P w K mg base Ai k f fd ps sp)(m:mg x=U (.ref f))
 (h:∀(kV doc pm:AB)(an:Option OK)(cdv ct:AB)(us:List AB),us.length=ps.length->bindArgs (fnOf x x (Jd st) (F3 st) (Aq st) .none kV doc pm an cdv ct) ⟨us,[]⟩=pure (ps.zip us):=by trivial):Hv P w K mg base x k ps sp:=⟨⟨_,_,G,F.binds h,m,F.kp⟩⟩
set_option maxRecDepth 10000 in
def all_mk{l:PySem.W.OpenLaw}{fa fRi NR:OK}{qq:Str}{bs sub:List AB}{hd ab:Bool}{sn:List Str}{col:Option Bool}{k0 k1 k2 k3 k5:Option AB}(X:K.In h)(G:h.Ns dy mg)(hfa:mg "law" =U (.ref fa))
 (aR:vI K dy "Refusal" =U (U (.ref cR)))(xR:K.lookup cR=U (uB nm qq cR NR bs bm hd sn sub ab col dd k0 k1 k2 k3 k5 "Exception.__new__"))(yR:bm=[.type "Exception",.type "BaseException",.type "object"])
 (rdR:readsIn K cR (.type "type")=Y)(fiR:findCls K (.ref cR) (.type "type") "__init__" =U (.val (.ref fRi)))(spR:uc K (.ref cR) "__getattribute__" =U (U (.builtin "type.__getattribute__")))
 (lRi:K.lookup fRi=U ⟨oc,od,.func (fnOf "__init__" "Refusal.__init__" (Jd KJ) (F3 KJ) (Aq KJ) .none kV doc pm an cdv ct),osl⟩)(cRi:codeIn K cdv "Refusal.__init__" =Y)(kRi:tM K (.ref fRi)=Y)
 (E:Uo K cR (VB.map λz=>(z.1,z.2.1,z.2.2.1)))
 (aN:vI K dy "Nook" =U (U (.ref cN)))(pgN:uV K cN Str.empty=Y)(hdN:tm K cN=Y)(poN:plainOver K cN=Y)(saN:sk K (.ref cN) "__setattr__" =U (U (.builtin "object.__setattr__")))(mkN:makesIn K cN=Y)(kcN:tM K (.ref cN)=Y)(npN:sk K (.ref cN) "pages" =U J)
 (M:Ut K cN U7)
 (T:OF K U6)(T2:OF K Ud)
 (vd:QW K ["isinstance","list","tuple","str","int","bool","len","range","sum","sorted","set","enumerate","all","min"]):
 ∃fd:sj,(∀(s:Ya)(v:AB),uu s fd ⟨[v],[]⟩ [("_law_script",v)])/\∀base:sf,K.In base->base.Ns dy mg->AX l.prog w K mg base Ai 11 fa fd ["_law_script"] (UH K):=by
 have t1:=nh (st:=KJ) lRi cRi kRi;obtain⟨⟨_,_,mL,FL⟩,⟨_,_,m7,c2⟩,⟨_,_,m1,b6⟩,⟨_,_,m9,b0⟩,⟨_,_,m4,b9⟩,⟨_,_,m5,c0⟩,⟨_,_,m6,c1⟩,⟨_,_,t9,t2⟩,⟨_,_,m2,b7⟩,⟨_,_,m0,b5⟩,⟨_,_,l8,b3⟩,⟨_,_,l9,b4⟩,⟨_,_,m3,b8⟩,⟨_,_,m8,a0⟩,⟨_,_,n1,d9⟩,⟨_,_,n2,k4⟩,⟨_,_,n0,d8⟩,⟨_,_,q7,r6⟩,-⟩:=TB X G T;obtain⟨⟨_,_,q9,r8⟩,⟨_,_,q0,s2⟩,⟨_,_,t8,t4⟩,⟨_,_,t3,q5⟩,⟨_,_,r2,e4⟩,⟨_,_,r1,e3⟩,⟨_,_,q1,s4⟩,⟨_,_,e1,h2⟩,⟨_,_,q2,s5⟩,⟨_,_,s1,h3⟩,⟨_,_,q3,s6⟩,⟨_,_,q4,s3⟩,⟨_,_,e0,h1⟩,⟨_,_,e9,h5⟩,⟨_,_,r5,e7⟩,⟨_,_,r4,e6⟩,⟨_,_,s9,h8⟩,⟨_,_,r3,e5⟩,⟨_,_,s0,h9⟩,⟨_,_,r0,e2⟩,⟨_,_,e8,h4⟩,⟨_,_,t0,r9⟩,⟨_,_,s7,h6⟩,⟨_,_,q8,r7⟩,⟨_,_,s8,h7⟩,-⟩:=TB X G T2;obtain⟨⟨_,_,a1,d1⟩,⟨_,_,a2,d0⟩,⟨_,_,a3,c9⟩,⟨_,_,a4,c8⟩,⟨_,_,a5,c7⟩,⟨_,_,a6,c6⟩,⟨_,_,a7,c5⟩,⟨_,_,a8,c4⟩,⟨_,_,a9,c3⟩,⟨_,_,p1,t7⟩,⟨_,_,p0,t6⟩,⟨_,_,n9,t5⟩,-⟩:=M;obtain⟨⟨_,_,_,n8,l1,d7,l7⟩,⟨_,_,_,n7,l0,d6,l6⟩,⟨_,_,_,n6,k9,d5,l5⟩,⟨_,_,_,n5,k8,d4,l4⟩,⟨_,_,_,n4,k7,d3,l3⟩,⟨_,_,_,n3,k6,d2,l2⟩,-⟩:=E;cases hfa.symm.trans mL;have n:=YA X G vd;have q6:=n "len" (by simp);have h0:=n "sorted" (by simp);obtain⟨oc,od,kV,doc,pm,an,cdv,ct,osl,rfl,lk,u8⟩:=FL.ex;refine⟨fnOf "law" "law" (Jd MK) (F3 MK) (Aq MK) .none kV doc pm an cdv ct,λs v=>.of_eq Z,λbase _ _=>?_⟩;have O:Own mg:=⟨(n "isinstance" (by simp)),(n "list" (by simp)),(n "tuple" (by simp)),(n "str" (by simp)),(n "int" (by simp)),(n "bool" (by simp)),q6,(n "range" (by simp))⟩;have OP:IL mg:=⟨(n "sum" (by simp)),h0,(n "set" (by simp)),q6,(n "enumerate" (by simp)),(n "list" (by simp)),(n "all" (by simp)),(n "min" (by simp))⟩;have ve:JE K mg cR fRi:=⟨JT X G aR,rdR,fiR,spR,kRi,mf xR yR⟩;have GR:AX l.prog w K mg base Ai 1 fRi _ ["self","answer"] (Ir K):=nJ t1;have R1:=l7 l.prog w mg base "no page" (JT X G n8) (gR d7 ve GR (t1.binds (by trivial)) l1) (d7.binds (by trivial));have R2:=l6 l.prog w mg base "no name" (JT X G n7) (fb d6 ve GR (t1.binds (by trivial)) l0) (d6.binds (by trivial));have R3:=l5 l.prog w mg base "same page" (JT X G n6) (dS d5 ve GR (t1.binds (by trivial)) k9) (d5.binds (by trivial));have R4:=l4 l.prog w mg base "taken" (JT X G n5) (hU d4 ve GR (t1.binds (by trivial)) k8) (d4.binds (by trivial));have R5:=l3 l.prog w mg base "no place" (JT X G n4) (eN d3 ve GR (t1.binds (by trivial)) k7) (d3.binds (by trivial));have R6:=l2 l.prog w mg base "no words" (JT X G n3) (eY d2 ve GR (t1.binds (by trivial)) k6) (d2.binds (by trivial));have C:Fn K cN:=⟨⟨pgN,hdN,poN,saN⟩,npN⟩;have M:MW l.prog w K mg base cN cR:=⟨⟨_,_,a2,lH d0 C R1,(d0.binds (by trivial))⟩,⟨_,_,a3,lM c9 C R2 R4 t2 (t2.binds (by trivial)) t9 OP,(c9.binds (by trivial))⟩,⟨_,_,a4,i6 c8 C OP b8 (b8.binds (by trivial)) m3,(c8.binds (by trivial))⟩,⟨_,_,m9,b0.kp,oE b0 OP,(b0.binds (by trivial))⟩⟩;have b1:=pQ b6 (hv c2 (pY (P:=l.prog) (w:=w) (base:=base) c2 (n "enumerate" (by simp)) h0) m7) q6 (n "min" (by simp));have p3:AX _ _ _ _ _ _ _ _ _ _ UJ:=⟨λ_ _ _ _ q=>b1.len _ _ _ _ (Zh q),λ_ _ _ _ _ _ _ _ _ a b c d q=>b1.run _ _ _ _ _ _ _ _ _ a b c d (Zh q)⟩;have p7:=kW c1 OP (hv c0 (mv c0 OP) m5) (hv b6 p3 m1);have MD:cg l.prog w K mg base cN cR:=⟨⟨_,_,a5,iw c7 C OP R2 t2 (t2.binds (by trivial)) t9 (hv b5 (qF b5 (hv b7 (oo b7 t2 (t2.binds (by trivial)) t9 (n "all" (by simp))) m2)) m0),(c7.binds (by trivial))⟩,⟨_,_,a6,gG c6 C M,(c6.binds (by trivial))⟩,⟨_,_,a7,j4 c5 C M R3,(c5.binds (by trivial))⟩,⟨_,_,a8,nU c4 C M R5 OP,(c4.binds (by trivial))⟩,⟨_,_,a9,jf c3 C M,(c3.binds (by trivial))⟩,⟨_,_,p1,kN t7 C M (hv b4 (pC b4 b3 (b3.binds (by trivial)) l8) l9),(t7.binds (by trivial))⟩,⟨_,_,p0,kS t6 C (hv b9 (nN b9 OP) m4),(t6.binds (by trivial))⟩,⟨_,_,n9,(kR t5 C R6 OP (hv c1 p7 m6)).mono (by decide),(t5.binds (by trivial))⟩⟩;have u7:=lO k4 (hv d9 (nI d9 ve (oh a0 C MD) (a0.binds (by trivial)) m8 a0.kp) n1);have u6:=dw d8 ⟨mkN,a1.at_,a1.fn,kcN⟩ (iY d1 C) (d1.binds (by trivial)) (JT X G aN) (hv k4 u7 n2);have u0:=iD (P:=l.prog) (w:=w) (base:=base) s4 O (hv e4 (fX e4 O r8 (r8.binds (by trivial)) q9 q5 (q5.binds (by trivial)) t3) r2) e3 (e3.binds (by trivial)) r1;have u4:=oX (P:=l.prog) (w:=w) (base:=base) t4 O s2 (s2.binds (by trivial)) q0;have u5:=ip (P:=l.prog) (w:=w) (base:=base) s6 O h3 (h3.binds (by trivial)) s1;have p6:=dJ (P:=l.prog) (w:=w) (base:=base) h5 h2 (h2.binds (by trivial)) e1;have p8:=gH (P:=l.prog) (w:=w) (base:=base) e6 O h1 (h1.binds (by trivial)) e0 s3 (s3.binds (by trivial)) q4;have u3:=fC (P:=l.prog) (w:=w) (base:=base) e7 O h2 (h2.binds (by trivial)) e1;have u1:=eh h8 O (hv s6 u5 q3) (hv h5 p6 e9) h3 (h3.binds (by trivial)) s1 s3 (s3.binds (by trivial)) q4 (hv e6 p8 r4) h1 (h1.binds (by trivial)) e0;have p9:=kz (P:=l.prog) (w:=w) (base:=base) r7 O h0 (hv h6 (nS h6 O) s7);have b2:=jL (P:=l.prog) (w:=w) (base:=base) h9 O e5 (e5.binds (by trivial)) r3;have p5:=i5 h4 O h0 (hv h9 b2 s0);have p2:=nM e2 (hv h9 b2 s0);have u2:=pJ r9 O h0 (hv h4 p5 e8);have p4:=oM h7 (hv e2 p2 r0) (hv r9 u2 t0) (hv r7 p9 q8) (hv h8 u1 s9);exact nV FL O (hv s4 u0 q1) r6 (r6.binds (by trivial)) q7 s5 (s5.binds (by trivial)) q2 (hv d8 u6 n0) (hv e7 u3 r5) (hv h7 p4 s8) (hv t4 u4 t8)
end
def UP{v:Option (Option AB)}(h:OT v=Y):v=U (U (.ref (hRf v))):=by
 delta OT at h;split at h
 .rfl
 .cases h
section
variable{q:Str}{st:hX}
def Qk(e:MT K f q=Mb x q st):(∃fd,Ak K x q st f fd)/\isFn K (.ref f)=Y:=by
 delta MT at e;split at e
 .rename_i oc od d osl h;obtain⟨a1,a2,a3,a4,a5,a6,a7,a8,a9,a10,a11,a12,a13,a14,a15⟩:=d;simp only[Mb,Option.some.injEq,LV,Ft] at e;obtain⟨rfl,rfl,rfl,rfl,rfl,rfl,rfl,rfl,rfl,⟨c,k⟩,i⟩:=e;exact⟨⟨_,⟨_,_,_,_,_,_,_,_,_,Z,h,c⟩,k⟩,i⟩
 .cases e
def bG(e:Q5 K C=Q8 C bm):∃(nm qq:Str)(N:OK)(bs:List AB)(hd:Bool)(sn:List Str)(sub:List AB)(ab:Bool)(col:Option Bool)(dd:Option OK)(k0 k1 k2 k3 k5:Option AB),
 K.lookup C=U (uB nm qq C N bs bm hd sn sub ab col dd k0 k1 k2 k3 k5 "Exception.__new__"):=by
 delta Q5 at e;split at e
 .rename_i c od d sl h;obtain⟨a1,a2,a3,a4,a5,a6,a7,a8,a9,a10,a11⟩:=d;obtain⟨sl⟩:=sl;simp only[Q8,Option.some.injEq,LV] at e;obtain⟨rfl,rfl,rfl,e⟩:=e;split at e
  .cases AZ e;exact⟨_,_,_,_,_,_,_,_,_,_,_,_,_,_,_,h⟩
  .cases e
 .cases e
end
section
variable{R:OK}
theorem bN:∀{L:List (Str×Str×hX×OK)},cY K L=bo R L->Uo K R (L.map λz=>(z.1,z.2.1,z.2.2.1))
 |[],_=>Cy
 |(x,q,st,C)::L,e=>by obtain⟨e,r⟩:=Hw e;simp only[cI,cJ,LV] at e;obtain⟨a,z,e1,e2,e3,e4,e5,e6,i,g⟩:=e;obtain⟨_,_,_,_,_,_,_,_,_,_,_,_,_,_,_,z⟩:=bG z;obtain⟨⟨fd,F⟩,i'⟩:=Qk g;exact⟨⟨C,_,fd,a,X5 z Z e1 e2 e3 e4 e5,F,λ_ _ _ _ _ m G B=>pE m z Z (UP i) i' e6 (X5 z Z e1 e2 e3 e4 e5) G B⟩,bN r⟩
theorem aZ:∀{L:List (Str×Str×hX)},bx K C L=cj L->Ut K C L
 |[],_=>Cy
 |(x,q,st)::L,e=>by obtain⟨e,r⟩:=Hw e;obtain⟨i,g⟩:=JX e;obtain⟨⟨fd,F⟩,i'⟩:=Qk g;exact⟨⟨_,fd,⟨UP i,i',F.kp⟩,F⟩,aZ r⟩
theorem Us:∀{L:List (Str×hX)},U3 K L=VL L->OF K L
 |[],_=>Cy
 |(x,st)::L,e=>by obtain⟨e,r⟩:=Hw e;obtain⟨i,g⟩:=JX e;obtain⟨⟨fd,F⟩,i'⟩:=Qk g;exact⟨⟨_,fd,UP i,F⟩,Us r⟩
theorem ar:∀{L:List Str},L.map (vI K dy)=L.map (λ_=>U J)->QW K L
 |[],_=>Cy
 |_::_,e=>⟨(Hw e).1,ar (Hw e).2⟩
end
section
open PySem.W
def sT{l:OpenLaw}{q:sY}{loose:List Str}{d:DefRec}{sp:Frag->Sp}
 (hn:l.most=U n)(hn2:n<=sizeLine)(hdf:d.params.defaults=[])(hr:Br k uW)
 (F:∀(w:si)(mg:Str->Option AB)(fa:OK)(h:sf)(K:Frag),Ky K=Kz->K.In h->h.Ns dy mg->mg d.name=U (.ref fa)->
  ∃fd:sj,(∀(s:Ya)(u:AB),uu s fd ⟨[u],[]⟩ [(x,u)])/\∀base:sf,K.In base->base.Ns dy mg->AX l.prog w K mg base CX k fa fd [x] (sp K))
 (hsp:∀(K:Frag)(H:Hp)(a:OK)(ns:List Int),ns.length<=n->Uh H->AL K H a (ns.map V.int)->sp K [.ref a] H (λv _=>v=.bl Y) λ_ _ _=>False)
 (hCX:∀(H:Hp)(s:Ya)(e:AB)(s':Ya),CX [] H s (λ_ _ _=>False) e s'->False):
 WalkO q loose XP VM l.row.toRowW d [] (λf vs=>PySem.call f vs):=by
 refine dM hn hdf λw s₀ s₁ mg mb fa o pm cd doc a vs ns G vh ho hd hcd hmg hobj hints hlen hg=>?_;obtain⟨K,KX,g⟩:=vh;obtain⟨fd,hb,hF⟩:=F w mg fa _ K g KX G.T.g hmg;exact iO KX G.T.g G.T.b G.T.builtins G.T.nolimit hg hobj hints (BI hlen hn2) hr hF hb (λH hO hS=>hsp K H a ns hlen hO hS) λH e s'=>hCX H s₁ e s'
def sV{K:Frag}{l:OpenLaw}{fa:OK}(g:Ky K=Kz)(X:K.In h)(G:h.Ns dy mg)(hfa:mg "law" =U (.ref fa)):
 ∃fd:sj,(∀(s:Ya)(v:AB),uu s fd ⟨[v],[]⟩ [("_law_script",v)])/\∀base:sf,K.In base->base.Ns dy mg->AX l.prog w K mg base Ai 11 fa fd ["_law_script"] (UH K):=by
 simp only[Ky,Kz,LV] at g;obtain⟨r,e,n,m,t,t2,z⟩:=g;simp only[bu,cU,LV] at r;obtain⟨aR,xR,rd,sp,fi⟩:=r;obtain⟨_,_,_,_,_,_,_,_,_,_,_,_,_,_,_,xR⟩:=bG xR;split at fi;case h_2=>cases fi
 rename_i f hfi;obtain⟨⟨_,⟨oc,od,kV,doc,pm,an,cdv,ct,osl,rfl,l,c⟩,k⟩,_⟩:=Qk fi;simp only[cZ,cL,LV,Ft] at n;obtain⟨aN,⟨⟨⟨⟨n1,n2⟩,n3⟩,n4⟩,n5⟩,sa,np⟩:=n;exact all_mk X G hfa aR xR Z rd hfi sp l c k (bN e) aN n1 n2 n3 sa n4 n5 np (aZ m) (Us t) (Us t2) (ar z)
end
end L2
end
open PySem PySem.W PyProof.Rows
theorem PySem.Challenge.cw_pagenook_k08_answers_holds : PySem.Challenge.rw_pagenook_k08_answers.Holds := by
 exact L2.sW fun d hn hd=>L2.sT (l:=PySem.Challenge.rw_pagenook_k08_answers) (n:=63) (k:=11) (x:="_law_script") (CX:=L2.Ai) (sp:=L2.UH) rfl (by decide) hd ⟨rfl,by decide,by decide⟩ (fun _ _ _ _ _ g X G m=>L2.sV g X G (hn▸m)) (fun _ _ a ns hl _ hS=>⟨a,ns,rfl,hS,hl,fun _=>rfl⟩) fun _ _ _ _ z=>z
