import PyProof.Rows.All
import Wide.All
import OpenK.AllK
import Wide.FinOn
import Lean
import KE.KNestM
import PyProof.EqAt
import PyProof.EqKinds
import PyProof.TupleCall
import PyProof.EnumMake
import PyProof.Draws
import KE.KDictList
import KE.KTryMore
import KE.KEqDict
import PyProof.ExcInit
import PyProof.InstStoreFacts
import KE.KSortTup
import PyProof.Rows.StrWeight2
import PyProof.StrCalls
import PyProof.Rows.StrSplitJoin
import KE.KIntText
import PyProof.StrBlockH
import PyProof.Rows.CallKwBuiltin
import KE.KTab
import PySem.Challenge.RW_fallcounts_k94_a_desk_is_asked
set_option Elab.async false
set_option linter.all false
set_option maxRecDepth 100000
set_option maxHeartbeats 8000000
local macro_rules(kind:=Lean.Parser.Command.declaration)|s=>let a:=s[0];let b:=s[1];let k:=b.getKind;let nc:=fun(a:Lean.Syntax)=>a.setArg 4 (Lean.mkNullNode #[Lean.mkNode `Lean.Parser.Command.noncomputable #[Lean.mkAtom "noncomputable"]]);if k== `Lean.Parser.Command.definition&&a[4].isNone then pure (s.setArg 1 (Lean.mkNode `Lean.Parser.Command.theorem #[Lean.mkAtom "theorem",b[1],Lean.mkNode `Lean.Parser.Command.declSig #[b[2][0],b[2][1][0]],b[3]])) else if k== `Lean.Parser.Command.abbrev&&a[4].isNone then pure (if (toString a[1]).contains "inline" then s.setArg 0 (nc (a.setArg 1 Lean.mkNullNode)) else (s.setArg 0 (nc a)).setArg 1 (Lean.mkNode `Lean.Parser.Command.definition #[Lean.mkAtom "def",b[1],b[2],b[3],Lean.mkNullNode])) else Lean.Macro.throwUnsupported
local macro_rules (kind:=Lean.Parser.Term.structInst) | `({})=>`(by lia) | `({..})=>`(by simp) | `({:_})=>`(by decide +kernel)
open Option renaming some→ξ,none→ζ
open Bool renaming true→θ,false→ψ
open PySem.W renaming Frag→gV,keepIn→X6,nsIn→X7,mg_none_of→Yp,fnOf→Yz,kia_one→YC,findIn→YO,emptyDict→YX,envX→YZ,kitOne→Y3,boot_heap→Y4,codeHdIn→Zd,hideAll_get→Zh,kla_obj→Zm,mg_of→Zq,instObj→ZA,cellsFrom_some→ZH,callWith_K→ZQ,codeIn→aaa,tabObj→aaz,plainGet→aaA,of_hideAll→aaP,hasDictIn→aa6,looks_findIn→abh,hideAll→abq,plainGet_of→abr,makesIn→abt,codeRec_of→abC,lookIn→abL,methodObj→abM,plainOver→abP,kitx_dict→abQ,Looks→ab1,excIn→ab4,isFn→acf,takerIn→acg,boot_drawn→acr,looks_clsIn→acE,boot_toks→acF,any_some→acO,looks_mroIn→ac4,check_slot→adb,SharedT→ade,OpenLaw→adq
open PySem renaming wpAny_bind→td,wpAny_pure→XG,Value→XI,Shared→XO,Addr→XW,Program→X5,wpAny_mono→Yl,wpAny_newObj_type→Yo,World→Yw,wpAny_holding→YA,sizeLine_eq→YI,Around→YK,Expr→YL,wpAny_truthy_bool→YR,Heap→Y2,wpAny_callSpecial?_slot→Y9,codeAny_mono→Zc,wpAny_field→Zi,wpAny_Call_Name_kw→Zr,lookup_relabel_local→Zx,FuncData→Zy,NameKind→ZG,wpAny_newFunctionEnv_cells→ZI,Builtin→ZJ,wpAny_call_entry→ZO,wpAny_standAt→ZP,wpAny_passesOwn→ZV,plainObj_wpAny_Assign_Attribute→ZW,mem_of_lookup→Z4,wpAny_call→Z_,call_meets→aab,wpAny_pyIter_tuple→aaf,wpAny_execs_nil→aai,codeAny_call_function→aak,wpAny_loadPart_at→aaq,wpAny_loadName_local→aav,codeAny_call_builtin→aaw,wpAny_loadPart→aay,Within→aaJ,Stmt→aaN,OsState→aa5,wpAny_sequenceKey→aa7,Keyword→aa8,wpAny_pyIter_enum→aa9,wpAny_setField→aba,Scope→abe,PassesOwn→abf,wpAny_typeOf→abg,wpAny_execs_cons→abi,wpAny_newFunctionEnv→abn,codeAny_builtin→abv,wpAny_loadPart'→abw,slot_dict_contains→abI,wpAny_Name→abN,wpAny_assign_Name→abO,slot_list_getitem→abS,wpAny_lookBehind→ab5,pastItsLine_dict→ab6,noFill_tuple_add→ab7,codeAny_func→ach,seqIndex_neg→aci,codeAny_of_tree→ack,typeIs_str→acu,intText?→acy,IsRangeIter→acB,seqIndex_of→acD,Arguments→acG,seq_tuple_add→acH,IsPart→acI,wpAny_attempt→acN,wpAny_rule→acS,BindsTo→acT,wpAny_nsSet1→acV,concat_meets→acX,typeIs_int→ac7,call→ac9,Operator→adh,IsRange→adi,ItemsOf→adk,DictEntry→adm,IsEnum→adn,OwnTail→adt
open PySem.Heap renaming get?_push_of_some→XB,lt_size→XH,get?_push_size→XN,get?_update_other→YJ,get?_update_self→YM,SameBut→Z0,get?_none_of_le→aau,size_push→aa_
open PySem.Challenge renaming pw_fallcounts_k94_a_desk_is_asked→XC,rw_fallcounts_k94_a_desk_is_asked→XY
open List renaming length_map→XE,range→XF,mem_cons_of_mem→XM,mem_append_right→XQ,getElem?_eq_getElem→XS,map_cons→XT,mem_cons_self→XU,replicate→X0,mem_map→X3,mem_cons→X4,mem_range→X8,getElem?_eq_some_iff→X9,all_eq_true→X_,forall_mem_cons→Yd,mem_singleton→Yg,getElem?_append_right→Yh,getElem?_map→Yi,mem_filter→Yk,getD_eq_getElem?_getD→Ym,mem_of_getElem?→Yn,size_toArray→Yr,eq_nil_of_length_eq_zero→Ys,nodup_cons→Yt,length_filter_le→Yv,getElem?_append_left→Yy,length_cons→YB,append_nil→YD,map_append→YE,filter_cons→YF,getElem?_eq_none→YN,length_range→YS,length_append→YU,mem_append→YV,getElem?_eq_none_iff→YW,foldl_cons→Y_,any_eq_true→Ze,map_map→Zf,findIdx_lt_length_of_exists→Zg,any_cons→Zj,length_set→Zn,filter_append→Zv,mem_append_left→Zw,findIdx?_eq_some_iff_findIdx_eq→Zz,filterMap_cons→ZC,map_congr_left→ZD,range_succ→ZE,take_append_drop→ZR,pairwise_iff_getElem→ZT,getElem?_set→ZX,filter_congr→ZZ,map_nil→Z3,filter_eq_self→Z5,length_take→Z6,prefix_refl→Z7,take_of_length_le→aad,of_mem_zip→aaj,append_assoc→aap,mem_of_mem_take→aax,ext_getElem→aaC,cons_append→aaD,getElem_mem→aaE,replicate_succ→aaG,getElem?_range→aaH,mem_filterMap→aaQ,all_cons→aaS,pairwise_cons→aaW,getElem?_set_self→aaY,range_succ_eq_map→aa1,filter_eq_nil_iff→aa3,getElem_cons_drop→aa4,nodup_nil→abb,range_eq_range'→abl,getElem_of_mem→abx,nil_append→aby,filterMap_map→abD,filter_filter→abJ,reverse_cons→abT,flatten_cons→abU,nodup_append→abX,lookup→ab2,range'→ab3,not_mem_nil→ab8,range'_succ→ab9,map_reverse→aca,forIn_cons→acj,Pairwise→acK,all_map→acY,Perm→ac5,foldl→ac8,set→adl
open Nat renaming le_refl→XJ,le_trans→XR,ne_of_lt→XZ,lt_of_lt_of_le→Yb,lt_succ_self→YQ,lt_irrefl→Y6,pow_le_pow_right→Zb,ne_of_gt→Z1,not_lt_of_le→Z8,zero_le→aaF,not_lt→abp,not_lt_zero→abA,le_of_lt→ace,mul_comm→acn,lt_trans→aco,min_eq_left→acp,mul_le_mul→acA,le_of_eq→acW,sub_self→acZ,le_succ→ac2,beq→ac3,blt→ads
open Bool renaming and_eq_true→XX,false_ne_true→Yc,eq_iff_iff→abz,not_eq_true'→abV
open PyProof.Rows renaming slot_tuple_getitem→Ye,callWith_type1→Y8,boot_range→Z2,boot_isinstance→aag,boot_int→aam,boot_tuple→aaT,entry_tuple_getitem→abu,assignInOrder_cons→abB,args_tuple_getitem→abE,AllBare→ab0,IntsAre→acC,tupleItemsOf_→acJ,Subscript_→acU,step_dedup→ac_,tail_any→adj,IsTup→adp
open PySem.Value renaming ref→Yj,none→ZN,int→aah,str→abd,bool→abo,type→acs,builtin→acP,isInt→ac0,float→ac1
open PySem.W.Fast renaming tw5923862056798008813→Yq,tw4187177175401517315→YG
open PySem.PassesOwn renaming never→Yu
open PySem.Builtin.Slice renaming slicePlaces→Yx,sliceAdjust→ZS,sliceApplied→aas
open PySem.SeqAt renaming EqAt→YH,RcNeAt→acM
open PySem.Obj renaming data_mapFields→YT,isFreed_of_fields→Zl,mapFields→aaU,mapSeq→acv
open PySem.Builtin.Tuple renaming tupleExact→YY,tupleItemsOf→aat
open PySem.F renaming slot_list_append→Y0,type_list_append→Y1,slot_str_join→Zo,type_str_join→Zp,slot_tuple_index→Zt,type_tuple_index→Zu,slot_tuple_iterator_next→ZK,excBase_ValueError→ZM,called_set→aal,args_tuple_add_2→aaK,entry_tuple_add→aaR,slot_tuple_add→aaZ,plainAttrs_str→aa2,args_str_split_2→abH,entry_str_split→abW,slot_str_split→ab_,called_tuple→acx
open Option.some renaming inj→Y5
open PySem.Builtin.Range renaming rangeSize→Y7
open ForInStep renaming yield→Za
open Classical renaming byContradiction→Zk
open Option renaming isSome_iff_exists→Zs,map_eq_some_iff→ZF,bind_eq_some_iff→aaO,map_some→acm,map→acR
open Array renaming getElem?_eq_some_iff→ZL
open False renaming elim→ZU
open Int renaming natCast_add→ZY,natAbs_natCast→aaX,natAbs_add_le→abY,natCast_mul→acq,natAbs_mul→acz,le_refl→ac6
open True renaming intro→Z9
open Ne renaming symm→aac
open PySem.Calls renaming spliced_cons→aae,Name_function_global→aar,callWith_builtin→aa0,spliced_nil→abR
open PySem.Within renaming cons→aan
open PySem.NameKind renaming free→aao
open Eq renaming trans→aaB
open PySem.Builtin.Int renaming intBits→aaI
open PySem.Builtin.List renaming listTooLong→aaL
open PyProof.Rows.KTD renaming datumAt→aaM
open PySem.Txt renaming join→aaV,split→acQ
open PySem.World renaming withFollow_self→abc
open PySem.Around renaming frames_deeper→abj,under_plainId→abm
open PySem.SeqAt.EqAt renaming bool_bool→abk
open PySem.Heap.IsSliceOf renaming new→abF
open PySem.Code renaming quiet_builtin→abG
open PySem.W.OpenRow renaming toRowW→abK
open PySem.W.OpenLaw renaming row→abZ
open PySem.Str renaming ofString→acb,join→adw
open PySem.W.RowW renaming records→acd
open PySem.W.Looks renaming here→acw
open Or renaming inl→acL,inr→ada
open Sum renaming inl→adf,inr→adg
open PySem.Expr renaming Name→ado
open PySem.W.Hook renaming obs→adu,val→adv
namespace L2.FE
open PySem PySem.W PySem.Calls
abbrev Of:List Obj->BT->Nat->Option BT
 | [],t,_=>ξ t
 | o::r,t,n=>match ((t.ins n o).get n).isSome with
  | true=>Of r (t.ins n o) (n+1)
  | false=>ζ
def BC {life:Life}:∀{r:List Obj}{t T:BT}{n:Nat}{a:Array Obj},Of r t n=ξ T->absHeap t n life=⟨a,life⟩->absHeap T (n+r.length) life=⟨a++r.toArray,life⟩
 | [],t,T,n,a,h,e=>by cases h;simpa using e
 | o::r,t,T,n,a,h,e=>by
  unfold Of at h
  cases g:((t.ins n o).get n).isSome with
  | false=>rw[g] at h;cases h
  | true=>
   rw[g] at h
   have x:absHeap (t.ins n o) (n+1) life=⟨a.push o,life⟩:=by rw[absHeap_ins g,e];rfl
   have:=BC h x
   rw[YB,show n+(r.length+1)=n+1+r.length by omega,this]
   simp
abbrev Eb (p:X5) (w:Yw) (n₀:Nat) (ann:Option XI):Nat->ade->Thread->Option ade
 | 0,_,_=>ζ
 | n+1,s,t=>match through t with
  | true=>ξ s
  | false=>match PySem.W.Fast.tw6613529449190102663 n₀ ann t with
   | false=>ζ
   | true=>match PySem.W.Fast.tw10156331382660048174 (PySem.W.Fast.tw11892475500146522536 PySem.W.Fast.tw14364793385576792824) p w s t with
    | some (s',t')=>Eb p w n₀ ann n s' t'
    | none=>ζ
def AG {p:X5}{w:Yw}{n₀:Nat}{ann:Option XI}:∀{n:Nat}{s r:ade}{t:Thread},Eb p w n₀ ann n s t=ξ r->topRun treeTable p w n₀ ann n s.abs t=ξ r.abs
 | 0,_,_,_,h=>by cases h
 | n+1,s,r,t,h=>by
  unfold Eb at h
  unfold topRun
  cases ht:through t with
  | true=>rw[ht] at h;cases h;rfl
  | false=>
   rw[ht,<- PySem.W.Fast.te6613529449190102663] at h
   cases hk:stepOk n₀ ann t with
   | false=>simp only[hk] at h;cases h
   | true=>
    simp only[hk] at h
    rw[<- PySem.W.Fast.te10156331382660048174,<- PySem.W.Fast.te11892475500146522536,<- PySem.W.Fast.te14364793385576792824] at h
    cases hs:stepT (denote treeTable) p w s t with
    | none=>rw[hs] at h;cases h
    | some x=>obtain⟨s₂,t₂⟩:=x;rw[hs] at h;rw[stepT_spec hs];exact AG h
abbrev iG (p:X5) (w:Yw) (N:Nat) (os:aa5):Option ade:=
 match (Y4 w.params).isNs mainGlobals with
 | true=>(Of (Y4 w.params).objs.toList .nil 0).bind fun T=>Eb p w (Y4 w.params).objs.size ((Y4 w.params).nsMap mainGlobals (acb "__annotations__")) N ⟨T,(Y4 w.params).objs.size,(Y4 w.params).life,#[],acr,acF,os⟩ (topStub p)
 | false=>ζ
abbrev xt (p:X5) (w:Yw) (s₁:XO):Bool:=staticsOk (Yq p.main.body) (Y4 w.params) s₁.heap&&namesBound p s₁.heap&&gensDone s₁&&laidKept (Y4 w.params) s₁.heap
def GJ {p q:X5}{loose:List Str}{Xt:XO->Bool}{α:Type}{Yf:XO->α}{Ya:Yw->α}{N:Nat} (hN:Nat.ble 600 N=θ) (e:opening p=plainProg p.main.scope.names) (f:∀s,fenceModules? p s=ξ s)
  (h1:∀(w:Yw) (os:aa5),(iG p w N os).map (fun s=>xt p w s.abs)=ξ θ)
  (h2:∀(w:Yw) (os:aa5),(iG p w N os).map (fun s=>YG q loose (Yq p.main.body) Xt θ s.abs)=ξ (openGood q loose))
  (h3:∀(w:Yw) (os:aa5),(iG p w N os).map (fun s=>Yf s.abs)=ξ (Ya w)):LeftO p q loose Xt Yf Ya N:=fun w=>by
 obtain⟨s,hs,e'⟩:=ZF.mp (boot_open e hN f w)
 obtain⟨H,gs,d,k,os⟩:=s
 obtain⟨rfl,rfl,rfl,rfl⟩:H=Y4 w.params/\gs=_/\d=acr/\k=acF:=by simpa using e'
 obtain⟨r,hr,l1⟩:=ZF.mp (h1 w os)
 obtain⟨r2,hr2,l2⟩:=ZF.mp (h2 w os)
 obtain⟨r3,hr3,l3⟩:=ZF.mp (h3 w os)
 obtain rfl:r=r2:=Y5 (hr.symm.trans hr2)
 obtain rfl:r=r3:=Y5 (hr.symm.trans hr3)
 unfold xt at l1
 rw[<- PySem.W.Fast.te5923862056798008813] at l1
 rw[<- PySem.W.Fast.te4187177175401517315,<- PySem.W.Fast.te5923862056798008813] at l2
 unfold iG at hr
 cases hn:(Y4 w.params).isNs mainGlobals with
 | false=>rw[hn] at hr;cases hr
 | true=>
  rw[hn] at hr
  obtain⟨T,hT,hr⟩:=aaO.mp hr
  have z:=BC (life:=(Y4 w.params).life) (n:=0) (a:=#[]) hT rfl
  have z':absHeap T (Y4 w.params).objs.size (Y4 w.params).life=Y4 w.params:=by
   rw[Nat.zero_add,Array.length_toList] at z
   rw[z]
   simp
  have hr:=AG hr
  have st:(ade.mk T (Y4 w.params).objs.size (Y4 w.params).life #[] acr acF os).abs=⟨Y4 w.params,#[],acr,acF,os⟩:=by
   show XO.mk _ _ _ _ _=_
   rw[z']
  rw[st] at hr
  unfold openEnds
  rw[hs]
  show acR _ (topFrom treeTable p w N _)=_
  have t:topFrom treeTable p w N ⟨Y4 w.params,#[],acr,acF,os⟩=ξ r.abs:=by
   unfold topFrom
   dsimp only
   rw[hn]
   rw[hr]
   show(match staticsOk (importedModules p.main.body) (Y4 w.params) r.abs.heap&&namesBound p r.abs.heap&&gensDone r.abs&&laidKept (Y4 w.params) r.abs.heap with | true=>_ | false=>_)=_
   rw[l1]
  rw[t]
  show ξ (openSeen q loose (importedModules p.main.body) Xt θ r.abs,Yf r.abs)=_
  rw[l2,l3]
abbrev viewOf (p:X5) (keep:List Nat):X5:={ p with main:={ p.main with body:=keep.filterMap fun i=>p.main.body[i]? } }
end L2.FE
section
open PySem PySem.W PyProof.Rows
def L2.FE.QD {p:Yw->Prop} (row:String) (h:∀b w,p (Yw.withFollow w row b)) (w:Yw):p w:=by have:=h (w.params.followText row) w;rwa [abc] at this
@[inline]abbrev FC.LO:List Str:="FallError" :: "NoOrder" :: "NoNumber" :: "NoSet" :: "NoRow" :: "NoLine" :: "NoText" :: "TooGreat" :: "is_whole" :: "is_within" :: "number_needed" :: "MOST_NUMBERS" :: "order_good" :: "order_needed" :: "falls_in" :: "falls_of" :: "rises_of" :: "falls_many" :: "turned" :: "contrary" :: "back" :: "runs_of" :: "MOST_ROWS" :: "longer_row" :: "row_of" :: "count_of" :: "numbers_needed" :: "put_in" :: "still_spots" :: "new_spots" :: "code_of" :: "upto_number" :: "path_of" :: "kept_many" :: "drawn_number" :: "MOST_LISTED" :: "number_of" :: "next_order" :: "listed_needed" :: "rests_of" :: "rest_counts" :: "begun_count" :: "lower_left" :: "counter_of" :: "longer_ones" :: "order_numbered" :: "number_among" :: "is_zigzag" :: "odd_places" :: "rounds_of" :: "round_from" :: "lifts_of" :: "drops_of" :: "laid" :: "MOST_FIGURES" :: "order_shown" :: "number_read" :: "turn_deed" :: "contrary_deed" :: "back_deed" :: "lay_deed" :: "next_deed" :: "fresh_deed" :: "put_deed" :: "swap_deed" :: "things_told" :: "groups_told" :: "falls_told" :: "rises_told" :: "lifts_told" :: "drops_told" :: "still_told" :: "new_told" :: "runs_told" :: "rounds_told" :: "code_told" :: "path_told" :: "shown_told" :: "many_told" :: "count_told" :: "number_told" :: "drawn_told" :: "zigzag_told" :: "UNDO" :: "PLAIN_DEEDS" :: "NUMBER_DEEDS" :: "NUMBERS_DUE" :: "QUESTIONS" :: "word_known" :: "line_read" :: "changed_by" :: "Desk" :: "_law_cell_at" :: "_law_next" :: "_law_pen_of" :: "_law_draw" :: "_law_kind_of" :: "_law_refused" :: "_law_order" :: "_law_said" :: "_law_shape" :: "_law_list" :: "_law_lots" :: []
abbrev FC.Q:X5:=L2.FE.viewOf XC [114]
def FC.Pb:∀(w:Yw) (os:aa5),(L2.FE.iG XC (w.withFollow "special-get-raises" true) 10472 os).map (fun s=>L2.FE.xt XC (w.withFollow "special-get-raises" true) s.abs)=some true:=fun w os=>by kernel_rfl
def FC.QH:∀(w:Yw) (os:aa5),(L2.FE.iG XC (w.withFollow "special-get-raises" false) 10472 os).map (fun s=>L2.FE.xt XC (w.withFollow "special-get-raises" false) s.abs)=some true:=fun w os=>by kernel_rfl
def FC.R7:∀(w:Yw) (os:aa5),(L2.FE.iG XC w 10472 os).map (fun s=>L2.FE.xt XC w s.abs)=ξ true:=fun w os=>by have:∀b:Bool,(L2.FE.iG XC (w.withFollow "special-get-raises" b) 10472 os).map (fun s=>L2.FE.xt XC (w.withFollow "special-get-raises" b) s.abs)=ξ true:=fun b=>by { cases b;exact FC.QH w os;exact FC.Pb w os };have:=this (w.params.followText "special-get-raises");rwa [abc] at this
def FC.Ry:∀(w:Yw) (os:aa5),(L2.FE.iG XC (w.withFollow "special-get-raises" true) 10472 os).map (fun s=>YG FC.Q FC.LO (Yq XC.main.body) (fun s=>xlAt FC.Q [] s&&recOk (acd (abK (abZ XY))) s) true s.abs)=some (openGood FC.Q FC.LO):=fun w os=>by kernel_rfl
def FC.Pz:∀(w:Yw) (os:aa5),(L2.FE.iG XC (w.withFollow "special-get-raises" false) 10472 os).map (fun s=>YG FC.Q FC.LO (Yq XC.main.body) (fun s=>xlAt FC.Q [] s&&recOk (acd (abK (abZ XY))) s) true s.abs)=some (openGood FC.Q FC.LO):=fun w os=>by kernel_rfl
def FC.TH:∀(w:Yw) (os:aa5),(L2.FE.iG XC w 10472 os).map (fun s=>YG FC.Q FC.LO (Yq XC.main.body) (fun s=>xlAt FC.Q [] s&&recOk (acd (abK (abZ XY))) s) θ s.abs)=ξ (openGood FC.Q FC.LO):=fun w os=>by have:∀b:Bool,(L2.FE.iG XC (w.withFollow "special-get-raises" b) 10472 os).map (fun s=>YG FC.Q FC.LO (Yq XC.main.body) (fun s=>xlAt FC.Q [] s&&recOk (acd (abK (abZ XY))) s) θ s.abs)=ξ (openGood FC.Q FC.LO):=fun b=>by { cases b;exact FC.Pz w os;exact FC.Ry w os };have:=this (w.params.followText "special-get-raises");rwa [abc] at this
def FC.hw:XY.wellSaid=true:=by kernel_rfl
abbrev L2.FE.snd {a:Prop}{b:Type _} (_:a->a) (y:b):b:=y
local macro_rules | `(tactic| o_head $H)=>`(tactic| (assumption;exact $H))
abbrev FC.Hk:Hook:=by
 refine L2.FE.snd (a:=OpenRow.Holds (abZ XY)) ?_ ?_
 intro h
 k_head
def FC.Ru:∀(w:Yw) (os:aa5),(L2.FE.iG XC (w.withFollow "special-get-raises" true) 10472 os).map (fun s=>adu FC.Hk s.abs)=some (adv FC.Hk (w.withFollow "special-get-raises" true)):=fun w os=>by kernel_rfl
def FC.PR:∀(w:Yw) (os:aa5),(L2.FE.iG XC (w.withFollow "special-get-raises" false) 10472 os).map (fun s=>adu FC.Hk s.abs)=some (adv FC.Hk (w.withFollow "special-get-raises" false)):=fun w os=>by kernel_rfl
def FC.TU:∀(w:Yw) (os:aa5),(L2.FE.iG XC w 10472 os).map (fun s=>adu FC.Hk s.abs)=ξ (adv FC.Hk w):=by
 refine L2.FE.QD "special-get-raises" ?_
 intro b w os
 cases b
 exact FC.PR w os
 exact FC.Ru w os
end
namespace L2
open PySem PySem.Spec PyProof.Rows
@[inline]abbrev Key:=Sum Int Str
abbrev OU:Key->XI->Bool
 | .inl k,v=>ac0 k v
 | .inr x,v=>XI.isStrOf x v
abbrev VF (w:Yw):Key->Int
 | .inl k=>hashInt k
 | .inr x=>hashStr w x
def cV:∀{k:Key}{v:XI},OU k v=θ->(∃i t,k=adf i/\v=aah i t)\/(∃x t,k=adg x/\v=abd x t)
 | .inl i,v,h=>by
  obtain⟨t,e⟩:=XI.isInt_shape (k:=i) (v:=v) h
  exact .inl ⟨i,t,rfl,e⟩
 | .inr x,v,h=>by
  obtain⟨t,e⟩:=XI.isStrOf_shape (x:=x) (v:=v) h
  exact .inr ⟨x,t,rfl,e⟩
def Rq (a b):decide ((adf a:Key)=adf b)=(a == b):=by
 grind
def QW (a b):decide ((adg a:Key)=adg b)=decide (a=b):=by
 simp
def Q3 (a:Int) (b:Str):decide ((adf a:Key)=adg b)=false:=decide_eq_false (fun q=>nomatch q)
def QE (a:Str) (b:Int):decide ((adg a:Key)=adf b)=false:=decide_eq_false (fun q=>nomatch q)
abbrev zu (prog) (w):PySem.KeyKind prog w Key where
 is:=OU
 hash:=VF w
 inj:=fun v a b ha hb=>by
  rcases cV ha with⟨i,t,rfl,rfl⟩ | ⟨x,t,rfl,rfl⟩
  ·rcases cV hb with⟨j,u,rfl,e⟩ | ⟨y,u,rfl,e⟩
   ·injection e with e1 _;rw[e1]
   ·exact nomatch e
  ·rcases cV hb with⟨j,u,rfl,e⟩ | ⟨y,u,rfl,e⟩
   ·exact nomatch e
   ·injection e with e1 _;rw[e1]
 byValue:=fun k v h=>by
   rcases cV h with⟨i,t,rfl,rfl⟩ | ⟨x,t,rfl,rfl⟩<;>rfl
 pyHash:=fun hv h=>by
  rcases cV hv with⟨i,t,rfl,rfl⟩ | ⟨x,t,rfl,rfl⟩
  ·exact wpAny_pyHash_int h
  ·exact wpAny_pyHash_str h
 eqBool:=fun hu hv h=>by
  rcases cV hu with⟨i,t,rfl,rfl⟩ | ⟨x,t,rfl,rfl⟩
  ·rcases cV hv with⟨j,u,rfl,rfl⟩ | ⟨y,u,rfl,rfl⟩
   ·rw[Rq] at h;exact wpAny_eqBool_int h
   ·rw[Q3] at h;exact YH.int_str i t y u _ _ _ _ h
  ·rcases cV hv with⟨j,u,rfl,rfl⟩ | ⟨y,u,rfl,rfl⟩
   ·rw[QE] at h;exact YH.str_int x t j u _ _ _ _ h
   ·rw[QW] at h;exact wpAny_eqBool_str h
 «strs»:=fun k x t v h=>by
  rcases cV h with⟨i,u,rfl,e⟩ | ⟨y,u,rfl,e⟩
  ·exact nomatch e
  ·injection e with e1 _
   subst e1
   cases v<;>rfl
inductive V where
 | non | bl (b:Bool) | int (i:Int) | str (x:Str) | byt (b:Array UInt8) | flt (b:UInt64) | ref (a:XW) | ty (n:String)
 deriving DecidableEq
abbrev RelV:V->XI->Prop
 | .non,u=>u=ZN
 | .bl b,u=>u=abo b
 | .int i,u=>∃t,u=aah i t
 | .str x,u=>∃t,u=abd x t
 | .byt b,u=>∃t,u=XI.bytes b t
 | .flt b,u=>∃t,u=ac1 b t
 | .ref a,u=>u=Yj a
 | .ty n,u=>u=acs n
@[inline]abbrev Vals:List V->List XI->Prop:=Paired RelV
def Vals.length (r:Vals xs us):xs.length=us.length:=Paired.length r
def Vals.get:∀{xs:List V}{us:List XI}{i:Nat}{x:V},Vals xs us->xs[i]?=ξ x->∃u,us[i]?=ξ u/\RelV x u
 | _,_,_,_,.nil,e=>by simp at e
 | _,_,0,_,.cons r _,e=>by simp_all
 | _,_,i+1,x,.cons _ t,e=>by
  obtain⟨u,h1,h2⟩:=Vals.get (i:=i) (x:=x) t (by simp_all)
  simp_all
def Vals.set {x:V}{u:XI} (r:RelV x u):∀{xs:List V}{us:List XI} (i:Nat),Vals xs us->Vals (xs.set i x) (us.set i u)
 | _,_,_,.nil=>.nil
 | _,_,0,.cons _ t=>.cons r t
 | _,_,i+1,.cons q t=>.cons q (Vals.set r i t)
def Vals.append:∀{xs ys:List V}{us ws:List XI},Vals xs us->Vals ys ws->Vals (xs++ys) (us++ws)
 | _,_,_,_,.nil,s=>s
 | _,_,_,_,.cons r t,s=>.cons r (Vals.append t s)
def Vals.take:∀{xs:List V}{us:List XI} (n:Nat),Vals xs us->Vals (xs.take n) (us.take n)
 | _,_,0,_=>.nil
 | _,_,_+1,.nil=>.nil
 | _,_,n+1,.cons r t=>.cons r (Vals.take n t)
def Vals.drop:∀{xs:List V}{us:List XI} n , Vals xs us->Vals (xs.drop n) (us.drop n)
 | _,_,0,r=>r
 | _,_,_+1,.nil=>.nil
 | _,_,n+1,.cons _ t=>Vals.drop n t
abbrev rN:Option V->Option XI->Prop
 | some v,ξ u=>RelV v u
 | none,ζ=>True
 | _,_=>False
abbrev KV:List (κ × V)->List (κ × XI)->Prop:=Paired fun(p:κ × V) (q:κ × XI)=>p.1=q.1/\RelV p.2 q.2
abbrev kV:Key->V
 | .inl i=>.int i
 | .inr x=>.str x
inductive HO where
 | lst (xs:List V)
 | tup (xs:List V)
 | dK (kvs:List (Key × V)) | dT (kvs:List (List Key × V))
 | set (S:Int->Bool) (n:Nat)
 | ins (C dx:XW) (fs:List (Str × V))
 | own (x:XW)
 | xd (fs:List (Str × V))
 | met (f x:XW)
 | rng (lo hi:Int)
 | frz (o:Obj) (u:HO)
 | tbl (ps:Array XI)
 | ext (φ:Y2->Prop)
@[inline]abbrev Hp:=XW->Option HO
abbrev upd (H:Hp) (a:XW) (o:HO):Hp:=fun b=>if b=a then ξ o else H b
def aR:upd H a o a=ξ o:=by unfold upd;simp
def aD (h:b≠a):upd H a o b=H b:=by unfold upd;simp_all
def aO {H:Hp} (h:H a=ξ o) (h':H b=ζ):a≠b:=by
 grind
abbrev pj (h:Y2) (a:XW) (its:Array XI):Prop:=∃o,h.get? a=ξ o/\(o.cls=.type "tuple" /\ ∃n,o.data=.seq its n)/\o.dict=ζ
def pj.tup {h:Y2}{a:XW}{its:Array XI} (x:pj h a its):adp h a its:=let ⟨o,e,⟨c,n,d⟩,_⟩:=x;⟨o,e,c,n,d⟩
def pj.new (h:Y2) (its):pj (h.push { cls:=.type "tuple", data:=.seq its }) h.objs.size its:=⟨_,XN _ rfl,⟨rfl,_,rfl⟩,rfl⟩
section
variable (P:X5) (w:Yw)
abbrev cz (H:Hp) (h:Y2) (a:XW):HO->Prop
 | .lst xs=>xs.length<=sizeLine/\∃its n,Vals xs its/\h.get? a=ξ { cls:=.type "list", data:=.seq its.toArray n }
 | .tup xs=>xs.length<=sizeLine/\∃its:List XI,Vals xs its/\pj h a its.toArray
 | .dK kvs=>kvs.length<=sizeLine/\(a == sysModules)=ψ/\∃vs,KV kvs vs/\h.DictOf (zu P w) a vs
 | .dT kvs=>kvs.length<=sizeLine/\(a == sysModules)=ψ/\∃xs:List (List Key × XW × XI),
   Paired (fun(p:List Key × V) (q:List Key × XW × XI)=>p.1=q.1/\H q.2.1=ξ (.tup (p.1.map kV))/\RelV p.2 q.2.2) kvs xs ∧
   ∃o es ep,h.get? a=ξ o/\o.ExactDict/\o.data=.dict es ep/\es.toList=xs.map (entryOfKey (tupleKind (zu P w)))/\(xs.map (·.1)).Nodup
 | .set S n=>h.SetOf (intKind P w) a S n
 | .ins C dx fs=>H dx=ξ (.own a)/\fs.length<=1000/\dx≠a/\h.get? a=ξ (ZA C dx) ∧
   ∃mA,h.Ns1 dx mA/\(∀f,rN (fs.lookup f) (mA f))/\aaJ mA (fs.map (·.1))
 | .own _=>∃o,h.get? a=ξ o
 | .xd fs=>∃mA,h.Ns1 a mA/\∀f,rN (fs.lookup f) (mA f)
 | .rng lo hi=>∃t u v,h.get? a=ξ { cls:=.type "range", data:=.fields #[.int lo t,.int hi u,.int 1 v] }
 | .frz o u=>h.get? a=ξ o/\cz H h a u
 | .tbl ps=>h.get? a=ξ { cls:=.none,data:=.fields ps }
 | .met f x=>h.get? a=ξ (abM (.ref f) (.ref x))
 | .ext φ=>φ h/\(∃o,h.get? a=ξ o)/\∀h1 h2:Y2,φ h1->(∀o,h1.get? a=ξ o->h2.get? a=ξ o)->φ h2
abbrev HOk (H:Hp) (h:Y2):Prop:=∀a o,H a=ξ o->cz P w H h a o
end
section
variable {P:X5}{w:Yw}{H H':Hp}{h h':Y2}{a:XW}{o:HO}
def cz.lt (x:cz P w H h a o):a<h.objs.size:=by
 cases o with
 | lst xs=>obtain⟨_,_,_,_,e⟩:=x;exact XH e
 | tup xs=>obtain⟨_,_,_,_,e,_⟩:=x;exact XH e
 | dK kvs=>obtain⟨_,_,_,_,o,_,_,e,_⟩:=x;exact XH e
 | dT kvs=>obtain⟨_,_,_,_,o,_,_,e,_⟩:=x;exact XH e
 | set S n=>obtain⟨o,_,_,_,e,_⟩:=x;exact XH e
 | ins C dx fs=>obtain⟨_,_,_,e,_⟩:=x;exact XH e
 | own y=>obtain⟨_,e⟩:=x;exact XH e
 | xd fs=>obtain⟨_,⟨_,_,_,e,_⟩,_⟩:=x;exact XH e
 | rng lo hi=>obtain⟨_,_,_,e⟩:=x;exact XH e
 | frz ob u=>obtain⟨e,_⟩:=x;exact XH e
 | tbl ps=>exact XH (show h.get? a=ξ _ from x)
 | met f y=>exact XH (show h.get? a=ξ _ from x)
 | ext φ=>obtain⟨_,⟨_,e⟩,_⟩:=x;exact XH e
def Paired.vT {α β:Type}{F G:α->β->Prop}{l₁:List α}{l₂:List β} (h:Paired F l₁ l₂) (f:∀a b,F a b->G a b):Paired G l₁ l₂:=by
 induction h with
 | nil=>exact .nil
 | cons r t ih=>exact .cons (f _ _ r) ih
def cz.lY (x:cz P w H h a o) (k:∀b u,(b=a\/H b=ξ (.own a))->h.get? b=ξ u->h'.get? b=ξ u)
  (ho:∀b,H b=ξ (.own a)->H' b=ξ (.own a)) (ht:∀b xs,H b=ξ (.tup xs)->H' b=ξ (.tup xs)):cz P w H' h' a o:=by
 induction o with
 | lst xs=>obtain⟨z,its,n,r,e⟩:=x;exact⟨z,its,n,r,k _ _ (.inl rfl) e⟩
 | tup xs=>obtain⟨z,its,r,ob,e,c⟩:=x;exact⟨z,its,r,ob,k _ _ (.inl rfl) e,c⟩
 | dK kvs=>obtain⟨z,y,vs,r,ob,es,ep,e,c⟩:=x;exact⟨z,y,vs,r,ob,es,ep,k _ _ (.inl rfl) e,c⟩
 | dT kvs=>
  obtain⟨z,y,xs,r,ob,es,ep,e,c⟩:=x
  exact⟨z,y,xs,Paired.vT r fun p q z=>⟨z.1,ht _ _ z.2.1,z.2.2⟩,ob,es,ep,k _ _ (.inl rfl) e,c⟩
 | set S n=>obtain⟨ob,es,ep,t,e,c⟩:=x;exact⟨ob,es,ep,t,k _ _ (.inl rfl) e,c⟩
 | ins C dx fs=>
  obtain⟨d,z,ne,e,mA,⟨od,es,ep,e2,c⟩,r⟩:=x
  exact⟨ho _ d,z,ne,k _ _ (.inl rfl) e,mA,⟨od,es,ep,k _ _ (.inr d) e2,c⟩,r⟩
 | own y=>obtain⟨ob,e⟩:=x;exact⟨ob,k _ _ (.inl rfl) e⟩
 | xd fs=>obtain⟨mA,⟨od,es,ep,e,c⟩,r⟩:=x;exact⟨mA,⟨od,es,ep,k _ _ (.inl rfl) e,c⟩,r⟩
 | rng lo hi=>obtain⟨t,u,v,e⟩:=x;exact⟨t,u,v,k _ _ (.inl rfl) e⟩
 | frz ob u ih=>obtain⟨e,q⟩:=x;exact⟨k _ _ (.inl rfl) e,ih q⟩
 | tbl ps=>
  have e:h.get? a=ξ { cls:=.none,data:=.fields ps }:=x
  show h'.get? a=ξ { cls:=.none,data:=.fields ps }
  simp_all
 | met f y=>
  have e:h.get? a=ξ (abM (.ref f) (.ref y)):=x
  show h'.get? a=ξ (abM (.ref f) (.ref y))
  simp_all
 | ext φ=>obtain⟨p,⟨o,e⟩,st⟩:=x;exact⟨st _ _ p fun o q=>k _ _ (.inl rfl) q,⟨o,k _ _ (.inl rfl) e⟩,st⟩
def HOk.lt (x:HOk P w H h) (e:H a=ξ o):a<h.objs.size:=(x a o e).lt
def HOk.fresh (x:HOk P w H h) (e:h.objs.size<=a):H a=none:=by
 cases q:H a with
 | none=>rfl
 | some u=>exact absurd (Yb (x.lt q) e) (Y6 _)
def HOk.kept (x:HOk P w H h) (k:∀b u,h.get? b=ξ u->h'.get? b=ξ u):HOk P w H h':=fun a o e=>
 (x a o e).lY (fun b u _ q=>k b u q) (fun _ q=>q) fun _ _ q=>q
def HOk.laid (x:HOk P w H h) (k:∀b u,h.get? b=ξ u->h'.get? b=ξ u) (hp:h.objs.size<=a) (new:cz P w (upd H a o) h' a o):HOk P w (upd H a o) h':=fun b u e=>by
 have hn:=x.fresh hp
 by_cases hb:b=a
 ·subst hb;rw[aR] at e;simp_all
 ·rw[aD hb] at e
  exact(x b u e).lY (fun c v _ q=>k c v q) (fun c q=>by rw[aD (aO q hn)];exact q) fun c xs q=>by rw[aD (aO q hn)];exact q
end
abbrev Rd (H:Hp) (a:XW) (u:HO):Prop:=H a=ξ u\/∃o,H a=ξ (.frz o u)
def Rd.ok (r:Rd H a u) (x:HOk P w H h):cz P w H h a u:=by
 rcases r with r | ⟨o,r⟩
 ·exact x a u r
 ·obtain⟨_,q⟩:=x a _ r
  exact q
abbrev Mut:Option HO->Prop
 | some (.lst _)=>True
 | some (.dK _)=>True
 | some (.dT _)=>True
 | some (.set _ _)=>True
 | some (.ins _ _ _)=>True
 | some (.ext _)=>True
 | _=>False
section
variable {P:X5}{w:Yw}{H:Hp}{h h':Y2}{x e:XW}{o':HO}
def HOk.write (ok:HOk P w H h) (mu:Mut (H x)) (he:e=x\/H e=ξ (.own x)) (k:∀b u,b≠e->h.get? b=ξ u->h'.get? b=ξ u) (heo:∃u,h'.get? e=ξ u)
  (new:cz P w (upd H x o') h' x o'):HOk P w (upd H x o') h':=fun b u q=>by
 have nown:∀c y,H c=ξ (.own y)->c≠x:=fun c y r z=>by subst z;rw[r] at mu;exact mu
 have ntup:∀c xs,H c=ξ (.tup xs)->c≠x:=fun c xs r z=>by subst z;rw[r] at mu;exact mu
 by_cases hb:b=x
 ·subst hb;rw[aR] at q;simp_all
 ·rw[aD hb] at q
  by_cases hbe:b=e
  ·have q':H b=ξ (.own x):=by
    simp_all
   rw[q] at q';cases q'
   obtain⟨v,hv⟩:=heo
   exact⟨v,by simp_all⟩
  ·refine(ok b u q).lY (fun c v hc r=>k c v ?_ r) (fun c r=>by rw[aD (nown c b r)];exact r) fun c xs r=>by rw[aD (ntup c xs r)];exact r
   grind
end
structure Un (fs ex:List XW) (H H':Hp) (h h':Y2):Prop where
 keep:∀b o,h.get? b=some o->H b=none->b∉fs->b∉ex->h'.get? b=some o
 slot:∀b o,h.get? b=some o->H b=none->b∈fs->b∉ex->∃sl,h'.get? b=some { o with slots:=sl }
 free:∀b o,h.get? b=some o->H b=none->b∉ex->H' b=none
 there:∀b o,h.get? b=some o->b∉ex->∃o',h'.get? b=some o'
 mZ:∀b xs,H b=some (.tup xs)->H' b=some (.tup xs)
 mE:∀b o u,H b=some (.frz o u)->H' b=some (.frz o u)
 ow:∀b ps,H b=some (.tbl ps)->∃more,H' b=some (.tbl (ps++more))
section
variable {fs fs' ex ex':List XW}{H H1 H2:Hp}{h h1 h2 h':Y2}{a x e:XW}{o:HO}
def Un.any (u:Un fs ex H H1 h h1) (q:h.get? b=ξ ob) (n:H b=ζ) (hx:b∉ex):∃sl,h1.get? b=ξ { ob with slots:=sl }:=by
 by_cases hb:b∈fs
 ·exact u.slot b ob q n hb hx
 ·exact⟨ob.slots,u.keep b ob q n hb hx⟩
def Un.kept (k:∀b u,h.get? b=ξ u->h'.get? b=ξ u):Un fs ex H H h h':=
 ⟨fun b ob q _ _ _=>k b ob q,fun b ob q _ _ _=>⟨ob.slots,k b ob q⟩,fun _ _ _ n _=>n,fun b ob q _=>⟨ob,k b ob q⟩,fun _ _ q=>q,fun _ _ _ q=>q,fun _ ps q=>⟨#[],by grind⟩⟩
def Un.refl:Un fs ex H H h h:=Un.kept fun _ _ q=>q
def Un.laid (k:∀b u,h.get? b=ξ u->h'.get? b=ξ u) (hp:h.objs.size<=a) (hn:H a=ζ):Un fs ex H (upd H a o) h h' where
 keep:=fun b u q _ _ _=>k b u q
 slot:=fun b u q _ _ _=>⟨u.slots,k b u q⟩
 free:=fun b u q n _=>by rw[aD (XZ (Yb (XH q) hp))];exact n
 there:=fun b u q _=>⟨u,k b u q⟩
 mZ:=fun b xs q=>by rw[aD (aO q hn)];exact q
 mE:=fun b u xs q=>by rw[aD (aO q hn)];exact q
 ow:=fun b ps q=>⟨#[],by rw[aD (aO q hn),q];simp⟩
def Un.write (mu:Mut (H x)) (he:e=x\/H e=ξ (.own x)) (k:∀b u,b≠e->h.get? b=ξ u->h'.get? b=ξ u) (heo:∃u,h'.get? e=ξ u):Un fs ex H (upd H x o) h h':=by
 have hx:∀b,H b=ζ->b≠x:=fun b n z=>by subst z;rw[n] at mu;exact mu
 have hb:∀b,H b=ζ->b≠e:=fun b n z=>by
  simp_all
 have hm:∀b u,H b=ξ u->¬ Mut (ξ u)->b≠x:=fun b u q nm z=>by simp_all
 refine⟨fun b u q n _ _=>k b u (hb b n) q,fun b u q n _ _=>⟨u.slots,k b u (hb b n) q⟩,fun b u q n _=>by rw[aD (hx b n)];exact n,fun b u q _=>?_,
  fun b xs q=>by rw[aD (hm b _ q fun z=>z)];exact q,fun b u xs q=>by rw[aD (hm b _ q fun z=>z)];exact q,fun b ps q=>⟨#[],by rw[aD (hm b _ q fun z=>z),q];simp⟩⟩
 grind
end
abbrev trk (h:Y2) (H:Hp):List XW:=(XF h.objs.size).filter fun a=>(H a).isSome
abbrev vv (h:Y2) (H:Hp):Y2:=abq h (trk h H)
def GI (h) (H):(vv h H).objs.size=h.objs.size:=PySem.W.hideAll_size _ _
def KY (e:h.get? b=ξ o) (n:H b=ζ):(vv h H).get? b=ξ o:=
 Zh _ e fun hm=>by
  have q:(H b).isSome=true:=(Yk.mp hm).2
  simp_all
def Mf (e:(vv h H).get? b=ξ o):h.get? b=ξ o/\H b=none:=by
 have e':h.get? b=ξ o:=aaP (trk h H) e
 refine⟨e',?_⟩
 cases q:H b with
 | none=>rfl
 | some x=>
  have hm:b∈trk h H:=Yk.mpr ⟨X8.mpr (XH e'),by simp[q]⟩
  have z:(vv h H).get? b=none:=PySem.W.hideAll_none (trk h H) hm
  simp_all
structure Mod (K:gV) (mg) (base):Prop where
 kin:K.In base
 glob:base.Ns mainGlobals mg
 blt:∃mb,base.Ns builtinsNs mb/\∀x:Str,x≠"__name__" -> mb x=bootBuiltins x
 nolimit:base.NoLimit
structure Cx where
 prog:X5
 w:Yw
 K:gV
 mg:Str->Option XI
 base:Y2
 A:YK
 N:List Str
 aP:XO
 a_:Hp
 env:Env
 outer:List Env
 stack:List Env
 ex:List XW
 fn:Str->Bool
 calm:Bool
 pn:List (XW × Obj)
 xe:XI->XO->Prop
abbrev frs (l:List Env):List XW:=l.filterMap (·.frame)
@[inline]abbrev Cx.fs (X:Cx):List XW:=frs X.outer
abbrev Vis (sc:abe) (x:Str):Prop:=sc.names.lookup x=ξ .local\/sc.names.lookup x=ξ .cell\/sc.names.lookup x=ξ .free
abbrev Loc (sc:abe) (x:Str):Prop:=sc.names.lookup x=ξ .local\/sc.names.lookup x=ξ .cell
abbrev Look (env:Env) (h:Y2) (m:Str->Option XI) (x:Str) (u:XI):Prop:=
 (env.kindOf x=ξ .local/\m x=ξ u)\/((env.kindOf x=ξ .cell\/env.kindOf x=ξ .free)/\∃c,env.cells.lookup x=ξ c/\h.IsCell c (ξ u))
structure Cx.Ok (X:Cx):Prop where
 mod:Mod X.K X.mg X.base
 kind:X.env.scope.kind=.function
 glob:X.env.globals=mainGlobals
 blt:X.env.builtins=builtinsNs
 above:X.aP.heap.objs.size<=X.env.locals
 inj:∀x y c,X.env.cells.lookup x=some c->X.env.cells.lookup y=some c->x=y
 has:∀x,(X.env.kindOf x=some .cell\/X.env.kindOf x=some .free)->∃c,X.env.cells.lookup x=some c
 cab:∀x c,X.fn x=true->X.env.cells.lookup x=some c->X.aP.heap.objs.size<=c
 hd:X.calm=true->X.A.handled=none
 frames:X.A.frames=some X.stack
 stk:X.stack=X.outer\/(X.stack=X.env::X.outer/\X.env.frame=some X.env.locals)
 exf:∀b∈X.ex,b≠X.env.locals/\∀x c,X.env.cells.lookup x=some c->c≠b
 bs:∀b o,X.base.get? b=some o->X.aP.heap.get? b=some o/\X.a_ b=none
 bsz:X.base.objs.size<=X.aP.heap.objs.size
 wt:∀b o,X.base.get? b=some o->b∉X.ex
 AU:∀b∈X.ex,b∉X.fs
 kM:X.aP.heap.FunFrames X.base X.outer
 frf:∀b∈X.fs,X.a_ b=none
structure Inv (X:Cx) (pins) (σ:List (Option V)) (H) (s:XO):Prop where
 ok:X.Ok
 os:s.os=X.aP.os
 bare:ab0 s.gens
 base:Un X.fs X.ex X.a_ H X.aP.heap s.heap
 loc:∃m,s.heap.Ns X.env.locals m/\∀(i:Nat) x v , X.N[i]?=some x->σ[i]?=some (some v)->Vis X.env.scope x->∃u,RelV v u/\Look X.env s.heap m x u
 cell:∀x c,X.env.cells.lookup x=some c->∃v,s.heap.IsCell c v
 free:H X.env.locals=none
 e8:∀x c,X.env.cells.lookup x=some c->H c=none
 pin:∀p∈X.pn++pins,s.heap.get? p.1=some p.2/\H p.1=none/\p.1≠X.env.locals/\p.1∉X.fs/\∀v,p.2.data≠.cell v
 hok:HOk X.prog X.w H s.heap
 len:σ.length=X.N.length
section
variable {X:Cx}{pins:List (XW × Obj)}{σ:List (Option V)}{H H':Hp}{s:XO}{h':Y2}
def Cx.Ok.Vk (ok:X.Ok) (e:X.base.get? b=ξ o):b∉X.fs:=fun hb=>by
 have:=(ok.kM.mem hb).1
 simp_all
def Inv.bs (I:Inv X pins σ H s):∀b o,X.base.get? b=ξ o->s.heap.get? b=ξ o/\H b=none:=fun b o e=>
 ⟨I.base.keep b o (I.ok.bs b o e).1 (I.ok.bs b o e).2 (I.ok.Vk e) (I.ok.wt b o e),I.base.free b o (I.ok.bs b o e).1 (I.ok.bs b o e).2 (I.ok.wt b o e)⟩
def Inv.bk (I:Inv X pins σ H s):∀b o,X.base.get? b=ξ o->s.heap.get? b=ξ o:=fun b o e=>(I.bs b o e).1
def Inv.mod (I:Inv X pins σ H s):Mod X.K X.mg X.base:=I.ok.mod
def Inv.kIn (I:Inv X pins σ H s):X.K.In s.heap:=I.ok.mod.kin.keeps I.bk
def Inv.nolimit (I:Inv X pins σ H s):s.heap.NoLimit:=I.ok.mod.nolimit.keeps I.bk
def Inv.lt (I:Inv X pins σ H s):X.env.locals<s.heap.objs.size:=let ⟨_,hn,_⟩:=I.loc;hn.lt
def Inv.sz (I:Inv X pins σ H s):X.aP.heap.objs.size<=s.heap.objs.size:=XR I.ok.above (ace I.lt)
def Inv.Tu (I:Inv X pins σ H s){a:XW} (h:s.heap.objs.size<=a):a∉X.fs:=fun hb=>by
 obtain⟨_,o,ho,_⟩:=I.ok.kM.mem hb
 exact absurd (Yb (XH ho) (XR I.sz h)) (Y6 _)
def Inv.cne (I:Inv X pins σ H s):∀x c,X.env.cells.lookup x=ξ c->c≠X.env.locals:=fun x c e z=>by
 obtain⟨v,o,ho,hd⟩:=I.cell x c e
 obtain⟨m,⟨o',es,ep,ho',hd',_⟩,_⟩:=I.loc
 simp_all
def Inv.kM (I:Inv X pins σ H s):s.heap.FunFrames X.base X.outer:=by
 have all:∀(l:List Env),(∀b∈frs l,b∈X.fs)->X.aP.heap.FunFrames X.base l->s.heap.FunFrames X.base l:=by
  intro l
  induction l with
  | nil=>intro _ _;trivial
  | cons env r ih=>
   intro hs hl
   obtain⟨hk,⟨L,o,hf,hn,ho,hd⟩,hr⟩:=hl
   have hL:L∈X.fs:=hs L (by unfold frs;simp_all)
   obtain⟨sl,e⟩:=I.base.slot L o ho (I.ok.frf L hL) hL fun z=>I.ok.AU L z hL
   exact⟨hk,⟨L,_,hf,hn,e,hd⟩,ih (fun b hb=>hs b (by unfold frs;rw[ZC,hf];exact XM _ hb)) hr⟩
 exact all X.outer (fun _ hb=>hb) I.ok.kM
def Inv.stack (I:Inv X pins σ H s):s.heap.FunFrames X.base X.stack:=by
 rcases I.ok.stk with e | ⟨e,hf⟩
 ·rw[e];exact I.kM
 ·rw[e]
  obtain⟨m,hn,_⟩:=I.loc
  refine .cons (by rw[I.ok.kind];decide) hf hn ?_ I.kM
  exact aau (XR I.ok.bsz I.ok.above)
def Inv.gW (I:Inv X pins σ H s):∀b∈frs X.stack,b∈X.env.locals::X.fs:=fun b hb=>by
 rcases I.ok.stk with e | ⟨e,hf⟩
 ·simp_all
 ·rw[e] at hb
  unfold frs at hb
  rw[ZC,hf] at hb
  exact hb
def Inv.nM (I:Inv X pins σ H s):∀b∈frs X.stack,H b=none:=fun b hb=>by
 rcases X4.mp (I.gW b hb) with e | hb
 ·rw[e];exact I.free
 ·obtain⟨_,o,ho,_⟩:=I.ok.kM.mem hb
  exact I.base.free b o ho (I.ok.frf b hb) fun z=>I.ok.AU b z hb
def Inv.step {g':Array GenState}{t':Nat}{d':Drawn}{ch:List XW} (I:Inv X pins σ H s)
  (hch:∀b∈ch,(b∈X.ex\/X.aP.heap.objs.size<=b)/\b≠X.env.locals/\(∀x c,X.env.cells.lookup x=ξ c->c≠b)/\∀p∈X.pn++pins,p.1≠b)
  (keep:∀b o,b≠X.env.locals->b∉X.fs->b∉ch->s.heap.get? b=ξ o->H b=ζ->h'.get? b=ξ o)
  (slot:∀b o,b≠X.env.locals->b∈X.fs->b∉ch->s.heap.get? b=ξ o->H b=ζ->∃sl,h'.get? b=ξ { o with slots:=sl }) (free:∀b o,b∉ch->s.heap.get? b=ξ o->H b=ζ->H' b=ζ)
  (there:∀b o,b∉ch->s.heap.get? b=ξ o->∃o',h'.get? b=ξ o')
  (mZ:∀b xs,H b=ξ (.tup xs)->H' b=ξ (.tup xs)) (mE:∀b o u,H b=ξ (.frz o u)->H' b=ξ (.frz o u)) (ow:∀b ps,H b=ξ (.tbl ps)->∃more,H' b=ξ (.tbl (ps++more)))
  (ns:∀m,s.heap.Ns X.env.locals m->h'.Ns X.env.locals m) (hok:HOk X.prog X.w H' h') (hg:ab0 g') :
  Inv X pins σ H' { s with heap:=h',gens:=g',drawn:=d',toks:=t' }:=by
 have neL:∀b o,X.aP.heap.get? b=ξ o->b≠X.env.locals:=fun b o e=>XZ (Yb (XH e) I.ok.above)
 have neC:∀b o,X.aP.heap.get? b=ξ o->b∉X.ex->b∉ch:=fun b o e hx hb=>by
  rcases(hch b hb).1 with z | z
  ·grind
  ·exact absurd (Yb (XH e) z) (Y6 _)
 have cellK:∀x c,X.env.cells.lookup x=ξ c->∀v,s.heap.IsCell c v->h'.IsCell c v:=fun x c e v ⟨o,ho,hd⟩=>by
  have nch:c∉ch:=fun z=>(hch c z).2.2.1 x c e rfl
  by_cases hc:c∈X.fs
  ·obtain⟨sl,q⟩:=slot c o (I.cne x c e) hc nch ho (I.e8 x c e)
   exact⟨_,q,hd⟩
  ·exact⟨o,keep c o (I.cne x c e) hc nch ho (I.e8 x c e),hd⟩
 refine⟨I.ok,I.os,hg,⟨fun b o e n hb hx=>?_,fun b o e n hb hx=>?_,fun b o e n hx=>?_,fun b o e hx=>?_,fun b xs e=>mZ b xs (I.base.mZ b xs e),fun b o xs e=>mE b o xs (I.base.mE b o xs e),fun b ps e=>?_⟩,?_,fun x c e=>?_,?_,fun x c e=>?_,fun p hp=>?_,hok,I.len⟩
 ·exact keep b o (neL b o e) hb (neC b o e hx) (I.base.keep b o e n hb hx) (I.base.free b o e n hx)
 ·obtain⟨sl,e1⟩:=I.base.slot b o e n hb hx
  obtain⟨sl',e2⟩:=slot b _ (neL b o e) hb (neC b o e hx) e1 (I.base.free b o e n hx)
  simp_all
 ·obtain⟨o',e1⟩:=I.base.there b o e hx
  exact free b o' (neC b o e hx) e1 (I.base.free b o e n hx)
 ·obtain⟨o',e1⟩:=I.base.there b o e hx
  exact there b o' (neC b o e hx) e1
 ·obtain⟨m1,e1⟩:=I.base.ow b ps e
  grind
 ·obtain⟨m,hn,hl⟩:=I.loc
  refine⟨m,ns m hn,fun i x v e1 e2 e3=>?_⟩
  obtain⟨u,r,l⟩:=hl i x v e1 e2 e3
  refine⟨u,r,?_⟩
  rcases l with l | ⟨k,c,e,z⟩
  ·exact .inl l
  ·exact .inr ⟨k,c,e,cellK x c e _ z⟩
 ·obtain⟨v,z⟩:=I.cell x c e
  grind
 ·obtain⟨m,⟨o,_,_,ho,_⟩,_⟩:=I.loc
  exact free _ o (fun z=>(hch _ z).2.1 rfl) ho I.free
 ·obtain⟨v,o,ho,hd⟩:=I.cell x c e
  exact free c o (fun z=>(hch c z).2.2.1 x c e rfl) ho (I.e8 x c e)
 ·obtain⟨e,n,ne,nf,d⟩:=I.pin p hp
  grind
def Inv.un {t':Nat} (I:Inv X pins σ H s) (u:Un X.fs [] H H' s.heap h') (hok:HOk X.prog X.w H' h'):Inv X pins σ H' { s with heap:=h',toks:=t' }:=by
 obtain⟨m,⟨o,es,ep,ho,r⟩,_⟩:=id I.loc
 obtain⟨sl,hL⟩:=u.any ho I.free {..}
 exact I.step (g':=s.gens) (d':=s.drawn) (ch:=[]) (fun _ z=>nomatch z) (fun b o _ hb _ e n=>u.keep b o e n hb {..}) (fun b o _ hb _ e n=>u.slot b o e n hb {..}) (fun b o _ e n=>u.free b o e n {..}) (fun b o _ e=>u.there b o e {..}) u.mZ u.mE u.ow (fun m' hm=>by
  obtain⟨o',es',ep',ho',r'⟩:=hm
  rw[ho] at ho';cases ho'
  exact⟨_,es',ep',hL,r'⟩) hok I.bare
def Inv.call (I:Inv X pins σ H s) (u:Un (frs X.stack) ch H H' s.heap h') (hok:HOk X.prog X.w H' h') (hg:ab0 g')
  (hch:∀b∈ch,(b∈X.ex\/X.aP.heap.objs.size<=b)/\b≠X.env.locals/\(∀x c,X.env.cells.lookup x=ξ c->c≠b)/\∀p∈X.pn++pins,p.1≠b) :
  Inv X pins σ H' { s with heap:=h',gens:=g',drawn:=d',toks:=t' }:=by
 obtain⟨m,⟨o,es,ep,ho,r⟩,_⟩:=id I.loc
 obtain⟨sl,hL⟩:=u.any ho I.free fun z=>(hch _ z).2.1 rfl
 exact I.step (ch:=ch) hch (fun b o hL hb hc e n=>u.keep b o e n (fun z=>(X4.mp (I.gW b z)).elim hL hb) hc) (fun b o _ _ hc e n=>u.any e n hc) (fun b o hc e n=>u.free b o e n hc) (fun b o hc e=>u.there b o e hc) u.mZ u.mE u.ow (fun m' hm=>by
  obtain⟨o',es',ep',ho',r'⟩:=hm
  rw[ho] at ho';cases ho'
  exact⟨_,es',ep',hL,r'⟩) hok hg
def Inv.turned (I:Inv X pins σ H s) (k:∀b o,b≠it->s.heap.get? b=ξ o->h'.get? b=ξ o) (hn:H it=ζ) (hL:it≠X.env.locals)
  (h1:it∈X.ex\/X.aP.heap.objs.size<=it) (h2:∀x c,X.env.cells.lookup x=ξ c->c≠it) (h3:∀p∈X.pn++pins,p.1≠it):Inv X pins σ H { s with heap:=h',toks:=t' }:=by
 have nit:∀b u,H b=ξ u->b≠it:=fun b u e z=>by simp_all
 refine I.step (g':=s.gens) (d':=s.drawn) (ch:=[it]) (fun b hb=>?_) (fun b o _ _ hc e _=>k b o (fun z=>hc (by simp[z])) e) (fun b o _ _ hc e _=>⟨o.slots,k b o (fun z=>hc (by simp[z])) e⟩) (fun _ _ _ _ n=>n)
  (fun b o hc e=>⟨o,k b o (fun z=>hc (by simp[z])) e⟩) (fun _ _ e=>e) (fun _ _ _ e=>e) (fun b ps e=>⟨#[],by grind⟩) (fun m hm=>?_) (fun b u e=>?_) I.bare
 ·grind
 ·obtain⟨o,es,ep,ho,r⟩:=hm
  exact⟨o,es,ep,k _ o (aac hL) ho,r⟩
 ·refine(I.hok b u e).lY (fun c v hc q=>k c v ?_ q) (fun _ q=>q) fun _ _ q=>q
  grind
def Inv.tok (I:Inv X pins σ H s) (t):Inv X pins σ H { s with toks:=t }:=I.un (h':=s.heap) (t':=t) Un.refl I.hok
def Inv.kept (I:Inv X pins σ H s) (k:∀b u,s.heap.get? b=ξ u->h'.get? b=ξ u):Inv X pins σ H { s with heap:=h',toks:=t' }:=I.un (Un.kept k) (I.hok.kept k)
def Inv.laid {a:XW} (I:Inv X pins σ H s) (k:∀b u,s.heap.get? b=ξ u->h'.get? b=ξ u) (hp:s.heap.objs.size<=a) (new:cz X.prog X.w (upd H a o) h' a o) :
  Inv X pins σ (upd H a o) { s with heap:=h',toks:=t' }:=I.un (Un.laid k hp (I.hok.fresh hp)) (I.hok.laid k hp new)
def Inv.write (I:Inv X pins σ H s) (mu:Mut (H x)) (he:e=x\/H e=ξ (.own x)) (k:∀b u,b≠e->s.heap.get? b=ξ u->h'.get? b=ξ u) (heo:∃u,h'.get? e=ξ u)
  (new:cz X.prog X.w (upd H x o) h' x o):Inv X pins σ (upd H x o) { s with heap:=h',toks:=t' }:=I.un (Un.write mu he k heo) (I.hok.write mu he k heo new)
def Inv.qY (I:Inv X pins σ H s) (h:∀p∈pins',s.heap.get? p.1=ξ p.2/\H p.1=ζ/\p.1≠X.env.locals/\p.1∉X.fs/\∀v,p.2.data≠.cell v):Inv X pins' σ H s:=
 ⟨I.ok,I.os,I.bare,I.base,I.loc,I.cell,I.free,I.e8,fun p hp=>(YV.mp hp).elim (fun z=>I.pin p (Zw _ z)) (h p),I.hok,I.len⟩
def BM {N:List Str} (hN:N.Nodup){i j:Nat} (a:N[i]?=ξ x) (b:N[j]?=ξ x):i=j:=by
 obtain⟨h1,e1⟩:=X9.mp a
 obtain⟨h2,e2⟩:=X9.mp b
 exact(List.getElem_inj hN).mp (e1.trans e2.symm)
def Gx (I:Inv X pins σ H s) (hN:X.N.Nodup) (hi:X.N[i]?=ξ x) (hx:Loc X.env.scope x) (r:RelV v u)
  (h:∀s',Inv X pins (σ.set i (ξ v)) H s'->(∃a,Z0 a s.heap s'.heap/\(a=X.env.locals\/X.env.cells.lookup x=ξ a))->Q () s') (hf:X.fn x=θ\/X.env.scope.names.lookup x=ξ .local:=by first | exact .inl rfl | exact .inr rfl | assumption):wpAny M A (storeName X.env x u) Q E s:=by
 obtain⟨m,hn,hl⟩:=id I.loc
 have hcls:(X.env.scope.kind == .class || (X.env.scope.kind == .module&&X.env.locals != X.env.globals))=false:=by rw[I.ok.kind];rfl
 have hiσ:i<σ.length:=by rw[I.len];grind
 have cne:=I.cne
 have tracked:∀{a:XW} {h':Y2},(∃o,s.heap.get? a=ξ o/\H a=ζ)->Z0 a s.heap h'->HOk X.prog X.w H h':=fun{a h'} ha hs b ob e=>by
  obtain⟨_,_,hfree⟩:=ha
  refine(I.hok b ob e).lY (fun c w' hc q=>(hs.2 c ?_).trans q) (fun _ q=>q) fun _ _ q=>q
  grind
 rcases hx with hk | hk
 ·refine wpAny_storeName_local hk hn (fun h' hn' hs=>?_) hcls
  obtain⟨oL,_,_,hoL,_⟩:=id hn
  refine h _ ⟨I.ok,I.os,I.bare,⟨fun b o e n hb hx=>?_,fun b o e n hb hx=>?_,I.base.free,fun b o e hx=>?_,I.base.mZ,I.base.mE,I.base.ow⟩,⟨_,hn',fun j y v' e1 e2 e3=>?_⟩,fun y c e=>?_,I.free,I.e8,fun p hp=>?_,tracked ⟨oL,hoL,I.free⟩ hs,by simpa using I.len⟩ ⟨_,hs,.inl rfl⟩
  ·exact(hs.2 b (XZ (Yb (XH e) I.ok.above))).trans (I.base.keep b o e n hb hx)
  ·obtain⟨sl,e1⟩:=I.base.slot b o e n hb hx
   exact⟨sl,(hs.2 b (XZ (Yb (XH e) I.ok.above))).trans e1⟩
  ·obtain⟨o',e1⟩:=I.base.there b o e hx
   exact⟨o',(hs.2 b (XZ (Yb (XH e) I.ok.above))).trans e1⟩
  ·by_cases hj:j=i
   ·subst hj
    rw[hi] at e1;cases e1
    rw[aaY hiσ] at e2
    cases e2
    exact⟨u,r,.inl ⟨hk,{..}⟩⟩
   ·rw[List.getElem?_set_ne (aac hj)] at e2
    obtain⟨u',r',q⟩:=hl j y v' e1 e2 e3
    refine⟨u',r',?_⟩
    rcases q with⟨k,e⟩ | ⟨k,c,e,z⟩
    ·refine .inl ⟨k,?_⟩
     have:y≠x:=fun e=>hj (BM hN e1 (e ▸ hi))
     simp_all
    ·exact .inr ⟨k,c,e,z.sameBut hs (cne y c e)⟩
  ·obtain⟨w',z⟩:=I.cell y c e
   exact⟨w',z.sameBut hs (cne y c e)⟩
  ·obtain⟨e,n,ne,nf,d⟩:=I.pin p hp
   exact⟨(hs.2 p.1 ne).trans e,n,ne,nf,d⟩
 ·have hfn:X.fn x=true:=by
   simp_all
  obtain⟨c,hc⟩:=I.ok.has x (.inl hk)
  obtain⟨w',z⟩:=I.cell x c hc
  refine wpAny_storeName_cell I.ok.kind hk hc z (fun h' hc' hs=>?_)
  obtain⟨oc,hoc,hocd⟩:=id z
  refine h { s with heap:=h' } ⟨I.ok,I.os,I.bare,⟨fun b o e n hb hx=>?_,fun b o e n hb hx=>?_,I.base.free,fun b o e hx=>?_,I.base.mZ,I.base.mE,I.base.ow⟩,⟨m,hn.sameBut hs (aac (cne x c hc)),fun j y v' e1 e2 e3=>?_⟩,fun y c' e=>?_,I.free,I.e8,fun p hp=>?_,tracked ⟨oc,hoc,I.e8 x c hc⟩ hs,by simpa using I.len⟩ ⟨c,hs,.inr hc⟩
  ·exact(hs.2 b (XZ (Yb (XH e) (I.ok.cab x c hfn hc)))).trans (I.base.keep b o e n hb hx)
  ·obtain⟨sl,e1⟩:=I.base.slot b o e n hb hx
   exact⟨sl,(hs.2 b (XZ (Yb (XH e) (I.ok.cab x c hfn hc)))).trans e1⟩
  ·obtain⟨o',e1⟩:=I.base.there b o e hx
   exact⟨o',(hs.2 b (XZ (Yb (XH e) (I.ok.cab x c hfn hc)))).trans e1⟩
  ·by_cases hj:j=i
   ·subst hj
    rw[hi] at e1;cases e1
    rw[aaY hiσ] at e2
    cases e2
    exact⟨u,r,.inr ⟨.inl hk,c,hc,hc'⟩⟩
   ·rw[List.getElem?_set_ne (aac hj)] at e2
    obtain⟨u',r',q⟩:=hl j y v' e1 e2 e3
    refine⟨u',r',?_⟩
    rcases q with q | ⟨k,c',e,z'⟩
    ·exact .inl q
    ·refine .inr ⟨k,c',e,z'.sameBut hs ?_⟩
     rintro rfl
     exact hj (BM hN e1 (I.ok.inj _ _ _ e hc ▸ hi))
  ·by_cases hcc:c'=c
   ·grind
   ·obtain⟨w2,z2⟩:=I.cell y c' e
    exact⟨w2,z2.sameBut hs hcc⟩
  ·obtain⟨e,n,ne,nf,d⟩:=I.pin p hp
   refine⟨(hs.2 p.1 ?_).trans e,n,ne,nf,d⟩
   grind
def gG (I:Inv X pins σ H s) (hN:X.N.Nodup) (hi:X.N[i]?=ξ x) (hx:Loc X.env.scope x) (r:RelV v u)
  (h:∀s',Inv X pins (σ.set i (ξ v)) H s'->Q () s') (hf:X.fn x=θ\/X.env.scope.names.lookup x=ξ .local:=by first | exact .inl rfl | exact .inr rfl | assumption):wpAny M A (storeName X.env x u) Q E s:=
 Gx I hN hi hx r (fun s' I' _=>h s' I') hf
def Inv.wO (I:Inv X pins σ H s) (ho:s'.os=s.os) (u:Un (frs X.stack) ch H H' s.heap s'.heap) (hok:HOk X.prog X.w H' s'.heap) (hg:ab0 s'.gens)
  (hch:∀b∈ch,(b∈X.ex\/X.aP.heap.objs.size<=b)/\b≠X.env.locals/\(∀x c,X.env.cells.lookup x=ξ c->c≠b)/\∀p∈X.pn++pins,p.1≠b):Inv X pins σ H' s':=by
 obtain⟨h',g',d',t',o'⟩:=s'
 have e:o'=s.os:=ho
 subst e
 exact I.call (g':=g') (t':=t') (d':=d') u hok hg hch
end
@[inline]abbrev XK:=XI->Option XW->Hp->Prop
@[inline]abbrev St:=List (Option V)
@[inline]abbrev VK:=V->Hp->Prop
@[inline]abbrev TE:=St->Hp->VK->Prop
@[inline]abbrev TT:=St->Hp->(Bool->Hp->Prop)->Prop
@[inline]abbrev TA:=St->Hp->(List V->Hp->Prop)->Prop
structure Ends where
 nx:St->Hp->Prop
 rt:VK
 bk:St->Hp->Prop:=fun _ _=>False
 ct:St->Hp->Prop:=fun _ _=>False
@[inline]abbrev TS:=Ends->St->Hp->Prop
abbrev EP (X:Cx) (pins:List (XW × Obj)) (σ:St) (Q:VK) (u:XI) (s':XO):Prop:=∃v H',Inv X pins σ H' s'/\RelV v u/\Q v H'
abbrev TP (X:Cx) (pins:List (XW × Obj)) (σ:St) (Q:Bool->Hp->Prop) (b:Bool) (s':XO):Prop:=∃H',Inv X pins σ H' s'/\Q b H'
abbrev AP (X:Cx) (pins:List (XW × Obj)) (σ:St) (Q:List V->Hp->Prop) (us:List XI) (s':XO):Prop:=∃vs H',Inv X pins σ H' s'/\Vals vs us/\Q vs H'
abbrev SP (X:Cx) (pins:List (XW × Obj)) (D:Ends) (f:Flow) (s':XO):Prop:=
 match f with
 | .next=>∃σ' H',Inv X pins σ' H' s'/\D.nx σ' H'
 | .brk=>∃σ' H',Inv X pins σ' H' s'/\D.bk σ' H'
 | .cont=>∃σ' H',Inv X pins σ' H' s'/\D.ct σ' H'
 | .ret u=>∃v σ' H',Inv X pins σ' H' s'/\RelV v u/\D.rt v H'
abbrev PE (X:Cx) (e:YL) (t:TE):Prop:=
 ∀pins s (σ:St) H Q , Inv X pins σ H s->t σ H Q->wpAny (model X.prog X.w) X.A (eval e X.env) (EP X pins σ Q) X.xe s
abbrev PT (X:Cx) (e:YL) (t:TT):Prop:=
 ∀pins s (σ:St) H Q , Inv X pins σ H s->t σ H Q->wpAny (model X.prog X.w) X.A (isTrue e X.env (eval e X.env)) (TP X pins σ Q) X.xe s
abbrev PW (X:Cx) (e:YL) (t:TT):Prop:=
 ∀whole pins s (σ:St) H Q , Inv X pins σ H s->t σ H Q->wpAny (model X.prog X.w) X.A (isTrue e X.env whole) (TP X pins σ Q) X.xe s
def PW.pt (h:PW X e t):PT X e t:=h _
abbrev PA (X:Cx) (es:List YL) (t:TA):Prop:=
 ∀pos pins s (σ:St) H Q , Inv X pins σ H s->t σ H Q->wpAny (model X.prog X.w) X.A (spliced (backTo pos (starEach es X.env))) (AP X pins σ Q) X.xe s
abbrev PS (X:Cx) (st:aaN) (t:TS):Prop:=
 ∀pins s (σ:St) H D , Inv X pins σ H s->t D σ H->wpAny (model X.prog X.w) X.A (exec st X.env) (SP X pins D) X.xe s
abbrev PSs (X:Cx) (st:List aaN) (t:TS):Prop:=
 ∀pins s (σ:St) H D , Inv X pins σ H s->t D σ H->wpAny (model X.prog X.w) X.A (execs st X.env) (SP X pins D) X.xe s
def thn {M:Model}{A:YK}{E:XI->XO->Prop}{s:XO} (h:wpAny M A t Q E s) (hQ:∀a s,Q a s->Q' a s):wpAny M A t Q' E s:=Yl h hQ fun _ _ x=>x
section
variable {X:Cx}
abbrev UW (i:Nat):TE:=fun σ H Q=>∃v,σ[i]?=ξ (ξ v)/\Q v H
abbrev tC (v:V):TE:=fun _ H Q=>Q v H
def Lm {pos:Pos} (hN:X.N[i]?=ξ x) (hv:Vis X.env.scope x) (hd:(x == ("__debug__" : Str))=false:=by decide) (hcd:(x == ("__classdict__" : Str))=false:=by decide):PE X (.Name x pos) (UW i):=by
 intro pins s σ H Q I h
 obtain⟨v,e,h⟩:=h
 obtain⟨m,hn,hl⟩:=I.loc
 obtain⟨u,r,l⟩:=hl i x v hN e hv
 have fin:EP X pins σ Q u s:=⟨v,H,I,r,h⟩
 rcases l with⟨hk,hm⟩ | ⟨hk,c,hc,hcell⟩
 ·exact abN (aav I.ok.kind hk hn hm fin) hd
 ·rcases hk with hk | hk
  ·exact abN (wpAny_loadName_cell I.ok.kind hk hc hcell fin) hd
  ·exact abN (wpAny_loadName_free I.ok.kind hk hc hcell fin hcd) hd
def Jk:PE X (.Constant (.int i) j pos) (tC (.int i)):=fun _ _ _ H _ I h=>wpAny_Constant_int ⟨.int i,H,I.tok _,⟨_,rfl⟩,h⟩
def Sb:PE X (.Constant (.bool b) j pos) (tC (.bl b)):=fun _ _ _ H _ I h=>Constant_bool ⟨.bl b,H,I,rfl,h⟩
def Pt:PE X (.Constant .none j pos) (tC .non):=fun _ _ _ H _ I h=>Constant_none ⟨.non,H,I,rfl,h⟩
def Qw:PE X (.Constant (.str x) j pos) (tC (.str x)):=fun _ _ _ H _ I h=>Calls.Constant_str ⟨.str x,H,I.tok _,⟨_,rfl⟩,h⟩
abbrev Gl (X:Cx) (x:Str):Prop:=X.env.kindOf x=ξ .globalImplicit
def jj {σ:St} (I:Inv X pins σ H s) (hg:Gl X x) (hm:X.mg x=ξ u) (h:Q u s)
  (hd:(x == ("__debug__" : Str))=false:=by decide):wpAny (model X.prog X.w) X.A (eval (.Name x pos) X.env) Q E s:=
 aar I.ok.kind hg (Calls.loadGlobal_global (by rw[I.ok.glob];exact I.mod.glob.keeps I.bk) hm h) hd
def kY {E:XI->XO->Prop}{σ:St}{pos:Pos} (I:Inv X pins σ H s) (hg:Gl X x) (hm:X.mg x=ζ) (hv:bootBuiltins x=ξ u) (h:Q u s)
  (hn:x≠"__name__" := by decide) (hd:(x == ("__debug__" : Str))=false:=by decide):wpAny (model X.prog X.w) X.A (eval (.Name x pos) X.env) Q E s:=by
 obtain⟨mb,h1,h2⟩:=I.mod.blt
 exact aar I.ok.kind hg (Calls.loadGlobal_builtin (by rw[I.ok.glob];exact I.mod.glob.keeps I.bk) hm (by rw[I.ok.blt];exact h1.keeps I.bk) ((h2 x hn).trans hv) h) hd
def nF (hg:Gl X x) (hm:X.mg x=ξ u) (r:RelV v u) (hd:(x == ("__debug__" : Str))=false:=by decide):PE X (.Name x pos) (tC v):=
 fun _ _ _ H _ I h=>jj I hg hm ⟨v,H,I,r,h⟩ hd
def DX {pos:Pos} (hg:Gl X x) (hm:X.mg x=ζ) (hv:bootBuiltins x=ξ u) (r:RelV v u) (hn:x≠"__name__" := by decide) (hd:(x == ("__debug__" : Str))=false:=by decide):PE X (.Name x pos) (tC v):=
 fun _ _ _ H _ I h=>kY I hg hm hv ⟨v,H,I,r,h⟩ hn hd
variable {a b:YL}{ta tb:TE}{pos:Pos}
variable {tA tB':TT}{rest:List YL}
abbrev VP (t u:TT):TT:=fun σ H Q=>t σ H fun c H1=>if c=θ then u σ H1 Q else Q ψ H1
abbrev tOr (t u:TT):TT:=fun σ H Q=>t σ H fun c H1=>if c=θ then Q θ H1 else u σ H1 Q
abbrev Wt (t:TT):TT:=fun σ H Q=>t σ H fun c H1=>Q (!c) H1
def pw_and1 (ha:PT X a tA):PW X (.BoolOp .And [a] pos) tA:=by
 intro wh pins s σ H Q I h
 refine isTrue_and (thn (ha pins s σ H Q I h) fun c s1 e=>?_)
 cases c with
 | true=>exact isTrue_and_nil e
 | false=>exact e
def pw_or1 (ha:PT X a tA):PW X (.BoolOp .Or [a] pos) tA:=by
 intro wh pins s σ H Q I h
 refine isTrue_or (thn (ha pins s σ H Q I h) fun c s1 e=>?_)
 cases c with
 | false=>exact isTrue_or_nil e
 | true=>exact e
def pw_and (ha:PT X a tA) (hb:PW X (.BoolOp .And (b::rest) pos) tB'):PW X (.BoolOp .And (a::b::rest) pos) (VP tA tB'):=by
 intro wh pins s σ H Q I h
 refine isTrue_and (thn (ha pins s σ H _ I h) fun c s1 ⟨H1,I1,q1⟩=>?_)
 cases c with
 | true=>exact hb wh pins s1 σ H1 Q I1 q1
 | false=>assumption
def pw_or (ha:PT X a tA) (hb:PW X (.BoolOp .Or (b::rest) pos) tB'):PW X (.BoolOp .Or (a::b::rest) pos) (tOr tA tB'):=by
 intro wh pins s σ H Q I h
 refine isTrue_or (thn (ha pins s σ H _ I h) fun c s1 ⟨H1,I1,q1⟩=>?_)
 cases c with
 | true=>assumption
 | false=>exact hb wh pins s1 σ H1 Q I1 q1
def P7 (ha:PT X a tA):PT X (.UnaryOp .Not a pos) (Wt tA):=by
 intro pins s σ H Q I h
 exact isTrue_not (ha pins s σ H (fun c H1=>Q (!c) H1) I h)
abbrev RY (ta tb:TE):TE:=fun σ H Q=>ta σ H fun x H1=>∃c,x=.bl c/\if c=θ then tb σ H1 Q else Q (.bl ψ) H1
abbrev V3 (ta tb:TE):TE:=fun σ H Q=>ta σ H fun x H1=>∃c,x=.bl c/\if c=θ then Q (.bl θ) H1 else tb σ H1 Q
abbrev RZ (ta:TE):TE:=fun σ H Q=>ta σ H fun x H1=>∃c,x=.bl c/\Q (.bl (!c)) H1
def RF (h:PE X a t):PE X (.BoolOp op [a] pos) t:=fun pins s σ H Q I hw=>BoolOp_one (h pins s σ H Q I hw)
def Q9 (ha:PE X a ta) (hb:PE X (.BoolOp .And (b::rest) pos) tb):PE X (.BoolOp .And (a::b::rest) pos) (RY ta tb):=by
 intro pins s σ H Q I h
 refine BoolOp_and (thn (ha pins s σ H _ I h) fun v s1 zq1=>?_)
 obtain⟨x,H1,I1,r1,q1⟩:=zq1
 obtain⟨c,rfl,q1⟩:=q1
 cases r1
 refine YR ?_
 cases c with
 | true=>exact hb pins s1 σ H1 Q I1 q1
 | false=>exact⟨.bl ψ,H1,I1,rfl,q1⟩
def Tg (ha:PE X a ta) (hb:PE X (.BoolOp .Or (b::rest) pos) tb):PE X (.BoolOp .Or (a::b::rest) pos) (V3 ta tb):=by
 intro pins s σ H Q I h
 refine BoolOp_or (thn (ha pins s σ H _ I h) fun v s1 zq1=>?_)
 obtain⟨x,H1,I1,r1,q1⟩:=zq1
 obtain⟨c,rfl,q1⟩:=q1
 cases r1
 refine YR ?_
 cases c with
 | false=>exact hb pins s1 σ H1 Q I1 q1
 | true=>exact⟨.bl θ,H1,I1,rfl,q1⟩
def RC (ha:PE X a ta):PE X (.UnaryOp .Not a pos) (RZ ta):=by
 intro pins s σ H Q I h
 refine UnaryOp_ (thn (ha pins s σ H _ I h) fun v s1 zq1=>?_)
 obtain⟨x,H1,I1,r1,q1⟩:=zq1
 obtain⟨c,rfl,q1⟩:=q1
 cases r1
 exact not_of (YR ⟨.bl (!c),H1,I1,rfl,q1⟩)
abbrev tIf (t:TT) (ta tb:TE):TE:=fun σ H Q=>t σ H fun c H1=>if c=θ then ta σ H1 Q else tb σ H1 Q
def Jo {c:YL} (hc:PT X c tA) (ha:PE X a ta) (hb:PE X b tb):PE X (.IfExp c a b pos) (tIf tA ta tb):=by
 intro pins s σ H Q I h
 refine wpAny_IfExp (thn (hc pins s σ H _ I h) fun d s1 zq1=>?_)
 obtain⟨H1,I1,q1⟩:=zq1
 cases d with
 | true=>exact ha pins s1 σ H1 Q I1 q1
 | false=>exact hb pins s1 σ H1 Q I1 q1
end
abbrev SqL (K:gV) (H:Hp) (a:XW) (xs:List V):Prop:=
 Rd H a (.lst xs) ∨
  ∃o its n,K.lookup a=ξ o/\o.cls=.type "list" /\ o.dict=ζ/\o.data=.seq its n/\its.size<=sizeLine/\Vals xs its.toList
abbrev SqT (K:gV) (H:Hp) (a:XW) (xs:List V):Prop:=
 Rd H a (.tup xs) ∨
  ∃o its n,K.lookup a=ξ o/\o.cls=.type "tuple" /\ o.data=.seq its n/\its.size<=sizeLine/\Vals xs its.toList
abbrev Wq:XI->Option V
 | .none=>ξ .non
 | .bool b=>ξ (.bl b)
 | .int i _=>ξ (.int i)
 | .str x _=>ξ (.str x)
 | .bytes b _=>ξ (.byt b)
 | .float b _=>ξ (.flt b)
 | .ref a=>ξ (.ref a)
 | .type n=>ξ (.ty n)
 | _=>ζ
def RelV.abs (r:RelV x u):Wq u=ξ x:=by
 cases x with
 | non=>cases r;rfl
 | bl _=>cases r;rfl
 | int _=>obtain⟨t,rfl⟩:=r;rfl
 | str _=>obtain⟨t,rfl⟩:=r;rfl
 | byt _=>obtain⟨t,rfl⟩:=r;rfl
 | flt _=>obtain⟨t,rfl⟩:=r;rfl
 | ref _=>cases r;rfl
 | ty _=>cases r;rfl
def RelV.inj (r:RelV x u) (q:RelV y u):x=y:=Y5 (r.abs.symm.trans q.abs)
def Vals.inj {xs ys:List V}{us:List XI} (a:Vals xs us) (b:Vals ys us):xs=ys:=by
 induction a generalizing ys with
 | nil=>cases b;rfl
 | cons r t ih=>
  cases b with | cons r' t'=>
  rw[r.inj r',ih t']
section
variable {X:Cx}{pins:List (XW × Obj)}{σ:St}{H:Hp}{s:XO}{a:XW}{xs ys:List V}
def SqL.of {K:gV} (h:H a=ξ (.lst xs)):SqL K H a xs:=.inl (.inl h)
def SqT.of {K:gV} (h:H a=ξ (.tup xs)):SqT K H a xs:=.inl (.inl h)
def Inv.list (I:Inv X pins σ H s) (h:SqL X.K H a xs):∃its:List XI,Vals xs its/\PlainL s.heap a its.toArray/\xs.length<=sizeLine:=by
 rcases h with h | ⟨o,its,n,hk,hc,hd,hs,hz,r⟩
 ·obtain⟨z,its,n,r,e⟩:=h.ok I.hok
  exact⟨its,r,⟨_,n,e,rfl,rfl,rfl⟩,z⟩
 ·refine⟨its.toList,r,⟨o,n,I.kIn a o hk,hc,hd,by omega⟩,?_⟩
  have e:=r.length
  simp_all
def Inv.tuple (I:Inv X pins σ H s) (h:SqT X.K H a xs):∃its:List XI,Vals xs its/\adp s.heap a its.toArray/\xs.length<=sizeLine:=by
 rcases h with h | ⟨o,its,n,hk,hc,hs,hz,r⟩
 ·obtain⟨z,its,r,p⟩:=h.ok I.hok
  exact⟨its,r,p.tup,z⟩
 ·refine⟨its.toList,r,⟨o,I.kIn a o hk,hc,n,by omega⟩,?_⟩
  have e:=r.length
  simp_all
def Inv.sT (I:Inv X pins σ H s) (h:SqL X.K H a xs) (h':SqL X.K H a ys):xs=ys:=by
 obtain⟨its,r,⟨o,n,e,_,_,d⟩,_⟩:=I.list h
 obtain⟨its',r',⟨o',n',e',_,_,d'⟩,_⟩:=I.list h'
 rw[e] at e';cases e'
 rw[d] at d'
 injection d' with d1 _
 have:its=its':=by simp_all
 subst this
 exact r.inj r'
def Inv.pE (I:Inv X pins σ H s) (h:SqT X.K H a xs) (h':SqT X.K H a ys):xs=ys:=by
 obtain⟨its,r,⟨o,e,_,n,d⟩,_⟩:=I.tuple h
 obtain⟨its',r',⟨o',e',_,n',d'⟩,_⟩:=I.tuple h'
 rw[e] at e';cases e'
 rw[d] at d'
 injection d' with d1 _
 have:its=its':=by simp_all
 subst this
 exact r.inj r'
end
@[inline]abbrev Cx.oq (X:Cx) (E:XI->XO->Prop):Cx:={ X with xe:=E }
@[inline]abbrev Cx.nox (X:Cx):Cx:=X.oq fun _ _=>False
def Cx.Ok.oq {X:Cx} (ok:X.Ok) (E):(X.oq E).Ok:=
 ⟨ok.mod,ok.kind,ok.glob,ok.blt,ok.above,ok.inj,ok.has,ok.cab,ok.hd,ok.frames,ok.stk,ok.exf,ok.bs,ok.bsz,ok.wt,ok.AU,ok.kM,ok.frf⟩
def Cx.Ok.iN {X:Cx} (ok:(X.oq E).Ok):X.Ok:=
 ⟨ok.mod,ok.kind,ok.glob,ok.blt,ok.above,ok.inj,ok.has,ok.cab,ok.hd,ok.frames,ok.stk,ok.exf,ok.bs,ok.bsz,ok.wt,ok.AU,ok.kM,ok.frf⟩
section
variable {X:Cx}{pins:List (XW × Obj)}{σ:St}{H:Hp}{s:XO}{E:XI->XO->Prop}
def Inv.oq (I:Inv X pins σ H s) (E):Inv (X.oq E) pins σ H s:=⟨I.ok.oq E,I.os,I.bare,I.base,I.loc,I.cell,I.free,I.e8,I.pin,I.hok,I.len⟩
def Inv.iN (I:Inv (X.oq E) pins σ H s):Inv X pins σ H s:=⟨I.ok.iN,I.os,I.bare,I.base,I.loc,I.cell,I.free,I.e8,I.pin,I.hok,I.len⟩
def SP.iN (h:SP (X.oq E) pins D f s'):SP X pins D f s':=by
 cases f with
 | next=>obtain⟨σ',H',I,q⟩:=h;exact⟨σ',H',I.iN,q⟩
 | brk=>obtain⟨σ',H',I,q⟩:=h;exact⟨σ',H',I.iN,q⟩
 | cont=>obtain⟨σ',H',I,q⟩:=h;exact⟨σ',H',I.iN,q⟩
 | ret u=>obtain⟨v,σ',H',I,r,q⟩:=h;exact⟨v,σ',H',I.iN,r,q⟩
def PE.nox {e:YL}{t:TE} (h:PE X.nox e t):PE X e t:=fun pins s σ H Q I hw=>
 Yl (h pins s σ H Q (I.oq _) hw) (fun _ _ ⟨v,H',I',r,q⟩=>⟨v,H',I'.iN,r,q⟩) fun _ _ z=>ZU z
def PT.nox {e:YL}{t:TT} (h:PT X.nox e t):PT X e t:=fun pins s σ H Q I hw=>
 Yl (h pins s σ H Q (I.oq _) hw) (fun _ _ ⟨H',I',q⟩=>⟨H',I'.iN,q⟩) fun _ _ z=>ZU z
def PSs.nox {st:List aaN} (h:PSs X.nox st t):PSs X st t:=fun pins s σ H D I hw=>
 Yl (h pins s σ H D (I.oq _) hw) (fun _ _ q=>q.iN) fun _ _ z=>ZU z
end
section
variable {X:Cx}{st:aaN}{rest:List aaN}{t u:TS}{e:YL}{te:TE}{pos:Pos}
abbrev Sa:TS:=fun D σ H=>D.nx σ H
abbrev V7 (t u:TS):TS:=fun D σ H=>t { D with nx:=u D } σ H
def Mj:PSs X [] Sa:=fun _ _ σ H _ I h=>aai ⟨σ,H,I,h⟩
def Li (h1:PS X st t) (h2:PSs X rest u):PSs X (st::rest) (V7 t u):=by
 intro pins s σ H D I h
 refine abi (thn (h1 pins s σ H { D with nx:=u D } I h) fun f s1 q=>?_)
 cases f with
 | next=>
  obtain⟨σ',H',I',q⟩:=q
  exact h2 pins s1 σ' H' D I' q
 | ret v=>exact q
 | brk=>exact q
 | cont=>exact q
def D8 (h1:PS X st t):PSs X [st] t:=by
 intro pins s σ H D I h
 refine abi (thn (h1 pins s σ H D I h) fun f s1 q=>?_)
 cases f with
 | next=>exact aai q
 | ret v=>exact q
 | brk=>exact q
 | cont=>exact q
def Inv.quiet {pins:List (XW × Obj)}{σ:St}{H:Hp}{s:XO} (I:Inv X pins σ H s):interactive X.env=false:=by simp[interactive,I.ok.kind]
abbrev Tv (te:TE):TS:=fun D σ H=>te σ H fun _ H1=>D.nx σ H1
def N1 (he:PE X e te) (hs:swapsWith e ζ pos.line X.env=pure false:=by rfl):PS X (.Expr e pos) (Tv te):=by
 intro pins s σ H D I h
 exact wpAny_Expr_any (thn (he pins s σ H _ I h) fun v s1 ⟨x,H1,I1,r1,q1⟩=>⟨σ,H1,I1,q1⟩) I.quiet hs
abbrev VZ (te:TE):TS:=fun D σ H=>te σ H D.rt
def Lk (he:PE X e te):PS X (.Return (ξ e) pos) (VZ te):=by
 intro pins s σ H D I h
 exact wpAny_Return_some (thn (he pins s σ H _ I h) fun v s1 ⟨x,H1,I1,r1,q1⟩=>⟨x,σ,H1,I1,r1,q1⟩)
abbrev VS (c:TT) (t u:TS):TS:=fun D σ H=>c σ H fun b H1=>if b=θ then t D σ H1 else u D σ H1
def SK {c:YL}{a b:List aaN}{tc:TT} (hc:PT X c tc) (ha:PSs X a t) (hb:PSs X b u):PS X (.If c a b pos) (VS tc t u):=by
 intro pins s σ H D I h
 refine wpAny_If (thn (hc pins s σ H _ I h) fun d s1 zq1=>?_)
 obtain⟨H1,I1,q1⟩:=zq1
 cases d with
 | true=>exact ha pins s1 σ H1 D I1 q1
 | false=>exact hb pins s1 σ H1 D I1 q1
end
@[inline]abbrev TG:=V->St->Hp->(St->Hp->Prop)->Prop
@[inline]abbrev TGs:=List V->St->Hp->(St->Hp->Prop)->Prop
abbrev PG (X:Cx) (target:YL) (t:TG):Prop:=
 ∀pins s (σ:St) H v u Q , Inv X pins σ H s->RelV v u->t v σ H Q →
  wpAny (model X.prog X.w) X.A (assign target X.env u) (fun _ s'=>∃σ' H',Inv X pins σ' H' s'/\Q σ' H') X.xe s
abbrev PGs (X:Cx) (ts:List YL) (t:TGs):Prop:=
 ∀pins s (σ:St) H vs us Q , Inv X pins σ H s->Vals vs us->t vs σ H Q →
  wpAny (model X.prog X.w) X.A (assignInOrder ((assignEach ts X.env).map (·.2)) us) (fun _ s'=>∃σ' H',Inv X pins σ' H' s'/\Q σ' H') X.xe s
@[inline]abbrev DJ:=V->V->V->Hp->(Hp->Prop)->Prop
abbrev NQ (X:Cx) (t:DJ):Prop:=
 ∀pins s (σ:St) H o i v ov iv u Q , Inv X pins σ H s->RelV o ov->RelV i iv->RelV v u->t o i v H Q →
  wpAny (model X.prog X.w) X.A (setItem ov iv u) (fun _ s'=>∃H',Inv X pins σ H' s'/\Q H') X.xe s
@[inline]abbrev TIp:=V->V->Hp->VK->Prop
abbrev PIp (X:Cx) (op:adh) (t:TIp):Prop:=
 ∀pins s (σ:St) H x y v u Q , Inv X pins σ H s->RelV x v->RelV y u->t x y H Q →
  wpAny (model X.prog X.w) X.A (inplaceOp op v u) (EP X pins σ Q) X.xe s
section
variable {X:Cx}{pos:Pos}
abbrev jW (i:Nat):TG:=fun v σ H Q=>Q (σ.set i (ξ v)) H
def kf (hN:X.N.Nodup) (hi:X.N[i]?=ξ x) (hx:Loc X.env.scope x) (hf:X.fn x=θ\/X.env.scope.names.lookup x=ξ .local:=by first | exact .inl rfl | exact .inr rfl | assumption):PG X (.Name x pos) (jW i):=by
 intro pins s σ H v u Q I r h
 exact abO (gG I hN hi hx r (fun s' I'=>⟨_,H,I',h⟩) hf)
abbrev Le:TGs:=fun vs σ H Q=>vs=[]/\Q σ H
abbrev nj (t:TG) (u:TGs):TGs:=fun vs σ H Q=>∃v r,vs=v::r/\t v σ H fun σ' H'=>u r σ' H' Q
def nD:PGs X [] Le:=by
 intro pins s σ H vs us Q I r h
 obtain⟨e,h⟩:=h
 subst e
 cases r
 exact assignInOrder_nil ⟨σ,H,I,h⟩
def fq {e:YL}{es:List YL}{t:TG}{u:TGs} (h1:PG X e t) (h2:PGs X es u)
  (hs:(assignEach (e::es) X.env).map (·.2)=assign e X.env::(assignEach es X.env).map (·.2):=by rfl):PGs X (e::es) (nj t u):=by
 intro pins s σ H vs us Q I r h
 obtain⟨v,vr,e1,h⟩:=h
 subst e1
 cases r with
 | cons r rr=>
  rw[hs]
  refine abB (thn (h1 pins s σ H _ _ _ I r h) fun _ s1 zq1=>?_)
  obtain⟨σ1,H1,I1,q1⟩:=zq1
  exact h2 pins s1 σ1 H1 _ _ Q I1 rr q1
abbrev K4 (K:gV) (n:Nat) (t:TGs):TG:=fun v σ H Q=>∃a xs,v=.ref a/\SqT K H a xs/\xs.length=n/\t xs σ H Q
def tV {k:Nat} (hc:X.calm=θ) (h:PGs X es t)
  (hn:(assignEach es X.env).length=n:=by rfl) (hst:(assignEach es X.env).findIdx? (·.1)=none:=by rfl):PG X (.Tuple es k pos) (K4 X.K n t):=by
 intro pins s σ H v u Q I r hw
 obtain⟨a,xs,e1,hq,hl,hw⟩:=hw
 subst e1
 cases r
 obtain⟨its,rv,ht,hz⟩:=I.tuple hq
 refine assign_Tuple_tuple (I.ok.hd hc) ht (by simp[hn,<- hl,rv.length]) hst fun h' hx=>?_
 have I1:Inv X pins σ H { s with heap:=h' }:=I.kept (t':=s.toks) fun b o e=>hx b o (XZ (XH e)) e
 exact h pins _ σ H xs _ Q I1 {} hw
abbrev Vq (to ti:TE) (t:DJ):TG:=fun v σ H Q=>to σ H fun o H1=>ti σ H1 fun i H2=>t o i v H2 fun H3=>Q σ H3
def Pk {o i:YL}{to ti:TE}{t:DJ} (ho:PE X o to) (hi:PE X i ti) (hs:NQ X t)
  (ha:∀v,assign (.Subscript o i pos) X.env v=(do
   let ov ← holding [v] (eval o X.env)
   let iv ← holding [v,ov] (eval i X.env)
   standAt pos
   holding [v,ov,iv] (setItem ov iv v)
   release [v,ov,iv] []):=by intro _;rfl):PG X (.Subscript o i pos) (Vq to ti t):=by
 intro pins s σ H v u Q I r h
 rw[ha]
 refine td (YA (thn (ho pins s σ H _ I h) fun ov s1 zq1=>?_))
 obtain⟨x,H1,I1,r1,q1⟩:=zq1
 refine td (YA (thn (hi pins s1 σ H1 _ I1 q1) fun iv s2 zq1=>?_))
 obtain⟨y,H2,I2,r2,q2⟩:=zq1
 refine td (ZP (td (YA (thn (hs pins s2 σ H2 x y v ov iv u _ I2 r1 r2 r q2) fun _ s3 zq1=>?_))))
 obtain⟨H3,I3,q3⟩:=zq1
 exact wpAny_release ⟨σ,H3,I3,q3⟩
abbrev Qo (te:TE) (g:TG):TS:=fun D σ H=>te σ H fun x H1=>g x σ H1 D.nx
def Kg {tg e:YL}{te:TE}{g:TG} (he:PE X e te) (hg:PG X tg g) (hs:swapsWithSole [tg] e pos.line X.env=pure false:=by rfl) (hw:swappedStores [tg] e X.env=pure none:=by rfl)
  (h1:(assignEach [tg] X.env).map (·.2)=[assign tg X.env]:=by rfl):PS X (.Assign [tg] e pos) (Qo te g):=by
 intro pins s σ H D I h
 refine wpAny_Assign_stores (thn (he pins s σ H _ I h) fun v s1 ⟨x,H1,I1,r1,q1⟩=>?_) hs hw
 rw[h1]
 exact thn (hg pins s1 σ H1 x v _ I1 r1 q1) fun _ s2 q=>q
def O8 {i:Nat}{x:Str}{e:YL}{te:TE}{pos':Pos} (hN:X.N.Nodup) (hi:X.N[i]?=ξ x) (hx:Loc X.env.scope x) (he:PE X e te) (hs:swapsWith e (ξ (.Name x pos')) pos.line X.env=pure false:=by rfl) (hf:X.fn x=θ\/X.env.scope.names.lookup x=ξ .local:=by first | exact .inl rfl | exact .inr rfl | assumption) :
  PS X (.Assign [.Name x pos'] e pos) (Qo te (jW i)):=by
 intro pins s σ H D I h
 refine wpAny_Assign_Name (thn (he pins s σ H _ I h) fun v s1 ⟨y,H1,I1,r1,q1⟩=>?_) hs
 exact gG I1 hN hi hx r1 (fun s2 I2=>⟨_,H1,I2,q1⟩) hf
abbrev Wj (i j:Nat) (ta:TA):TS:=fun D σ H=>ta σ H fun vs H1=>∃v w,vs=[v,w]/\D.nx ((σ.set i (ξ v)).set j (ξ w)) H1
def Rb {i j:Nat}{x y:Str}{a b:YL}{ta:TA}{px py pt:Pos}{kt k2 pt2} (hc:X.calm=θ) (hN:X.N.Nodup) (hi:X.N[i]?=ξ x) (hj:X.N[j]?=ξ y) (hij:i≠j)
  (hx:X.env.scope.names.lookup x=ξ .local) (hy:X.env.scope.names.lookup y=ξ .local) (ha:PA X [a,b] ta)
  (hw:swappedStores [.Tuple [.Name x px,.Name y py] kt pt] (.Tuple [a,b] k2 pt2) X.env=pure (ξ [x,y]))
  (hs:swapsWithSole [.Tuple [.Name x px,.Name y py] kt pt] (.Tuple [a,b] k2 pt2) pos.line X.env=pure false:=by rfl) :
  PS X (.Assign [.Tuple [.Name x px,.Name y py] kt pt] (.Tuple [a,b] k2 pt2) pos) (Wj i j ta):=by
 intro pins s σ H D I h
 rw[exec_Assign_arm]
 refine td (ZP ?_)
 rw[hs]
 refine td (XG ?_)
 rw[if_neg (by decide)]
 refine td (Tuple_ (thn (ha _ pins s σ H _ I h) fun us s1 zq1=>?_))
 obtain⟨vs,H1,I1,r1,q1⟩:=zq1
 obtain⟨v,w,e1,q1⟩:=q1
 subst e1
 obtain⟨u1,u2,rfl,rv,rw'⟩:∃u1 u2,us=[u1,u2]/\RelV v u1/\RelV w u2:=by
  cases r1 with
  | cons p q=>
   cases q with
   | cons p' q'=>
    cases q'
    exact⟨_,_,rfl,p,p'⟩
 refine Yo ?_ (by show 2<=sizeLine;decide)
 have I2:Inv X pins σ H1 { s1 with heap:=s1.heap.push { cls:=.type "tuple", data:=.seq [u1,u2].toArray } }:=I1.kept (t':=s1.toks) fun b o e=>XB _ e
 rw[hw]
 refine td (XG ?_)
 show wpAny (model X.prog X.w) X.A (do rule "assign.swapped-stores"; let items ← unpackItems (.ref s1.heap.objs.size) 2 ζ;assignInOrder [fun v=>bindName X.env y v,fun v=>bindName X.env x v] items.reverse;pure Flow.next) _ _ _
 refine td (acS (td (unpackItems_tuple (items:=#[u1,u2]) (I.ok.hd hc) (adp.new s1.heap _) fun h' hx'=>?_)))
 have I3:=I2.kept (h':=h') (t':=s1.toks) fun b o e=>hx' b o (XZ (XH e)) e
 show wpAny _ _ (assignInOrder [fun v=>bindName X.env y v,fun v=>bindName X.env x v] [u2,u1] >>= fun _=>pure Flow.next) _ _ _
 refine td (abB (wpAny_bindName (gG I3 hN hj (.inl hy) rw' (fun s2 I4=>?_) (.inr hy))))
 refine abB (wpAny_bindName (gG I4 hN hi (.inl hx) rv (fun s3 I5=>assignInOrder_nil (XG ?_)) (.inr hx)))
 rw[List.set_comm _ _ (aac hij)] at I5
 exact⟨_,H1,I5,q1⟩
abbrev Wr (i:Nat) (te:TE) (ti:TIp):TS:=fun D σ H=>∃x,σ[i]?=ξ (ξ x)/\te σ H fun y H1=>ti x y H1 fun z H2=>D.nx (σ.set i (ξ z)) H2
def QQ {i:Nat}{x:Str}{e:YL}{te:TE}{op:adh}{ti:TIp}{pos':Pos} (hN:X.N.Nodup) (hi:X.N[i]?=ξ x) (hx:Loc X.env.scope x) (he:PE X e te) (ho:PIp X op ti) (hf:X.fn x=θ\/X.env.scope.names.lookup x=ξ .local:=by first | exact .inl rfl | exact .inr rfl | assumption) :
  PS X (.AugAssign (.Name x pos') op e pos) (Wr i te ti):=by
 intro pins s σ H D I h
 obtain⟨v,e1,h⟩:=h
 obtain⟨m,hn,hl⟩:=I.loc
 have vis:Vis X.env.scope x:=by rcases hx with k | k;exact .inl k;exact .inr (.inl k)
 obtain⟨u,r,l⟩:=hl i x v hi e1 vis
 refine wpAny_AugAssign_Name ?_
 have go:wpAny (model X.prog X.w) X.A (eval e X.env) (fun w s₂=>wpAny (model X.prog X.w) X.A (inplaceOp op u w) (fun r s₃=>wpAny (model X.prog X.w) X.A (storeName X.env x r) (fun _=>SP X pins D .next) X.xe s₃) X.xe s₂) X.xe s:=by
  refine thn (he pins s σ H _ I h) fun w s1 zq1=>?_
  obtain⟨y,H1,I1,r1,q1⟩:=zq1
  refine thn (ho pins s1 σ H1 v y u w _ I1 r r1 q1) fun z s2 zq1=>?_
  obtain⟨zv,H2,I2,r2,q2⟩:=zq1
  exact gG I2 hN hi hx r2 (fun s3 I3=>⟨_,H2,I3,q2⟩) hf
 rcases l with⟨hk,hm⟩ | ⟨hk,c,hc,hcell⟩
 ·exact aav I.ok.kind hk hn hm go
 ·rcases hk with hk | hk
  ·exact wpAny_loadName_cell I.ok.kind hk hc hcell go
  ·rcases hx with k | k
   ·have:X.env.scope.names.lookup x=ξ .free:=hk
    simp_all
   ·have:X.env.scope.names.lookup x=ξ .free:=hk
    simp_all
abbrev Uq (to ti te:TE) (tget:V->V->Hp->VK->Prop) (tip:TIp) (tset:DJ):TS:=fun D σ H=>to σ H fun o H1=>ti σ H1 fun i H2=>tget o i H2 fun x H3=>te σ H3 fun y H4=>tip x y H4 fun z H5=>tset o i z H5 fun H6=>D.nx σ H6
abbrev S_ (X:Cx) (t:V->V->Hp->VK->Prop):Prop:=
 ∀pins s (σ:St) H o i ov iv Q , Inv X pins σ H s->RelV o ov->RelV i iv->t o i H Q →
  wpAny (model X.prog X.w) X.A (getItem ov iv) (EP X pins σ Q) X.xe s
def MH {o i e:YL}{to ti te:TE}{tget:V->V->Hp->VK->Prop}{tip:TIp}{tset:DJ}{op:adh}{tpos:Pos} (ho:PE X o to) (hi:PE X i ti) (hg:S_ X tget) (he:PE X e te) (hp:PIp X op tip) (hs:NQ X tset)
  (ha:∀ov iv new,augStore i ov iv new=(do holding [new,ov,iv] (setItem ov iv new);release [new,ov,iv] [];pure .next):=by intros;rfl):PS X (.AugAssign (.Subscript o i tpos) op e pos) (Uq to ti te tget tip tset):=by
 intro pins s σ H D I h
 refine wpAny_AugAssign_SubscriptAny (thn (ho pins s σ H _ I h) fun ov s1 ⟨x1,H1,I1,r1,q1⟩=>?_) ha
 refine thn (hi pins s1 σ H1 _ I1 q1) fun iv s2 zq1=>?_
 obtain⟨x2,H2,I2,r2,q2⟩:=zq1
 refine thn (hg pins s2 σ H2 x1 x2 ov iv _ I2 r1 r2 q2) fun old s3 zq1=>?_
 obtain⟨x3,H3,I3,r3,q3⟩:=zq1
 refine thn (he pins s3 σ H3 _ I3 q3) fun v s4 zq1=>?_
 obtain⟨x4,H4,I4,r4,q4⟩:=zq1
 refine thn (hp pins s4 σ H4 x3 x4 old v _ I4 r3 r4 q4) fun new s5 zq1=>?_
 obtain⟨x5,H5,I5,r5,q5⟩:=zq1
 exact thn (hs pins s5 σ H5 x1 x2 x5 ov iv new _ I5 r1 r2 r5 q5) fun _ s6 ⟨H6,I6,q6⟩=>⟨σ,H6,I6,q6⟩
abbrev ipI (f:Int->Int->Int):TIp:=fun x y H Q=>∃i j,x=.int i/\y=.int j/\Q (.int (f i j)) H
def Jw:PIp X .Add (ipI fun i j=>i+j):=by
 intro pins s σ H x y v u Q I r1 r2 h
 obtain⟨i,j,e1,e2,q⟩:=h
 subst e1;subst e2
 obtain⟨t,rfl⟩:=r1
 obtain⟨t',rfl⟩:=r2
 exact iadd_int ⟨.int _,H,I.tok _,⟨_,rfl⟩,q⟩
end
section
variable {X:Cx}{pos:Pos}
abbrev PB (c:TT) (tb:TS):TS:=fun D σ H=>∃W:Nat->St->Hp->Prop,(∃m,W m σ H)/\∀m σ H,W m σ H →
 c σ H fun b H1=>if b=θ then ∃N:St->Hp->Prop,(∀σ' H',N σ' H'->∃m',m'<m/\W m' σ' H')/\tb { D with nx:=N,ct:=N,bk:=D.nx } σ H1 else D.nx σ H1
def Lo {c:YL}{body:List aaN}{tc:TT}{tb:TS} (hp:abf (model X.prog X.w) X.A X.env X.xe) (hc:PT X c tc) (hb:PSs X body tb):PS X (.While c body [] pos) (PB tc tb):=by
 intro pins s σ H D I h
 obtain⟨W,⟨m0,w0⟩,turn⟩:=h
 refine wpAny_While (codeAny_whileLoop (fun n s'=>∃σ' H',Inv X pins σ' H' s'/\W n σ' H') ?_ m0 ⟨σ,H,I,w0⟩)
 rintro n s1 ⟨σ1,H1,I1,w1⟩
 refine ZV hp (thn (hc pins s1 σ1 H1 _ I1 (turn n σ1 H1 w1)) fun b s2 zq1=>?_)
 obtain⟨H2,I2,q2⟩:=zq1
 cases b with
 | true=>
  obtain⟨N,hN,q2⟩:=q2
  rw[if_pos rfl]
  refine ZV hp (thn (hb pins s2 σ1 H2 _ I2 q2) fun f s3 q3=>?_)
  cases f with
  | next=>
   obtain⟨σ3,H3,I3,n3⟩:=q3
   obtain⟨m',hm,w3⟩:=hN σ3 H3 n3
   exact⟨m',hm,σ3,H3,I3,w3⟩
  | cont=>
   obtain⟨σ3,H3,I3,n3⟩:=q3
   obtain⟨m',hm,w3⟩:=hN σ3 H3 n3
   exact⟨m',hm,σ3,H3,I3,w3⟩
  | brk=>exact q3
  | ret v=>exact q3
 | false=>
  rw[if_neg Yc]
  exact aai ⟨σ1,H2,I2,q2⟩
end
structure It where
 go:Nat->Hp->Prop
 yld:Nat->Hp->V->Hp->Prop
 stop:Nat->Hp->Prop
abbrev qu (X:Cx) (pins:List (XW × Obj)) (H:Hp) (b:XW):Prop:=
 H b=ζ/\b≠X.env.locals/\b∉X.fs/\(b∈X.ex\/X.aP.heap.objs.size<=b)/\(∀x c,X.env.cells.lookup x=ξ c->c≠b)/\∀p∈X.pn++pins,p.1≠b
def Inv.HX {σ:St}{b:XW} (I:Inv X pins σ H s) (hb:s.heap.objs.size<=b) (hn:H' b=ζ):qu X pins H' b:=by
 refine⟨hn,Z1 (Yb I.lt hb),I.Tu hb,.inr (XR I.sz hb),fun x c e z=>?_,fun p hp z=>?_⟩
 ·obtain⟨v,q⟩:=I.cell x c e
  exact absurd (Yb q.lt (by simp_all)) (Y6 _)
 ·exact absurd (Yb (XH (I.pin p hp).1) (by simp_all)) (Y6 _)
structure Turn (P) (w) (K) (tg) (J:It) (fp:List XW) (it) (tn:Nat->Y2->Prop):Prop where
 mem:it∈fp
 obj:∀i h,tn i h->∀b∈fp,∃o,h.get? b=some o/\∀v,o.data≠.cell v
 keep:∀i h h',tn i h->(∀b∈fp,∀o,h.get? b=some o->h'.get? b=some o)->tn i h'
 item:∀X , X.prog=P->X.w=w->X.K=K->X.calm=true->∀i pins s (σ:St) H E , Inv X pins σ H s->(∀b∈fp,qu X pins H b)->tn i s.heap->J.go i H →
  wpAny (model P w) X.A (pyNext (.ref it)) (fun r s1=>∃u,r=some u ∧
   wpAny (model P w) X.A (letOwnedTupleGo tg (.ref it) u) (fun _ s2=>∃x H',Inv X pins σ H' s2/\RelV x u/\J.yld i H x H'/\tn (i+1) s2.heap/\∀b∈fp,H' b=none) E s1) E s
 done:∀X , X.prog=P->X.w=w->X.K=K->X.calm=true->∀i pins s (σ:St) H E , Inv X pins σ H s->(∀b∈fp,qu X pins H b)->tn i s.heap->J.stop i H →
  wpAny (model P w) X.A (pyNext (.ref it)) (fun r s1=>r=none/\Inv X pins σ H s1) E s
 self:∀A i s Q E , tn i s.heap->Q (.ref it) s->wpAny (model P w) A (pyIter (.ref it)) Q E s
@[inline]abbrev TI:=St->Hp->(It->Hp->Prop)->Prop
abbrev PIE (X:Cx) (pins:List (XW × Obj)) (σ:St) (tg:YL) (R:It->Hp->Prop) (itv:XI) (s2:XO):Prop:=
 ∃it fp tn J H',itv=.ref it/\Inv X pins σ H' s2/\Turn X.prog X.w X.K tg J fp it tn/\tn 0 s2.heap/\(∀b∈fp,qu X pins H' b)/\R J H'
abbrev PI (X:Cx) (tg iter:YL) (wi:TI):Prop:=
 ∀pins s (σ:St) H R , Inv X pins σ H s->wi σ H R →
  wpAny (model X.prog X.w) X.A (eval iter X.env) (fun v s1=>wpAny (model X.prog X.w) X.A (pyIter v) (PIE X pins σ tg R) X.xe s1) X.xe s
def EH (ho:s.heap.get? it=ξ o) (hc:o.cls=.type n) (hd:o.data=.fields vs)
  (hn:["enumerate", "zip", "dict_itemiterator", "dict_reverseitemiterator", "odict_iterator", "itertools.zip_longest", "itertools.pairwise"].contains n=ψ) (hQ:Q () s):wpAny M A (letOwnedTupleGo tg (.ref it) u) Q E s:=by
 unfold letOwnedTupleGo
 cases tg<;>first
  | exact XG hQ
  | (cases u<;>first
    | exact XG hQ
    | (refine td (wpAny_load ho ?_)
       rw[hc,hd]
       show wpAny M A (if (["enumerate", "zip", "dict_itemiterator", "dict_reverseitemiterator", "odict_iterator", "itertools.zip_longest", "itertools.pairwise"].contains n&&vs[0]? == ξ (rawInt _))=θ then _ else _) Q E s
       rw[if_neg (by simp_all)]
       exact XG hQ))
abbrev Itl (K:gV) (a:XW):It:=
 ⟨fun i H=>∃xs x,SqL K H a xs/\xs[i]?=ξ x,fun i H x H'=>H'=H/\∀xs,SqL K H a xs->xs[i]?=ξ x,fun i H=>∃xs,SqL K H a xs/\xs.length<=i⟩
abbrev Itt (K:gV) (a:XW):It:=
 ⟨fun i H=>∃xs x,SqT K H a xs/\xs[i]?=ξ x,fun i H x H'=>H'=H/\∀xs,SqT K H a xs->xs[i]?=ξ x,fun i H=>∃xs,SqT K H a xs/\xs.length<=i⟩
abbrev Itr (lo:Int) (n:Nat):It:=⟨fun i _=>i<n,fun i H x H'=>H'=H/\x=.int (lo+i),fun i _=>n<=i⟩
def GZ {K:gV} (a it):Turn P w K tg (Itl K a) [it] it (fun i h=>h.IsListIter it a i) where
 mem:={..}
 obj:=fun i h st b hb=>by
  have e:b=it:=by simp_all
  subst e
  obtain⟨o,e,c,d⟩:=st
  simp_all
 keep:=fun i h h' st k=>st.at fun o e=>k it {..} o e
 item:=by
  intro X hP hw hK hc i pins s σ H E I hf st hg
  subst hP hw hK
  obtain⟨xs,x,hq,hx⟩:=hg
  obtain⟨its,rv,p,hz⟩:=I.list hq
  obtain⟨u,hu,ru⟩:=rv.get hx
  obtain⟨f0,f1,f2,f3,f4,f5⟩:=hf it {..}
  refine wpAny_pyNext_list_item st p.isList (x:=u) (by simp_all) fun h' st' sb=>?_
  have I1:Inv X pins σ H { s with heap:=h' }:=I.turned (t':=s.toks) (fun b o hb e=>(sb.2 b hb).trans e) f0 f1 f3 f4 f5
  obtain⟨o,e,c,d⟩:=id st'
  exact⟨u,rfl,EH (s:={ s with heap:=h' }) e c d (by decide) ⟨x,H,I1,ru,⟨rfl,fun ys hy=>by rw[I.sT hy hq];exact hx⟩,st',fun b hb=>(hf b hb).1⟩⟩
 done:=by
  intro X hP hw hK hc i pins s σ H E I hf st hg
  subst hP hw hK
  obtain⟨xs,hq,hx⟩:=hg
  obtain⟨its,rv,p,hz⟩:=I.list hq
  obtain⟨f0,f1,f2,f3,f4,f5⟩:=hf it {..}
  have hl:=rv.length
  exact wpAny_pyNext_list_end (I.ok.hd hc) st p.isList (by grind) fun h' eb=>⟨rfl,I.turned (t':=s.toks) (fun b o hb e=>eb b o hb e) f0 f1 f3 f4 f5⟩
 self:=fun _ _ _ _ _ st h=>wpAny_pyIter_listiter st h
def CZ {K:gV} (a it):Turn P w K tg (Itt K a) [it] it (fun i h=>h.IsTupleIter it a i) where
 mem:={..}
 obj:=fun i h st b hb=>by
  have e:b=it:=by simp_all
  subst e
  obtain⟨o,e,c,d⟩:=st
  simp_all
 keep:=fun i h h' st k=>st.at fun o e=>k it {..} o e
 item:=by
  intro X hP hw hK hc i pins s σ H E I hf st hg
  subst hP hw hK
  obtain⟨xs,x,hq,hx⟩:=hg
  obtain⟨its,rv,p,hz⟩:=I.tuple hq
  obtain⟨u,hu,ru⟩:=rv.get hx
  obtain⟨f0,f1,f2,f3,f4,f5⟩:=hf it {..}
  refine wpAny_pyNext_tuple_item st (show s.heap.IsTuple a its.toArray from p) (x:=u) (by simp_all) fun h' st' sb=>?_
  have I1:Inv X pins σ H { s with heap:=h' }:=I.turned (t':=s.toks) (fun b o hb e=>(sb.2 b hb).trans e) f0 f1 f3 f4 f5
  obtain⟨o,e,c,d⟩:=id st'
  exact⟨u,rfl,EH (s:={ s with heap:=h' }) e c d (by decide) ⟨x,H,I1,ru,⟨rfl,fun ys hy=>by rw[I.pE hy hq];exact hx⟩,st',fun b hb=>(hf b hb).1⟩⟩
 done:=by
  intro X hP hw hK hc i pins s σ H E I hf st hg
  subst hP hw hK
  obtain⟨xs,hq,hx⟩:=hg
  obtain⟨its,rv,p,hz⟩:=I.tuple hq
  obtain⟨f0,f1,f2,f3,f4,f5⟩:=hf it {..}
  have hl:=rv.length
  exact wpAny_pyNext_tuple_end (I.ok.hd hc) st (show s.heap.IsTuple a its.toArray from p) (by grind) fun h' eb=>⟨rfl,I.turned (t':=s.toks) (fun b o hb e=>eb b o hb e) f0 f1 f3 f4 f5⟩
 self:=fun _ _ _ _ _ st h=>wpAny_pyIter_tupleiter st h
def Dx {K:gV} (it) (lo) (n):Turn P w K tg (Itr lo n) [it] it (fun i h=>acB h it (lo+(i:Nat)*1) ((n:Int) - (i:Nat)) 1) where
 mem:={..}
 obj:=fun i h st b hb=>by
  simp_all
 keep:=fun i h h' st k=>k it {..} _ st
 item:=by
  intro X hP hw hK hc i pins s σ H E I hf st hg
  subst hP hw hK
  obtain⟨f0,f1,f2,f3,f4,f5⟩:=hf it {..}
  have W:=Walks.range (prog:=X.prog) (w:=X.w) (I.ok.hd hc) it lo 1 n
  refine W.item i s _ _ hg st fun v h' tk hv st' kk=>?_
  obtain⟨t,rfl⟩:=hv
  have I1:Inv X pins σ H { s with heap:=h',toks:=tk }:=I.turned (fun b o hb e=>kk b o (by simp_all) e) f0 f1 f3 f4 f5
  refine⟨_,rfl,EH (s:={ s with heap:=h',toks:=tk }) (n:="range_iterator") st' rfl rfl (by decide) ⟨.int (lo+i),H,I1,⟨t,?_⟩,⟨rfl,rfl⟩,st',fun b hb=>(hf b hb).1⟩⟩
  simp
 done:=by
  intro X hP hw hK hc i pins s σ H E I hf st hg
  subst hP hw hK
  obtain⟨f0,f1,f2,f3,f4,f5⟩:=hf it {..}
  exact wpAny_pyNext_range_end (I.ok.hd hc) st (by have:n<=i:=hg;lia) fun h' eb=>⟨rfl,I.turned (t':=s.toks) (fun b o hb e=>eb b o hb e) f0 f1 f3 f4 f5⟩
 self:=fun _ _ _ _ _ st h=>wpAny_pyIter_rangeiter st h
section
variable {X:Cx}{tg:YL}
def BF {σ:St}{lo hi:Int} (I:Inv X pins σ H s) (h1:-(2 ^ 62)<=lo) (h2:lo<2 ^ 62) (h3:-(2 ^ 62)<=hi) (h4:hi<2 ^ 62)
  (q:R (Itr lo (hi - lo).toNat) H):wpAny (model X.prog X.w) X.A (pyIter (.ref s.heap.objs.size)) (PIE X pins σ tg R) E { s with heap:=s.heap.push { cls:=.type "range", data:=.fields #[.int lo t,.int hi u,.int 1 v] },toks:=tk }:=by
 refine wpAny_pyIter_range (adi.new ..) (small_one h1 h2 h3 h4) ?_
 have I1:Inv X pins σ H { s with heap:=s.heap.push { cls:=.type "range", data:=.fields #[.int lo t,.int hi u,.int 1 v] },toks:=tk }:=I.kept fun b o e=>XB _ e
 refine⟨(s.heap.push { cls:=.type "range", data:=.fields #[.int lo t,.int hi u,.int 1 v] }).objs.size,[(s.heap.push { cls:=.type "range", data:=.fields #[.int lo t,.int hi u,.int 1 v] }).objs.size],_,_,H,rfl,
  I1.kept (t':=tk) fun b o e=>XB _ e,Dx _ lo (hi - lo).toNat,?_,fun b hb=>?_,q⟩
 ·have e1:lo+((0:Nat):Int)*1=lo:={..}
  have e2:(((hi - lo).toNat:Nat):Int) - ((0:Nat):Int)=Y7 lo hi 1:=by rw[rangeSize_one];lia
  show acB _ _ (lo+((0:Nat):Int)*1) ((((hi - lo).toNat:Nat):Int) - ((0:Nat):Int)) 1
  rw[e1,e2]
  exact XN _ rfl
 ·have e:b=(s.heap.push { cls:=.type "range", data:=.fields #[.int lo t,.int hi u,.int 1 v] }).objs.size:=by simp_all
  subst e
  exact I1.HX (XJ _) (I1.hok.fresh (XJ _))
abbrev T7 (ta:TA):TI:=fun σ H R=>ta σ H fun vs H1=>∃j:Int,vs=[.int j]/\-(2 ^ 62)<=j/\j<2 ^ 62/\R (Itr 0 j.toNat) H1
abbrev Uj (ta:TA):TI:=fun σ H R=>ta σ H fun vs H1=>∃i j:Int,vs=[.int i,.int j]/\(-(2 ^ 62)<=i/\i<2 ^ 62/\-(2 ^ 62)<=j/\j<2 ^ 62)/\R (Itr i (j - i).toNat) H1
def F0 {a:YL}{ta:TA}{p pos:Pos} (hg:Gl X "range") (hm:X.mg "range" = ζ) (ha:PA X [a] ta) (hs:starEach [a] X.env=[(ψ,eval a X.env)]:=by rfl):PI X tg (.Call (.Name "range" p) [a] [] pos) (T7 ta):=by
 intro pins s σ H R I h
 refine Call_ (kY I hg hm Z2 (Y8 (thn (ha pos pins s σ H _ I h) fun us s1 ⟨vs,H1,I1,r1,q1⟩=>?_) hs rfl))
 obtain⟨j,e,q1,q2,q⟩:=q1
 subst e
 cases r1 with
 | cons r rr=>
  cases rr
  obtain⟨t,rfl⟩:=r
  exact call_range_1 (BF I1 {} {} q1 q2 (by simp_all))
def FL {a b:YL}{ta:TA}{p pos:Pos} (hg:Gl X "range") (hm:X.mg "range" = ζ) (ha:PA X [a,b] ta) (hs:starEach [a,b] X.env=[(ψ,eval a X.env),(ψ,eval b X.env)]:=by rfl) (hs2:starEach [b] X.env=[(ψ,eval b X.env)]:=by rfl) :
  PI X tg (.Call (.Name "range" p) [a,b] [] pos) (Uj ta):=by
 intro pins s σ H R I h
 refine Call_ (kY I hg hm Z2 (Y8 (thn (ha pos pins s σ H _ I h) fun us s1 ⟨vs,H1,I1,r1,q1⟩=>?_) (by rw[hs,hs2]) (by rw[hs2];rfl)))
 obtain⟨i,j,e,⟨q1,q2,q3,q4⟩,q⟩:=q1
 subst e
 cases r1 with
 | cons r rr=>
  cases rr with
  | cons r' rr=>
   cases rr
   obtain⟨t,rfl⟩:=r
   obtain⟨t',rfl⟩:=r'
   exact call_range_2 (BF I1 q1 q2 q3 q4 q)
abbrev V0 (wi:TI) (g:TG) (tb:TS):TS:=fun D σ H=>wi σ H fun J H1=>∃W:Nat->Nat->St->Hp->Prop,(∃m,W 0 m σ H1)/\∀i m σ H,W i m σ H →
 (J.stop i H/\D.nx σ H)\/(J.go i H/\∃N:St->Hp->Prop,(∀σ' H',N σ' H'->∃m',m'<m/\W (i+1) m' σ' H')/\∀x H',J.yld i H x H'->g x σ H' fun σ2 H2=>tb { D with nx:=N,ct:=N,bk:=D.nx } σ2 H2)
abbrev pe (fp:List XW) (h:Y2):List (XW × Obj):=fp.filterMap fun b=>(h.get? b).map fun o=>(b,o)
def gy (hb:b∈fp) (e:h.get? b=ξ o):(b,o)∈pe fp h:=aaQ.mpr ⟨b,hb,by grind⟩
def G2 (hp:p∈pe fp h):p.1∈fp/\h.get? p.1=ξ p.2:=by
 obtain⟨b,hb,e⟩:=aaQ.mp hp
 cases q:h.get? b with
 | none=>simp_all
 | some o=>
  grind
def Inv.pinned {σ:St} (I:Inv X pins σ H s) (hf:∀b∈fp,qu X pins H b) (ho:∀b∈fp,∃o,s.heap.get? b=ξ o/\∀v,o.data≠.cell v):Inv X (pins++pe fp s.heap) σ H s:=
 I.qY fun p hp=>(YV.mp hp).elim (fun z=>I.pin p (XQ _ z)) fun z=>by
  obtain⟨hb,e⟩:=G2 z
  obtain⟨f0,f1,f2,_⟩:=hf p.1 hb
  grind
def Inv.k4 {σ:St} (I:Inv X (pins++pl) σ H s):Inv X pins σ H s:=I.qY fun p hp=>I.pin p (XQ _ (Zw _ hp))
def Rf {iter:YL}{body:List aaN}{wi:TI}{g:TG}{tb:TS}{pos:Pos} (hp:abf (model X.prog X.w) X.A X.env X.xe) (hc:X.calm=θ) (hi:PI X tg iter wi) (hg:PG X tg g) (hb:PSs X body tb)
  (hs:∀x,foldedSetIterable iter X.env x=pure x:=by intro _;rfl):PS X (.For tg iter body [] pos) (V0 wi g tb):=by
 intro pins s σ H D I h
 refine wpAny_For (thn (hi pins s σ H _ I h) fun v s1 h1=>thn h1 fun itv s2 h2=>?_) hs
 obtain⟨it,fp,tn,J,H2,e,I2,T,st2,f2,W,⟨m0,w0⟩,turn⟩:=h2
 subst e
 -- what stays θ of the iterator's objects through the loop
 have stat:∀{H':Hp},(∀b∈fp,H' b=ζ)->∀b∈fp,qu X pins H' b:=fun hn b hb=>⟨hn b hb,(f2 b hb).2⟩
 refine codeAny_forLoop_any (fun n s'=>∃i σ' H',Inv X pins σ' H' s'/\tn i s'.heap/\(∀b∈fp,H' b=ζ)/\W i n σ' H') ?_ m0 ⟨0,σ,H2,I2,st2,fun b hb=>(f2 b hb).1,w0⟩
 rintro n s3 ⟨i,σ3,H3,I3,st3,fr3,w3⟩
 rcases turn i n σ3 H3 w3 with⟨stop,qn⟩ | ⟨go,N,hN,step⟩
 ·refine ZV hp (thn (T.done X rfl rfl rfl hc i pins s3 σ3 H3 X.xe I3 (stat fr3) st3 stop) fun r s4 zq1=>?_)
  obtain⟨hr,I4⟩:=zq1
  subst hr
  exact aai ⟨σ3,H3,I4,qn⟩
 ·refine ZV hp (thn (T.item X rfl rfl rfl hc i pins s3 σ3 H3 X.xe I3 (stat fr3) st3 go) fun r s4 zq1=>?_)
  obtain⟨u,hr,h4⟩:=zq1
  subst hr
  refine ZV hp (thn h4 fun _ s5 zq1=>?_)
  obtain⟨x,H5,I5,r5,y5,st5,fr5⟩:=zq1
  have I5':=I5.pinned (stat fr5) (T.obj _ _ st5)
  refine ZV hp (thn (hg _ s5 σ3 H5 x u _ I5' r5 (step x H5 y5)) fun _ s6 zq1=>?_)
  obtain⟨σ6,H6,I6,q6⟩:=zq1
  refine ZV hp (thn (hb _ s6 σ6 H6 _ I6 q6) fun f s7 q7=>?_)
  have again:∀{σ7:St} {H7:Hp},Inv X (pins++pe fp s5.heap) σ7 H7 s7->N σ7 H7->∃m,m<n/\∃i σ' H',Inv X pins σ' H' s7/\tn i s7.heap/\(∀b∈fp,H' b=ζ)/\W i m σ' H':=fun{σ7 H7} I7 n7=>by
   obtain⟨m',hm,w7⟩:=hN σ7 H7 n7
   refine⟨m',hm,i+1,σ7,H7,I7.k4,T.keep _ _ _ st5 fun b hb o e=>(I7.pin (b,o) (XQ _ (XQ _ (gy hb e)))).1,fun b hb=>?_,w7⟩
   obtain⟨o,e,d⟩:=T.obj _ _ st5 b hb
   exact(I7.pin (b,o) (XQ _ (XQ _ (gy hb e)))).2.1
  cases f with
  | next=>obtain⟨σ7,H7,I7,n7⟩:=q7;exact again I7 n7
  | cont=>obtain⟨σ7,H7,I7,n7⟩:=q7;exact again I7 n7
  | brk=>obtain⟨σ7,H7,I7,q7⟩:=q7;exact⟨σ7,H7,I7.k4,q7⟩
  | ret v=>obtain⟨x7,σ7,H7,I7,r7,q7⟩:=q7;exact⟨x7,σ7,H7,I7.k4,r7,q7⟩
end
@[inline]abbrev R2:=V->V->Hp->VK->Prop
abbrev OpR (X:Cx) (f:XI->XI->Sem XI) (r:R2):Prop:=
 ∀pins s (σ:St) H x y v u Q , Inv X pins σ H s->RelV x v->RelV y u->r x y H Q →
  wpAny (model X.prog X.w) X.A (f v u) (EP X pins σ Q) X.xe s
abbrev UnR (X:Cx) (f:XI->Sem XI) (r:V->Hp->VK->Prop):Prop:=
 ∀pins s (σ:St) H x v Q , Inv X pins σ H s->RelV x v->r x H Q →
  wpAny (model X.prog X.w) X.A (f v) (EP X pins σ Q) X.xe s
abbrev bU (X:Cx) (f:XI) (r:List V->Hp->VK->Prop):Prop:=
 ∀pins s (σ:St) H xs us Q , Inv X pins σ H s->Vals xs us->r xs H Q →
  wpAny (model X.prog X.w) X.A (call f us) (EP X pins σ Q) X.xe s
abbrev Wk (X:Cx) (r:V->Hp->(Bool->Hp->Prop)->Prop):Prop:=
 ∀pins s (σ:St) H x v Q , Inv X pins σ H s->RelV x v->r x H Q →
  wpAny (model X.prog X.w) X.A (truthy v) (TP X pins σ Q) X.xe s
abbrev tOp (r:R2) (ta tb:TE):TE:=fun σ H Q=>ta σ H fun x H1=>tb σ H1 fun y H2=>r x y H2 Q
abbrev tUn (r:V->Hp->VK->Prop) (ta:TE):TE:=fun σ H Q=>ta σ H fun x H1=>r x H1 Q
abbrev rI (C:Int->Int->Prop) (g:Int->Int->V):R2:=fun x y H Q=>∃i j,x=.int i/\y=.int j/\C i j/\Q (g i j) H
abbrev rI0 (g:Int->Int->V):R2:=fun x y H Q=>∃i j,x=.int i/\y=.int j/\Q (g i j) H
abbrev rU (g:Int->V):V->Hp->VK->Prop:=fun x H Q=>∃i,x=.int i/\Q (g i) H
section
variable {X:Cx}{a b c:YL}{ta tb tc:TE}{pos:Pos}
def O_ (ha:PE X a ta) (hb:PE X b tb){σ:St}{R:V->V->Hp->Prop} (I:Inv X pins σ H s)
  (h:ta σ H fun x H1=>tb σ H1 fun y H2=>R x y H2) {f:XI->XI->Sem XI}
  (hf:∀v u s2 x y H2,Inv X pins σ H2 s2->RelV x v->RelV y u->R x y H2->wpAny (model X.prog X.w) X.A (f v u) Q X.xe s2) :
  wpAny (model X.prog X.w) X.A (eval a X.env) (fun v s₁=>wpAny (model X.prog X.w) X.A (eval b X.env) (fun u s₂=>wpAny (model X.prog X.w) X.A (f v u) Q X.xe s₂) X.xe s₁) X.xe s:=by
 refine thn (ha pins s σ H _ I h) fun v s1 zq1=>?_
 obtain⟨x,H1,I1,r1,q1⟩:=zq1
 refine thn (hb pins s1 σ H1 _ I1 q1) fun u s2 zq1=>?_
 obtain⟨y,H2,I2,r2,q2⟩:=zq1
 grind
def Uk (ho:OpR X (binaryOp op) r) (ha:PE X a ta) (hb:PE X b tb):PE X (.BinOp a op b pos) (tOp r ta tb):=by
 intro pins s σ H Q I h
 exact wpAny_BinOp (O_ ha hb I h fun v u s2 x y H2 I2 rx ry q=>ho pins s2 σ H2 x y v u Q I2 rx ry q)
def OT {op:UnaryOp}{r:V->Hp->VK->Prop} (ho:UnR X (unaryOp op) r) (ha:PE X a ta):PE X (.UnaryOp op a pos) (tUn r ta):=by
 intro pins s σ H Q I h
 exact UnaryOp_ (thn (ha pins s σ H _ I h) fun v s1 ⟨x,H1,I1,r1,q1⟩=>ho pins s1 σ H1 x v Q I1 r1 q1)
def opI {g:Int->Int->Int}
  (rule:∀i j t u s Q E , C i j->Q (.int (g i j) s.toks) { s with toks:=s.toks+1 }->wpAny (model X.prog X.w) X.A (f (.int i t) (.int j u)) Q E s) :
  OpR X f (rI C fun i j=>.int (g i j)):=by
 intro pins s σ H x y v u Q I rx ry h
 obtain⟨i,j,rfl,rfl,hc,q⟩:=h
 obtain⟨t,rfl⟩:=rx
 obtain⟨t',rfl⟩:=ry
 exact rule i j t t' s _ _ hc ⟨.int (g i j),H,I.tok _,⟨_,rfl⟩,q⟩
def Tb {g:Int->Int->Int}
  (rule:∀i j t u s Q E , Q (.int (g i j) s.toks) { s with toks:=s.toks+1 }->wpAny (model X.prog X.w) X.A (f (.int i t) (.int j u)) Q E s) :
  OpR X f (rI0 fun i j=>.int (g i j)):=by
 intro pins s σ H x y v u Q I rx ry h
 obtain⟨i,j,rfl,rfl,q⟩:=h
 obtain⟨t,rfl⟩:=rx
 obtain⟨t',rfl⟩:=ry
 exact rule i j t t' s _ _ ⟨.int (g i j),H,I.tok _,⟨_,rfl⟩,q⟩
def Mw {g:Int->Int->Bool}
  (rule:∀i j t u s Q E , Q (.bool (g i j)) s->wpAny (model X.prog X.w) X.A (f (.int i t) (.int j u)) Q E s) :
  OpR X f (rI0 fun i j=>.bl (g i j)):=by
 intro pins s σ H x y v u Q I rx ry h
 obtain⟨i,j,rfl,rfl,q⟩:=h
 obtain⟨t,rfl⟩:=rx
 obtain⟨t',rfl⟩:=ry
 exact rule i j t t' s _ _ ⟨.bl (g i j),H,I,rfl,q⟩
def QC:OpR X (binaryOp .Add) (rI0 fun i j=>.int (i+j)):=Tb fun _ _ _ _ _ _ _ q=>add_int q
def Ra:OpR X (binaryOp .Sub) (rI0 fun i j=>.int (i - j)):=Tb fun _ _ _ _ _ _ _ q=>sub_int q
def Qu:OpR X (binaryOp .Mod) (rI (fun _ j=>0<j) fun i j=>.int (i % j)):=opI fun i j _ _ _ _ _ hc q=>by
 have h1:(0:Int)<j:=hc
 exact mod_int' {} (by grind)
def unI {g:Int->Int}
  (rule:∀i t s Q E , Q (.int (g i) s.toks) { s with toks:=s.toks+1 }->wpAny (model X.prog X.w) X.A (f (.int i t)) Q E s) :
  UnR X f (rU fun i=>.int (g i)):=by
 intro pins s σ H x v Q I rx h
 obtain⟨i,rfl,q⟩:=h
 obtain⟨t,rfl⟩:=rx
 exact rule i t s _ _ ⟨.int (g i),H,I.tok _,⟨_,rfl⟩,q⟩
def ku:UnR X (unaryOp .USub) (rU fun i=>.int (-i)):=unI fun _ _ _ _ _ q=>neg_int q
end
section
variable {X:Cx}{a b c:YL}{ta tb tc:TE}{pos:Pos}
def OI:OpR X (compareOp .Lt) (rI0 fun i j=>.bl (decide (i<j))):=Mw fun _ _ _ _ _ _ _ q=>lt_int q
def xl:OpR X (compareOp .LtE) (rI0 fun i j=>.bl (decide (i<=j))):=Mw fun _ _ _ _ _ _ _ q=>le_int q
def R0:OpR X (compareOp .Gt) (rI0 fun i j=>.bl (decide (j<i))):=Mw fun _ _ _ _ _ _ _ q=>gt_int q
def TB:OpR X (compareOp .GtE) (rI0 fun i j=>.bl (decide (j<=i))):=Mw fun _ _ _ _ _ _ _ q=>ge_int q
def j7 (b) (h:op≠.In:=by decide) (h2:op≠.NotIn:=by decide):behindInMarks op b=false:=by
 have e1:(op == CmpOp.In)=false:=by simp_all
 have e2:(op == CmpOp.NotIn)=false:=by simp_all
 cases b<;>simp[behindInMarks,e1,e2]
def MM (ho:OpR X (compareOp op) r) (ha:PE X a ta) (hb:PE X b tb) (hm:behindInMarks op b=ψ):PE X (.Compare a [op] [b] pos) (tOp r ta tb):=by
 intro pins s σ H Q I h
 exact wpAny_Compare1 (O_ ha hb I h fun v u s2 x y H2 I2 rx ry q=>ho pins s2 σ H2 x y v u Q I2 rx ry q) hm
abbrev KZ (t:TE):TT:=fun σ H Q=>t σ H fun x H'=>∃k,x=.bl k/\Q k H'
def Mz {op:CmpOp}{r:R2} (ho:OpR X (compareOp op) r) (ha:PE X a ta) (hb:PE X b tb) (hm:behindInMarks op b=ψ):PT X (.Compare a [op] [b] pos) (KZ (tOp r ta tb)):=by
 intro pins s σ H Q I h
 refine wpAny_isTrue_Compare1 (thn (ha pins s σ H _ I h) fun v s1 ⟨x,H1,I1,r1,q1⟩=>thn (hb pins s1 σ H1 _ I1 q1) fun u s2 ⟨y,H2,I2,r2,q2⟩=>
  thn (ho pins s2 σ H2 x y v u _ I2 r1 r2 q2) fun c s3 ⟨z,H3,I3,r3,k,e,q3⟩=>?_) hm
 subst e
 cases r3
 exact YR ⟨H3,I3,q3⟩
abbrev Dd (r r':R2) (ta tb tc:TE):TE:=fun σ H Q=>ta σ H fun x H1=>tb σ H1 fun y H2=>r x y H2 fun z H3=>∃k,z=.bl k ∧
 (if k=θ then tc σ H3 fun w' H4=>r' y w' H4 Q else Q (.bl ψ) H3)
def IS {op op':CmpOp}{r r':R2} (ho:OpR X (compareOp op) r) (ho':OpR X (compareOp op') r') (ha:PE X a ta) (hb:PE X b tb) (hc:PE X c tc)
  (hm:lastMarks [op,op'] [b,c]=false:=by with_unfolding_all rfl):PE X (.Compare a [op,op'] [b,c] pos) (Dd r r' ta tb tc):=by
 intro pins s σ H Q I h
 refine Compare_chain (thn (ha pins s σ H _ I h) fun v s1 ⟨x,H1,I1,r1,q1⟩=>chain_link (thn (hb pins s1 σ H1 _ I1 q1) fun u s2 ⟨y,H2,I2,r2,q2⟩=>
  thn (ho pins s2 σ H2 x y v u _ I2 r1 r2 q2) fun d s3 ⟨z,H3,I3,r3,k,e,q3⟩=>?_)) hm
 subst e
 cases r3
 refine YR ?_
 cases k with
 | false=>exact ite_ff ⟨.bl ψ,H3,I3,rfl,q3⟩
 | true=>exact ite_tt (chain_last (thn (hc pins s3 σ H3 _ I3 q3) fun w' s4 ⟨z',H4,I4,r4,q4⟩=>ho' pins s4 σ H4 y z' u w' Q I4 r2 r4 q4))
def KW {op op':CmpOp}{r r':R2} (ho:OpR X (compareOp op) r) (ho':OpR X (compareOp op') r') (ha:PE X a ta) (hb:PE X b tb) (hc:PE X c tc)
  (hm:lastMarks [op,op'] [b,c]=false:=by with_unfolding_all rfl):PT X (.Compare a [op,op'] [b,c] pos) (KZ (Dd r r' ta tb tc)):=by
 intro pins s σ H Q I h
 refine isTrue_chain (thn (ha pins s σ H _ I h) fun v s1 ⟨x,H1,I1,r1,q1⟩=>test_link (thn (hb pins s1 σ H1 _ I1 q1) fun u s2 ⟨y,H2,I2,r2,q2⟩=>
  thn (ho pins s2 σ H2 x y v u _ I2 r1 r2 q2) fun d s3 ⟨z,H3,I3,r3,k,e,q3⟩=>?_)) hm
 subst e
 cases r3
 refine YR ?_
 cases k with
 | false=>
  obtain⟨k',e',q'⟩:=q3
  cases e'
  exact ite_ff ⟨H3,I3,q'⟩
 | true=>
  refine ite_tt (test_last (thn (hc pins s3 σ H3 _ I3 q3) fun w' s4 ⟨z',H4,I4,r4,q4⟩=>thn (ho' pins s4 σ H4 y z' u w' _ I4 r2 r4 q4) fun d' s5 zq1=>?_))
  obtain⟨z2,H5,I5,r5,k2,e2,q5⟩:=zq1
  subst e2
  cases r5
  exact YR ⟨H5,I5,q5⟩
abbrev Ny (K:gV) (x:V) (H:Hp) (k:Bool):Prop:=
 match x with
 | .non=>k=ψ
 | .bl b=>k=b
 | .int i=>k=(i != 0)
 | .str y=>y.length<=sizeLine/\k=((y.length:Int) != 0)
 | .byt y=>y.size<=sizeLine/\k=((y.size:Int) != 0)
 | .ref p=>(∃xs,SqL K H p xs/\k = !xs.isEmpty)\/(∃xs,SqT K H p xs/\k = !xs.isEmpty)\/∃kvs,H p=ξ (.dK kvs)/\k = !kvs.isEmpty
 | _=>False
def Dh (r:KV kvs vs):(!vs.isEmpty) = !kvs.isEmpty:=by
 cases r<;>rfl
def ux (r:Vals xs its):(!its.toArray.isEmpty) = !xs.isEmpty:=by
 cases r<;>simp
def lg:(sizeLine:Nat)<2 ^ 63:=by rw[YI];decide
def Q6:Wk X (fun x H Q=>∃k,Ny X.K x H k/\Q k H):=by
 intro pins s σ H x v Q I rx h
 obtain⟨k,e,q⟩:=h
 have hl:=lg
 have hs:sizeLine=16777216:=YI
 cases x with
 | non=>
  cases rx
  have e':k=false:=e
  subst e'
  exact truthy_none ⟨H,I,q⟩
 | bl b=>
  cases rx
  have e':k=b:=e
  subst e'
  exact YR ⟨H,I,q⟩
 | int i=>
  obtain⟨t,rfl⟩:=rx
  have e':k=(i != 0):=e
  subst e'
  exact PySem.P.truthy_int ⟨H,I,q⟩
 | str y=>
  obtain⟨t,rfl⟩:=rx
  obtain⟨hy,e'⟩:y.length<=sizeLine/\k=((y.length:Int) != 0):=e
  subst e'
  exact PySem.P.truthy_str {} ⟨H,I.tok _,q⟩
 | byt y=>
  obtain⟨t,rfl⟩:=rx
  obtain⟨hy,e'⟩:y.size<=sizeLine/\k=((y.size:Int) != 0):=e
  subst e'
  exact PySem.W.truthy_bytes {} ⟨H,I.tok _,q⟩
 | ref p=>
  cases rx
  have e':(∃xs,SqL X.K H p xs/\k = !xs.isEmpty)\/(∃xs,SqT X.K H p xs/\k = !xs.isEmpty)\/∃kvs,H p=ξ (.dK kvs)/\k = !kvs.isEmpty:=e
  rcases e' with⟨xs,hx,e'⟩ | ⟨xs,hx,e'⟩ | ⟨kvs,hx,e'⟩
  ·subst e'
   obtain⟨its,r,pl,hz⟩:=I.list hx
   have hlen:=r.length
   exact wpAny_truthy_list pl.isList (by grind) ⟨H,I.tok _,by rw[ux r];exact q⟩
  ·subst e'
   obtain⟨its,r,pl,hz⟩:=I.tuple hx
   have hlen:=r.length
   exact truthy_tuple pl (by grind) ⟨H,I.tok _,by rw[ux r];exact q⟩
  ·subst e'
   obtain⟨hz,hS,vs,r,m⟩:kvs.length<=sizeLine/\(p == sysModules)=ψ/\∃vs,KV kvs vs/\s.heap.DictOf (zu X.prog X.w) p vs:=I.hok p _ hx
   have hlen:kvs.length=vs.length:=Paired.length r
   exact wpAny_truthy_dict hS m {} ⟨H,I.tok _,by rw[Dh r];exact q⟩
 | _=>exact(show False from e).elim
def I_ (ha:PE X a ta) (he:∀whole,isTrue a X.env whole=(do let v ← whole;standAt a.pos;holding [v] (truthy v))) :
  PT X a (fun σ H Q=>ta σ H fun x H'=>∃k,Ny X.K x H' k/\Q k H'):=by
 intro pins s σ H Q I h
 exact isTrue_plain (thn (ha pins s σ H _ I h) fun v s1 ⟨x,H1,I1,r1,q1⟩=>Q6 pins s1 σ H1 x v Q I1 r1 q1) (he _)
def CK:OpR X (binaryOp .Add) (fun x y H Q=>∃i j,x=.str i/\y=.str j/\i.length+j.length<=sizeLine/\Q (.str (i++j)) H):=by
 intro pins s σ H x y v u Q I rx ry h
 obtain⟨i,j,rfl,rfl,hz,q⟩:=h
 obtain⟨t,rfl⟩:=rx
 obtain⟨t',rfl⟩:=ry
 exact add_str (fun t' tk=>⟨.str (i++j),H,I.tok _,⟨_,rfl⟩,q⟩) hz
def vals1 (r:Vals [x] us):∃u,us=[u]/\RelV x u:=by
 cases r with
 | cons r1 r2=>cases r2;simp_all
def vals2 (r:Vals [x,y] us):∃u w',us=[u,w']/\RelV x u/\RelV y w':=by
 cases r with
 | cons r1 r2=>
  cases r2 with
  | cons r3 r4=>cases r4;grind
def G5 (hc:X.calm=θ):bU X (.builtin "max") (fun xs H Q=>∃i j,xs=[.int i,.int j]/\Q (.int (if j > i then j else i)) H):=by
 intro pins s σ H xs us Q I r h
 obtain⟨i,j,rfl,q⟩:=h
 obtain⟨u,w',rfl,⟨t,rfl⟩,⟨t',rfl⟩⟩:=vals2 r
 refine max_two_ints (I.ok.hd hc) fun h' tk k=>⟨_,H,I.kept k,?_,q⟩
 by_cases hj:j > i
 ·rw[if_pos hj,if_pos hj];exact⟨_,rfl⟩
 ·rw[if_neg hj,if_neg hj];exact⟨_,rfl⟩
def xu:bU X (.type "int") (fun xs H Q=>(∃i,xs=[.int i]/\Q (.int i) H)\/∃k,xs=[.bl k]/\Q (.int (if k then 1 else 0)) H):=by
 intro pins s σ H xs us Q I r h
 rcases h with⟨i,rfl,q⟩ | ⟨k,rfl,q⟩
 ·obtain⟨u,rfl,t,rfl⟩:=vals1 r
  exact call_int_int ⟨.int i,H,I,⟨_,rfl⟩,q⟩
 ·obtain⟨u,rfl,r1⟩:=vals1 r
  cases r1
  exact call_int_bool ⟨.int (if k then 1 else 0),H,I.tok _,⟨_,rfl⟩,q⟩
end
structure Dr (h:Y2) (x dx C) (mA):Prop where
 obj:h.get? x=some (ZA C dx)
 ns:h.Ns1 dx mA
 ne:dx≠x
def F3 {h:Y2} (n:h.Ns1 dx mA):∃od,h.get? dx=ξ od/\∀name,abL name od=ξ (mA name):=by
 obtain⟨o,es,ep,ho,hd,hk,_,hm⟩:=n
 refine⟨o,ho,fun name=>?_⟩
 have e:=hm name
 unfold nsFind findBy at e
 rw[<- Array.find?_toList] at e
 unfold abL
 rw[hd]
 dsimp only
 split
 ·simp_all
 ·rename_i q
  rw[q] at e
  have a:es.toList.any (·.refKey)=false:=by
   rw[List.any_eq_false]
   intro y hy
   obtain⟨z,t,hkey⟩:=hk y (Array.mem_toList_iff.mp hy)
   simp[adm.refKey,hkey]
  simp_all
def Dr.look {h:Y2}{x dx C:XW}{mA:Str->Option XI} (I:Dr h x dx C mA):∃od,PySem.W.InstAt h x (ZA C dx) C (ξ od)/\∀name,abL name od=ξ (mA name):=
 let ⟨od,ho,hl⟩:=F3 I.ns
 ⟨od,⟨I.obj,rfl,rfl,ho⟩,hl⟩
section
variable {prog:X5}{w:Yw}{A:YK}{E:XI->XO->Prop}{s:XO}{K:gV}{x dx C f:XW}{mA:Str->Option XI}{name:Str}{v:XI}
def get_map (X:K.In s.heap) (I:Dr s.heap x dx C mA) (hg:aaA K C name=θ) (hh:aa6 K C=θ)
  (ha:YO K (.ref C) name=ξ ζ) (hv:mA name=ξ v) (hv':PySem.W.handedIn v=θ) (h:Q v { s with toks:=s.toks+1 }) :
  wpAny (model prog w) A (getAttr (.ref x) name expr) Q E s:=by
 obtain⟨od,J,hl⟩:=I.look
 exact PySem.W.get_value X J (abr hg).1 (PySem.W.findObj_own hh ha rfl (by grind)) hv' h
def Ka (X:K.In s.heap) (I:Dr s.heap x dx C mA) (hg:aaA K C name=θ)
  (hf:YO K (.ref C) name=ξ (ξ (.ref f))) (ht:acf K (.ref f)=θ) (hv:mA name=ζ) (h:Q (.ref f,[.ref x]) s) :
  wpAny (model prog w) A (getMethod (.ref x) name pl) Q E s:=by
 obtain⟨od,J,hl⟩:=I.look
 exact PySem.W.method_fn X J (abr hg).1 (abr hg).2 hf (beq_iff_eq.mp ht) (by show(abL name od).map (·.isSome)=ξ ψ;simp_all) h
def N0 (X:K.In s.heap) (I:Dr s.heap x dx C mA)
  (hs:YO K (.ref C) "__setattr__" = ξ (ξ (.builtin "object.__setattr__"))) (hp:abP K C=θ) (ht:acg K C name=ξ ζ) (hh:aa6 K C=θ)
  (hw:aaJ mA ns) (hsz:ns.length<=sizeLine)
  (h:∀h',Dr h' x dx C (fun y=>if y=name then ξ v else mA y)->Z0 dx s.heap h'->Q () { s with heap:=h',toks:=s.toks+2 }) :
  wpAny (model prog w) A (setAttr (.ref x) name v) Q E s:=by
 obtain⟨od,J,hl⟩:=I.look
 refine PySem.W.set_plain X J hs (PySem.W.osa_open (s:={ s with toks:=s.toks+1 }) (r:=ζ) X J hp ht fun b=>?_)
 obtain⟨cd,hc,hd'⟩:=PySem.W.any_some hh
 have hx:s.heap.get? x=ξ ⟨.ref C,ξ dx,.plain,#[]⟩:=I.obj
 refine td (XG (td (td (aay hx (td (ab1.here (s:={ s with toks:=s.toks+1 }) (PySem.W.looks_clsIn X hc) ?_))))))
 rw[hd']
 refine XG (a:=ξ dx) (td (XG (td ?_)))
 refine acV (s:={ s with toks:=s.toks+1 }) I.ns fun h' hn2 hs2=>?_
 obtain⟨oD,esD,epD,hoD,hdD,hcD⟩:=hn2.count (aan name v hw)
 refine td (ab5 hoD (by rw[hdD];exact ab6 (XR hcD (by simp_all))) ?_)
 exact XG (h _ ⟨(hs2.2 _ (aac I.ne)).trans I.obj,hn2,I.ne⟩ hs2)
def IL (X:K.In s.heap) (hm:abt K C=θ)
  (hi:YO K (.ref C) "__init__" = ξ (ξ (.ref f))) (hf:PySem.W.typeIn K (.ref f)=ξ (.type "function"))
  (h:codeAny (model prog w) (A.under (.builtin "type.__call__" ⟨.ref C::vs,kw⟩)) (.call (.ref f) ⟨.ref (s.heap.objs.size+1)::vs,kw⟩) (PySem.W.InitBack (s.heap.objs.size+1) R)
   { s with heap:=(s.heap.push YX).push (ZA C s.heap.objs.size) }) :
  codeAny (model prog w) A (.call (.ref C) ⟨vs,kw⟩) R s:=by
 obtain⟨hh,g,d,t,os⟩:=s
 exact PySem.W.make_core (PySem.W.makes_of X hm) (PySem.W.looks_findIn X hi) (fun self=>PySem.W.bind_fn X self hf) (.inl rfl) h
end
abbrev j3 (f:Str) (v:V):List (Str × V)->List (Str × V)
 | []=>[(f,v)]
 | (g,x)::r=>if g=f then (g,v)::r else (g,x)::j3 f v r
def p7 (f g:Str) (v:V):∀fs:List (Str × V),(j3 f v fs).lookup g=if g=f then ξ v else fs.lookup g
 | []=>by
  show ab2 g [(f,v)]=_
  grind
 | (k,x)::r=>by
  have ih:=p7 f g v r
  rw[show j3 f v ((k,x)::r)=(if k=f then (k,v)::r else (k,x)::j3 f v r) from rfl]
  grind
def oK (f:Str) (v:V):∀fs:List (Str × V),f∈(j3 f v fs).map (·.1)/\∀g,g∈fs.map (·.1)->g∈(j3 f v fs).map (·.1)
 | []=>⟨by simp[j3],fun g h=>by simp at h⟩
 | (k,x)::r=>by
  obtain⟨i1,i2⟩:=oK f v r
  rw[show j3 f v ((k,x)::r)=(if k=f then (k,v)::r else (k,x)::j3 f v r) from rfl]
  grind
def pO (f) (v):∀fs:List (Str × V),(j3 f v fs).length<=fs.length+1
 | []=>by simp[j3]
 | (k,x)::r=>by
  have ih:=pO f v r
  rw[show j3 f v ((k,x)::r)=(if k=f then (k,v)::r else (k,x)::j3 f v r) from rfl]
  grind
def rN.some_of (r:rN (ξ v) o):∃u,o=ξ u/\RelV v u:=by
 cases o with
 | none=>exact(show False from r).elim
 | some u=>exact⟨u,rfl,r⟩
def rN.none_of (r:rN ζ o):o=none:=by
 cases o with
 | none=>rfl
 | some u=>exact(show False from r).elim
def F_ (r:RelV v u):PySem.W.handedIn u=true:=by
 cases v with
 | non=>cases (show u=ZN from r);rfl
 | bl b=>cases (show u=abo b from r);rfl
 | int i=>obtain⟨t,e⟩:=(show ∃t,u=aah i t from r);cases e;rfl
 | str x=>obtain⟨t,e⟩:=(show ∃t,u=abd x t from r);cases e;rfl
 | byt b=>obtain⟨t,e⟩:=(show ∃t,u=XI.bytes b t from r);cases e;rfl
 | flt b=>obtain⟨t,e⟩:=(show ∃t,u=ac1 b t from r);cases e;rfl
 | ref a=>cases (show u=Yj a from r);rfl
 | ty n=>cases (show u=acs n from r);rfl
section
variable {P:X5}{w:Yw}{H H':Hp}{h h':Y2}{a C dx:XW}{fs fs':List (Str × V)}
def rf (hok:HOk P w H h) (e:H a=ξ (.ins C dx fs)):∃mA,Dr h a dx C mA/\(∀f,rN (fs.lookup f) (mA f))/\aaJ mA (fs.map (·.1))/\fs.length<=1000/\H dx=ξ (.own a):=by
 obtain⟨d,z,ne,ob,mA,n,r,q⟩:=(show cz P w H h a (.ins C dx fs) from hok a _ e)
 exact⟨mA,⟨ob,n,ne⟩,r,q,z,d⟩
end
structure Cls (K) (C):Prop where
 pg:aaA K C Str.empty=true
 hd:aa6 K C=true
 po:abP K C=true
 sa:YO K (.ref C) "__setattr__" = some (some (.builtin "object.__setattr__"))
def Cls.get {K:gV} (c:Cls K C) (f):aaA K C f=true:=c.pg
abbrev ki (K:gV) (C:XW) (f:Str):Prop:=YO K (.ref C) f=ξ ζ
def ki.Si {K:gV} (n:ki K C f):acg K C f=ξ none:=by
 unfold acg
 rw[show YO K (.ref C) f=ξ ζ from n]
 rfl
structure Meth (K) (C) (m) (f):Prop where
 at_:YO K (.ref C) m=some (some (.ref f))
 fn:acf K (.ref f)=true
 kp:X6 K (.ref f)=true
section
variable {X:Cx}{pins:List (XW × Obj)}{σ:St}{H:Hp}{s:XO}{a C dx:XW}{fs:List (Str × V)}{f:Str}{v:V}{A:YK}{E:XI->XO->Prop}
def CM (I:Inv X pins σ H s) (e:H a=ξ (.ins C dx fs)) (c:Cls X.K C) (n:ki X.K C f) (l:fs.lookup f=ξ v)
  (h:∀u s',Inv X pins σ H s'->RelV v u->Q u s'):wpAny (model X.prog X.w) A (getAttr (.ref a) f b) Q E s:=by
 obtain⟨mA,O,r,_,_,_⟩:=rf I.hok e
 obtain⟨u,hu,ru⟩:=rN.some_of (v:=v) (o:=mA f) (by grind)
 exact get_map I.kIn O (c.get f) c.hd n hu (F_ ru) (h u _ (I.tok _) ru)
def tX (I:Inv X pins σ H s) (e:H a=ξ (.ins C dx fs)) (c:Cls X.K C) (k:Meth X.K C m g) (l:fs.lookup m=ζ)
  (h:Q (.ref g,[.ref a]) s):wpAny (model X.prog X.w) A (getMethod (.ref a) m pl) Q E s:=by
 obtain⟨mA,O,r,_,_,_⟩:=rf I.hok e
 have hn:mA m=none:=rN.none_of (by grind)
 exact Ka I.kIn O (c.get m) k.at_ k.fn hn h
def Ds {y:V}{u:XI}{Q:Unit->XO->Prop} (I:Inv X pins σ H s) (e:H a=ξ (.ins C dx fs)) (c:Cls X.K C) (n:ki X.K C f) (hl:fs.length<1000) (ry:RelV y u)
  (h:∀s',Inv X pins σ (upd H a (.ins C dx (j3 f y fs))) s'->Q () s'):wpAny (model X.prog X.w) A (setAttr (.ref a) f u) Q E s:=by
 obtain⟨mA,O,r,wi,_,ho⟩:=rf I.hok e
 have hz:(fs.map (·.1)).length<=sizeLine:=by rw[XE,YI];lia
 refine N0 I.kIn O c.sa c.po n.Si c.hd wi hz fun h' O' sb=>h _ ?_
 have hd:∃o,h'.get? dx=ξ o:=let ⟨o,_,_,e',_⟩:=O'.ns;⟨o,e'⟩
 refine I.write (x:=a) (e:=dx) (by rw[e];exact Z9) (.inr ho) (fun b q hb z=>(sb.2 b hb).trans z) hd ?_
 refine⟨by rw[aD O.ne];exact ho,?_,O.ne,O'.obj,_,O'.ns,fun g=>?_,fun g hg=>?_⟩
 ·have:=pO f y fs;lia
 ·show rN ((j3 f y fs).lookup g) (if g=f then ξ u else mA g)
  rw[p7]
  by_cases q:g=f
  ·rw[if_pos q,if_pos q];exact ry
  simp_all
 ·by_cases q:g=f
  ·rw[q];exact(oK f y fs).1
  ·refine(oK f y fs).2 g (wi g fun z=>hg ?_)
   simp_all
def Inv.made (I:Inv X pins σ H s):Inv X pins σ (upd (upd H s.heap.objs.size (.own (s.heap.objs.size+1))) (s.heap.objs.size+1) (.ins C s.heap.objs.size []))
  { s with heap:=(s.heap.push YX).push (ZA C s.heap.objs.size) }:=by
 have e1:(s.heap.push YX).get? s.heap.objs.size=ξ YX:=XN s.heap rfl
 have e2:((s.heap.push YX).push (ZA C s.heap.objs.size)).get? (s.heap.objs.size+1)=ξ (ZA C s.heap.objs.size):=by
  have:=XN (s.heap.push YX) (o:=ZA C s.heap.objs.size) rfl
  simp_all
 have e3:(s.heap.push YX).Ns s.heap.objs.size (fun _=>ζ):=⟨YX,#[],_,e1,rfl,(fun e he=>absurd he {..}),fun _=>rfl⟩
 have I1:=I.laid (a:=s.heap.objs.size) (o:=.own (s.heap.objs.size+1)) (h':=s.heap.push YX) (t':=s.toks) (fun b u q=>XB _ q) (XJ _) ⟨_,e1⟩
 refine I1.laid (a:=s.heap.objs.size+1) (o:=.ins C s.heap.objs.size []) (t':=s.toks) (fun b u q=>XB _ q) (acW (aa_ _ _)) ?_
 have ne:s.heap.objs.size≠s.heap.objs.size+1:=XZ (YQ _)
 refine⟨by rw[aD ne,aR],aaF _,ne,e2,fun _=>ζ,(Y2.Ns1.of_empty e3).at fun o q=>XB _ q,fun _=>Z9,fun y hy=>absurd rfl hy⟩
def Eg (hb:attributeBase e f env (eval e env)=eval e env)
  (h:wpAny (model prog w) A (eval e env) (fun o s₁=>wpAny (model prog w) A (getAttr o f θ) Q E s₁) E s):wpAny (model prog w) A (eval (.Attribute e f pos) env) Q E s:=
 Attribute_any_ h (by rw[arm_eval_Attribute,hb])
end
abbrev Wm (K:gV) (ta:TE) (f:Str):TE:=fun σ H Q=>ta σ H fun x H1=>∃a C dx fs v,x=.ref a/\H1 a=ξ (.ins C dx fs)/\Cls K C/\ki K C f/\fs.lookup f=ξ v/\Q v H1
abbrev VM (K:gV) (ta tv:TE) (f:Str):TS:=fun D σ H=>tv σ H fun y H1=>ta σ H1 fun x H2=>∃a C dx fs,x=.ref a/\H2 a=ξ (.ins C dx fs)/\Cls K C/\ki K C f/\fs.length<1000 ∧
 D.nx σ (upd H2 a (.ins C dx (j3 f y fs)))
section
variable {X:Cx}{o e value:YL}{f:Str}{pos pos' tpos:Pos}{ta tv:TE}
def Q5 (he:PE X e ta) (hb:attributeBase e f X.env (eval e X.env)=eval e X.env):PE X (.Attribute e f pos) (Wm X.K ta f):=by
 intro pins s σ H Q I h
 refine Eg hb (thn (he pins s σ H _ I h) fun u s1 zq1=>?_)
 obtain⟨x,H1,I1,rx,a,C,dx,fs,v,ex,ea,c,n,l,q⟩:=zq1
 subst ex
 obtain rfl:u=Yj a:=rx
 exact CM I1 ea c n l fun u' s2 I2 ru=>⟨v,H1,I2,ru,q⟩
def Qh (ha:PE X o ta) (hv:PE X value tv) (hs:swapsWith value (ξ (.Attribute o f pos')) pos.line X.env=pure ψ):PS X (.Assign [.Attribute o f pos'] value pos) (VM X.K ta tv f):=by
 intro pins s σ H D I h
 refine ZW (thn (hv pins s σ H _ I h) fun u s1 ⟨y,H1,I1,ry,q⟩=>thn (ha pins s1 σ H1 _ I1 q) fun ov s2 ⟨x,H2,I2,rx,a,C,dx,fs,ex,ea,c,n,l,q2⟩=>?_) hs
 subst ex
 obtain rfl:ov=Yj a:=rx
 exact Ds I2 ea c n l ry fun s3 I3=>⟨σ,_,I3,q2⟩
end
section
variable {X:Cx}{pins:List (XW × Obj)}{σ:St}{H:Hp}{s:XO}{A:YK}{E:XI->XO->Prop}{Q:XI->XO->Prop}{c:XI}{b:Bool}
inductive mS (K) (H:Hp):V->XI->Prop where
 | non:mS K H .non (.type "NoneType")
 | bl (x):mS K H (.bl x) (.type "bool")
 | int (i):mS K H (.int i) (.type "int")
 | str (x):mS K H (.str x) (.type "str")
 | flt (x):mS K H (.flt x) (.type "float")
 | lst (e:H a=some (.lst xs)):mS K H (.ref a) (.type "list")
 | frz (e:H a=some (.frz o (.lst xs))):mS K H (.ref a) (.type "list")
 | tup (e:H a=some (.tup xs)):mS K H (.ref a) (.type "tuple")
 | kO (e:H a=some (.frz o (.dK kvs))):mS K H (.ref a) (.type "dict")
 | dK (e:H a=some (.dK kvs)):mS K H (.ref a) (.type "dict")
 | dT (e:H a=some (.dT kvs)):mS K H (.ref a) (.type "dict")
 | ins (e:H a=some (.ins C dx fs)) (cl:Cls K C) (ha:YO K (.ref C) "__class__" = some (some (.builtin "object.__class__")))
   (hn:PySem.W.specialIn K (.builtin "object.__class__") "__get__" = some (some (.builtin "getset_descriptor.__get__"))) (htk:PySem.W.takesIn K (.builtin "object.__class__")=some true)
   (hm:PySem.W.mroIn K C (.type "object")=some true):mS K H (.ref a) (.ref C)
def Gf {x:V}{u t:XI} (I:Inv X pins σ H s) (rx:RelV x u) (ty:mS X.K H x t) (e:Y3 X.K t c=ξ b) (h:∀tk,Q (.bool b) { s with toks:=tk }) :
  wpAny (model X.prog X.w) A (call (.builtin "isinstance") [u,c]) Q E s:=by
 cases ty with
 | non=>cases (show u=ZN from rx);exact YC PySem.W.kitx_none I.kIn Z9 e (fun z=>nomatch z) h
 | bl y=>cases (show u=abo y from rx);exact YC PySem.W.kitx_bool I.kIn Z9 e (fun z=>nomatch z) h
 | int i=>obtain⟨t,q⟩:=(show ∃t,u=aah i t from rx);cases q;exact YC PySem.W.kitx_int I.kIn Z9 e (fun z=>nomatch z) h
 | str y=>obtain⟨t,q⟩:=(show ∃t,u=abd y t from rx);cases q;exact YC PySem.W.kitx_str I.kIn Z9 e (fun z=>nomatch z) h
 | flt y=>obtain⟨t,q⟩:=(show ∃t,u=ac1 y t from rx);cases q;exact YC PySem.W.kitx_float I.kIn Z9 e (fun z=>nomatch z) h
 | @lst a xs ea=>
  cases (show u=Yj a from rx)
  obtain⟨_,_,n,_,h1⟩:=(show cz X.prog X.w H s.heap a (.lst xs) from I.hok a _ ea)
  exact YC PySem.W.kitx_list I.kIn ⟨_,h1,rfl⟩ e (fun z=>nomatch z) h
 | @frz a ob xs ea=>
  cases (show u=Yj a from rx)
  obtain⟨_,_,_,n,_,h1⟩:=(show cz X.prog X.w H s.heap a (.frz ob (.lst xs)) from I.hok a _ ea)
  exact YC PySem.W.kitx_list I.kIn ⟨_,h1,rfl⟩ e (fun z=>nomatch z) h
 | @tup a xs ea=>
  cases (show u=Yj a from rx)
  obtain⟨_,_,_,p⟩:=(show cz X.prog X.w H s.heap a (.tup xs) from I.hok a _ ea)
  obtain⟨o,h1,⟨h2,_⟩,_⟩:=p
  exact YC PySem.W.kitx_tuple I.kIn ⟨o,h1,h2⟩ e (fun z=>nomatch z) h
 | @kO a ob kvs ea=>
  cases (show u=Yj a from rx)
  obtain⟨_,_,_,vs,_,p⟩:=(show cz X.prog X.w H s.heap a (.frz ob (.dK kvs)) from I.hok a _ ea)
  obtain⟨o,es,ep,h1,h2,_⟩:=p
  exact YC abQ I.kIn ⟨o,h1,h2.1⟩ e (fun z=>nomatch z) h
 | @dK a kvs ea=>
  cases (show u=Yj a from rx)
  obtain⟨_,_,vs,_,p⟩:=(show cz X.prog X.w H s.heap a (.dK kvs) from I.hok a _ ea)
  obtain⟨o,es,ep,h1,h2,_⟩:=p
  exact YC abQ I.kIn ⟨o,h1,h2.1⟩ e (fun z=>nomatch z) h
 | @dT a kvs ea=>
  cases (show u=Yj a from rx)
  obtain⟨_,_,xs,_,o,es,ep,h1,h2,_⟩:=(show cz X.prog X.w H s.heap a (.dT kvs) from I.hok a _ ea)
  exact YC abQ I.kIn ⟨o,h1,h2.1⟩ e (fun z=>nomatch z) h
 | @ins a C dx fs ea cl ha hn htk hm=>
  cases (show u=Yj a from rx)
  obtain⟨mA,O,_⟩:=rf I.hok ea
  obtain⟨od,J,_⟩:=O.look
  exact YC (PySem.W.kitx_own (cl.get _) cl.hd ha hn htk hm) I.kIn J e (fun z=>nomatch z) h
end
structure b8 (k) (A:YK):Prop where
 hd:A.handled=none
 dp:A.depth+3*k+5<recursionLimit
 un:A.units+16*k+200<cLine
 gd:A.guards=some []
def b8.mono (r:b8 k A) (h:j<=k):b8 j A:=⟨r.hd,by have:=r.dp;lia,by have:=r.un;lia,r.gd⟩
def b8.deeper (r:b8 (k+1) A) (env):b8 k (A.deeper env):=
 ⟨r.hd,by have:=r.dp;show A.depth+1+3*k+5<_;lia,by have:=r.un;show A.units+3+16*k+200<_;lia,r.gd⟩
def DB {A:YK}:(A.under (.builtin "type.__call__" ⟨.ref C::us,kw⟩)).depth=A.depth+1:=by
 rfl
def Cn {A:YK}:(A.under (.builtin "type.__call__" ⟨.ref C::us,kw⟩)).units=A.units+1:=by
 rfl
def b8.make (r:b8 (k+1) A) (C) (us) (kw):b8 k (A.under (.builtin "type.__call__" ⟨.ref C::us,kw⟩)):=
 ⟨r.hd,by have:=r.dp;rw[DB];lia,by have:=r.un;rw[Cn];lia,by first | exact r.gd | (simpa [YK.under,Code.envs,Code.isFrame,Code.isGuard,guardIds] using r.gd)⟩
def b8.depth (r:b8 k A):A.depth<recursionLimit:=by have:=r.dp;lia
def b8.units (r:b8 k A):A.units+64<cLine:=by have:=r.un;lia
abbrev IY:TA:=fun _ H Q=>Q [] H
abbrev OE (ta:TE) (tr:TA):TA:=fun σ H Q=>ta σ H fun x H1=>tr σ H1 fun xs H2=>Q (x::xs) H2
section
variable {X:Cx}{e:YL}{es:List YL}{te:TE}{t:TA}{pos:Pos}
def j0:PA X [] IY:=fun _ _ _ _ H Q I h=>abR ⟨[],H,I,.nil,h⟩
def fw (ha:PE X e te) (hr:PA X es t) (hs:starEach (e::es) X.env=(ψ,eval e X.env)::starEach es X.env:=by rfl):PA X (e::es) (OE te t):=by
 intro pos pins s σ H Q I h
 rw[hs]
 show wpAny _ _ (spliced ((ψ,eval e X.env)::backTo pos (starEach es X.env))) _ _ s
 refine aae (thn (ha pins s σ H _ I h) fun u s1 zq1=>?_)
 obtain⟨x,H1,I1,r1,q1⟩:=zq1
 exact thn (hr pos pins s1 σ H1 _ I1 q1) fun us s2 ⟨xs,H2,I2,r2,q2⟩=>⟨x::xs,H2,I2,.cons r1 r2,q2⟩
abbrev UX (t:TA):TE:=fun σ H Q=>t σ H fun xs H1=>xs.length<=sizeLine/\∀p,H1 p=ζ->Q (.ref p) (upd H1 p (.tup xs))
abbrev V9 (t:TA):TE:=fun σ H Q=>t σ H fun xs H1=>xs.length<=sizeLine/\∀p,H1 p=ζ->Q (.ref p) (upd H1 p (.lst xs))
def Pn {x1} (h:PA X es t):PE X (.Tuple es x1 pos) (UX t):=by
 intro pins s σ H Q I hq
 refine wpAny_Tuple_spliced (thn (h pos pins s σ H _ I hq) fun us s1 ⟨xs,H1,I1,r,z,q⟩=>⟨by rw[<- r.length];exact z,?_⟩)
 have hf:H1 s1.heap.objs.size=none:=I1.hok.fresh (XJ _)
 refine⟨.ref s1.heap.objs.size,upd H1 s1.heap.objs.size (.tup xs),I1.laid (t':=s1.toks) (fun b u e=>XB _ e) (XJ _) ?_,rfl,q _ hf⟩
 exact⟨z,us,r,⟨_,XN _ rfl,⟨rfl,_,rfl⟩,rfl⟩⟩
def RD (h:PA X es t):PE X (.List es pos) (V9 t):=by
 intro pins s σ H Q I hq
 refine wpAny_List_spliced (thn (h pos pins s σ H _ I hq) fun us s1 ⟨xs,H1,I1,r,z,q⟩=>⟨by rw[<- r.length];exact z,?_⟩)
 have hf:H1 s1.heap.objs.size=none:=I1.hok.fresh (XJ _)
 refine⟨.ref s1.heap.objs.size,upd H1 s1.heap.objs.size (.lst xs),I1.laid (t':=s1.toks) (fun b u e=>XB _ e) (XJ _) ?_,rfl,q _ hf⟩
 exact⟨z,us,0,r,XN _ rfl⟩
end
@[inline]abbrev Sp:=List V->Hp->VK->XK->Prop
@[inline]abbrev CXT:=List Env->Hp->XO->XK->XI->XO->Prop
structure vU (P) (w) (K) (mg) (base) (A:YK) (outer) (s:XO) (H:Hp):Prop where
 frames:A.frames=some outer
 mod:Mod K mg base
 bs:∀b o,base.get? b=some o->s.heap.get? b=some o/\H b=none
 bsz:base.objs.size<=s.heap.objs.size
 kM:s.heap.FunFrames base outer
 frf:∀b∈frs outer,H b=none
 hok:HOk P w H s.heap
 bare:ab0 s.gens
abbrev CE (outer:List Env) (P:X5) (w:Yw) (H:Hp) (s:XO) (Q:VK) (u:XI) (s':XO):Prop:=
 ∃v H',s'.os=s.os/\ab0 s'.gens/\Un (frs outer) [] H H' s.heap s'.heap/\HOk P w H' s'.heap/\RelV v u/\Q v H'
abbrev CR (CX:CXT) (outer:List Env) (P:X5) (w:Yw) (H:Hp) (s:XO) (Q:VK) (E:XK) (r:Result) (s':XO):Prop:=
 match r with
 | .ok (.ret u)=>CE outer P w H s Q u s'
 | .ok _=>False
 | .error e=>CX outer H s E e s'
structure cJ (P) (w) (K) (mg) (base) (CX) (k) (f) (fd) (ps:List Str) (sp:Sp):Prop where
 len:∀vs H Q E,sp vs H Q E->vs.length=ps.length
 run:∀A outer s H args us vs Q E , b8 k A->vU P w K mg base A outer s H->acT s fd args (ps.zip us)->Vals vs us->sp vs H Q E →
  codeAny (model P w) A (.call (.ref f) args) (CR CX outer P w H s Q E) s
def cJ.mono {K:gV} (F:cJ P w K mg base CX j f fd ps sp) (h:j<=k) :
  cJ P w K mg base CX k f fd ps sp:=⟨F.len,fun A outer s H args us vs Q E hr=>F.run A outer s H args us vs Q E (hr.mono h)⟩
def cJ.imp {K:gV} (F:cJ P w K mg base CX k f fd ps sp)
  (h:∀vs H Q E,sp' vs H Q E->sp vs H Q E):cJ P w K mg base CX k f fd ps sp':=
 ⟨fun vs H Q E q=>F.len vs H Q E (h _ _ _ _ q),fun A outer s H args us vs Q E hr he hb hv hs=>F.run A outer s H args us vs Q E hr he hb hv (h _ _ _ _ hs)⟩
def vU.make {K:gV} (e:vU P w K mg base A outer s H) (C) (us) (kw) :
  vU P w K mg base (A.under (.builtin "type.__call__" ⟨.ref C::us,kw⟩)) outer s H:=⟨by first | exact e.frames | (simpa [YK.under,Code.envs,Code.isFrame,pushEnvs] using e.frames),e.mod,e.bs,e.bsz,e.kM,e.frf,e.hok,e.bare⟩
section
variable {X:Cx}{pins:List (XW × Obj)}{σ:St}{H:Hp}{s s':XO}
def Inv.Oo (I:Inv X pins σ H s):vU X.prog X.w X.K X.mg X.base X.A X.stack s H:=
 ⟨I.ok.frames,I.ok.mod,I.bs,XR I.ok.bsz I.sz,I.stack,I.nM,I.hok,I.bare⟩
def Inv.after (I:Inv X pins σ H s) (h:CE X.stack X.prog X.w H s Q u s'):EP X pins σ Q u s':=by
 obtain⟨v,H',os,bare,un,hok,r,q⟩:=h
 obtain⟨hh,g,d,t,os'⟩:=s'
 obtain rfl:os'=s.os:=os
 exact⟨v,H',I.call (h':=hh) (g':=g) (d':=d) (t':=t) (ch:=[]) un hok bare (fun b z=>absurd z {..}),r,q⟩
end
abbrev Ot (sp:Sp) (dvs:List V) (E:XK) (t:TA):TE:=fun σ H Q=>t σ H fun vs H1=>sp (vs++dvs) H1 Q E
abbrev JA (C:XW) (m:Str) (sp:Sp) (dvs:List V) (E:XK) (ta:TE) (t:TA):TE:=fun σ H Q=>ta σ H fun x H1=>∃a dx fs,x=.ref a/\H1 a=ξ (.ins C dx fs)/\fs.lookup m=ζ ∧
 t σ H1 fun vs H2=>sp (x::(vs++dvs)) H2 Q E
abbrev Tc (C:XW) (sp:Sp) (dvs:List V) (E:XK) (t:TA):TE:=fun σ H Q=>t σ H fun vs H1=>∀x dx,H1 x=ζ->H1 dx=ζ->dx≠x →
 sp (.ref x::(vs++dvs)) (upd (upd H1 dx (.own x)) x (.ins C dx [])) (fun v H2=>v=.non/\Q (.ref x) H2) E
abbrev Binds (K:gV) (fd:Zy) (ps:List Str) (ds:List XI):Prop:=
 ∀s us , K.In s.heap->(us++ds).length=ps.length->acT s fd ⟨us,[]⟩ (ps.zip (us++ds))
def Binds.all {K:gV} (h:∀us:List XI,us.length=ps.length->bindArgs fd ⟨us,[]⟩=pure (ps.zip us)):Binds K fd ps []:=fun s us _ hl=>by
 rw[YD] at hl ⊢
 exact .of_eq (h us hl)
abbrev Passes (CX:CXT) (X:Cx) (E:XK):Prop:=∀pins (σ:St) H s e s' , Inv X pins σ H s->CX X.stack H s E e s'->X.xe e s'
section
variable {X:Cx}{CX:CXT}{k:Nat}{f C:XW}{fd:Zy}{ps:List Str}{sp:Sp}{dvs:List V}{ds:List XI}{E:XK}{x m:Str}{p pos apos:Pos}{e o:YL}{es:List YL}{ta:TE}{t:TA}
def yF {σ:St} (F:cJ X.prog X.w X.K X.mg X.base CX k f fd ps sp) (hr:b8 k X.A) (hb:Binds X.K fd ps ds) (hd:Vals dvs ds) (hx:Passes CX X E)
  (I:Inv X pins σ H s) (r:Vals vs us) (h:sp (vs++dvs) H Q E):wpAny (model X.prog X.w) X.A (call (.ref f) us) (EP X pins σ Q) X.xe s:=by
 have r2:Vals (vs++dvs) (us++ds):=r.append hd
 have hl:(us++ds).length=ps.length:=by rw[<- r2.length];exact F.len _ _ _ _ h
 refine Z_ (Zc (F.run X.A X.stack s H ⟨us,[]⟩ (us++ds) (vs++dvs) Q E hr I.Oo (hb s us I.kIn hl) r2 h) fun r s' hq=>?_)
 cases r with
 | error e=>exact hx pins σ H s e s' I hq
 | ok fl=>
  cases fl with
  | ret u=>exact I.after hq
  | next=>assumption
  | brk=>assumption
  | cont=>assumption
def DV (F:cJ X.prog X.w X.K X.mg X.base CX k f fd ps sp) (hr:b8 k X.A) (hg:Gl X x) (hm:X.mg x=ξ (.ref f)) (hk:X6 X.K (.ref f)=θ) (hb:Binds X.K fd ps ds) (hd:Vals dvs ds) (hx:Passes CX X E)
  (ha:PA X (e::es) t) (hdb:(x == ("__debug__" : Str))=false:=by decide) (he:starEach (e::es) X.env=(ψ,eval e X.env)::starEach es X.env:=by rfl) (hpl:(backTo pos (starEach es X.env)).any (·.1)=false:=by rfl) :
  PE X (.Call (.Name x p) (e::es) [] pos) (Ot sp dvs E t):=by
 intro pins s σ H Q I h
 refine Zr (jj I hg hm ?_ hdb)
 refine ZQ (h₀:=X.base) I.ok.mod.kin hk (thn (ha pos pins s σ H _ I h) fun us s1 ⟨vs,H1,I1,r,q⟩=>⟨I1.kIn,?_⟩) he hpl
 exact yF F hr hb hd hx I1 r q
def NN {pl:Sem Bool} (he:PE X o ta) (c:Cls X.K C) (hm:Meth X.K C m f) (F:cJ X.prog X.w X.K X.mg X.base CX k f fd ps sp) (hr:b8 k X.A) (hb:Binds X.K fd ps ds) (hd:Vals dvs ds) (hx:Passes CX X E) (ha:PA X (e::es) t)
  (hst:starEach (e::es) X.env=(ψ,eval e X.env)::starEach es X.env:=by rfl) (hpl:(backTo pos (starEach es X.env)).any (·.1)=false:=by rfl)
  (ht:eval (.Call (.Attribute o m apos) (e::es) [] pos) X.env=(do
   let ov ← eval o X.env
   standAt apos.atName
   let (f,first) ← holding [ov] (getMethod ov m pl)
   callWith pos f first (backTo pos (starEach (e::es) X.env)) (backToKw pos (keywordEach [] X.env))):=by rfl) :
  PE X (.Call (.Attribute o m apos) (e::es) [] pos) (JA C m sp dvs E ta t):=by
 intro pins s σ H Q I h
 refine PySem.W.methodCall_KW (pl:=pl) (thn (he pins s σ H _ I h) fun u s1 ⟨x,H1,I1,rx,a,dx,fs,ex,ea,l,q⟩=>?_) ht
 subst ex
 obtain rfl:u=Yj a:=rx
 refine tX I1 ea c hm l ?_
 refine ZQ (first:=[.ref a]) (h₀:=X.base) I.ok.mod.kin hm.kp (thn (ha pos pins s1 σ H1 _ I1 q) fun us s2 ⟨vs,H2,I2,r,q2⟩=>⟨I2.kIn,?_⟩) hst hpl
 exact yF (us:=.ref a::us) (vs:=.ref a::vs) F hr hb hd hx I2 (.cons rfl r) q2
def Lh {pl:Sem Bool} (he:PE X o ta) (c:Cls X.K C) (hm:Meth X.K C m f) (F:cJ X.prog X.w X.K X.mg X.base CX k f fd ps sp) (hr:b8 k X.A) (hb:Binds X.K fd ps ds) (hd:Vals dvs ds) (hx:Passes CX X E)
  (ht:eval (.Call (.Attribute o m apos) [] [] pos) X.env=(do
   let ov ← eval o X.env
   standAt apos.atName
   let (f,first) ← holding [ov] (getMethod ov m pl)
   callWith pos f first (backTo pos (starEach [] X.env)) (backToKw pos (keywordEach [] X.env))):=by rfl) :
  PE X (.Call (.Attribute o m apos) [] [] pos) (JA C m sp dvs E ta IY):=by
 intro pins s σ H Q I h
 refine PySem.W.methodCall_KW (pl:=pl) (thn (he pins s σ H _ I h) fun u s1 ⟨x,H1,I1,rx,a,dx,fs,ex,ea,l,q⟩=>?_) ht
 subst ex
 obtain rfl:u=Yj a:=rx
 refine tX I1 ea c hm l ?_
 exact PySem.W.callWith_K0 (first:=[.ref a]) I1.kIn hm.kp (yF (us:=[.ref a]) (vs:=[.ref a]) F hr hb hd hx I1 (.cons rfl .nil) q)
structure Mk (K) (C f):Prop where
 makes:abt K C=true
 init:YO K (.ref C) "__init__" = some (some (.ref f))
 fn:acf K (.ref f)=true
 kp:X6 K (.ref C)=true
def Lr {σ:St} (M:Mk X.K C f) (F:cJ X.prog X.w X.K X.mg X.base CX k f fd ps sp) (hr:b8 (k+1) X.A) (hb:Binds X.K fd ps ds) (hd:Vals dvs ds)
  (hx:Passes CX X E) (I:Inv X pins σ H s) (r:Vals vs us)
  (h:∀x dx,H x=ζ->H dx=ζ->dx≠x->sp (.ref x::(vs++dvs)) (upd (upd H dx (.own x)) x (.ins C dx [])) (fun v H2=>v=.non/\Q (.ref x) H2) E) :
  wpAny (model X.prog X.w) X.A (call (.ref C) us) (EP X pins σ Q) X.xe s:=by
 have hq:=h (s.heap.objs.size+1) s.heap.objs.size (I.hok.fresh (ac2 _)) (I.hok.fresh (XJ _)) (XZ (YQ _))
 have I2:=Inv.made (C:=C) I
 have r2:Vals (V.ref (s.heap.objs.size+1)::(vs++dvs)) (Yj (s.heap.objs.size+1)::(us++ds)):=.cons rfl (r.append hd)
 have hl:(Yj (s.heap.objs.size+1)::us++ds).length=ps.length:=by
  have e:=r2.length
  rw[F.len _ _ _ _ hq] at e
  grind
 refine Z_ (IL (f:=f) I.kIn M.makes M.init (beq_iff_eq.mp M.fn) (Zc (F.run _ X.stack _ _ ⟨Yj (s.heap.objs.size+1)::us,[]⟩ (Yj (s.heap.objs.size+1)::(us++ds)) _ _ E (hr.make C us [])
  (I2.Oo.make C us []) (hb _ (Yj (s.heap.objs.size+1)::us) I2.kIn hl) r2 hq) fun r s' hq'=>?_))
 cases r with
 | error e=>exact hx pins σ _ _ e s' I2 hq'
 | ok fl=>
  cases fl with
  | ret u=>
   obtain⟨v,H',I3,rv,ev,q3⟩:=I2.after hq'
   subst ev
   exact⟨rv,⟨V.ref (s.heap.objs.size+1),H',I3,rfl,q3⟩⟩
  | next=>assumption
  | brk=>assumption
  | cont=>assumption
def K0 (M:Mk X.K C f) (F:cJ X.prog X.w X.K X.mg X.base CX k f fd ps sp) (hr:b8 (k+1) X.A) (hg:Gl X x) (hm:X.mg x=ξ (.ref C)) (hb:Binds X.K fd ps ds) (hd:Vals dvs ds) (hx:Passes CX X E)
  (hdb:(x == ("__debug__" : Str))=false:=by decide):PE X (.Call (.Name x p) [] [] pos) (Tc C sp dvs E IY):=by
 intro pins s σ H Q I h
 refine Zr (jj I hg hm ?_ hdb)
 exact PySem.W.callWith_K0 I.kIn M.kp (Lr (us:=[]) M F hr hb hd hx I .nil h)
end
structure a9 (N P:List Str) (sc:abe):Prop where
 kind:sc.kind=.function
 co:sc.isCoroutine=false
 gen:sc.isGenerator=false
 nd:N.Nodup
 pre:N.take P.length=P
 par:∀x∈P,sc.names.lookup x=some .local\/sc.names.lookup x=some .cell
 Px:∀y∈sc.names,y.2≠.free
def xv {kindOf:Str->Option ZG}{x:Str}:∀{binds:List (Str × XI)}{m:Str->Option XI},(∀v,(x,v)∉binds)->bindL kindOf binds m x=m x
 | [],_,_=>rfl
 | (n,v)::r,m,h=>by
  unfold bindL
  rw[xv fun w hw=>h w (XM _ hw)]
  split
  ·grind
  ·rfl
def xh {kindOf:Str->Option ZG}:∀{binds:List (Str × XI)}{m:Str->Option XI},(∀v,(x,v)∉binds)->bindC kindOf binds m x=m x
 | [],_,_=>rfl
 | (n,v)::r,m,h=>by
  unfold bindC
  rw[xh fun w hw=>h w (XM _ hw)]
  split
  ·rfl
  grind
def lL {kindOf:Str->Option ZG}{x:Str}{v:XI}:∀{P:List Str}{vs:List XI}{i:Nat}{m:Str->Option XI},P.Nodup->P[i]?=ξ x->vs[i]?=ξ v->kindOf x=ξ .local →
  bindL kindOf (P.zip vs) m x=ξ v
 | [],_,_,_,_,h,_,_=>by simp at h
 | _::_,[],_,_,_,_,h,_=>by simp at h
 | p::P,w::vs,0,m,nd,h1,h2,hk=>by
  simp at h1 h2;subst h1;subst h2
  show bindL kindOf ((p,w)::P.zip vs) m p=_
  unfold bindL
  rw[xv fun v hv=>(Yt.mp nd).1 (aaj hv).1,if_pos hk]
  simp
 | p::P,w::vs,i+1,m,nd,h1,h2,hk=>by
  show bindL kindOf ((p,w)::P.zip vs) m x=_
  unfold bindL
  exact lL (i:=i) (Yt.mp nd).2 (by simp_all) (by simp_all) hk
def wZ {kindOf:Str->Option ZG}{x:Str}{v:XI}:∀{P:List Str}{vs:List XI}{i:Nat}{m:Str->Option XI},P.Nodup->P[i]?=ξ x->vs[i]?=ξ v->kindOf x≠ξ .local →
  bindC kindOf (P.zip vs) m x=ξ v
 | [],_,_,_,_,h,_,_=>by simp at h
 | _::_,[],_,_,_,_,h,_=>by simp at h
 | p::P,w::vs,0,m,nd,h1,h2,hk=>by
  simp at h1 h2;subst h1;subst h2
  show bindC kindOf ((p,w)::P.zip vs) m p=_
  unfold bindC
  rw[xh fun v hv=>(Yt.mp nd).1 (aaj hv).1,if_neg hk]
  simp
 | p::P,w::vs,i+1,m,nd,h1,h2,hk=>by
  show bindC kindOf ((p,w)::P.zip vs) m x=_
  unfold bindC
  exact wZ (i:=i) (Yt.mp nd).2 (by simp_all) (by simp_all) hk
abbrev start (N:List Str) (vs:List V):St:=vs.map ξ++X0 (N.length - vs.length) ζ
abbrev gF (CX:CXT) (P:X5) (w:Yw) (K:gV) (mg:Str->Option XI) (base:Y2) (N:List Str) (qual:Str) (scope:abe) (f:XW) (cd:XI) (A:YK) (outer:List Env) (s:XO) (H:Hp) (E:XK):Cx where
 prog:=P
 w:=w
 K:=K
 mg:=mg
 base:=base
 A:=A.deeper (envOfC qual scope s.heap.objs.size f cd)
 N:=N
 aP:=s
 a_:=H
 env:=envOfC qual scope s.heap.objs.size f cd
 outer:=outer
 stack:=envOfC qual scope s.heap.objs.size f cd::outer
 ex:=[]
 calm:=θ
 fn:=fun _=>θ
 pn:=[]
 xe:=fun e s'=>wpAny (model P w) (A.deeper (envOfC qual scope s.heap.objs.size f cd)) (leaving (envOfC qual scope s.heap.objs.size f cd) e) (fun _ s''=>CX outer H s E e s'') (fun e' s''=>CX outer H s E e' s'') s'
def A1 {sc:abe} (h:sc.names.lookup x=ξ .cell):∃c,(cellsFrom n sc.names []).lookup x=ξ c:=by
 have q:=ZH sc.names n [] (.inl h)
 exact Zs.mp q
def oG {K:gV}
  (S:a9 N ps scope) (hd:A.handled=ζ) (e0:vU P w K mg base A outer s H) (hl:vs.length=ps.length) (r:Vals vs us)
  (x:InCallC s s.heap.objs.size (bindL (envOfC qual scope s.heap.objs.size f cd).kindOf (ps.zip us) fun _=>ζ) (cellsFrom (s.heap.objs.size+1) scope.names []) (bindC (envOfC qual scope s.heap.objs.size f cd).kindOf (ps.zip us) fun _=>ζ) s1) :
  Inv (gF CX P w K mg base N qual scope f cd A outer s H E) [] (start N vs) H s1:=by
 have hpl:ps.length<=N.length:=by have:=congrArg List.length S.pre;grind
 obtain⟨h1,tk,rfl,hk⟩:=x.done
 have noA:∀b:XW,b∉(gF CX P w K mg base N qual scope f cd A outer s H E).ex:=fun b z=>absurd (show b∈([]:List XW) from z) {..}
 refine⟨⟨e0.mod,S.kind,rfl,rfl,XJ _,fun y z c h1 h2=>?_,fun y hy=>?_,fun y c _ h=>?_,fun _=>hd,abj e0.frames,.inr ⟨rfl,rfl⟩,fun b z=>absurd z (noA b),e0.bs,e0.bsz,fun b _ _=>noA b,fun b z=>absurd z (noA b),e0.kM,e0.frf⟩,
  rfl,e0.bare,Un.kept hk,⟨_,x.toInCall.ns,fun i y v h1 h2 h3=>?_⟩,fun y c h=>⟨_,x.cell y c h⟩,e0.hok.fresh (XJ _),fun y c h=>?_,fun p hp=>absurd (show p∈([]:List (XW × Obj)) from hp) {..},e0.hok.kept hk,?_⟩
 ·exact name_of_addr x.apart (Z4 h1) (Z4 h2)
 ·have hy:scope.names.lookup y=ξ .cell\/scope.names.lookup y=ξ .free:=hy
  rcases hy with hy | hy
  ·exact A1 hy
  ·exact absurd rfl (S.Px _ (Z4 hy))
 ·exact ace (x.above y c (Z4 h))
 ·have hi:i<vs.length:=by
   unfold start at h2
   grind
  have ha:vs[i]?=ξ v:=by
   unfold start at h2
   grind
  obtain⟨u,hu,rv⟩:=r.get ha
  have hp:ps[i]?=ξ y:=by
   rw[<- S.pre,List.getElem?_take_of_lt {}];exact h1
  have ndP:ps.Nodup:=by rw[<- S.pre];exact S.nd.sublist (List.take_sublist _ _)
  refine⟨u,rv,?_⟩
  rcases S.par y (Yn hp) with k | k
  ·exact .inl ⟨k,lL ndP hp hu k⟩
  ·obtain⟨c,e⟩:=A1 (n:=s.heap.objs.size+1) k
   refine .inr ⟨.inl k,c,e,?_⟩
   have q:=x.cell y c e
   rw[wZ ndP hp hu (by show scope.names.lookup y≠_;simp_all)] at q
   exact q
 ·exact e0.hok.fresh (ace (x.above y c (Z4 h)))
 ·unfold start
  show _=N.length
  simp_all
def Ox {CX:CXT}{P:X5}{w:Yw}{K:gV}{mg:Str->Option XI}{base:Y2}{k:Nat}{f:XW}{name qual:Str}{params:acG}{body:List aaN}{scope:abe}{dV kV doc pm cdv ct oc:XI}{an od:Option XW}
  {osl:Array (Option XI)} {N ps:List Str} {sp:Sp} (lk:K.lookup f=ξ ⟨oc,od,.func (Yz name qual params body scope dV kV doc pm an cdv ct),osl⟩) (hcd:aaa K cdv qual=θ) (S:a9 N ps scope)
  (len:∀vs H Q E,sp vs H Q E->vs.length=ps.length)
  (hbody:∀(A:YK) (outer:List Env) (s:XO) (H:Hp) (vs:List V) (Q:VK) (E:XK),b8 k (A.deeper (envOfC qual scope s.heap.objs.size f cdv))->sp vs H Q E →
   ∃t,PSs (gF CX P w K mg base N qual scope f cdv A outer s H E) body t/\t { nx:=fun _ H'=>Q .non H',rt:=Q } (start N vs) H) :
  cJ P w K mg base CX (k+1) f (Yz name qual params body scope dV kV doc pm an cdv ct) ps sp:=by
 refine⟨len,fun A outer s H args us vs Q E hr e0 hb r hsp=>?_⟩
 have hl:=len _ _ _ _ hsp
 have KX:K.In s.heap:=e0.mod.kin.keeps fun b o e=>(e0.bs b o e).1
 have lim:s.heap.NoLimit:=e0.mod.nolimit.keeps fun b o e=>(e0.bs b o e).1
 have hkind:∀y∈ps.zip us,scope.names.lookup y.1=ξ .local\/(scope.names.lookup y.1=ξ .cell/\((cellsFrom (s.heap.objs.size+1) scope.names []).lookup y.1).isSome=θ):=fun⟨n,v⟩ hy=>by
  rcases S.par n (aaj hy).1 with q | q
  ·exact .inl q
  ·exact .inr ⟨q,ZH _ _ _ (.inl q)⟩
 refine aak hr.depth (KX _ _ lk) rfl S.co S.gen rfl (abC KX hcd) (hb _ _ _ _ ?_)
 refine ZI S.kind hkind fun env he s1 x=>?_
 subst he
 refine⟨lim.keeps x.toInCall.keep,ach ?_⟩
 obtain⟨t,ht,hq⟩:=hbody A outer s H vs Q E (hr.deeper _) hsp
 have I:Inv (gF CX P w K mg base N qual scope f cdv A outer s H E) [] (start N vs) H s1:=oG S hr.hd e0 hl r x
 refine Yl (ht [] s1 (start N vs) H _ I hq) (fun fl s' hs=>?_) fun e s' hs=>hs
 have fin:∀{σ':St} {H':Hp} {v:V} {u:XI},Inv (gF CX P w K mg base N qual scope f cdv A outer s H E) [] σ' H' s'->RelV v u->Q v H'->CE outer P w H s Q u s':=
  fun{σ' H' v u} J rv q=>⟨v,H',J.os,J.bare,J.base,J.hok,rv,q⟩
 cases fl with
 | ret u=>
  obtain⟨v,σ',H',J,rv,q⟩:=hs
  exact fin J rv q
 | next=>
  obtain⟨σ',H',J,q⟩:=hs
  exact fin (v:=V.non) (u:=ZN) J rfl q
 | brk=>
  obtain⟨_,_,_,q⟩:=hs
  exact ZU q
 | cont=>
  obtain⟨_,_,_,q⟩:=hs
  exact ZU q
section
variable {X:Cx}{x:Str}{p pos:Pos}{e:YL}{es:List YL}{t:TA}{id T:String}{r:List V->Hp->VK->Prop}
abbrev tCB (r:List V->Hp->VK->Prop) (t:TA):TE:=fun σ H Q=>t σ H fun vs H1=>r vs H1 Q
def mY (hc:bU X (.builtin id) r) (hg:Gl X x) (hm:X.mg x=ζ) (hv:bootBuiltins x=ξ (.builtin id)) (ha:PA X (e::es) t) (hn:x≠"__name__" := by decide) (hdb:(x == ("__debug__" : Str))=false:=by decide)
  (he:starEach (e::es) X.env=(ψ,eval e X.env)::starEach es X.env:=by rfl) (hpl:(backTo pos (starEach es X.env)).any (·.1)=false:=by rfl):PE X (.Call (.Name x p) (e::es) [] pos) (tCB r t):=by
 intro pins s σ H Q I h
 refine Zr (kY I hg hm hv ?_ hn hdb)
 exact PyProof.Rows.callWith_builtin1 (thn (ha pos pins s σ H _ I h) fun us s1 ⟨vs,H1,I1,r1,q1⟩=>hc pins s1 σ H1 vs us Q I1 r1 q1) he hpl
def gr (hc:bU X (.type T) r) (hg:Gl X x) (hm:X.mg x=ζ) (hv:bootBuiltins x=ξ (.type T)) (ha:PA X (e::es) t) (hn:x≠"__name__" := by decide) (hdb:(x == ("__debug__" : Str))=false:=by decide)
  (he:starEach (e::es) X.env=(ψ,eval e X.env)::starEach es X.env:=by rfl) (hpl:(backTo pos (starEach es X.env)).any (·.1)=false:=by rfl):PE X (.Call (.Name x p) (e::es) [] pos) (tCB r t):=by
 intro pins s σ H Q I h
 refine Zr (kY I hg hm hv ?_ hn hdb)
 exact Y8 (thn (ha pos pins s σ H _ I h) fun us s1 ⟨vs,H1,I1,r1,q1⟩=>hc pins s1 σ H1 vs us Q I1 r1 q1) he hpl
def CV (hc:bU X (.type T) r) (hg:Gl X x) (hm:X.mg x=ζ) (hv:bootBuiltins x=ξ (.type T)) (hn:x≠"__name__" := by decide) (hdb:(x == ("__debug__" : Str))=false:=by decide) :
  PE X (.Call (.Name x p) [] [] pos) (tCB r IY):=by
 intro pins s σ H Q I h
 refine Zr (kY I hg hm hv ?_ hn hdb)
 exact PyProof.Rows.callWith_type0 (hc pins s σ H [] [] Q I .nil h)
end
end L2
namespace HT
open PySem PyProof.Rows
section
variable {prog:X5}{w:Yw}{A:YK}{E:XI->XO->Prop}{s:XO}
def NK (ht:adp s.heap t vs.toArray) (hb:adp s.heap b ws.toArray) (hv:vs≠[])
  (h1:ws=[]->Q (.ref t) s) (h2:ws≠[]->Q (.ref s.heap.objs.size) { s with heap:=s.heap.push { cls:=.type "tuple", data:=.seq (vs++ws).toArray } })
  (hsz:vs.length+ws.length<=sizeLine):wpAny (model prog w) A (binaryOp .Add (.ref t) (.ref b)) Q E s:=by
 obtain⟨⟨cls,dd,data,sl⟩,ho,hc,n,hd⟩:=id ht
 obtain⟨⟨cls2,dd2,data2,sl2⟩,ho2,hc2,n2,hd2⟩:=id hb
 simp only at hc hd hc2 hd2
 subst hc hd hc2 hd2
 have e:vs.toArray++ws.toArray=(vs++ws).toArray:={..}
 by_cases hw:ws=[]
 ·exact acX ⟨_,ho,rfl⟩ ⟨_,ho2,rfl⟩ ab7 acH aaZ aaR (aaK _ _)
   (tuple_addW1 t b vs.toArray ws.toArray n n2 dd dd2 sl sl2 (by simp_all) (by simp[hw])) ⟨ho,ho2,h1 hw⟩
 ·refine acX ⟨_,ho,rfl⟩ ⟨_,ho2,rfl⟩ ab7 acH aaZ aaR (aaK _ _)
   (tuple_addW2 t b vs.toArray ws.toArray n n2 dd dd2 sl sl2 (by simp_all) (by simp_all) (by omega)) ⟨ho,ho2,?_⟩
  simp_all
abbrev sIx (n d:Nat):Option Int->Nat
 | none=>d
 | some v=>if v<0 then (v+(n:Int)).toNat else min v.toNat n
def B9 (n d):sIx n d ζ=d:=rfl
def lU (n d k:Nat):sIx n d (ξ (k:Int))=min k n:=by
 rfl
def P_ (n d) (hd:d<=n) (o):sIx n d o<=n:=by
 cases o with
 | none=>exact hd
 | some v=>
  show(if v<0 then (v+(n:Int)).toNat else min v.toNat n)<=n
  grind
def Fc (v) (n d:Nat):(if v<0 then max (v+(n:Int)) 0 else min v (n:Int))=((sIx n d (ξ v):Nat):Int):=by
 show(if v<0 then max (v+(n:Int)) 0 else min v (n:Int))=(((if v<0 then (v+(n:Int)).toNat else min v.toNat n):Nat):Int)
 grind
def Dq (lo hi) (n:Nat):ZS lo hi 1 (n:Int)=(((sIx n 0 lo:Nat):Int),((sIx n n hi:Nat):Int)):=by
 have h1:¬ ((1:Int)<0):={}
 unfold ZS
 simp only[h1,if_false]
 refine Prod.ext ?_ ?_
 ·cases lo with
  | none=>rfl
  | some v=>exact Fc v n 0
 ·cases hi with
  | none=>rfl
  | some v=>exact Fc v n n
def CH (i j:Nat):Yx (i:Int) (j:Int) 1=j - i:=by
 unfold Yx
 lia
def tF (p:acI v o) (h:Q o s):wpAny (model prog w) A (ZJ.Slice.slicePartIndex v) Q E s:=by
 cases p with
 | none=>exact slicePart_none h
 | int i t=>exact slicePart_int h
def jT {sl:XW}{vl vu:XI}{lo hi:Option Int}{n:Nat}{Q:Int × Int × Nat->XO->Prop} (hs:s.heap.IsSliceOf sl vl vu .none) (pl:acI vl lo) (pu:acI vu hi)
  (h:Q (((sIx n 0 lo:Nat):Int),1,sIx n n hi - sIx n 0 lo) s):wpAny (model prog w) A (aas (.ref sl) (pure (n:Int))) Q E s:=by
 obtain⟨os,hos,hcs,hds⟩:=id hs
 unfold aas ZJ.Slice.sliceFields
 refine td (td (Zi hos hds (x:=vl) rfl (td (Zi hos hds (x:=vu) rfl (td (Zi hos hds (x:=.none) rfl (XG ?_)))))))
 refine td (slicePart_none ?_)
 show wpAny _ _ (if ((1:Int) == 0)=θ then _ else _) _ _ s
 rw[if_neg (by decide)]
 refine td (tF pl (td (tF pu (td (XG ?_)))))
 show wpAny _ _ (match ZS lo hi 1 (n:Int) with | (lo,hi)=>pure (lo,(1:Int),Yx lo hi 1)) _ _ s
 rw[Dq lo hi n]
 show wpAny _ _ (pure (((sIx n 0 lo:Nat):Int),(1:Int),Yx ((sIx n 0 lo:Nat):Int) ((sIx n n hi:Nat):Int) 1)) _ _ s
 rw[CH]
 exact XG h
def Ko (xs:Array XI) (i k:Nat):((XF k).filterMap fun(m:Nat)=>xs[((i:Int)+(m:Int)*1).toNat]?).toArray=((xs.toList.drop i).take k).toArray:=by
 have e:(fun(m:Nat)=>xs[((i:Int)+(m:Int)*1).toNat]?)=fun m=>xs[i+m]?:=by
  grind
 rw[e]
 have:=pick_run xs i k
 rw[abD] at this
 have e2:((fun x=>xs[x]?) ∘ fun x=>i+x)=fun m=>xs[i+m]?:=rfl
 simp_all
def nv {lo hi:Option Int} (ht:adp s.heap t items) (hs:s.heap.IsSliceOf sl vl vu .none) (pl:acI vl lo) (pu:acI vu hi)
  (hw:¬ (sIx items.size 0 lo=0/\sIx items.size items.size hi=items.size))
  (h:Q (.ref s.heap.objs.size) { s with heap:=s.heap.push { cls:=.type "tuple", data:=.seq ((items.toList.drop (sIx items.size 0 lo)).take (sIx items.size items.size hi - sIx items.size 0 lo)).toArray } })
  (hsz:items.size<=sizeLine):wpAny (model prog w) A (getItem (.ref t) (.ref sl)) Q E s:=by
 have htake:sizeOk (.seq ((items.toList.drop (sIx items.size 0 lo)).take (sIx items.size items.size hi - sIx items.size 0 lo)).toArray):=by
  show((items.toList.drop (sIx items.size 0 lo)).take (sIx items.size items.size hi - sIx items.size 0 lo)).toArray.size<=sizeLine
  grind
 have hj:sIx items.size items.size hi<=items.size:=P_ _ _ (XJ _) hi
 obtain⟨os,hos,hcs,hds⟩:=id hs
 have hTs:s.TypeIs (.ref sl) "slice" := ⟨os,hos,hcs⟩
 unfold getItem
 try with_reducible refine YA ?_
 first | refine td (XG ?_) | skip
 refine td (aa7 ht.typeIs (by decide) ?_)
 refine td (Y9 (name:=acb "__getitem__") ht.typeIs Ye
  (ZO Ye ht.typeIs abu ?_ (abE _ _)))
 show wpAny _ _ (aat (.ref t) >>= _) _ _ s
 refine td (acJ ht ?_)
 refine td (abg hTs ?_)
 rw[if_pos (by decide)]
 refine td (jT hs pl pu ?_)
 have hno:¬ ((((sIx items.size 0 lo:Nat):Int) == 0&&(1:Int) == 1&&(sIx items.size items.size hi - sIx items.size 0 lo) == items.size)=θ):=by
  simp_all
 show wpAny _ _ (if (((sIx items.size 0 lo:Nat):Int) == 0&&(1:Int) == 1&&(sIx items.size items.size hi - sIx items.size 0 lo) == items.size)=θ then _ else _) _ _ s
 rw[if_neg hno,Ko]
 first
  | exact td (m:=YY _) (Yo (XG ⟨_,rfl,XG h⟩) htake)
  | exact td (m:=YY _) (Yo (td (XG (XG ⟨_,rfl,XG h⟩))) htake)
  | exact td (td (m:=YY _) (Yo (XG (XG ⟨_,rfl,XG h⟩)) htake))
  | exact td (td (m:=YY _) (Yo (XG ⟨_,rfl,XG h⟩) htake))
end
end HT
namespace L2
open PySem PySem.Spec PyProof.Rows
@[inline]abbrev TO:=St->Hp->(Option Int->Hp->Prop)->Prop
abbrev PO (X:Cx) (e:Option YL) (t:TO):Prop:=
 ∀pins s (σ:St) H Q , Inv X pins σ H s->t σ H Q →
  wpAny (model X.prog X.w) X.A (evalPart e X.env) (fun u s'=>∃o H',Inv X pins σ H' s'/\acI u o/\Q o H') X.xe s
abbrev MG:TO:=fun _ H Q=>Q ζ H
abbrev T3 (t:TE):TO:=fun σ H Q=>t σ H fun x H1=>∃i,x=.int i/\Q (ξ i) H1
def intsAre_of:∀{us:List XI},Vals (ns.map V.int) us->acC us ns:=by
 induction ns with
 | nil=>intro us r;rw[Z3] at r;cases r;exact .nil
 | cons n ns ih=>
  intro us r
  rw[XT] at r
  cases r with
  | cons r1 r2=>
   obtain⟨t,e⟩:=r1
   subst e
   exact .cons n t (ih r2)
section
variable {X:Cx}{e:YL}{te:TE}{lo hi:Option YL}{tl th:TO}{pos p2:Pos}
def Og:PO X ζ MG:=by
 intro pins s σ H Q I h
 rw[evalPart_none]
 exact XG ⟨ζ,H,I,.none,h⟩
def N7 (h:PE X e te):PO X (ξ e) (T3 te):=by
 intro pins s σ H Q I hw
 rw[evalPart_some]
 refine thn (h pins s σ H _ I hw) fun u s1 zq1=>?_
 obtain⟨x,H1,I1,r1,q1⟩:=zq1
 obtain⟨i,rfl,q⟩:=q1
 obtain⟨t,rfl⟩:=r1
 exact⟨ξ i,H1,I1,.int i t,q⟩
abbrev SlR (X:Cx) (r:V->Option Int->Option Int->Hp->VK->Prop):Prop:=
 ∀pins s (σ:St) H x v vl vu lo hi sl Q , Inv X pins σ H s->RelV x v->s.heap.IsSliceOf sl vl vu .none->acI vl lo->acI vu hi->r x lo hi H Q →
  ∃T id,typeLookup (.type T) "__getitem__" = pure (ξ (.builtin id))/\s.TypeIs v T/\wpAny (model X.prog X.w) X.A (getItem v (.ref sl)) (EP X pins σ Q) X.xe s
def SlR.or (h:SlR X r) (h':SlR X r'):SlR X (fun x lo hi H Q=>r x lo hi H Q\/r' x lo hi H Q):=by
 intro pins s σ H x v vl vu lo hi sl Q I rx hs pl pu q
 rcases q with q | q
 ·exact h pins s σ H x v vl vu lo hi sl Q I rx hs pl pu q
 ·exact h' pins s σ H x v vl vu lo hi sl Q I rx hs pl pu q
abbrev tSl (r:V->Option Int->Option Int->Hp->VK->Prop) (te:TE) (tl th:TO):TE:=fun σ H Q=>te σ H fun x H1=>tl σ H1 fun l H2=>th σ H2 fun u H3=>r x l u H3 Q
def IW {r:V->Option Int->Option Int->Hp->VK->Prop} (hr:SlR X r) (he:PE X e te) (hl:PO X lo tl) (hu:PO X hi th):PE X (.Subscript e (.Slice lo hi ζ p2) pos) (tSl r te tl th):=by
 intro pins s σ H Q I h
 refine acU (thn (he pins s σ H _ I h) fun v s1 zq1=>?_)
 obtain⟨x,H1,I1,r1,q1⟩:=zq1
 refine wpAny_Slice (thn (hl pins s1 σ H1 _ I1 q1) fun vl s2 ⟨l,H2,I2,pl,q2⟩=>thn (hu pins s2 σ H2 _ I2 q2) fun vu s3 zq1=>?_)
 obtain⟨u,H3,I3,pu,q3⟩:=zq1
 rw[evalPart_none]
 refine XG ?_
 have I4:Inv X pins σ H3 { s3 with heap:=s3.heap.push { cls:=.type "slice", data:=.fields #[vl,vu,.none] } }:=I3.kept (t':=s3.toks) fun b ob q=>XB _ q
 obtain⟨T,id,hT,ht,hg⟩:=hr pins { s3 with heap:=s3.heap.push { cls:=.type "slice", data:=.fields #[vl,vu,.none] } } σ H3 x v vl vu l u s3.heap.objs.size Q I4 r1 (abF ..) pl pu q3
 show wpAny (model X.prog X.w) X.A (subscriptTail e (.Slice lo hi ζ p2) v (.ref s3.heap.objs.size)) (EP X pins σ Q) X.xe { s3 with heap:=s3.heap.push { cls:=.type "slice", data:=.fields #[vl,vu,.none] } }
 exact adj (ops:=[.ref s3.heap.objs.size,v]) ht hT hg (by rfl)
abbrev uV (xs:List V) (lo hi:Option Int):List V:=(xs.drop (HT.sIx xs.length 0 lo)).take (HT.sIx xs.length xs.length hi - HT.sIx xs.length 0 lo)
def pX (xs:List V) (lo hi:Option Int):(uV xs lo hi).length<=xs.length:=by
 unfold uV
 rw[Z6,List.length_drop]
 lia
abbrev Vl (K:gV):V->Option Int->Option Int->Hp->VK->Prop:=fun x lo hi H Q=>∃a xs,x=.ref a/\SqT K H a xs ∧
 ¬ (HT.sIx xs.length 0 lo=0/\HT.sIx xs.length xs.length hi=xs.length)/\∀p,H p=ζ->Q (.ref p) (upd H p (.tup (uV xs lo hi)))
def Pg:SlR X (Vl X.K):=by
 intro pins s σ H x v vl vu lo hi sl Q I rx hs pl pu h
 obtain⟨a,xs,rfl,hx,hw,q⟩:=h
 cases rx
 obtain⟨its,r,ht,hz⟩:=I.tuple hx
 have hlen:its.toArray.size=xs.length:=by rw[Yr];exact r.length.symm
 refine⟨"tuple", _,Ye.lookup,ht.typeIs,?_⟩
 refine HT.nv ht hs pl pu (by rw[hlen];exact hw) ?_ (by rw[hlen];exact hz)
 rw[hlen]
 refine⟨.ref s.heap.objs.size,_,I.laid (t':=s.toks) (o:=.tup (uV xs lo hi)) (fun b ob q=>XB _ q) (XJ _) ?_,rfl,q _ (I.hok.fresh (XJ _))⟩
 exact⟨XR (pX xs lo hi) hz,_,(r.drop (HT.sIx xs.length 0 lo)).take (HT.sIx xs.length xs.length hi - HT.sIx xs.length 0 lo),pj.new _ _⟩
abbrev OW (K:gV):R2:=fun x y H Q=>∃a b xs ys,x=.ref a/\y=.ref b/\SqT K H a xs/\SqT K H b ys/\xs≠[]/\xs.length+ys.length<=sizeLine ∧
 (ys=[]->Q (.ref a) H)/\(ys≠[]->∀p,H p=ζ->Q (.ref p) (upd H p (.tup (xs++ys))))
def Vals.zS (r:Vals xs us):us=[]↔xs=[]:=by
 cases r with
 | nil=>simp
 | cons _ _=>simp
def N4:OpR X (binaryOp .Add) (OW X.K):=by
 intro pins s σ H x y v u Q I rx ry h
 obtain⟨a,b,xs,ys,rfl,rfl,ha,hb,hx,hz,q1,q2⟩:=h
 cases rx
 cases ry
 obtain⟨its,r1,p1,_⟩:=I.tuple ha
 obtain⟨its2,r2,p2,_⟩:=I.tuple hb
 refine HT.NK p1 p2 (fun z=>hx (r1.zS.mp z)) (fun z=>⟨.ref a,H,I,rfl,q1 (r2.zS.mp z)⟩) (fun z=>?_) (by rw[<- r1.length,<- r2.length];exact hz)
 refine⟨.ref s.heap.objs.size,_,I.laid (t':=s.toks) (o:=.tup (xs++ys)) (fun b ob q=>XB _ q) (XJ _) ?_,rfl,q2 (fun w=>z (r2.zS.mpr w)) _ (I.hok.fresh (XJ _))⟩
 exact⟨by simp_all,_,r1.append r2,pj.new _ _⟩
end
abbrev ixN (n:Nat) (i:Int):Option Nat:=if 0<=i then (if i<n then ξ i.toNat else ζ) else if -(n:Int)<=i then ξ (i+n).toNat else ζ
abbrev atI {α:Type} (xs:List α) (i:Int):Option α:=(ixN xs.length i).bind fun j=>xs[j]?
def zX (h:ixN n i=ξ j):seqIndex? i n=ξ j/\j<n/\-(n:Int)<=i/\i<n:=by
 unfold ixN at h
 by_cases h0:0<=i
 ·rw[if_pos h0] at h
  by_cases h1:i<n
  ·rw[if_pos h1] at h
   have e:i.toNat=j:=Y5 h
   exact⟨by rw[acD h0 h1,e],{},{},h1⟩
  simp_all
 ·rw[if_neg h0] at h
  by_cases h1:-(n:Int)<=i
  ·rw[if_pos h1] at h
   have e:(i+n).toNat=j:=Y5 h
   exact⟨by rw[aci {} h1,e],{},h1,{}⟩
  simp_all
def rp (h:atI xs i=ξ v):∃j,seqIndex? i xs.length=ξ j/\xs[j]?=ξ v/\j<xs.length/\-(xs.length:Int)<=i/\i<xs.length:=by
 unfold atI at h
 cases e:ixN xs.length i with
 | none=>simp_all
 | some j=>
  rw[e] at h
  obtain⟨h1,h2,h3,h4⟩:=zX e
  simp_all
def Oj {j:Nat}{v:α} (h:xs[j]?=ξ v):atI xs (j:Int)=ξ v:=by
 have hj:j<xs.length:=(X9.mp h).1
 have e:ixN xs.length (j:Int)=ξ j:=by
  unfold ixN
  simp_all
 unfold atI;simp_all
abbrev Ea (b:YL):Prop:=∀o i,subscripted b ψ o i=operate [o,i] (getItem o i)
abbrev IxR (X:Cx) (r:R2):Prop:=
 ∀value slice pins s (σ:St) H x y v u Q , Inv X pins σ H s->RelV x v->RelV y u->r x y H Q →
  subscripted slice ψ v u=operate [v,u] (getItem v u)->wpAny (model X.prog X.w) X.A (subscriptTail value slice v u) (EP X pins σ Q) X.xe s
abbrev MtR (X:Cx) (id:String) (r:V->List V->Hp->VK->Prop):Prop:=
 ∀pins s (σ:St) H x xs v us Q , Inv X pins σ H s->RelV x v->Vals xs us->r x xs H Q →
  wpAny (model X.prog X.w) X.A (call (.builtin id) (v::us)) (EP X pins σ Q) X.xe s
section
variable {X:Cx}{a b:YL}{ta tb:TE}{pos:Pos}
def IxR.or (h:IxR X r) (h':IxR X r'):IxR X (fun x y H Q=>r x y H Q\/r' x y H Q):=by
 intro value slice pins s σ H x y v u Q I rx ry q hs
 rcases q with q | q
 ·exact h value slice pins s σ H x y v u Q I rx ry q hs
 ·exact h' value slice pins s σ H x y v u Q I rx ry q hs
def Ti (hr:IxR X r) (ha:PE X a ta) (hb:PE X b tb) (hs:Ea b):PE X (.Subscript a b pos) (tOp r ta tb):=by
 intro pins s σ H Q I h
 exact acU (O_ ha hb I h fun v u s2 x y H2 I2 rx ry q=>hr a b pins s2 σ H2 x y v u Q I2 rx ry q (hs _ _))
abbrev Rm (K:gV):R2:=fun x y H Q=>∃p xs i v,x=.ref p/\y=.int i/\SqL K H p xs/\atI xs i=ξ v/\Q v H
abbrev TV (K:gV):R2:=fun x y H Q=>∃p xs i v,x=.ref p/\y=.int i/\SqT K H p xs/\atI xs i=ξ v/\Q v H
abbrev Ub:R2:=fun x y H Q=>∃z i c,x=.str z/\y=.int i/\z.length<=sizeLine/\atI z.cps.toList i=ξ c/\Q (.str ⟨#[c]⟩) H
def NY:IxR X (Rm X.K):=by
 intro value slice pins s σ H x y v u Q I rx ry h hs
 obtain⟨p,xs,i,z,rfl,rfl,hq,he,q⟩:=h
 cases rx
 obtain⟨t,rfl⟩:=ry
 obtain⟨its,r,pl,hz⟩:=I.list hq
 obtain⟨j,h1,h2,h3,h4,h5⟩:=rp he
 obtain⟨w,ew,rw'⟩:=r.get h2
 have hl:=r.length
 have hn:=lg
 have fin:EP X pins σ Q w s:=⟨z,H,I,rw',q⟩
 by_cases h0:0<=i
 ·have hj:i.toNat=j:=by
   rw[acD h0 h5] at h1
   simp_all
  exact item_listR pl.isList h0 {} (by simp_all) fin hs
 ·have hj:(i+(its.toArray.size:Int)).toNat=j:=by
   rw[aci {} h4] at h1
   simp_all
  exact subscriptTail_builtinR (x:=w) pl.isList.typeIs abS.lookup
   (wpAny_getItem_list_neg (Q:=fun r s'=>r=w/\EP X pins σ Q r s') pl.isList {} (by simp_all) {} (by simp_all) ⟨rfl,fin⟩) hs
def Qa:IxR X (TV X.K):=by
 intro value slice pins s σ H x y v u Q I rx ry h hs
 obtain⟨p,xs,i,z,rfl,rfl,hq,he,q⟩:=h
 cases rx
 obtain⟨t,rfl⟩:=ry
 obtain⟨its,r,pl,hz⟩:=I.tuple hq
 obtain⟨j,h1,h2,h3,h4,h5⟩:=rp he
 obtain⟨w,ew,rw'⟩:=r.get h2
 have hl:=r.length
 have hn:=lg
 have fin:EP X pins σ Q w s:=⟨z,H,I,rw',q⟩
 exact subscriptTail_builtinR (x:=w) pl.typeIs slot_tuple_getitem.lookup
  (getItem_tuple (j:=j) (Q:=fun r s'=>r=w/\EP X pins σ Q r s') pl {} {} (by simp_all) (by simp_all) ⟨rfl,fin⟩) hs
def Ph:IxR X Ub:=by
 intro value slice pins s σ H x y v u Q I rx ry h hs
 obtain⟨z,i,c,rfl,rfl,hz,he,q⟩:=h
 obtain⟨t,rfl⟩:=rx
 obtain⟨t',rfl⟩:=ry
 obtain⟨j,h1,h2,h3,h4,h5⟩:=rp he
 have hl:z.cps.toList.length=z.length:=by rfl
 rw[hl] at h1 h4 h5
 have hn:=lg
 exact adj (acu s z t) slot_str_getitem.lookup (getItem_str (c:=c) (by
  grind) (by simp_all) ⟨.str ⟨#[c]⟩,H,I.tok _,⟨_,rfl⟩,q⟩) hs
abbrev rIx (K:gV):R2:=fun x y H Q=>Rm K x y H Q\/TV K x y H Q\/Ub x y H Q
def Kj:IxR X (rIx X.K):=NY.or (Qa.or Ph)
def DG (its:List XI) (n j) (u):acv (·.setIfInBounds j u) { cls:=.type "list", data:=.seq its.toArray n }={ cls:=.type "list", data:=.seq (its.set j u).toArray n }:=by
 simp[acv]
def Inv.lst {σ:St}{H:Hp}{s:XO}{p:XW}{xs:List V} (I:Inv X pins σ H s) (h:H p=ξ (.lst xs)) :
  ∃its n,Vals xs its/\s.heap.get? p=ξ { cls:=.type "list", data:=.seq its.toArray n }/\xs.length<=sizeLine:=by
 obtain⟨z,its,n,r,e⟩:=I.hok p _ h
 simp_all
def Inv.Qq {σ:St}{its its':List XI} (I:Inv X pins σ H s) (h:H p=ξ (.lst xs))
  (ho:s.heap.get? p=ξ { cls:=.type "list", data:=.seq its.toArray n }) (hf:f { cls:=.type "list", data:=.seq its.toArray n }={ cls:=.type "list", data:=.seq its'.toArray n' }) (r:Vals ys its') (hz:ys.length<=sizeLine) (t) :
  Inv X pins σ (upd H p (.lst ys)) { s with heap:=s.heap.update p f,toks:=t }:=by
 have e:(s.heap.update p f).get? p=ξ { cls:=.type "list", data:=.seq its'.toArray n' }:=by
  rw[YM f ho (by rw[hf]<;>rfl),hf]
 refine I.write (x:=p) (e:=p) (by rw[h];trivial) (.inl rfl) (fun b u hb q=>(YJ _ _ (aac hb)).trans q) ⟨_,e⟩ ?_
 exact⟨hz,its',n',r,e⟩
abbrev O3:V->V->V->Hp->(Hp->Prop)->Prop:=fun o i v H Q=>∃p xs k j,o=.ref p/\i=.int k/\H p=ξ (.lst xs)/\ixN xs.length k=ξ j/\Q (upd H p (.lst (xs.set j v)))
def set_list:NQ X O3:=by
 intro pins s σ H o i v ov iv u Q I ro ri rv h
 obtain⟨p,xs,k,j,rfl,rfl,hp,hj,q⟩:=h
 cases ro
 obtain⟨t,rfl⟩:=ri
 obtain⟨its,n,r,ho,hz⟩:=I.lst hp
 obtain⟨h1,h2,h3,h4⟩:=zX hj
 have hl:=r.length
 have hn:=lg
 have I':Inv X pins σ (upd H p (.lst (xs.set j v))) { s with heap:=s.heap.update p (acv (·.setIfInBounds j u)) }:=
  I.Qq hp ho (DG its n j u) (r.set rv j) (by simp_all) s.toks
 by_cases h0:0<=k
 ·have hk:k.toNat=j:=by
   rw[acD h0 h4] at h1
   simp_all
  exact PySem.W.ki_setAt ho h0 {} (by simp_all) (by grind)
 ·have hk:(k+(its.toArray.size:Int)).toNat=j:=by
   rw[aci {} h3] at h1
   simp_all
  exact PySem.W.ki_setBack ho {} (by simp_all) {} (by grind)
def yB (lo hi:Option Int) (n:Nat):(sliceBounds lo hi ζ n).1=((HT.sIx n 0 lo:Nat):Int)/\(sliceBounds lo hi ζ n).2.1=((HT.sIx n n hi:Nat):Int)/\(sliceBounds lo hi ζ n).2.2=1:=by
 refine⟨?_,?_,rfl⟩
 ·cases lo with
  | none=>rfl
  | some i=>
   simp only[sliceBounds,HT.sIx,Option.getD_none,show(1:Int) > 0 by decide,if_true]
   grind
 ·cases hi with
  | none=>rfl
  | some i=>
   simp only[sliceBounds,HT.sIx,Option.getD_none,show(1:Int) > 0 by decide,if_true]
   grind
def vn (its:List XI) (lo hi):slicePick its.toArray lo hi ζ=((its.drop (HT.sIx its.length 0 lo)).take (HT.sIx its.length its.length hi - HT.sIx its.length 0 lo)).toArray:=by
 obtain⟨h1,h2,h3⟩:=yB lo hi its.toArray.size
 unfold slicePick
 rw[h1,h2,h3]
 simp only[sliceRange_one,pick_run,Yr]<;>rfl
abbrev VD (K:gV):V->Option Int->Option Int->Hp->VK->Prop:=fun x lo hi H Q=>∃a xs,x=.ref a/\SqL K H a xs/\∀p,H p=ζ->Q (.ref p) (upd H p (.lst (uV xs lo hi)))
def Ml:SlR X (VD X.K):=by
 intro pins s σ H x v vl vu lo hi sl Q I rx hs pl pu h
 obtain⟨a,xs,rfl,hx,q⟩:=h
 cases rx
 obtain⟨its,r,ht,hz⟩:=I.list hx
 have hlen:=r.length
 refine⟨"list", _,abS.lookup,ht.isList.typeIs,?_⟩
 refine wpAny_getItem_list_slice ht.isList hs pl pu .none {..} ?_ (by simp_all)
 rw[vn,<- hlen]
 refine⟨.ref s.heap.objs.size,_,I.laid (t':=s.toks) (o:=.lst (uV xs lo hi)) (fun b ob q=>XB _ q) (XJ _) ?_,rfl,q _ (I.hok.fresh (XJ _))⟩
 exact⟨XR (pX xs lo hi) hz,_,0,(r.drop (HT.sIx xs.length 0 lo)).take (HT.sIx xs.length xs.length hi - HT.sIx xs.length 0 lo),XN _ rfl⟩
abbrev mn:V->Bool
 | .non=>θ
 | .bl _=>θ
 | .int _=>θ
 | .str _=>θ
 | _=>ψ
abbrev eqV:V->V->Bool
 | .non,.non=>θ
 | .bl a,.bl b=>a == b
 | .bl a,.int b=>(if a then 1 else 0) == b
 | .int a,.bl b=>a == (if b then 1 else 0)
 | .int a,.int b=>a == b
 | .str a,.str b=>a == b
 | _,_=>ψ
def Rx (ry:RelV y u) (rx:RelV x v) (fy:mn y=θ) (fx:mn x=θ):YH A s u v (eqV y x):=by
 cases y with
 | non=>
  cases ry
  cases x with
  | non=>cases rx;exact YH.same _
  | bl b=>cases rx;exact YH.none_bool b
  | int b=>obtain⟨t,rfl⟩:=rx;exact YH.none_int b t
  | str b=>obtain⟨t,rfl⟩:=rx;exact YH.none_str b t
  | _=>exact absurd (show ψ=θ from fx) Yc
 | bl a=>
  cases ry
  cases x with
  | non=>cases rx;exact YH.bool_none a
  | bl b=>cases rx;exact abk a b
  | int b=>obtain⟨t,rfl⟩:=rx;exact YH.bool_int a b t
  | str b=>obtain⟨t,rfl⟩:=rx;exact YH.bool_str a b t
  | _=>exact absurd (show ψ=θ from fx) Yc
 | int a=>
  obtain⟨t',rfl⟩:=ry
  cases x with
  | non=>cases rx;exact YH.int_none a t'
  | bl b=>cases rx;exact YH.int_bool a t' b
  | int b=>obtain⟨t,rfl⟩:=rx;exact YH.int_int a t' b t
  | str b=>obtain⟨t,rfl⟩:=rx;exact YH.int_str a t' b t
  | _=>exact absurd (show ψ=θ from fx) Yc
 | str a=>
  obtain⟨t',rfl⟩:=ry
  cases x with
  | non=>cases rx;exact YH.str_none a t'
  | bl b=>cases rx;exact YH.str_bool a t' b
  | int b=>obtain⟨t,rfl⟩:=rx;exact YH.str_int a t' b t
  | str b=>obtain⟨t,rfl⟩:=rx;exact YH.str_str a t' b t
  | _=>exact absurd (show ψ=θ from fx) Yc
 | _=>exact absurd (show ψ=θ from fy) Yc
abbrev eqU (x:V) (u:XI):Bool:=match u with
 | .none=>eqV .non x
 | .bool b=>eqV (.bl b) x
 | .int i _=>eqV (.int i) x
 | .str z _=>eqV (.str z) x
 | _=>ψ
def Jc (r:RelV y u) (f:mn y=θ):eqU x u=eqV y x:=by
 cases y with
 | non=>cases r;rfl
 | bl b=>cases r;rfl
 | int i=>obtain⟨t,rfl⟩:=r;rfl
 | str z=>obtain⟨t,rfl⟩:=r;rfl
 | _=>exact absurd (show ψ=θ from f) Yc
def nr {x:V}:∀{xs:List V}{us:List XI},Vals xs us->xs.all mn=θ->us.any (eqU x)=xs.any fun y=>eqV y x
 | _,_,.nil,_=>rfl
 | y::xs,u::us,.cons r t,f=>by
  rw[aaS,XX] at f
  rw[Zj,Zj,Jc r f.1,nr t f.2]
def lG {A:YK}{s:XO}{x:V}{v:XI} (rx:RelV x v) (fx:mn x=θ):∀{xs:List V}{us:List XI},Vals xs us->xs.all mn=θ->∀u∈us,YH A s u v (eqU x u)
 | _,_,.nil,_=>fun u hu=>by cases hu
 | y::xs,u::us,.cons r t,f=>fun u' hu=>by
  rw[aaS,XX] at f
  rcases X4.mp hu with rfl | hu
  ·rw[Jc r f.1];exact Rx r rx f.1 fx
  ·exact lG rx fx t f.2 u' hu
abbrev inV (x:V) (xs:List V):Bool:=xs.any fun y=>eqV y x
abbrev rIn (K:gV) (neg:Bool):R2:=fun x y H Q=>∃p xs,y=.ref p/\(SqL K H p xs\/SqT K H p xs)/\mn x=θ/\xs.all mn=θ/\Q (.bl (if neg then !inV x xs else inV x xs)) H
def xp:OpR X (compareOp .In) (rIn X.K ψ):=by
 intro pins s σ H x y v u Q I rx ry h
 obtain⟨p,xs,rfl,hq,fx,fs,q⟩:=h
 cases ry
 rcases hq with hq | hq
 ·obtain⟨its,r,pl,hz⟩:=I.list hq
  refine SeqAt.in_listAt (eqU x) pl.isList (fun w hw=>lG rx fx r fs w (by simp_all)) ⟨.bl _,H,I,rfl,?_⟩
  rw[show its.toArray.any (eqU x)=its.any (eqU x) by simp,nr r fs]
  exact q
 ·obtain⟨its,r,pl,hz⟩:=I.tuple hq
  refine SeqAt.in_tupleAt (eqU x) pl (fun w hw=>lG rx fx r fs w (by simp_all)) ⟨.bl _,H,I,rfl,?_⟩
  rw[show its.toArray.any (eqU x)=its.any (eqU x) by simp,nr r fs]
  exact q
def nP:OpR X (compareOp .NotIn) (rIn X.K θ):=by
 intro pins s σ H x y v u Q I rx ry h
 obtain⟨p,xs,rfl,hq,fx,fs,q⟩:=h
 cases ry
 rcases hq with hq | hq
 ·obtain⟨its,r,pl,hz⟩:=I.list hq
  refine SeqAt.notIn_listAt (eqU x) pl.isList (fun w hw=>lG rx fx r fs w (by simp_all)) ⟨.bl _,H,I,rfl,?_⟩
  rw[show its.toArray.any (eqU x)=its.any (eqU x) by simp,nr r fs]
  exact q
 ·obtain⟨its,r,pl,hz⟩:=I.tuple hq
  refine SeqAt.notIn_tupleAt (eqU x) pl (fun w hw=>lG rx fx r fs w (by simp_all)) ⟨.bl _,H,I,rfl,?_⟩
  rw[show its.toArray.any (eqU x)=its.any (eqU x) by simp,nr r fs]
  exact q
def yN:bU X (.builtin "len") (fun xs H Q=>∃p ys,xs=[.ref p]/\(SqL X.K H p ys\/SqT X.K H p ys)/\Q (.int ys.length) H):=by
 intro pins s σ H xs us Q I r h
 obtain⟨p,ys,rfl,hq,q⟩:=h
 obtain⟨u,rfl,rx⟩:=vals1 r
 cases rx
 have hn:=lg
 rcases hq with hq | hq
 ·obtain⟨its,r',pl,hz⟩:=I.list hq
  have hlen:=r'.length
  exact Calls.call_len_list pl.isList (by grind) ⟨.int ys.length,H,I.tok _,⟨s.toks+1,by simp_all⟩,q⟩
 ·obtain⟨its,r',pl,hz⟩:=I.tuple hq
  have hlen:=r'.length
  exact len_tuple pl (by grind) ⟨.int ys.length,H,I.tok _,⟨s.toks+1,by simp_all⟩,q⟩
def zr:bU X (.builtin "len") (fun xs H Q=>∃z,xs=[.str z]/\z.length<=sizeLine/\Q (.int z.length) H):=by
 intro pins s σ H xs us Q I r h
 obtain⟨z,rfl,hz,q⟩:=h
 obtain⟨u,rfl,t,rfl⟩:=vals1 r
 have hn:=lg
 exact len_str {} ⟨.int z.length,H,I.tok _,⟨_,rfl⟩,q⟩
def bU.or (h:bU X f r) (h':bU X f r'):bU X f (fun xs H Q=>r xs H Q\/r' xs H Q):=by
 intro pins s σ H xs us Q I rs q
 rcases q with q | q
 ·exact h pins s σ H xs us Q I rs q
 ·exact h' pins s σ H xs us Q I rs q
def zK:bU X (.type "list") (fun xs H Q=>∃p ys,xs=[.ref p]/\(SqL X.K H p ys\/SqT X.K H p ys)/\∀l,H l=ζ->Q (.ref l) (upd H l (.lst ys))):=by
 intro pins s σ H xs us Q I r h
 obtain⟨p,ys,rfl,hq,q⟩:=h
 obtain⟨u,rfl,rx⟩:=vals1 r
 cases rx
 have fin:∀(its:List XI),Vals ys its->ys.length<=sizeLine->∀(h':Y2) (c':Nat),(∀b o',s.heap.get? b=ξ o'->h'.get? b=ξ o') →
   h'.get? s.heap.objs.size=ξ { cls:=.type "list", dict:=ζ,data:=.seq its.toArray c',slots:=#[] }->EP X pins σ Q (.ref s.heap.objs.size) { s with heap:=h' }:=fun its r' hz h' c' kp e=>
  ⟨.ref s.heap.objs.size,_,I.laid (t':=s.toks) kp (XJ _) (show cz X.prog X.w _ h' _ (.lst ys) from⟨hz,its,c',r',e⟩),rfl,q _ (I.hok.fresh (XJ _))⟩
 rcases hq with hq | hq
 ·obtain⟨its,r',pl,hz⟩:=I.list hq
  have hlen:=r'.length
  obtain⟨o,ho,hc,n,hd⟩:=pl.isList
  exact call_list_seq p (.inl rfl) ho hc hd (fun h' c' kp e=>fin its r' hz h' c' kp e) (by simp_all)
 ·obtain⟨its,r',pl,hz⟩:=I.tuple hq
  have hlen:=r'.length
  obtain⟨o,ho,hc,n,hd⟩:=pl
  exact call_list_seq p (.inr rfl) ho hc hd (fun h' c' kp e=>fin its r' hz h' c' kp e) (by simp_all)
def vK:bU X (.type "tuple") (fun xs H Q=>∃p ys,xs=[.ref p]/\((SqL X.K H p ys/\∀l,H l=ζ->Q (.ref l) (upd H l (.tup ys)))\/(SqT X.K H p ys/\Q (.ref p) H))):=by
 intro pins s σ H xs us Q I r h
 obtain⟨p,ys,rfl,h⟩:=h
 obtain⟨u,rfl,rx⟩:=vals1 r
 cases rx
 rcases h with⟨hq,q⟩ | ⟨hq,q⟩
 ·obtain⟨its,r',pl,hz⟩:=I.list hq
  have hlen:=r'.length
  refine call_tuple_list pl.isList (fun h' kp=>?_) (by simp_all)
  have I1:Inv X pins σ H { s with heap:=h' }:=I.kept (t':=s.toks) kp
  have I2:Inv X pins σ (upd H h'.objs.size (.tup ys)) { s with heap:=h'.push { cls:=.type "tuple", data:=.seq its.toArray } }:=
   I1.laid (t':=s.toks) (fun b o e=>XB _ e) (XJ _) (show cz X.prog X.w _ _ _ (.tup ys) from⟨hz,its,r',pj.new _ _⟩)
  exact⟨.ref h'.objs.size,_,I2,rfl,q _ (I1.hok.fresh (XJ _))⟩
 ·obtain⟨its,r',pl,hz⟩:=I.tuple hq
  exact call_tuple_same pl ⟨.ref p,H,I,rfl,q⟩
abbrev tyV (K:gV) (T:String) (x:V) (H:Hp):Prop:=match x with
 | .str _=>T="str"
 | .int _=>T="int"
 | .ref p=>(T="list" /\ ∃xs,SqL K H p xs)\/(T="tuple" /\ ∃o,K.lookup p=ξ o/\o.cls=.type "tuple" /\ o.dict=ζ) ∨
   (T="dict" /\ ((∃kvs,H p=ξ (.dK kvs))\/∃kvs,H p=ξ (.dT kvs)))\/(T="set" /\ ∃S n,H p=ξ (.set S n))\/(T="tuple" /\ ∃xs,H p=ξ (.tup xs))
 | _=>False
def JO {pins:List (XW × Obj)}{σ:St}{H:Hp}{s:XO}{T:String}{x:V}{v:XI} (I:Inv X pins σ H s) (r:RelV x v) (ty:tyV X.K T x H) :
  s.TypeIs v T/\∀a,v=.ref a->∃ob,s.heap.get? a=ξ ob/\ob.dict=none:=by
 cases x with
 | str z=>
  obtain⟨t,rfl⟩:=r
  cases (show T="str" from ty)
  exact⟨acu s z t,fun _ e=>nomatch e⟩
 | int i=>
  obtain⟨t,rfl⟩:=r
  cases (show T="int" from ty)
  exact⟨ac7 s i t,fun _ e=>nomatch e⟩
 | ref p=>
  cases r
  rcases ty with⟨rfl,xs,hq⟩ | ⟨rfl,o,hk,hc,hd⟩ | ⟨rfl,hk⟩ | ⟨rfl,S,n,hk⟩ | ⟨rfl,xs,hk⟩
  ·obtain⟨its,_,pl,_⟩:=I.list hq
   refine⟨pl.isList.typeIs,fun a e=>?_⟩
   cases e
   obtain⟨o,n,e,c,hd,_⟩:=pl
   simp_all
  ·refine⟨⟨o,I.kIn p o hk,hc⟩,fun a e=>?_⟩
   cases e
   exact⟨o,I.kIn _ o hk,hd⟩
  ·have z:∃o,s.heap.get? p=ξ o/\o.ExactDict:=by
    rcases hk with⟨kvs,hk⟩ | ⟨kvs,hk⟩
    ·obtain⟨_,_,_,_,o,_,_,e,ex,_⟩:=I.hok p _ hk
     simp_all
    ·obtain⟨_,_,_,_,o,_,_,e,ex,_⟩:=I.hok p _ hk
     simp_all
   obtain⟨o,e,ex⟩:=z
   refine⟨⟨o,e,ex.1⟩,fun a e2=>?_⟩
   cases e2
   exact⟨o,e,ex.2.1⟩
  ·obtain⟨o,_,_,_,e,ex,_⟩:=I.hok p _ hk
   refine⟨⟨o,e,ex.1⟩,fun a e2=>?_⟩
   cases e2
   exact⟨o,e,ex.2.1⟩
  ·obtain⟨_,_,_,o,e,⟨c,_⟩,hd⟩:=I.hok p _ hk
   refine⟨⟨o,e,c⟩,fun a e2=>?_⟩
   simp_all
 | _=>exact ZU ty
abbrev V1 (K:gV) (T:String) (r:V->List V->Hp->VK->Prop) (to:TE):TE:=fun σ H Q=>to σ H fun x H1=>tyV K T x H1/\r x [] H1 Q
abbrev tBM (K:gV) (T:String) (r:V->List V->Hp->VK->Prop) (to:TE) (t:TA):TE:=fun σ H Q=>to σ H fun x H1=>tyV K T x H1/\t σ H1 fun xs H2=>r x xs H2 Q
variable {o e:YL}{es:List YL}{to:TE}{t:TA}{name:Str}{apos cpos:Pos}{T id:String}{r:V->List V->Hp->VK->Prop}
def Jg (pa:PlainAttrs T) (slot:Slot T name id) (hty:typeOf (.builtin id)=pure (.type "method_descriptor")) (hm:MtR X id r) (ho:PE X o to)
  (hbase:attributeBase o name X.env (eval o X.env)=eval o X.env:=by rfl) (hline:(apos.endLine == cpos.line)=true:=by rfl):PE X (.Call (.Attribute o name apos) [] [] cpos) (V1 X.K T r to):=by
 intro pins s σ H Q I h
 refine wpAny_Call_method0_late hbase hline (thn (ho pins s σ H _ I h) fun v s1 zq1=>?_)
 obtain⟨x,H1,I1,r1,ty,q1⟩:=zq1
 obtain⟨h1,h2⟩:=JO I1 r1 ty
 exact⟨T,id,pa,slot,hty,h1,h2,aa0 rfl (PySem.evalArgs_none (hm pins s1 σ H1 x [] v [] Q I1 r1 .nil q1))⟩
def Bt (pa:PlainAttrs T) (slot:Slot T name id) (hty:typeOf (.builtin id)=pure (.type "method_descriptor")) (hm:MtR X id r) (ho:PE X o to) (ha:PA X (e::es) t)
  (hbase:attributeBase o name X.env (eval o X.env)=eval o X.env:=by rfl)
  (hfew:((backTo cpos (starEach (e::es) X.env)).all (fun x=>!x.1)&&(backToKw cpos (keywordEach [] X.env)).all (fun x=>x.1.isSome)
   && decide ((e::es).length+([]:List aa8).length+(if ([]:List aa8).isEmpty then 0 else 1)<30))=true:=by rfl)
  (hline:(apos.endLine == cpos.line)=true:=by rfl) (hs:starEach (e::es) X.env=(ψ,eval e X.env)::starEach es X.env:=by rfl) (hplain:(backTo cpos (starEach es X.env)).any (·.1)=false:=by rfl) :
  PE X (.Call (.Attribute o name apos) (e::es) [] cpos) (tBM X.K T r to t):=by
 intro pins s σ H Q I h
 refine wpAny_Call_method_late hbase hfew hline rfl (thn (ho pins s σ H _ I h) fun v s1 zq1=>?_)
 obtain⟨x,H1,I1,r1,ty,q1⟩:=zq1
 obtain⟨h1,h2⟩:=JO I1 r1 ty
 refine⟨T,id,pa,slot,hty,h1,h2,?_⟩
 have hA:=ha cpos pins s1 σ H1 _ I1 q1
 rw[hs] at hA ⊢
 refine aa0 (by simp_all) (Calls.evalArgs_plain ?_)
 exact thn hA fun us s2 ⟨vs,H2,I2,r2,q2⟩=>hm pins s2 σ H2 x vs v us Q I2 r1 r2 q2
/- xs.append(e),list.index on a module's tuple .. are MtR facts of 06m -/
end
abbrev MtM (X:Cx) (id:String) (r:V->List V->Hp->VK->Prop):Prop:=
 ∀pins s (σ:St) H x xs v us Q , Inv X pins σ H s->RelV x v->Vals xs us->r x xs H Q →
  wpAny (model X.prog X.w) X.A (call (.builtin id) (v::us)) (EP X pins σ Q) X.xe s
def Vals.one {x:V}{us:List XI} (h:Vals [x] us):∃u,us=[u]/\RelV x u:=by
 cases h with | cons r t=>
 cases t
 exact⟨_,rfl,r⟩
def Vals.zero:∀{us:List XI},Vals [] us->us=[]
 | _,.nil=>rfl
def Vals.dropLast (h:Vals xs us):Vals xs.dropLast us.dropLast:=by
 induction h with
 | nil=>exact .nil
 | cons r t ih=>
  cases t with
  | nil=>grind
  | cons q t'=>exact .cons r ih
def Vals.eraseIdx:∀{xs:List V}{us:List XI} i , Vals xs us->Vals (xs.eraseIdx i) (us.eraseIdx i)
 | _,_,_,.nil=>.nil
 | _,_,0,.cons _ t=>t
 | _,_,i+1,.cons r t=>.cons r (Vals.eraseIdx i t)
def Vals.reverse (h:Vals xs us):Vals xs.reverse us.reverse:=by
 induction h with
 | nil=>exact .nil
 | cons r t ih=>rw[abT,abT];exact Vals.append ih (.cons r .nil)
def Vals.rep {xs:List V}{us:List XI} (h:Vals xs us):∀k:Nat,Vals (X0 k xs).flatten (X0 k us).flatten
 | 0=>.nil
 | k+1=>by
  rw[aaG,aaG,abU,abU]
  exact Vals.append h (Vals.rep h k)
def foldl_rep (its:List XI):∀(k:Nat) (acc:List XI),
  ac8 (fun x1 x2=>x1++x2) acc.toArray (X0 k its.toArray)=(acc++(X0 k its).flatten).toArray
 | 0,acc=>{..}
 | k+1,acc=>by
  have e:acc.toArray++its.toArray=(acc++its).toArray:={..}
  have e2:(acc++its)++(X0 k its).flatten=acc++(X0 (k+1) its).flatten:=by
   grind
  rw[<- e2,<- foldl_rep its k (acc++its),<- e,aaG,Y_]
section
variable {X:Cx}{pins:List (XW × Obj)}{σ:St}{H:Hp}{s:XO}{l b:XW}{xs ys zs:List V}
def Inv.Qx {its its':List XI} (I:Inv X pins σ H s) (hH:H l=ξ (.lst xs))
  (e:s.heap.get? l=ξ { cls:=.type "list", data:=.seq its.toArray n }) (hf:f its.toArray=its'.toArray) (hv:Vals ys its') (hz:ys.length<=sizeLine) :
  Inv X pins σ (upd H l (.lst ys)) { s with heap:=s.heap.update l (acv f),toks:=t' }:=by
 have q:=PySem.IsL.update e f
 rw[hf] at q
 refine I.write (x:=l) (e:=l) (by rw[hH];exact trivial) (.inl rfl) (fun b' u hb hu=>(YJ s.heap (acv f) (aac hb)).trans hu) ⟨_,q⟩ ?_
 exact⟨hz,its',_,hv,q⟩
def Inv.DC (I:Inv X pins σ H s) (hv:Vals ys its) (hz:ys.length<=sizeLine) :
  Inv X pins σ (upd H s.heap.objs.size (.lst ys)) { s with heap:=s.heap.push { cls:=.type "list", data:=.seq its.toArray },toks:=t' }:=
 I.laid (fun _ _ q=>XB _ q) (XJ _) ⟨hz,its,0,hv,XN _ rfl⟩
def Inv.fresh (I:Inv X pins σ H s):H s.heap.objs.size=none:=I.hok.fresh (XJ _)
def Inv.QN (I:Inv X pins σ H s) (hH:H l=ξ (.lst xs)):xs.length<=sizeLine/\∃its n,Vals xs its/\xs.length=its.length/\s.heap.get? l=ξ { cls:=.type "list", data:=.seq its.toArray n }:=by
 obtain⟨z,its,n,r,e⟩:=I.hok l _ hH
 exact⟨z,its,n,r,r.length,e⟩
def Lu (h:n<=sizeLine):aaL n=false:=by
 unfold aaL
 simp_all
end
section
variable {X:Cx}
abbrev D_:V->List V->Hp->VK->Prop:=fun x vs H Q=>∃l xs y,x=.ref l/\vs=[y]/\H l=ξ (.lst xs)/\xs.length<sizeLine/\Q .non (upd H l (.lst (xs++[y])))
def fM:MtM X "list.append" D_:=by
 intro pins s σ H x vs v us Q I rx rv h
 obtain⟨l,xs,y,rfl,rfl,hH,hz,q⟩:=h
 cases rx
 obtain⟨u,rfl,ru⟩:=rv.one
 obtain⟨z,its,n,r,hl,e⟩:=I.QN hH
 refine aab F.slot_list_append ⟨_,e,rfl⟩ F.entry_list_append (F.args_list_append_2 _ _) (PySem.list_append l its.toArray n u (by simp_all)) ⟨e,?_⟩
 refine⟨.non,_,I.Qx (its':=its++[u]) hH e {..} (r.append (.cons ru .nil)) ?_,rfl,q⟩
 grind
abbrev RW:V->List V->Hp->VK->Prop:=fun x vs H Q=>∃l xs y,x=.ref l/\vs=[]/\H l=ξ (.lst xs)/\xs[xs.length - 1]?=ξ y/\Q y (upd H l (.lst xs.dropLast))
def PQ:MtM X "list.pop" RW:=by
 intro pins s σ H x vs v us Q I rx rv h
 obtain⟨l,xs,y,rfl,rfl,hH,hy,q⟩:=h
 cases rx
 have hus:=rv.zero
 subst hus
 obtain⟨z,its,n,r,hl,e⟩:=I.QN hH
 obtain⟨u,hu,ru⟩:=r.get hy
 have hy':its.toArray[its.toArray.size - 1]?=ξ u:=by
  simp_all
 refine aab F.slot_list_pop ⟨_,e,rfl⟩ F.entry_list_pop (F.args_list_pop_1 _) (MeetsSeq.list_pop_last l its.toArray n u hy' (by simp_all)) ⟨e,?_⟩
 refine⟨y,_,I.Qx (its':=its.dropLast) hH e ?_ r.dropLast ?_,ru,q⟩
 ·simp
 grind
abbrev HM:V->List V->Hp->VK->Prop:=fun x vs H Q=>∃l xs i k y,x=.ref l/\vs=[.int i]/\H l=ξ (.lst xs)/\-(2 ^ 63)<=i/\i<2 ^ 63/\seqIndex? i xs.length=ξ k/\xs[k]?=ξ y/\Q y (upd H l (.lst (xs.eraseIdx k)))
def Jh:MtM X "list.pop" HM:=by
 intro pins s σ H x vs v us Q I rx rv h
 obtain⟨l,xs,i,k,y,rfl,rfl,hH,h1,h2,hk,hy,q⟩:=h
 cases rx
 obtain⟨u,rfl,ru⟩:=rv.one
 obtain⟨t,rfl⟩:=ru
 obtain⟨z,its,n,r,hl,e⟩:=I.QN hH
 obtain⟨w,hw,rw'⟩:=r.get hy
 refine aab F.slot_list_pop ⟨_,e,rfl⟩ F.entry_list_pop (F.args_list_pop_2 _ _)
  (MeetsSeq.list_pop_at l its.toArray n i t k w (fitsIndex_both h1 h2) (by simp_all) (by simp_all) (by simp_all)) ⟨e,?_⟩
 refine⟨y,_,I.Qx (its':=its.eraseIdx k) hH e ?_ (r.eraseIdx k) ?_,rw',q⟩
 ·simp
 grind
def len_rep {α:Type} (xs:List α) (k):(X0 k xs).flatten.length=k*xs.length:=by
 simp
end
end L2
namespace Att
open PySem PySem.W PySem.Calls PyProof.Rows
def qz:∀ns vs , WellAll P h vs (ns.map WData.int)->acC vs ns:=by
 intro ns
 induction ns with
 | nil=>
  intro vs w
  rw[Z3] at w
  cases w
  exact .nil
 | cons n ns ih=>
  intro vs w
  rw[XT] at w
  cases w with
  | cons a b=>
   cases a
   exact .cons _ _ (ih _ b)
def G8 {l:adq} (hn:l.most=ξ n)
  (hpre:l.row.toRowW.claim.pre args=θ) (hwl:WellAll P h vals args) :
  ∃a vs ns,vals=[Yj a]/\args=[WData.list (ns.map WData.int)]/\h.get? a=ξ { cls:=.type "list", data:=.seq vs.toArray }/\acC vs ns/\ns.length<=n:=by
 have hsh:WShape.hasAll [] args [.list .int]=true:=(pre_splitW hpre).1
 have hc:l.pre.holds [] { args:=args }=true:=(pre_splitW hpre).2
 obtain⟨d,r,rfl,h1,h2⟩:=hasAllW_cons hsh
 obtain rfl:=hasAllW_nil h2
 obtain⟨xs,rfl,h3⟩:=hasW_list h1
 obtain⟨ns,rfl⟩:=items_int h3
 have hlen:ns.length<=n:=by
  unfold adq.pre at hc
  have h4:(WTm.not (.lt (.lit (.int (n:Int))) (.len (.arg 0)))).holds [] { args:=[.list (ns.map .int)] }=true:=by
   have h4:=(holds_andW hc).1
   simp_all
  have h5:=condW_of h4 (w_not (w_lt w_lit (w_len_list (w_arg rfl))))
  simp_all
 cases hwl with
 | cons w1 w2=>
  cases w2
  cases w1 with
  | list ho hall=>exact⟨_,_,ns,rfl,rfl,ho,qz ns _ hall,hlen⟩
def FH (l:adq) (args):l.row.toRowW.claim.post args (.bool θ) args=true:=
 postW_of (r:=l.row.toRowW) (X:=(θ == θ))
  (show WShape.has [] (.bool θ) .bool=θ by rfl)
  (show(WTm.eq .res (.lit (.bool θ))).value [] { args:=args,res:=ξ (.bool θ),after:=args }=ξ (.bool (θ == θ)) from w_eq_bool (w_res rfl) w_lit) rfl
def AX {l:adq}
  (hn:l.most=ξ n) (hdf:d.params.defaults=[])
  (call:∀w aP s₁ mg mb fa o pm cd doc a vs ns ,
   Ground q loose [] XP w aP mg mb s₁.heap->YP w s₁.heap →
   s₁.heap.get? fa=ξ o->o.data=.func (docDef d.name d.params d.body d.scope pm cd doc)->s₁.heap.CodeRec cd d.name->mg d.name=ξ (.ref fa) →
   s₁.heap.get? a=ξ { cls:=.type "list", data:=.seq vs.toArray }->acC vs ns->ns.length<=n->s₁.gens = #[] →
   codeAny (model l.prog w) callerA (.call (.ref fa) ⟨[.ref a],[]⟩) (fun r s'=>r=.ok (.ret (.bool θ))/\OldK s₁.heap s'.heap/\s'.os=s₁.os/\ab0 s'.gens) s₁) :
  WalkO q loose XP YP l.row.toRowW d [] (fun f vs=>ac9 f vs):=by
 intro w aP s₁ mg mb G Y fa o pm cd doc dV kV ho hd hcd hD hmg hg args vals as hpre hlay hrd hwl hlo
 obtain rfl:dV=.none:=Dflts.none hD hdf
 obtain rfl:kV=.none:=Dflts.noKw hD
 obtain⟨a,vs,ns,rfl,rfl,hobj,hints,hlen⟩:=G8 hn hpre hwl
 refine enter_call (Zc (call w aP s₁ mg mb fa o pm cd doc a vs ns G Y ho (fd_plain hd) hcd hmg hobj hints hlen hg) fun r s' hq=>?_)
 obtain⟨rfl,h2,h3,h4⟩:=hq
 exact⟨.inl ⟨.bool θ,.bool θ,[],rfl,fun _=>rfl,.bool θ,FH l _,fun _=>⟨acK.nil,fun _ hm=>(nomatch hm)⟩⟩,h2,h3,h4⟩
end Att
namespace L2
open PySem PySem.Spec PyProof.Rows
def xk:∀{vs:List XI}{ns:List Int},acC vs ns->Vals (ns.map V.int) vs
 | _,_,.nil=>.nil
 | _,_,.cons n t h=>.cons ⟨t,rfl⟩ (xk h)
abbrev Vv (H:Hp):Prop:=∀b,H b=ζ\/∃o xs,H b=ξ (.frz o (.lst xs))
end L2
/- THE LAST THEOREM (shape;LID,My.* are yours):
  My.Adr: a structure of the addresses that your layer names (classes,functions);My.Txt K t: a structure (Prop) of the equations over K;
  My.txt_mk:{K} {implicit addresses ..} (e1:nsIn K mainGlobals "law" = ξ (ξ (.ref f))) (e2:K.lookup f=ξ ⟨oc,od,.func (fnOf "law" "law" params body scope dV kV doc pm an cdv ct),sl⟩) (e3:codeIn K cdv "law" = θ) .. : ∃t,My.Txt K t
(the tactic k_is has no namespace: write k_is) -/
namespace L2
open PySem PySem.Spec PyProof.Rows
abbrev dq (s:aaN):acG:=match s with
 | .FunctionDef _ a _ _ _ _ _ _ _ _=>a
 | _=>{ posonlyargs:=[],args:=[],vararg:=ζ,kwonlyargs:=[],kw_defaults:=[],kwarg:=ζ,defaults:=[] }
abbrev br (s:aaN):List aaN:=match s with
 | .FunctionDef _ _ b _ _ _ _ _ _ _=>b
 | _=>[]
abbrev aj (s:aaN):abe:=match s with
 | .FunctionDef _ _ _ _ _ _ sc _ _ _=>sc
 | _=>{ kind:=.function,names:=[],isGenerator:=ψ,isCoroutine:=ψ }
@[inline]abbrev CX0:CXT:=fun _ _ _ _ _ _=>False
@[inline]abbrev E0:XK:=fun _ _ _=>False
def Oz:Passes CX0 X E0:=fun _ _ _ _ _ _ _ h=>h.elim
structure Fun (K) (x qual) (st) (f) (fd):Prop where
 ex:∃oc od kV doc pm an cdv ct osl,
  fd=Yz x qual (dq st) (br st) (aj st) .none kV doc pm an cdv ct/\K.lookup f=some ⟨oc,od,.func fd,osl⟩/\aaa K cdv qual=true
 kp:X6 K (.ref f)=true
section
variable {P:X5}{w:Yw}{K:gV}{mg:Str->Option XI}{base:Y2}
def Fun.ok {st:aaN} (F:Fun K x qual st f fd) (S:a9 N ps (aj st)) (len:∀vs H Q E,sp vs H Q E->vs.length=ps.length)
  (hbody:∀cdv A outer s H vs Q E , b8 k (A.deeper (envOfC qual (aj st) s.heap.objs.size f cdv))->sp vs H Q E →
   ∃t,PSs (gF CX0 P w K mg base N qual (aj st) f cdv A outer s H E).nox (br st) t/\t { nx:=fun _ H'=>Q .non H',rt:=Q } (start N vs) H):cJ P w K mg base CX0 (k+1) f fd ps sp:=by
 obtain⟨oc,od,kV,doc,pm,an,cdv,ct,osl,rfl,lk,hcd⟩:=F.ex
 refine Ox lk hcd S len fun A outer s H vs Q E hr hsp=>?_
 obtain⟨t,h,q⟩:=hbody cdv A outer s H vs Q E hr hsp
 exact⟨t,h.nox,q⟩
def Fun.binds {st:aaN} (F:Fun K x qual st f fd)
  (h:∀kV doc pm an cdv ct us , us.length=ps.length->bindArgs (Yz x qual (dq st) (br st) (aj st) .none kV doc pm an cdv ct) ⟨us,[]⟩=pure (ps.zip us)):Binds K fd ps []:=by
 obtain⟨oc,od,kV,doc,pm,an,cdv,ct,osl,rfl,lk,hcd⟩:=F.ex
 exact .all (h kV doc pm an cdv ct)
def xS {st:aaN}{kV doc pm cdv ct:XI} (l:K.lookup f=ξ ⟨oc,od,.func (Yz x qual (dq st) (br st) (aj st) .none kV doc pm an cdv ct),osl⟩)
  (c:aaa K cdv qual=θ) (k:X6 K (.ref f)=θ):Fun K x qual st f (Yz x qual (dq st) (br st) (aj st) .none kV doc pm an cdv ct):=⟨⟨oc,od,kV,doc,pm,an,cdv,ct,osl,rfl,l,c⟩,k⟩
end
abbrev PTs (X:Cx) (ifs:List YL) (t:TT):Prop:=
 ∀pins s (σ:St) H Q , Inv X pins σ H s->t σ H Q →
  wpAny (model X.prog X.w) X.A (forIn ifs θ fun c r=>if r=θ then do let ok ← isTrue c X.env (eval c X.env);pure (Za ok) else pure (Za r)) (TP X pins σ Q) X.xe s
abbrev Tq:TT:=fun _ H Q=>Q θ H
def L8:PTs X [] Tq:=fun _ _ _ H _ I h=>wpAny_tests_nil ⟨H,I,h⟩
def M6 (h:PT X c t):PTs X [c] t:=fun pins s σ H Q I q=>wpAny_tests_one (h pins s σ H Q I q)
def pV (I:Nat->XO->Prop)
  (turn:∀n s,I n s->wpAny (model prog w) A (pyNext it) (fun r s₁=>match r with
   | none=>R (.ok .next) s₁
   | some v=>wpAny (model prog w) A (letOwnedTupleGo target it v) (fun _ s₁=>wpAny (model prog w) A (assign target env v) (fun _ s₂=>
     wpAny (model prog w) A (forIn ifs θ fun c r=>if r=θ then do let ok ← isTrue c env (eval c env);pure (Za ok) else pure (Za r)) (fun ok s₃=>
      if ok=θ then wpAny (model prog w) A (eval elt env) (fun x s₄=>
       wpAny (model prog w) A (call (.builtin "list.append") [acc,x]) (fun _ s₅=>∃m,m<n/\I m s₅) (fun _ _=>False) s₄) (fun _ _=>False) s₃
      else ∃m,m<n/\I m s₃) (fun _ _=>False) s₂) (fun _ _=>False) s₁) (fun _ _=>False) s₁) (fun _ _=>False) s)
  (n) (h:I n s) :
  codeAny (model prog w) A (.compLoop (.ListComp elt [⟨target,iter,ifs,0⟩] scope pos) 0 it acc env) R s:=by
 refine codeAny_loop rfl I (fun n s hI=>?_) n h
 refine wpAny_noted ?_
 refine wpAny_noRaise ?_
 refine td (ZP (td (Yl (turn n s hI) (fun r s₁ h₁=>?_) fun _ _ h'=>h')))
 cases r with
 | none=>exact XG h₁
 | some v=>
  refine td (Yl h₁ (fun _ s₁' h₁'=>?_) fun _ _ h'=>h')
  refine td (Yl h₁' (fun _ s₂ h₂=>td (Yl h₂ (fun ok s₃ h₃=>?_) fun _ _ h'=>h')) fun _ _ h'=>h')
  cases ok with
  | false=>exact XG ⟨rfl,h₃⟩
  | true=>
   exact td (td (Yl h₃ (fun x s₄ h₄=>td (Yl h₄ (fun _ s₅ h₅=>XG (XG ⟨rfl,h₅⟩)) fun _ _ h'=>h')) fun _ _ h'=>h'))
abbrev cb (X:Cx) (scope:abe) (cl:List (Str × XW)) (C:XW) (aP:XO) (a_:Hp) (fp:List XW) (N':List Str):Cx:=
 { X with N:=N',aP:=aP,a_:=a_,env:=compEnvC scope cl C X.env,outer:=X.stack,ex:=fp,fn:=fun _=>ψ,pn:=[] }
def mT {env:Env}:∀(names:List (Str × ZG)) (cs:List (Str × XW)),(∀y∈names,y.2=.free->∃a,env.cells.lookup y.1=ξ a)->(∀x c,cs.lookup x=ξ c->env.cells.lookup x=ξ c) →
  ∃cl:List (Str × XW),(forIn names cs fun(y:Str × ZG) (r:List (Str × XW))=>if (y.2 == aao)=θ then do let a ← cellOf env y.1;pure (Za ((y.1,a)::r)) else pure (Za r):Sem (List (Str × XW)))=pure cl ∧
   (∀x c,cl.lookup x=ξ c->env.cells.lookup x=ξ c)/\(∀x,((x,aao)∈names\/∃c,cs.lookup x=ξ c)->∃c,cl.lookup x=ξ c)
 | [],cs,_,h=>⟨cs,rfl,h,fun x hx=>by
   simp_all⟩
 | (n,k)::r,cs,hf,h=>by
  by_cases hk:k=.free
  ·subst hk
   obtain⟨a,ha⟩:=hf (n,.free) {..} rfl
   obtain⟨cl,e,h1,h2⟩:=mT r ((n,a)::cs) (fun y hy=>hf y (XM _ hy)) (fun x c q=>by
    grind)
   refine⟨cl,?_,h1,fun x hx=>?_⟩
   ·rw[acj]
    have e0:cellOf env n=pure a:=by unfold cellOf;rw[ha]
    simp_all
   ·have hc:∀z c,cs.lookup z=ξ c->∃c,((n,a)::cs).lookup z=ξ c:=fun z c q=>by
     grind
    rcases hx with z | ⟨c,z⟩
    ·rcases X4.mp z with q | q
     ·simp_all
     simp_all
    simp_all
  ·obtain⟨cl,e,h1,h2⟩:=mT r cs (fun y hy=>hf y (XM _ hy)) h
   grind
def mx (h:∀y∈scope.names,y.2=.free->∃a,env.cells.lookup y.1=ξ a) :
  ∃cl:List (Str × XW),closureFor scope env=pure cl/\(∀x c,cl.lookup x=ξ c->env.cells.lookup x=ξ c)/\(∀x,(x,aao)∈scope.names->∃c,cl.lookup x=ξ c):=by
 obtain⟨cl,e,h1,h2⟩:=mT scope.names [] h (fun x c q=>by cases q)
 refine⟨cl,?_,h1,fun x hx=>h2 x (.inl hx)⟩
 exact aaB (congrArg (fun t:Sem (List (Str × XW))=>t >>= fun cs=>pure cs) e) rfl
def lookup_mem {x:Str}{k:ZG}:∀{names:List (Str × ZG)},names.lookup x=ξ k->(x,k)∈names
 | [],h=>by cases h
 | (n,j)::r,h=>by
  rw[List.lookup_cons] at h
  cases hx:x == n with
  | true=>
   simp_all
  | false=>rw[hx] at h;exact XM _ (lookup_mem h)
def e_ {env:Env} (hf:env.scope.kind=.function):∀{names:List (Str × ZG)}{x:Str},names.lookup x=ξ .free->env.kindOf x=ξ .cell →
  (names.map fun(n,k)=>if (k == aao&&env.scope.kind == .function&&env.kindOf n == ξ .cell) then (n,ZG.cell) else (n,k)).lookup x=ξ .cell
 | [],_,h,_=>by cases h
 | (n,k)::r,x,h,hc=>by
  have ih:=@e_ env hf r x
  grind
def fU {env:Env}:∀{names:List (Str × ZG)}{x:Str}{k:ZG},(names.map fun(n,k)=>if (k == aao&&env.scope.kind == .function&&env.kindOf n == ξ .cell) then (n,ZG.cell) else (n,k)).lookup x=ξ k →
  names.lookup x=ξ k\/(names.lookup x=ξ .free/\k=.cell)
 | [],_,_,h=>by cases h
 | (n,j)::r,x,k,h=>by
  have ih:=@fU env r x k
  grind
abbrev ik (ix:List Nat) (σ:St):St:=none::ix.map fun i=>(σ[i]?).join
@[inline]abbrev RQ (J:It) (tt:TT) (te:TE) (σ':V->St) (acc:XW) (H1:Hp) (Q:VK):Prop:=
 ∃W:Nat->Nat->List V->Hp->Prop,(∃m,W 0 m [] (upd H1 acc (.lst [])))/\∀i m ys H,W i m ys H →
  (J.stop i H/\Q (.ref acc) H)\/(J.go i H/\∀x H',J.yld i H x H'->tt (σ' x) H' fun b H2=>if b=θ then te (σ' x) H2 fun y H3=>
    H3 acc=ξ (.lst ys)/\ys.length<sizeLine/\∃m',m'<m/\W (i+1) m' (ys++[y]) (upd H3 acc (.lst (ys++[y])))
   else ∃m',m'<m/\W (i+1) m' ys H2)
abbrev Fj (wi:TI) (ix:List Nat) (tt:TT) (te:TE):TE:=fun σ H Q=>wi σ H fun J H1=>∀acc,H1 acc=ζ->RQ J tt te (fun x=>(ik ix σ).set 0 (ξ x)) acc H1 Q
def HOk.sameBut (x:HOk P w H h) (hn:H C=ζ) (k:∀b u,b≠C->h.get? b=ξ u->h'.get? b=ξ u):HOk P w H h':=fun b u e=>by
 have nC:∀b u,H b=ξ u->b≠C:=fun b u e z=>by simp_all
 refine(x b u e).lY (fun c v hc q=>k c v ?_ q) (fun _ q=>q) fun _ _ q=>q
 grind
def Av:isSubtype (.type "tuple") (.type "set")=pure false:=by rfl
def zd:isSubtype (.type "tuple") (.type "frozenset")=pure false:=by rfl
@[inline]abbrev iu (led:Bool):Obj:={ cls:=.type "set", dict:=ζ,data:=.set #[] 0 (.fresh 0 0 led) }
set_option maxHeartbeats 3200000 in
def set_tuple {prog:X5}{w:Yw}{B:YK}{Er:XI->XO->Prop}{z:XO}{a:XW}{its:Array XI}{zs:List Int}{Q:XI->XO->Prop}
  (hh:B.handled=ζ) (ht:z.heap.IsTuple a its) (hi:acC its.toList zs) (hb:its.size+1<scanBound)
  (fin:∀(g':Y2) (tk:Nat),g'.SetOf (intKind prog w) z.heap.objs.size (fun k'=>(firstMet (fun i=>zs.getD i 0) its.size).any (· == k')) (firstMet (fun i=>zs.getD i 0) its.size).length →
   (∀b o,b<z.heap.objs.size->z.heap.get? b=ξ o->g'.get? b=ξ o)->Q (.ref z.heap.objs.size) { z with heap:=g',toks:=tk }) :
  wpAny (model prog w) B (call (.type "set") [.ref a]) Q Er z:=by
 obtain⟨_,_,_⟩:=aal.mro
 have:=aal.made
 have:=aal.sub
 refine Z_ (ack ?_)
 show wpAny _ _ (callAny (.type "set") _) _ _ _
 refine XG ⟨abG _ {:_},abv F.entry_type_call ?_⟩
 rw[YK.under_plain (weight_type_call_type "set" [.ref a] []) rfl]
 have:=aal.notType
 have:=aal.canCreate
 have:=F.typeCall_set_1 (.ref a)
 repeat (any_goals (first | assumption | wp_step))
 refine Zc (code_set_new_1 (.ref a) (E:=Er) (Q₁:=fun v y=>∃led:Bool,v=.ref z.heap.objs.size/\y={ z with heap:=z.heap.push (iu led) }) fun led=>⟨led,rfl,rfl⟩) fun r y hr=>?_
 cases r with
 | error e=>exact hr
 | ok fl=>
  cases fl with
  | ret v=>
   obtain⟨led,rfl,rfl⟩:=hr
   have hS:(z.heap.push (iu led)).get? z.heap.objs.size=ξ (iu led):=XN _ rfl
   have hT:XO.TypeIs { z with heap:=z.heap.push (iu led) } (.ref z.heap.objs.size) "set" := ⟨_,hS,rfl⟩
   have:=aal.init.lookup
   have:=aal.init.bind (.ref z.heap.objs.size)
   repeat (any_goals (first | assumption | wp_step))
   refine Zc (aaw (R:=wants (fun r y=>r=.none/\∃g' tk,y={ z with heap:=g',toks:=tk } ∧
     g'.SetOf (intKind prog w) z.heap.objs.size (fun k'=>(firstMet (fun i=>zs.getD i 0) its.size).any (· == k')) (firstMet (fun i=>zs.getD i 0) its.size).length ∧
     (∀b o,b<z.heap.objs.size->z.heap.get? b=ξ o->g'.get? b=ξ o)) Er) aal.init.plain F.entry_set_init (check_set_init_1 hT ?_)) fun r₂ y₂ hr₂=>?_
   ·obtain⟨ol,hol,hcl,nl,hdl⟩:=id ht
    obtain⟨oc,od,oda,osl⟩:=ol
    simp only at hcl hdl
    subst hcl;subst hdl
    have hol':(z.heap.push (iu led)).get? a=ξ { cls:=.type "tuple", dict:=od,data:=.seq its nl,slots:=osl }:=XB _ hol
    have:=Av
    have:=zd
    have:(acs "tuple" == acs "dict")=false:=by decide
    have ht1:(z.heap.push (iu led)).IsTuple a its:=⟨_,hol',rfl,nl,rfl⟩
    unfold ZJ.«set.__init__» noKeywords ZJ.Frozenset.updateFrom
    generalize hPI:pyIter=PI
    wp_walk
    subst hPI
    refine aaf ht1 ?_
    refine td (wpAny_runValue ?_)
    have hlS:a<z.heap.objs.size:=XH hol
    have hneI:a≠(z.heap.push (iu led)).objs.size:=by
     rw[aa_];exact XZ (Nat.lt_succ_of_lt hlS)
    have hSf:z.heap.objs.size∉[(z.heap.push (iu led)).objs.size,a]:=by
     rw[aa_];simp only[X4,Yg,ab8,or_false,not_or]
     exact⟨XZ (YQ _),Z1 hlS⟩
    have hval:∀(i:Nat) (v:XI),its[i]?=ξ v->∃t,v=.int ((fun i=>zs.getD i 0) i) t:=fun i v hv=>acC.int_at hi i v (by rw[Array.getElem?_toList];exact hv)
    refine codeAny_set_update_loopS ((Walks.tuple (by simp[hh]) _ a hneI its).toS) z.heap.objs.size
     hSf (fun i=>zs.getD i 0) hval hb (its.size - 0) 0 _ {} (aaF _)
     ⟨⟨_,XN _ rfl,rfl,rfl⟩,?hP⟩ ?hS0 ?hR
    case hP=>exact⟨_,XB _ hol',rfl,nl,rfl⟩
    case hS0=>
     exact SetOf_congr ((setObjOf_fresh (knd:=intKind prog w) led).setOf (XB _ hS) (by unfold scanBound;lia)) (fun _=>rfl) rfl
    case hR=>
     intro s' hm hS'
     obtain⟨h',g',d',tk',os'⟩:=s'
     obtain rfl:g'=z.gens:=hm.gens
     obtain rfl:d'=z.drawn:=hm.drawn
     obtain rfl:os'=z.os:=hm.os
     show wpAny _ _ _ _ _ _
     refine XG ?_
     show wpAny _ _ (ret ZN) _ _ _
     refine XG ⟨rfl,h',tk',rfl,hS',fun b o hb e=>?_⟩
     refine hm.heap b o ?_ (XB _ (XB _ e))
     simp only[X4,Yg,ab8,or_false,not_or]
     refine⟨XZ hb,?_⟩
     show b≠(z.heap.push (iu led)).objs.size
     rw[aa_];exact XZ (Nat.lt_succ_of_lt hb)
   ·cases r₂ with
    | error e=>exact hr₂
    | ok fl₂=>
     cases fl₂ with
     | ret r=>
      obtain⟨rfl,g',tk,rfl,hS',hk'⟩:=hr₂
      repeat (any_goals (first | assumption | wp_step))
      exact fin _ _ hS' hk'
     | _=>exact hr₂.elim
  | _=>exact hr.elim
section
variable {X:Cx}
def A_:bU X (.builtin "isinstance") (fun vs H Q=>∃x t n b,vs=[x,.ty n]/\mS X.K H x t/\Y3 X.K t (.type n)=ξ b/\Q (.bl b) H):=by
 intro pins s σ H xs us Q I r h
 obtain⟨x,t,n,b,rfl,ty,e,q⟩:=h
 obtain⟨u,w',rfl,r1,r2⟩:=vals2 r
 cases r2
 exact Gf I r1 ty e fun tk=>⟨.bl b,H,I.tok tk,rfl,q⟩
abbrev unl (ns:List Int):List Int:=firstMet (fun i=>ns.getD i 0) ns.length
def yj (hc:X.calm=θ):bU X (.type "set") (fun vs H Q=>∃p ns,vs=[.ref p]/\SqT X.K H p (ns.map V.int)/\ns.length+1<scanBound/\∀l,H l=ζ->Q (.ref l) (upd H l (.set (fun k=>(unl ns).any (· == k)) (unl ns).length))):=by
 intro pins s σ H xs us Q I r h
 obtain⟨p,ns,rfl,hq,hb,q⟩:=h
 obtain⟨u,rfl,rx⟩:=vals1 r
 cases rx
 obtain⟨its,r',pl,hz⟩:=I.tuple hq
 have hlen:=r'.length
 rw[XE] at hlen
 have e0:its.toArray.size=ns.length:=by rw[Yr,hlen]
 refine set_tuple (I.ok.hd hc) (show s.heap.IsTuple p its.toArray from pl) (by simpa using intsAre_of r') (by rw[e0];exact hb) fun g' tk hS hk=>?_
 rw[e0] at hS
 exact⟨.ref s.heap.objs.size,_,I.laid (fun b o e=>hk b o (XH e) e) (XJ _) (show cz X.prog X.w _ g' _ (.set _ _) from hS),rfl,q _ (I.hok.fresh (XJ _))⟩
def vi:bU X (.builtin "len") (fun vs H Q=>∃p S n,vs=[.ref p]/\H p=ξ (.set S n)/\Q (.int n) H):=by
 intro pins s σ H xs us Q I r h
 obtain⟨p,S,n,rfl,hH,q⟩:=h
 obtain⟨u,rfl,rx⟩:=vals1 r
 cases rx
 obtain⟨o,es,ep,tb,ho,hex,hd,hel,hmem,hsz,hfit,rfl⟩:=(show s.heap.SetOf (intKind X.prog X.w) p S n from I.hok p _ hH)
 have hb:(es.size:Int)<2 ^ 63:=by unfold scanBound at hsz;lia
 exact PySem.call_len_set ho hex hd hfit hb ⟨.int es.size,H,I.tok _,⟨_,rfl⟩,q⟩
def l6 {lo hi:Option Int} (ht:adp s.heap t items) (hs:s.heap.IsSliceOf sl vl vu .none) (pl:acI vl lo) (pu:acI vu hi)
  (h1:HT.sIx items.size 0 lo=0) (h2:HT.sIx items.size items.size hi=items.size) (h:Q (.ref t) s):wpAny (model prog w) A (getItem (.ref t) (.ref sl)) Q E s:=by
 obtain⟨os,hos,hcs,hds⟩:=id hs
 have hTs:s.TypeIs (.ref sl) "slice" := ⟨os,hos,hcs⟩
 unfold getItem
 try with_reducible refine YA ?_
 refine td (aa7 ht.typeIs (by decide) ?_)
 refine td (Y9 ht.typeIs Ye (ZO Ye ht.typeIs abu ?_ (abE _ _)))
 show wpAny _ _ (aat (.ref t) >>= _) _ _ s
 refine td (acJ ht (td (abg hTs ?_)))
 refine td (HT.jT hs pl pu ?_)
 rw[h1,h2]
 show wpAny _ _ (if (((0:Nat):Int) == 0&&(1:Int) == 1&&(items.size - 0) == items.size)=θ then _ else _) _ _ s
 rw[if_pos {..}]
 refine td (td (abg ht.typeIs (XG ?_)))
 refine td (acS ?_)
 first
  | exact XG ⟨_,rfl,XG h⟩
  | exact td (XG (XG ⟨_,rfl,XG h⟩))
abbrev Sd (K:gV):V->Option Int->Option Int->Hp->VK->Prop:=fun x lo hi H Q=>∃a xs,x=.ref a/\SqT K H a xs/\HT.sIx xs.length 0 lo=0/\HT.sIx xs.length xs.length hi=xs.length/\Q (.ref a) H
def NF:SlR X (Sd X.K):=by
 intro pins s σ H x v vl vu lo hi sl Q I rx hs pl pu h
 obtain⟨a,xs,rfl,hx,h1,h2,q⟩:=h
 cases rx
 obtain⟨its,r,ht,hz⟩:=I.tuple hx
 have hlen:its.toArray.size=xs.length:=by rw[Yr];exact r.length.symm
 refine⟨"tuple", _,Ye.lookup,ht.typeIs,?_⟩
 exact l6 ht hs pl pu (by simp_all) (by simp_all) ⟨.ref a,H,I,rfl,q⟩
def AR (xs:Array XI):((XF xs.size).filterMap fun(k:Nat)=>xs[((xs.size:Int) - 1+(k:Int)*(-1)).toNat]?).toArray=xs.toList.reverse.toArray:=by
 have e:((XF xs.size).filterMap fun(k:Nat)=>xs[((xs.size:Int) - 1+(k:Int)*(-1)).toNat]?)=((XF xs.size).map fun k=>xs.size - 1 - k).filterMap (xs[·]?):=by
  rw[abD]
  have cg:∀(l:List Nat) (f g:Nat->Option XI),(∀k∈l,f k=g k)->l.filterMap f=l.filterMap g:=by
   intro l
   induction l with
   | nil=>intro _ _ _;rfl
   | cons a r ih=>
    intro f g h
    rw[ZC,ZC,h a {..},ih f g fun k hk=>h k (XM _ hk)]
  refine cg _ _ _ fun k hk=>?_
  have e1:((xs.size:Int) - 1+(k:Int)*(-1)).toNat=xs.size - 1 - k:={}
  show xs[((xs.size:Int) - 1+(k:Int)*(-1)).toNat]?=xs[xs.size - 1 - k]?
  rw[e1]
 rw[e,PySem.W.krv_range,List.filterMap_reverse,PySem.W.krv_all]
def oP {prog:X5}{w:Yw}{A:YK}{E:XI->XO->Prop}{s:XO}{sl:XW}{u:Tok}{n:Nat}{Q:Int × Int × Nat->XO->Prop} (hs:s.heap.IsSliceOf sl .none .none (.int (-1) u))
  (h:Q ((n:Int) - 1,-1,n) s):wpAny (model prog w) A (aas (.ref sl) (pure (n:Int))) Q E s:=by
 obtain⟨os,hos,hcs,hds⟩:=id hs
 refine td (td (Zi hos hds rfl (td (Zi hos hds rfl (td (Zi hos hds rfl (XG ?_)))))))
 refine td (slicePart_int ?_)
 show wpAny _ _ (match ZS ζ ζ (-1) (n:Int) with | (lo,hi)=>pure (lo,(-1:Int),Yx lo hi (-1))) _ _ s
 have hp:Yx ((n:Int) - 1) (-1) (-1)=n:=by
  unfold Yx
  grind
 show wpAny _ _ (pure ((n:Int) - 1,(-1:Int),Yx ((n:Int) - 1) (-1) (-1))) _ _ s
 rw[hp]
 exact XG h
def m6 (ht:adp s.heap t items) (hs:s.heap.IsSliceOf sl .none .none (.int (-1) u))
  (h:Q (.ref s.heap.objs.size) { s with heap:=s.heap.push { cls:=.type "tuple", data:=.seq items.toList.reverse.toArray } }) (hsz:items.size<=sizeLine):wpAny (model prog w) A (getItem (.ref t) (.ref sl)) Q E s:=by
 obtain⟨os,hos,hcs,hds⟩:=id hs
 have hTs:s.TypeIs (.ref sl) "slice" := ⟨os,hos,hcs⟩
 unfold getItem
 try with_reducible refine YA ?_
 refine td (aa7 ht.typeIs (by decide) ?_)
 refine td (Y9 ht.typeIs Ye (ZO Ye ht.typeIs abu ?_ (abE _ _)))
 show wpAny _ _ (aat (.ref t) >>= _) _ _ s
 refine td (acJ ht (td (abg hTs ?_)))
 refine td (oP hs ?_)
 show wpAny _ _ (if (((items.size:Int) - 1) == 0&&(-1:Int) == 1&&items.size == items.size)=θ then _ else _) _ _ s
 rw[if_neg {..}]
 rw[AR]
 have hz:sizeOk (.seq items.toList.reverse.toArray):=by
  show items.toList.reverse.toArray.size<=sizeLine
  simp_all
 first
  | exact td (Yo (XG ⟨_,rfl,XG h⟩) hz)
  | exact td (Yo (td (XG (XG ⟨_,rfl,XG h⟩))) hz)
abbrev JN (K:gV):R2:=fun x y H Q=>∃a b ys,x=.ref a/\y=.ref b/\SqT K H a []/\SqT K H b ys/\Q (.ref b) H
def KG:OpR X (binaryOp .Add) (JN X.K):=by
 intro pins s σ H x y v u Q I rx ry h
 obtain⟨a,b,ys,rfl,rfl,ha,hb,q⟩:=h
 cases rx
 cases ry
 obtain⟨its,r1,p1,_⟩:=I.tuple ha
 obtain⟨its2,r2,p2,_⟩:=I.tuple hb
 cases r1
 obtain⟨⟨cls,dd,data,sl⟩,ho,hc,n,hd⟩:=id p1
 obtain⟨⟨cls2,dd2,data2,sl2⟩,ho2,hc2,n2,hd2⟩:=id p2
 subst hc hd hc2 hd2
 exact acX ⟨_,ho,rfl⟩ ⟨_,ho2,rfl⟩ ab7 acH aaZ aaR (aaK _ _)
  (tuple_addW0 a b _ _ n n2 dd dd2 sl sl2 {..}) ⟨ho,ho2,⟨.ref b,H,I,rfl,q⟩⟩
end
open AutoSeq1 (wpAny_loadPart')
abbrev nI (a:XW) (lo hi st:Int):HO:=.ext fun h=>∃t u v,h.get? a=ξ { cls:=.type "range", data:=.fields #[.int lo t,.int hi u,.int st v] }
abbrev uk (lo st:Int) (n:Nat):List Int:=(XF n).map fun(i:Nat)=>lo+(i:Int)*st
def kT (lo st:Int) (n:Nat):(uk lo st n).length=n:=by simp[uk]
def sV {lo st:Int} (h:adk (fun i v=>∃t,v=.int (lo+i*st) t) acc n):Vals ((uk lo st n).map V.int) acc.toList:=by
 obtain⟨hs,hv⟩:=h
 have key:∀(l:List XI) (k:Nat),(∀j v,l[j]?=ξ v->∃t,v=aah (lo+((k+j:Nat):Int)*st) t)->Vals (((ab3 k l.length).map fun(i:Nat)=>lo+(i:Int)*st).map V.int) l:=by
  intro l
  induction l with
  | nil=>intro k _;exact .nil
  | cons a r ih=>
   intro k hk
   refine .cons ?_ (ih (k+1) fun j v e=>?_)
   ·obtain⟨t,q⟩:=hk 0 a rfl
    exact⟨t,{}⟩
   ·obtain⟨t,q⟩:=hk (j+1) v (by simp_all)
    grind
 have:=key acc.toList 0 fun j v e=>by
  simp_all
 unfold uk
 rw[abl,<- hs]
 omega
section
variable {X:Cx}
def Inv.rng {pins:List (XW × Obj)}{σ:St}{H:Hp}{s:XO}{lo hi st:Int}{t u v:Tok}{tk:Nat} (I:Inv X pins σ H s) :
  Inv X pins σ (upd H s.heap.objs.size (nI s.heap.objs.size lo hi st)) { s with heap:=s.heap.push { cls:=.type "range", data:=.fields #[.int lo t,.int hi u,.int st v] },toks:=tk }:=by
 refine I.laid (fun b o e=>XB _ e) (XJ _) ?_
 refine⟨⟨t,u,v,XN _ rfl⟩,⟨_,XN _ rfl⟩,fun h1 h2 ⟨a,b,c,e⟩ k=>⟨a,b,c,k _ e⟩⟩
def Fu:bU X (.type "range") (fun vs H Q=>∃j,vs=[.int j]/\∀p,H p=ζ->Q (.ref p) (upd H p (nI p 0 j 1))):=by
 intro pins s σ H xs us Q I r h
 obtain⟨j,rfl,q⟩:=h
 obtain⟨u,rfl,t,rfl⟩:=vals1 r
 exact call_range_1 ⟨.ref _,_,I.rng,rfl,q _ (I.hok.fresh (XJ _))⟩
def Fp:bU X (.type "range") (fun vs H Q=>∃i j,vs=[.int i,.int j]/\∀p,H p=ζ->Q (.ref p) (upd H p (nI p i j 1))):=by
 intro pins s σ H xs us Q I r h
 obtain⟨i,j,rfl,q⟩:=h
 obtain⟨u,w',rfl,⟨t,rfl⟩,⟨t',rfl⟩⟩:=vals2 r
 exact call_range_2 ⟨.ref _,_,I.rng,rfl,q _ (I.hok.fresh (XJ _))⟩
def FW:bU X (.type "range") (fun vs H Q=>∃i j k,vs=[.int i,.int j,.int k]/\k≠0/\(k.natAbs<1073741824)/\∀p,H p=ζ->Q (.ref p) (upd H p (nI p i j k))):=by
 intro pins s σ H xs us Q I r h
 obtain⟨i,j,k,rfl,hk,hb,q⟩:=h
 cases r with
 | cons r1 r=>
  obtain⟨t1,rfl⟩:=r1
  cases r with
  | cons r2 r=>
   obtain⟨t2,rfl⟩:=r2
   cases r with
   | cons r3 r=>
    obtain⟨t3,rfl⟩:=r3
    cases r
    exact call_range_3 hk ⟨.ref _,_,I.rng,rfl,q _ (I.hok.fresh (XJ _))⟩ (.inl (PyProof.noPylong_small {}))
structure mj (lo hi st) (n:Nat):Prop where
 sm:ZJ.Range.small lo hi st=true
 sz:Y7 lo hi st=n
 le:n<=2 ^ 20
def Inv.O2 {σ:St}{lo hi st:Int} (I:Inv X pins σ H s) (h:H p=ξ (nI p lo hi st)):∃t u v,adi s.heap p lo hi st t u v:=by
 obtain⟨⟨t,u,v,e⟩,_⟩:=I.hok p _ h
 grind
def uZ (hc:X.calm=θ):bU X (.type "list") (fun vs H Q=>∃p lo hi st n,vs=[.ref p]/\H p=ξ (nI p lo hi st)/\mj lo hi st n/\∀l,H l=ζ->Q (.ref l) (upd H l (.lst ((uk lo st n).map V.int)))):=by
 intro pins s σ H xs us Q I r h
 obtain⟨p,lo,hi,st,n,rfl,hp,ok,q⟩:=h
 obtain⟨u,rfl,rx⟩:=vals1 r
 cases rx
 obtain⟨t,u,v,hr⟩:=I.O2 hp
 have hn:=ok.le
 refine call_list_range (I.ok.hd hc) hr ok.sm ok.sz {} fun h' tk acc c kp e hi=>?_
 have hv:=sV hi
 refine⟨.ref s.heap.objs.size,_,I.laid kp (XJ _) (show cz X.prog X.w _ h' _ (.lst _) from⟨?_,acc.toList,c,hv,by omega⟩),rfl,q _ (I.hok.fresh (XJ _))⟩
 rw[XE,kT,YI];lia
end
section
variable {prog:X5}{w:Yw}{A:YK}{E:XI->XO->Prop}{s:XO}
def Ar {Q:List XI->XO->Prop}{r:XW}{a b c:Int}{t u v:Tok}{n:Nat} (hh:A.handled=ζ) (hr:adi s.heap r a b c t u v) (ok:mj a b c n)
  (hQ:∀h' tk (acc:Array XI),(∀b o,s.heap.get? b=ξ o->h'.get? b=ξ o)->adk (fun i v=>∃t,v=.int (a+i*c) t) acc n->Q acc.toList { s with heap:=h',toks:=tk }) :
  wpAny (model prog w) A (collect (.ref r)) Q E s:=by
 refine td (wpAny_runValue (abv F.entry_proto_collect ?_))
 rw[abm F.plain_proto_collect _]
 refine td (Yo (XG ⟨plainId_quiet F.plain_list_iadd _,abv F.entry_list_iadd ?_⟩))
 rw[abm F.plain_list_iadd _]
 have hn:=ok.le
 refine Yl (wpAny_extend_range (R:=fun z y=>z=.ok (.ret (.ref s.heap.objs.size))/\∃h' tk acc c',y={ s with heap:=h',toks:=tk }/\(∀b o,s.heap.get? b=ξ o->h'.get? b=ξ o) ∧
   h'.get? s.heap.objs.size=ξ { cls:=.type "list", dict:=ζ,data:=.seq acc c',slots:=#[] }/\adk (fun i v=>∃t,v=.int (a+i*c) t) acc n)
  (s:={ s with heap:=s.heap.push { cls:=.type "list", data:=.seq ([]:List XI).toArray } }) hh (XB _ hr) ok.sm ok.sz {} _ _ 0 (XN _ rfl)
  (fun h' tk acc c' kp e hi=>⟨rfl,h',tk,acc,c',rfl,fun b o q=>kp b o (XZ (XH q)) (XB _ q),e,hi⟩)) (fun fin y h=>?_) (fun e y h=>?_)
 ·have last:∀y,(∃h' tk acc c',y={ s with heap:=h',toks:=tk }/\(∀b o,s.heap.get? b=ξ o->h'.get? b=ξ o) ∧
    h'.get? s.heap.objs.size=ξ { cls:=.type "list", dict:=ζ,data:=.seq acc c',slots:=#[] }/\adk (fun i v=>∃t,v=.int (a+i*c) t) acc n)->wpAny (model prog w) A (match Yj s.heap.objs.size with
   | Yj a=>do
    match (← load a).data with
     | Data.seq xs _=>pure xs.toList
     | _=>unsupported "internal:collect"
   | _=>unsupported "internal:collect") Q E y:=by
   rintro y ⟨h',tk,acc,c',rfl,kp,e,hi⟩
   refine td (wpAny_load e ?_)
   exact XG (hQ h' tk acc kp hi)
  cases fin with
  | done f=>
   obtain⟨e,h⟩:=h
   cases e
   exact last _ h
  | again c'=>exact⟨h.1,Zc h.2 fun r y hr=>by obtain⟨rfl,h⟩:=hr;exact last _ h⟩
 ·exact absurd h.1 {..}
def Fz (hh:A.handled=ζ) (hr:adi s.heap r a b c t u v) (ok:mj a b c n)
  (hQ:∀(h':Y2) tk acc , (∀b o,s.heap.get? b=ξ o->h'.get? b=ξ o)->adk (fun i v=>∃t,v=.int (a+i*c) t) acc n->Q (.ref h'.objs.size) { s with heap:=h'.push { cls:=.type "tuple", data:=.seq acc },toks:=tk }) :
  wpAny (model prog w) A (call (.type "tuple") [.ref r]) Q E s:=by
 refine callType_codes (Q₁:=fun obj s₁=>s₁.TypeIs obj "tuple" /\ Q obj s₁) acx (F.typeCall_tuple_1 _) F.entry_object_init ?_ fun obj s₁ h₁=>
  ⟨h₁.1,F.args_object_init_2 obj _,object_init_meets acx.init.lookup acx.made (by decide) prog w A.in1 _ s₁ ⟨h₁.1,rfl,h₁.2⟩⟩
 refine ack ?_
 show wpAny _ A.in1.in1 (do checkBuiltinCall "tuple.__new__" ⟨[.type "tuple", .ref r],[]⟩;again (.builtin "tuple.__new__" ⟨[.type "tuple", .ref r],[]⟩)) _ _ s
 refine td (wpAny_of_eq (F.newCall_tuple_1 _) (XG ⟨plainId_quiet F.plain_tuple_new _,abv F.entry_tuple_new ?_⟩))
 rw[abm F.plain_tuple_new _]
 have hsub:=sub_tuple_self
 have hinit:=init_tuple_lookup
 have hmh:=madeHere_tuple
 have hT:s.TypeIs (.ref r) "range" := ⟨_,hr,rfl⟩
 have hh':A.in1.in1.handled=none:=by simp[hh]
 wp_walk using abg hT,Ar hh' hr ok
 intro h' tk acc kp hi
 show wpAny _ _ (YY acc.toList.toArray >>= fun v=>ret v) _ _ _
 unfold YY
 have hn:=ok.le
 refine td (Yo ?_ (by show acc.toList.toArray.size<=sizeLine;simp only[Array.toArray_toList];rw[hi.1,YI];lia))
 rw[show acc.toList.toArray=acc by simp]
 exact XG ⟨⟨_,XN _ rfl,rfl⟩,hQ h' tk acc kp hi⟩
end
section
variable {X:Cx}
def lE (hc:X.calm=θ):bU X (.type "tuple") (fun vs H Q=>∃p lo hi st n,vs=[.ref p]/\H p=ξ (nI p lo hi st)/\mj lo hi st n/\∀l,H l=ζ->Q (.ref l) (upd H l (.tup ((uk lo st n).map V.int)))):=by
 intro pins s σ H xs us Q I r h
 obtain⟨p,lo,hi,st,n,rfl,hp,ok,q⟩:=h
 obtain⟨u,rfl,rx⟩:=vals1 r
 cases rx
 obtain⟨t,u,v,hr⟩:=I.O2 hp
 have hn:=ok.le
 refine Fz (I.ok.hd hc) hr ok fun h' tk acc kp hi=>?_
 have hv:=sV hi
 have I1:Inv X pins σ H { s with heap:=h',toks:=tk }:=I.kept kp
 refine⟨.ref h'.objs.size,_,I1.laid (o:=.tup _) (fun b ob q=>XB _ q) (XJ _) ⟨?_,acc.toList,hv,by simpa using pj.new h' acc⟩,rfl,q _ (I1.hok.fresh (XJ _))⟩
 rw[XE,kT,YI];lia
def Lq (h1:-1000000<=a) (h2:a<=1000000) (h3:-1000000<=b) (h4:b<=1000000) (h:b - a<=1000000):mj a b 1 (b - a).toNat:=
 ⟨small_one {} {} {} {},by rw[rangeSize_one];lia,{}⟩
def Vals.get' {xs:List V}{us:List XI}{i:Nat}{u:XI} (r:Vals xs us) (h:us[i]?=ξ u):∃x,xs[i]?=ξ x/\RelV x u:=by
 have hl:=r.length
 have hi:i<xs.length:=by rw[hl];exact(X9.mp h).1
 obtain⟨u',e1,e2⟩:=r.get (XS hi)
 rw[h] at e1;cases e1
 exact⟨_,XS hi,e2⟩
end
def GP (h:ns.Nodup):(unl ns).length=ns.length:=by
 have key:∀(l acc:List Int),(acc++l).Nodup->l.foldl ac_ acc=acc++l:=by
  intro l
  induction l with
  | nil=>simp
  | cons a r ih=>
   intro acc hn
   have h1:a∉acc:=by
    grind
   have e:ac_ acc a=acc++[a]:=by
    unfold ac_
    simp_all
   simp_all
 have e:(XF ns.length).map (fun i=>ns.getD i 0)=ns:=by
  apply aaC
  ·simp
  simp_all
 unfold unl firstMet
 simp_all
def Inv.TZ {σ:St} (I:Inv X (pins++[(C,o)]) σ H s) (cC:∀x c,X.env.cells.lookup x=ξ c->c≠C) (hC:X.aP.heap.objs.size<=C) (pC:∀p∈X.pn++pins,p.1≠C) (hs:Z0 C s.heap h'):Inv X pins σ H { s with heap:=h' }:=by
 have kb:∀b u,b≠C->s.heap.get? b=ξ u->h'.get? b=ξ u:=fun b u hb z=>hs.extBut b u hb z
 obtain⟨q0,q1,q2,q3,q4⟩:=I.pin (C,o) (XQ _ (XQ _ (Yg.mpr rfl)))
 have J:Inv X pins σ H s:=I.qY fun p hp=>I.pin p (XQ _ (Zw _ hp))
 refine J.wO (s':={ s with heap:=h' }) (ch:=[C]) rfl ⟨fun b u z n a c=>kb b u (fun e=>c (by simp_all)) z,fun b u z n a c=>⟨u.slots,kb b _ (fun e=>c (by simp_all)) z⟩,fun b u z n c=>n,fun b u z c=>⟨u,kb b u (fun e=>c (by simp_all)) z⟩,fun b xs z=>z,fun b ob u z=>z,fun b ps z=>⟨#[],by simp_all⟩⟩ (J.hok.sameBut q1 kb) J.bare fun b hb=>?_
 grind
section
variable {prog:X5}{w:Yw}{A:YK}{E:XI->XO->Prop}{s:XO}
def C3 (hi:s.heap.IsTupleIter it t i) (ht:s.heap.IsTuple t its) (hx:its[i]?=ξ x) (hQ:∀h',h'.IsTupleIter it t (i+1)->Z0 it s.heap h'->Q x { s with heap:=h' }) :
  wpAny (model prog w) A (ZJ.SmallTypes.nextOf (.ref it)) Q E s:=by
 obtain⟨oi,h1,h2,h3⟩:=id hi
 obtain⟨ot,k1,_,nt,k2⟩:=ht
 refine td (Y9 hi.typeIs ZK (ZO ZK hi.typeIs F.entry_tuple_iterator_next ?_ (F.args_tuple_iterator_next_1 _)))
 refine td (m:=field (.ref it) 0) (Zi h1 h3 rfl ?_)
 show wpAny _ _ (if (Yj t == ZN)=θ then _ else field (.ref it) 1 >>= _) _ _ s
 refine td (Zi h1 h3 rfl (td (wpAny_seqItems k1 k2 ?_)))
 simp only[Int.toNat_natCast,hx]
 exact td (aba h1 h3 {..} (XG ⟨x,rfl,XG (hQ _ ⟨_,YM _ h1 (Zl (YT h3 _)),(Obj.cls_mapFields ..).trans h2,by rw[YT h3];rfl⟩ (Z0.update ..))⟩))
def xb (hh:A.handled=ζ) (hi:s.heap.IsTupleIter it t i) (ht:s.heap.IsTuple t its) (hx:its[i]?=ζ)
  (hE:∀h' e,Y2.ExtBut it s.heap h'->(∃o,h'.get? e=ξ o/\o.cls=.type "StopIteration")->E (.ref e) { s with heap:=h' }):wpAny (model prog w) A (ZJ.SmallTypes.nextOf (.ref it)) Q E s:=by
 obtain⟨oi,h1,h2,h3⟩:=id hi
 obtain⟨ot,k1,_,nt,k2⟩:=ht
 refine td (Y9 hi.typeIs ZK (ZO ZK hi.typeIs F.entry_tuple_iterator_next ?_ (F.args_tuple_iterator_next_1 _)))
 refine td (m:=field (.ref it) 0) (Zi h1 h3 rfl ?_)
 show wpAny _ _ (if (Yj t == ZN)=θ then _ else field (.ref it) 1 >>= _) _ _ s
 refine td (Zi h1 h3 rfl (td (wpAny_seqItems k1 k2 ?_)))
 simp only[Int.toNat_natCast,hx]
 refine td (acS (td (aba h1 h3 {..} (td ?_))))
 refine td (Yo (td (wpAny_of_eq (by rfl) (Yo ?_ (by size_fits)))) (by size_fits))
 refine td (wpAny_handled ?_)
 rw[show A.in1.handled=ζ from hh]
 exact td (XG (wpAny_throw (hE _ _ (((Z0.update ..).extBut.push _).push _) ⟨_,XN _ rfl,rfl⟩)))
end
def Draws.tup {prog:X5}{w:Yw}{A:YK} (hh:A.handled=ζ) (it t:XW) (hne:t≠it) (its:Array XI):Draws prog w A it [it,t] its.size (fun i v=>its[i]?=ξ v) (fun i h=>h.IsTupleIter it t i/\h.IsTuple t its) where
 live:=fun _ _ z=>let ⟨o,ho,_⟩:=z.1;⟨o,ho⟩
 frame:=fun _ _ _ z hk=>⟨z.1.at fun o e=>hk it {..} o e,z.2.at fun o e=>hk t {..} o e⟩
 item:=fun i s Q E hi z hQ=>C3 z.1 z.2 (x:=its[i]) (by simp[hi]) fun h' a b=>hQ _ h' s.toks (by simp[hi]) ⟨a,z.2.extBut b.extBut hne⟩ b
 done:=fun s Q E z hE=>xb hh z.1 z.2 {..} hE
section
open AutoSeq1 (wpAny_loadPart')
def Cc (t) (its) (n) (dct) (sl) :
  Meets (ZJ.«enumerate.__new__» ⟨[.type "enumerate", .ref t],[]⟩) (fun _ R s=>s.heap.get? t=ξ { cls:=.type "tuple", dict:=dct,data:=.seq its n,slots:=sl } ∧
   R (.ok (.ret (.ref (s.heap.push { cls:=.type "tuple_iterator", data:=.fields #[.ref t,.int 0 0] }).objs.size))) { s with heap:=(s.heap.push { cls:=.type "tuple_iterator", data:=.fields #[.ref t,.int 0 0] }).push { cls:=.type "enumerate", data:=.fields #[.none,.bool ψ,.ref s.heap.objs.size,rawInt 0,.none,.none] } }):=
 .of_wp fun prog w A R s z=>by
  obtain⟨hp,gs,dr,tk,os⟩:=s;obtain⟨ht,z⟩:=z
  have su:=sub_enumerate
  have hT:Y2.IsTuple (XO.heap ⟨hp,gs,dr,tk,os⟩) t its:=⟨_,ht,rfl,n,rfl⟩
  wp_walk using abw ht
  refine wpAny_stack_any fun st=>XG ?_
  split
  ·rename_i c _ _ _ _ _
   cases (c == acs "enumerate")<;>(wp_walk using abw ht,aaf hT;exact⟨_,rfl,z⟩)
  ·(wp_walk using abw ht,aaf hT);exact⟨_,rfl,z⟩
end
section
variable {prog:X5}{w:Yw}{A:YK}{E:XI->XO->Prop}{s:XO}
def Sz (hT:s.heap.IsTuple t its)
  (q:∀h',adn h' (s.heap.objs.size+1) s.heap.objs.size 0 .none->h'.IsTupleIter s.heap.objs.size t 0->h'.objs.size=s.heap.objs.size+2->(∀b o,s.heap.get? b=ξ o->h'.get? b=ξ o)->Q (.ref (s.heap.objs.size+1)) { s with heap:=h' }) :
  wpAny (model prog w) A (call (.type "enumerate") [.ref t]) Q E s:=by
 obtain⟨⟨c,dct,dt,sl⟩,ht,hc,n,hd⟩:=hT
 subst hc hd
 refine callType_new F.called_enumerate (by decide) (F.typeCall_enumerate_1 _) (F.newCall_enumerate_1 _) (fun obj=>F.args_object_init_2 obj _) F.entry_enumerate_new (Cc t its n dct sl) ⟨ht,?_⟩
 have hz:(s.heap.push { cls:=.type "tuple_iterator", data:=.fields #[.ref t,.int 0 0] }).objs.size=s.heap.objs.size+1:=aa_ ..
 rw[hz]
 have he:adn ((s.heap.push { cls:=.type "tuple_iterator", data:=.fields #[.ref t,.int 0 0] }).push { cls:=.type "enumerate", data:=.fields #[.none,.bool ψ,.ref s.heap.objs.size,rawInt 0,.none,.none] }) (s.heap.objs.size+1) s.heap.objs.size 0 .none:=by
  have y:=XN (s.heap.push { cls:=.type "tuple_iterator", data:=.fields #[.ref t,.int 0 0] }) (o:={ cls:=.type "enumerate", data:=.fields #[.none,.bool ψ,.ref s.heap.objs.size,rawInt 0,.none,.none] }) rfl
  grind
 exact⟨⟨_,he,rfl⟩,q _ he ⟨_,XB _ (XN _ rfl),rfl,rfl⟩ {..} fun b o x=>XB _ (XB _ x)⟩
end
def Inv.yielded {X:Cx}{pins:List (XW × Obj)}{σ:St}{H:Hp}{s:XO}{fp:List XW}{T:XW}{o:HO}{h':Y2}{t':Nat} (I:Inv X pins σ H s) (hf:∀b∈fp,qu X pins H b) (k:∀b u,b∉fp->s.heap.get? b=ξ u->h'.get? b=ξ u)
  (hT:s.heap.objs.size<=T) (new:cz X.prog X.w (upd H T o) h' T o):Inv X pins σ (upd H T o) { s with heap:=h',toks:=t' }:=by
 have nT:∀b u,s.heap.get? b=ξ u->b≠T:=fun b u e z=>absurd (XH e) (by rw[z];exact abp.mpr hT)
 have nH:∀b u,H b=ξ u->b≠T:=fun b u e z=>absurd (I.hok.lt e) (by rw[z];exact abp.mpr hT)
 have nf:∀b u,H b=ξ u->b∉fp:=fun b u e z=>by rw[(hf b z).1] at e;cases e
 refine I.wO (s':={ s with heap:=h',toks:=t' }) rfl ⟨fun b u e n _ c=>k b u c e,fun b u e n _ c=>⟨u.slots,k b u c e⟩,fun b u e n c=>by rw[aD (nT b u e)];exact n,fun b u e c=>⟨u,k b u c e⟩,fun b xs e=>by rw[aD (nH b _ e)];exact e,fun b ob u e=>by rw[aD (nH b _ e)];exact e,fun b ps e=>⟨#[],by rw[aD (nH b _ e),e];simp⟩⟩ (fun b u e=>?_) I.bare (fun b hb=>?_)
 ·by_cases hb:b=T
  ·subst hb
   rw[aR] at e
   cases e
   exact new
  ·rw[aD hb] at e
   refine(I.hok b u e).lY (fun c v hc q=>k c v ?_ q) (fun c q=>by rw[aD (nH c _ q)];exact q) fun c xs q=>by rw[aD (nH c _ q)];exact q
   rcases hc with z | z
   ·rw[z];exact nf b u e
   ·exact nf c _ z
 ·obtain⟨_,g1,_,g3,g4,g5⟩:=hf b hb
  exact⟨g3,g1,g4,g5⟩
def Inv.DT {σ:St}{fp:List XW} (I:Inv X pins σ H s) (hf:∀b∈fp,qu X pins H b) (k:∀b u,b∉fp->s.heap.get? b=ξ u->h'.get? b=ξ u):Inv X pins σ H { s with heap:=h',toks:=t' }:=by
 have nf:∀b u,H b=ξ u->b∉fp:=fun b u e z=>by rw[(hf b z).1] at e;cases e
 refine I.wO (s':={ s with heap:=h',toks:=t' }) rfl ⟨fun b u e n _ c=>k b u c e,fun b u e n _ c=>⟨u.slots,k b u c e⟩,fun b u e n c=>n,fun b u e c=>⟨u,k b u c e⟩,fun b xs e=>e,fun b ob u e=>e,fun b ps e=>⟨#[],by grind⟩⟩ (fun b u e=>?_) I.bare (fun b hb=>?_)
 ·refine(I.hok b u e).lY (fun c v hc q=>k c v ?_ q) (fun c q=>q) fun c xs q=>q
  grind
 ·obtain⟨_,g1,_,g3,g4,g5⟩:=hf b hb
  grind
abbrev Iel (K:gV) (a:XW):It:=
 ⟨fun i H=>∃xs x,SqL K H a xs/\xs[i]?=ξ x,fun i H x H'=>∃p v,x=.ref p/\H p=ζ/\(∀xs,SqL K H a xs->xs[i]?=ξ v)/\H'=upd H p (.tup [.int i,v]),fun i H=>∃xs,SqL K H a xs/\xs.length<=i⟩
abbrev Iet (K:gV) (a:XW):It:=
 ⟨fun i H=>∃xs x,SqT K H a xs/\xs[i]?=ξ x,fun i H x H'=>∃p v,x=.ref p/\H p=ζ/\(∀xs,SqT K H a xs->xs[i]?=ξ v)/\H'=upd H p (.tup [.int i,v]),fun i H=>∃xs,SqT K H a xs/\xs.length<=i⟩
def JL {h:Y2}{e it:XW}{i:Int}{old:XI} (z:adn h e it i old):∃o,h.get? e=ξ o/\∀v,o.data≠.cell v:=⟨_,z,fun v q=>nomatch q⟩
def sH {St:Nat->Y2->Prop} (D:Draws prog w A.in1 it fp n P St) (e) (hei:e≠it) (hef:e∉fp) (i) (s:XO) (Q) (E) (hi:i<n)
  (hst:(∃old,adn s.heap e it i old)/\St i s.heap)
  (hQ:∀T vals h' tk,(∃t x,P i x/\vals = #[.int i t,x])->s.heap.objs.size<=T->pj h' T vals->((∃x,IsEnumOut h' e it ((i:Int)+1) x T)/\St (i+1) h'/\T≠e/\T≠it)->(∀b o,b∉[e,it]->s.heap.get? b=ξ o->h'.get? b=ξ o)->Q (ξ (.ref T)) { s with heap:=h',toks:=tk }) :
  wpAny (model prog w) A (pyNext (.ref e)) Q E s:=by
 obtain⟨⟨old,he⟩,hs⟩:=hst
 refine wpAny_pyNext_enum_itemD D he hs hi hei hef fun x h1 tk hP ho hs1 hT _ hk=>?_
 refine hQ s.heap.objs.size #[.int i tk,x] h1 (tk+1) ⟨tk,x,hP,rfl⟩ (XJ _) ⟨_,hT,⟨rfl,_,rfl⟩,rfl⟩ ⟨⟨_,ho⟩,hs1,Z1 (XH he),?_⟩ fun b o hb y=>hk b o (fun z=>hb (by simp[z])) (fun z=>hb (by simp[z])) y
 obtain⟨_,y⟩:=D.live _ _ hs
 exact Z1 (XH y)
def Dt {P:X5}{w:Yw}{K:gV}{elts:List YL}{k:Nat}{pos:Pos}{a it e:XW} (hei:e≠it):Turn P w K (.Tuple elts k pos) (Iel K a) [e,it] e (fun i h=>(∃old,adn h e it i old)/\h.IsListIter it a i) where
 mem:={..}
 obj:=fun i h z b hb=>by
  obtain⟨⟨old,z1⟩,z2⟩:=z
  rcases X4.mp hb with rfl | hb
  ·exact JL z1
  ·rw[Yg.mp hb]
   obtain⟨o,q,_,d⟩:=z2
   exact⟨o,q,fun v y=>by rw[d] at y;cases y⟩
 keep:=fun i h h' z kk=>⟨let ⟨old,z1⟩:=z.1;⟨old,kk e {..} _ z1⟩,z.2.at fun o q=>kk it {..} o q⟩
 item:=by
  intro X hP hw hK hc i pins s σ H E I hf st hg
  subst hP hw hK
  obtain⟨xs,x,hq,hx⟩:=hg
  obtain⟨its,rv,p,hz⟩:=I.list hq
  obtain⟨u,hu,ru⟩:=rv.get hx
  have hl:=rv.length
  have plt:a<s.heap.objs.size:=by obtain⟨o,q,_⟩:=p.isList;exact XH q
  have hai:a≠it/\a≠e:=by
   obtain⟨oa,qa,ca,_⟩:=p.isList
   obtain⟨⟨old,z1⟩,oi,qi,ci,_⟩:=st
   exact⟨(fun q=>by rw[q,qi] at qa;cases qa;rw[ci] at ca;injection ca with y;exact absurd y (by decide)),(fun q=>by rw[q,z1] at qa;cases qa;injection ca with y;exact absurd y (by decide))⟩
  have DD:=(Draws.list (prog:=X.prog) (w:=X.w) (A:=X.A.in1) (I.ok.hd hc) it a hai.1 its.toArray)
  have hef0:e∉[it,a]:=by simp;exact⟨hei,fun q=>hai.2 q.symm⟩
  have W:=WalksT.enumerateD (prog:=X.prog) (w:=X.w) (A:=X.A) DD e hei hef0 {..}
  refine sH DD e hei hef0 i s _ _ (by rw[Yr,<- hl];exact(X9.mp hx).1) ⟨st.1,st.2,p.isList⟩ fun T vals h1 tk hv hT ht hm k1=>?_
  obtain⟨t,v,hv1,hv2⟩:=hv
  have ev:v=u:=by
   have:its[i]?=ξ v:=by simpa using hv1
   rw[hu] at this;exact(Y5 this).symm
  subst ev
  refine⟨.ref T,rfl,W.go elts k pos i T { s with heap:=h1,toks:=tk } _ _ hm fun h2 st2 k2=>?_⟩
  have kk:∀b o,b∉[e,it]->s.heap.get? b=ξ o->h2.get? b=ξ o:=fun b o hb q=>k2 b o hb (k1 b o hb q)
  have hT2:pj h2 T vals:=by
   obtain⟨o,q,c⟩:=ht
   exact⟨o,k2 T o (fun z=>W.apart _ _ _ hm z) q,c⟩
  have hn:H T=none:=I.hok.fresh hT
  have nTf:∀b∈[e,it],b≠T:=fun b hb z=>by
   have hlt:b<s.heap.objs.size:=by
    rcases X4.mp hb with rfl | hb
    ·obtain⟨old,z1⟩:=st.1;exact XH z1
    ·rw[Yg.mp hb];obtain⟨o,q,_⟩:=st.2;exact XH q
   rw[z] at hlt;exact absurd hlt (abp.mpr hT)
  refine⟨.ref T,upd H T (.tup [.int i,x]),I.yielded (t':=tk) hf kk hT ⟨by show 2<=sizeLine;decide,[.int i t,v],.cons ⟨t,rfl⟩ (.cons ru .nil),?_⟩,rfl,⟨T,x,rfl,hn,fun ys hy=>by rw[I.sT hy hq];exact hx,rfl⟩,⟨st2.1,st2.2.1⟩,fun b hb=>by rw[aD (nTf b hb)];exact(hf b hb).1⟩
  rw[hv2] at hT2;exact hT2
 done:=by
  intro X hP hw hK hc i pins s σ H E I hf st hg
  subst hP hw hK
  obtain⟨xs,hq,hx⟩:=hg
  obtain⟨its,rv,p,hz⟩:=I.list hq
  obtain⟨⟨old,z1⟩,z2⟩:=st
  have hl:=rv.length
  exact wpAny_pyNext_enum_end (I.ok.hd hc) z1 z2 p.isList (Array.getElem?_eq_none (by rw[Yr];lia)) fun h' eb=>⟨rfl,I.DT (t':=s.toks) hf fun b u hb q=>eb b u (fun z=>hb (by simp[z])) q⟩
 self:=fun A i s Q E z q=>by
  obtain⟨⟨old,z1⟩,z2⟩:=z
  exact aa9 z1 q
def DL {P:X5}{w:Yw}{K:gV}{elts:List YL}{k:Nat}{pos:Pos}{a it e:XW} (hei:e≠it):Turn P w K (.Tuple elts k pos) (Iet K a) [e,it] e (fun i h=>(∃old,adn h e it i old)/\h.IsTupleIter it a i) where
 mem:={..}
 obj:=fun i h z b hb=>by
  obtain⟨⟨old,z1⟩,z2⟩:=z
  rcases X4.mp hb with rfl | hb
  ·simp_all
  ·rw[Yg.mp hb]
   obtain⟨o,q,_,d⟩:=z2
   simp_all
 keep:=fun i h h' z kk=>⟨let ⟨old,z1⟩:=z.1;⟨old,kk e {..} _ z1⟩,z.2.at fun o q=>kk it {..} o q⟩
 item:=by
  intro X hP hw hK hc i pins s σ H E I hf st hg
  subst hP hw hK
  obtain⟨xs,x,hq,hx⟩:=hg
  obtain⟨its,rv,p,hz⟩:=I.tuple hq
  obtain⟨u,hu,ru⟩:=rv.get hx
  have hl:=rv.length
  have plt:a<s.heap.objs.size:=by obtain⟨o,q,_⟩:=(show s.heap.IsTuple a its.toArray from p);exact XH q
  have hai:a≠it/\a≠e:=by
   obtain⟨oa,qa,ca,_⟩:=(show s.heap.IsTuple a its.toArray from p)
   obtain⟨⟨old,z1⟩,oi,qi,ci,_⟩:=st
   grind
  have DD:=(Draws.tup (prog:=X.prog) (w:=X.w) (A:=X.A.in1) (I.ok.hd hc) it a hai.1 its.toArray)
  have hef0:e∉[it,a]:=by grind
  have W:=WalksT.enumerateD (prog:=X.prog) (w:=X.w) (A:=X.A) DD e hei hef0 {..}
  refine sH DD e hei hef0 i s _ _ (by grind) ⟨st.1,st.2,(show s.heap.IsTuple a its.toArray from p)⟩ fun T vals h1 tk hv hT ht hm k1=>?_
  obtain⟨t,v,hv1,hv2⟩:=hv
  have ev:v=u:=by
   simp_all
  subst ev
  refine⟨.ref T,rfl,W.go elts k pos i T { s with heap:=h1,toks:=tk } _ _ hm fun h2 st2 k2=>?_⟩
  have kk:∀b o,b∉[e,it]->s.heap.get? b=ξ o->h2.get? b=ξ o:=fun b o hb q=>k2 b o hb (k1 b o hb q)
  have hT2:pj h2 T vals:=by
   obtain⟨o,q,c⟩:=ht
   exact⟨o,k2 T o (fun z=>W.apart _ _ _ hm z) q,c⟩
  have hn:H T=none:=I.hok.fresh hT
  have nTf:∀b∈[e,it],b≠T:=fun b hb z=>by
   simp_all
  refine⟨.ref T,upd H T (.tup [.int i,x]),I.yielded (t':=tk) hf kk hT ⟨by show 2<=sizeLine;decide,[.int i t,v],.cons ⟨t,rfl⟩ (.cons ru .nil),?_⟩,rfl,⟨T,x,rfl,hn,fun ys hy=>by rw[I.pE hy hq];exact hx,rfl⟩,⟨st2.1,st2.2.1⟩,fun b hb=>by rw[aD (nTf b hb)];exact(hf b hb).1⟩
  simp_all
 done:=by
  intro X hP hw hK hc i pins s σ H E I hf st hg
  subst hP hw hK
  obtain⟨xs,hq,hx⟩:=hg
  obtain⟨its,rv,p,hz⟩:=I.tuple hq
  obtain⟨⟨old,z1⟩,z2⟩:=st
  have hl:=rv.length
  have pt:s.heap.IsTuple a its.toArray:=p
  have DD:Draws X.prog X.w X.A.in1 it [it,a] i (fun _ _=>True) (fun j h=>j=i/\h.IsTupleIter it a j/\h.IsTuple a its.toArray):={
   live:=fun _ _ z=>let ⟨o,ho,_⟩:=z.2.1;⟨o,ho⟩
   frame:=fun _ _ _ z hk=>⟨z.1,z.2.1.at fun o e=>hk it {..} o e,z.2.2.at fun o e=>hk a {..} o e⟩
   item:=fun j s Q E hj z hQ=>absurd z.1 (XZ hj)
   done:=fun s Q E z hE=>xb (I.ok.hd hc) z.2.1 z.2.2 (Array.getElem?_eq_none (by simp_all)) hE }
  exact wpAny_pyNext_enum_endD DD z1 ⟨rfl,z2,pt⟩ fun h' eb=>⟨rfl,I.DT (t':=s.toks) hf fun b u hb q=>eb b u (fun z=>hb (by simp[z])) q⟩
 self:=fun A i s Q E z q=>by
  obtain⟨⟨old,z1⟩,z2⟩:=z
  exact aa9 z1 q
abbrev SA (K:gV) (tl:TE):TI:=fun σ H R=>tl σ H fun x H1=>∃a,x=.ref a/\(((∃xs,SqL K H1 a xs)/\R (Iel K a) H1)\/((∃xs,SqT K H1 a xs)/\R (Iet K a) H1))
def Nq {X:Cx}{elts:List YL}{kt:Nat}{tp p pos:Pos}{l:YL}{tl:TE} (hg:Gl X "enumerate") (hm:X.mg "enumerate" = ζ) (hl:PE X l tl) (hs:starEach [l] X.env=[(ψ,eval l X.env)]:=by rfl) :
  PI X (.Tuple elts kt tp) (.Call (.Name "enumerate" p) [l] [] pos) (SA X.K tl):=by
 intro pins s σ H R I h
 have h':OE tl IY σ H (fun vs H1=>match vs with
  | [x]=>∃a,x=.ref a/\(((∃xs,SqL X.K H1 a xs)/\R (Iel X.K a) H1)\/((∃xs,SqT X.K H1 a xs)/\R (Iet X.K a) H1))
  | _=>False):=h
 refine Call_ (kY I hg hm PyProof.Rows.boot_enumerate (Y8 (thn (fw hl j0 hs pos pins s σ H _ I h') fun us s1 ⟨vs,H1,I1,r1,q1⟩=>?_) hs rfl))
 cases r1 with
 | nil=>simp_all
 | cons r rr=>
  cases rr with
  | cons _ _=>simp_all
  | nil=>
   obtain⟨a,rfl,q⟩:=q1
   cases r
   have fp:∀{h':Y2},∀b∈[s1.heap.objs.size+1,s1.heap.objs.size],qu X pins H1 b:=fun{h'} b hb=>by
    have hb':s1.heap.objs.size<=b:=by
     grind
    exact I1.HX hb' (I1.hok.fresh hb')
   rcases q with⟨⟨xs,hq⟩,q⟩ | ⟨⟨xs,hq⟩,q⟩
   ·obtain⟨its,rv,pl,hz⟩:=I1.list hq
    refine call_enumerate_list pl.isList fun h2 z1 z2 hsz kp=>aa9 (s:={ s1 with heap:=h2 }) z1 ?_
    exact⟨s1.heap.objs.size+1,[s1.heap.objs.size+1,s1.heap.objs.size],_,_,H1,rfl,I1.kept kp,Dt (Nat.succ_ne_self _),⟨⟨_,z1⟩,z2⟩,fp (h':=h2),q⟩
   ·obtain⟨its,rv,pl,hz⟩:=I1.tuple hq
    refine Sz (show s1.heap.IsTuple a its.toArray from pl) fun h2 z1 z2 hsz kp=>aa9 (s:={ s1 with heap:=h2 }) z1 ?_
    exact⟨s1.heap.objs.size+1,[s1.heap.objs.size+1,s1.heap.objs.size],_,_,H1,rfl,I1.kept kp,DL (Nat.succ_ne_self _),⟨⟨_,z1⟩,z2⟩,fp (h':=h2),q⟩
abbrev Gk (nt:Nat) (ix:List Nat) (σ:St):St:=X0 nt ζ++ix.map fun i=>(σ[i]?).join
abbrev AJ (nt:Nat) (ix:List Nat) (σ σ':St):Prop:=∃ts:St,ts.length=nt/\σ'=ts++ix.map fun i=>(σ[i]?).join
@[inline]abbrev JJ (J:It) (nt:Nat) (ix:List Nat) (σ:St) (tg:TG) (tt:TT) (te:TE) (acc:XW) (H1:Hp) (Q:VK):Prop:=
 ∃W:Nat->Nat->List V->Hp->Prop,(∃m,W 0 m [] H1)/\∀i m ys H,W i m ys H →
  (J.stop i H/\Q (.ref acc) H)\/(J.go i H/\∀σ0 x H',AJ nt ix σ σ0->J.yld i H x H'->tg x σ0 H' fun σ2 Hn=>AJ nt ix σ σ2/\tt σ2 Hn fun b H2=>if b=θ then te σ2 H2 fun y H3=>
    H3 acc=ξ (.lst ys)/\ys.length<sizeLine/\∃m',m'<m/\W (i+1) m' (ys++[y]) (upd H3 acc (.lst (ys++[y])))
   else ∃m',m'<m/\W (i+1) m' ys H2)
abbrev r8 (wi:TI) (nt:Nat) (ix:List Nat) (tg:TG) (tt:TT) (te:TE):TE:=fun σ H Q=>wi σ H fun J H1=>∀acc,H1 acc=ζ->JJ J nt ix σ tg tt te acc (upd H1 acc (.lst [])) Q
def Fx {X:Cx}{use:Option (XI->Sem Unit)}{Q2:XI->XO->Prop}{pins:List (XW × Obj)}{s:XO}{σ:St}{H:Hp}{Q:VK}{elt iter tg:YL}{tn':List Str}{ifs:List YL}{more:List Comprehension}{scope osc:abe}{pos:Pos}{wi:TI}{CW:It->XW->Hp->Prop} (ix:List Nat) (N':List Str)
  (hc:X.calm=θ) (ho:X.env.scope=osc) (hN:N'=tn'++ix.map fun i=>(X.N[i]?).getD ("" : Str)) (hnd:N'.Nodup)
  (hall:(∀y∈scope.names,y.2=.free->osc.names.lookup y.1=ξ .cell)/\(∀y∈scope.names,y.2≠.cell)/\scope.kind=.function/\(∀y∈scope.names,y.2=.local->scope.names.lookup y.1=ξ .local)/\(∀y∈N'.drop tn'.length,scope.names.lookup y=ξ .free))
  (hi:PI X tg iter wi)
  (hs:∀x,foldedSetIterable iter X.env x=pure x) (I:Inv X pins σ H s) (h:wi σ H fun J H1=>∀acc,H1 acc=ζ->CW J acc (upd H1 acc (.lst [])))
  (hfin:∀(acc C:XW) (H5:Hp) (s5:XO) (o:Obj),Inv X (pins++[(C,o)]) σ H5 s5->(∀x c,X.env.cells.lookup x=ξ c->c≠C)->X.aP.heap.objs.size<=C->(∀p∈X.pn++pins,p.1≠C)->(∃m,∀h':Y2,h'.get? C=ξ o->h'.Ns C m)->Q (.ref acc) H5->compPost (model X.prog X.w) X.A X.xe use Q2 (.ref acc) C (.ok .next) s5)
  (loop:∀(X':Cx) (cl:List (Str × XW)) (C:XW) (s3:XO) (H3:Hp) (fp:List XW) (it acc:XW) (tn:Nat->Y2->Prop) (J:It) (R:Result->XO->Prop) (s4:XO),cb X scope cl C s3 H3 fp N'=X'->X'.calm=θ->Turn X.prog X.w X.K tg J fp it tn->(∀{H':Hp},(∀b∈fp,H' b=ζ)->∀b∈fp,qu X' [] H' b)->CW J acc H3->Inv X' [] (Gk tn'.length ix σ) H3 s4->tn 0 s4.heap->(∀b∈fp,H3 b=ζ) →
   (∀{H5:Hp} {s5:XO} {σ5:St},Inv X' [] σ5 H5 s5->Q (.ref acc) H5->R (.ok .next) s5)->codeAny (model X.prog X.w) X.A (.compLoop (.ListComp elt (⟨tg,iter,ifs,0⟩::more) scope pos) 0 (.ref it) (.ref acc) X'.env) R s4) :
  wpAny (model X.prog X.w) X.A (comprehension (.ListComp elt (⟨tg,iter,ifs,0⟩::more) scope pos) scope X.env (firstIterPos (⟨tg,iter,ifs,0⟩::more) pos) (newList []) ψ (eval iter X.env) use) Q2 X.xe s:=by
 obtain⟨hfr,hcell,hkind,hnames,hcap⟩:=hall
 subst ho
 have outc:=fun y hy q=>hfr y hy q
 obtain⟨cl,hclos,hcl1,hcl2⟩:=mx fun y hy q=>I.ok.has y.1 (.inl (outc y hy q))
 refine wpAny_comprehension_free rfl hs hclos hkind hnames (thn (hi pins s σ H _ I h) fun v s1 h1=>thn h1 fun itv s2 h2=>?_)
 obtain⟨it,fp,tn,J,H2,e,I2,T,st2,f2,rest⟩:=h2
 subst e
 have hf2:=I2.hok.fresh (XJ _)
 have w0:=rest s2.heap.objs.size hf2
 refine Yo ?_
 have I3:=I2.DC (t':=s2.toks) .nil (aaF _)
 have keep3:∀b o,s2.heap.get? b=ξ o->(s2.heap.push { cls:=.type "list", dict:=ζ,data:=.seq ([]:List XI).toArray }).get? b=ξ o:=fun b o q=>XB _ q
 have fp3:=T.obj _ _ st2
 have st3:=T.keep _ _ _ st2 fun b _ o q=>keep3 b o q
 have fpn:∀b∈fp,(upd H2 s2.heap.objs.size (HO.lst [])) b=none:=fun b hb=>by
  obtain⟨o,q,_⟩:=fp3 b hb
  rw[aD (XZ (XH q))]
  exact(f2 b hb).1
 revert I3 keep3 st3 fpn w0
 generalize hS3:({ s2 with heap:=s2.heap.push { cls:=.type "list", dict:=ζ,data:=.seq ([]:List XI).toArray } }:XO)=s3
 generalize hH3:upd H2 s2.heap.objs.size (HO.lst [])=H3
 intro w0 I3 keep3 st3 fpn
 generalize s2.heap.objs.size=acc at *
 have e3:s2.heap.push { cls:=.type "list", dict:=ζ,data:=.seq ([]:List XI).toArray }=s3.heap:=by rw[<- hS3]
 have keep3':∀b o,s2.heap.get? b=ξ o->s3.heap.get? b=ξ o:=fun b o q=>by rw[<- e3];exact keep3 b o q
 have st3':tn 0 s3.heap:=by rw[<- e3];exact st3
 refine abn hcell (by intro y hy;simp at hy) (fun h₁ hns₁ hsb₁=>?_) hkind
 have hC:s3.heap.objs.size=s3.heap.objs.size:=rfl
 have keep4:∀b o,s3.heap.get? b=ξ o->h₁.get? b=ξ o:=fun b o q=>hsb₁.extBut b o (XZ (XH q)) (XB _ q)
 have fpC:∀b∈fp,b≠s3.heap.objs.size:=fun b hb=>by
  obtain⟨o,q,_⟩:=fp3 b hb
  exact XZ (XH (keep3' b o q))
 -- the block's context
 generalize hX':cb X scope cl s3.heap.objs.size s3 H3 fp N'=X'
 have hXp:X'.prog=X.prog:=by rw[<- hX'];rfl
 have hXw:X'.w=X.w:=by rw[<- hX'];rfl
 have hXK:X'.K=X.K:=by rw[<- hX'];rfl
 have hXA:X'.A=X.A:=by rw[<- hX'];rfl
 have hXe:X'.env=compEnvC scope cl s3.heap.objs.size X.env:=by rw[<- hX'];rfl
 have hXc:X'.calm=true:=by rw[<- hX'];exact hc
 have hXf:X'.fs=frs X.stack:=by rw[<- hX'];rfl
 have hXex:X'.ex=fp:=by rw[<- hX'];rfl
 have hXN:X'.N=N':=by rw[<- hX'];rfl
 have hXs:X'.aP=s3:=by rw[<- hX'];rfl
 have hXH:X'.a_=H3:=by rw[<- hX'];rfl
 have hXpn:X'.pn=[]:=by rw[<- hX'];rfl
 have okX:X'.Ok:=by
  rw[<- hX']
  refine⟨I3.ok.mod,hkind,I3.ok.glob,I3.ok.blt,XJ _,fun a b c p q=>I3.ok.inj a b c (hcl1 a c p) (hcl1 b c q),fun y hy=>?_,fun _ _ z=>(by cases z),I3.ok.hd,I3.ok.frames,.inl rfl,fun b hb=>⟨fpC b hb,fun y c p=>(f2 b hb).2.2.2.2.1 y c (hcl1 y c p)⟩,
   I3.bs,XR I3.ok.bsz I3.sz,fun b o p hb=>?_,fun b hb z=>?_,I3.stack,I3.nM⟩
  ·have hy':(relabel scope X.env).names.lookup y=ξ .cell\/(relabel scope X.env).names.lookup y=ξ .free:=hy
   have free:scope.names.lookup y=ξ .free->∃c,cl.lookup y=ξ c:=fun q=>hcl2 y (lookup_mem q)
   rcases hy' with q | q
   ·rcases fU q with z | ⟨z,_⟩
    ·exact absurd rfl (hcell _ (lookup_mem z))
    ·exact free z
   ·rcases fU q with z | ⟨_,z⟩
    ·exact free z
    ·cases z
  ·rcases(f2 b hb).2.2.2.1 with z | z
   ·exact I3.ok.wt b o p z
   ·exact absurd (Yb (XH p) (XR I3.ok.bsz z)) (Y6 _)
  ·rcases X4.mp (I3.gW b z) with q | q
   ·exact(f2 b hb).2.1 q
   ·exact(f2 b hb).2.2.1 q
 have I4:∀tk,Inv X' [] (Gk tn'.length ix σ) H3 { s3 with heap:=h₁,toks:=tk }:=fun tk=>by
  have hloc:=I3.loc
  refine⟨okX,by rw[hXs],I3.bare,?_,⟨fun y=>([]:List (Str × XI)).reverse.lookup y,by rw[hXe];exact hns₁,fun i y v e1 e2 e3=>?_⟩,fun y c p=>?_,?_,fun y c p=>?_,fun p hp=>?_,?_,?_⟩
  ·rw[hXf,hXex,hXH,hXs];exact Un.kept keep4
  ·rw[hXN,hN] at e1
   by_cases hit':i<tn'.length
   ·exfalso
    unfold Gk at e2
    rw[Yy (by simpa using hit'),List.getElem?_replicate,if_pos hit'] at e2
    cases e2
   ·have e10:N'[i]?=ξ y:=by rw[hN];exact e1
    obtain⟨j,rfl⟩:∃j,i=tn'.length+j:=⟨i - tn'.length,{}⟩
    have e1':(ix.map fun i=>(X.N[i]?).getD ("" : Str))[j]?=ξ y:=by
     rw[Yh {}] at e1
     rw[show tn'.length+j - tn'.length=j by lia] at e1
     exact e1
    have e2':(ix.map fun i=>(σ[i]?).join)[j]?=ξ (ξ v):=by
     unfold Gk at e2
     rw[Yh {..}] at e2
     simpa using e2
    rw[Yi] at e1' e2'
    cases hj:ix[j]? with
    | none=>rw[hj] at e1';cases e1'
    | some i0=>
     rw[hj] at e1' e2'
     have e1'':(X.N[i0]?).getD ("" : Str)=y:=by simpa using e1'
     have e2'':(σ[i0]?).join=ξ v:=by simpa using e2'
     have hsv:σ[i0]?=ξ (ξ v):=by
      cases q:σ[i0]? with
      | none=>rw[q] at e2'';cases e2''
      | some z=>rw[q] at e2'';have:z=ξ v:=by simpa using e2''
                rw[this]
     have hlt:i0<X.N.length:=by
      have:=(X9.mp hsv).1
      rw[I3.len] at this;exact this
     have hNy:X.N[i0]?=ξ y:=by
      rw[XS hlt] at e1'' ⊢
      simpa using e1''
     have hyt:y∈N'.drop tn'.length:=by
      refine Yn (i:=j) ?_
      rw[List.getElem?_drop];exact e10
     have hyf:=hcap y hyt
     have hyc:=outc (y,.free) (lookup_mem hyf) rfl
     obtain⟨m,hn,hl⟩:=hloc
     obtain⟨u,r,l⟩:=hl i0 y v hNy hsv (.inr (.inl hyc))
     refine⟨u,r,?_⟩
     rcases l with⟨k1,_⟩ | ⟨_,c,p,z⟩
     ·have hyc':X.env.kindOf y=ξ .cell:=hyc
      rw[k1] at hyc';cases hyc'
     ·obtain⟨c',p'⟩:=hcl2 y (lookup_mem hyf)
      have pc:c'=c:=by
       have:=hcl1 y c' p'
       rw[p] at this;cases this;rfl
      subst pc
      refine .inr ⟨.inl ?_,c',by rw[hXe];exact p',?_⟩
      ·rw[hXe];exact e_ I3.ok.kind hyf hyc
      ·obtain⟨o,q1,q2⟩:=z
       exact⟨o,keep4 c' o q1,q2⟩
  ·rw[hXe] at p
   obtain⟨v,o,q1,q2⟩:=I3.cell y c (hcl1 y c p)
   exact⟨v,o,keep4 c o q1,q2⟩
  ·rw[hXe];exact I3.hok.fresh (XJ _)
  ·rw[hXe] at p;exact I3.e8 y c (hcl1 y c p)
  ·rw[hXpn] at hp;cases hp
  ·rw[hXp,hXw];exact I3.hok.kept keep4
  ·rw[hXN,hN];simp[Gk]
 -- the loop
 have stat:∀{H':Hp},(∀b∈fp,H' b=ζ)->∀b∈fp,qu X' [] H' b:=fun hn b hb=>by
  refine⟨hn b hb,by rw[hXe];exact fpC b hb,?_,.inl (by rw[hXex];exact hb),fun y c p=>?_,fun p hp=>by rw[hXpn] at hp;cases hp⟩
  ·rw[hXf];intro z
   rcases X4.mp (I3.gW b z) with q | q
   ·exact(f2 b hb).2.1 q
   ·exact(f2 b hb).2.2.1 q
  ·rw[hXe] at p;exact(f2 b hb).2.2.2.2.1 y c (hcl1 y c p)
 have fin:∀{H5:Hp} {s5:XO} {σ5:St},Inv X' [] σ5 H5 s5->Q (.ref acc) H5->compPost (model X.prog X.w) X.A X.xe use Q2 (.ref acc) s3.heap.objs.size (.ok .next) s5:=fun{H5 s5 σ5} I5 q=>by
  obtain⟨m,hn,_⟩:=I5.loc
  rw[hXe] at hn
  have hn':s5.heap.Ns s3.heap.objs.size m:=hn
  obtain⟨oC,esC,epC,hC1,hC2,hC3⟩:=hn'
  have u5:=I5.base
  rw[hXf,hXex,hXH,hXs] at u5
  have fr:H5 s3.heap.objs.size=none:=by have:=I5.free;rw[hXe] at this;exact this
  have hok5:=I5.hok
  rw[hXp,hXw] at hok5
  have hos:s5.os=s3.os:=by have:=I5.os;rw[hXs] at this;exact this
  have IX:Inv X pins σ H5 s5:=I3.wO (s':=s5) (ch:=fp) hos u5 hok5 I5.bare (fun b hb=>by
   obtain⟨g0,g1,g2,g3,g4,g5⟩:=f2 b hb
   exact⟨g3,g1,g4,g5⟩)
  have cC:∀x c,X.env.cells.lookup x=ξ c->c≠s3.heap.objs.size:=fun x c z e=>by
   obtain⟨v,q⟩:=I3.cell x c z
   exact absurd q.lt (by rw[e];exact Y6 _)
  have pC:∀p∈X.pn++pins,p.1≠s3.heap.objs.size:=fun p hp e=>by
   have:=XH (I3.pin p hp).1
   rw[e] at this
   exact Y6 _ this
  refine hfin acc s3.heap.objs.size H5 s5 oC (IX.qY fun p hp=>?_) cC I3.sz pC ⟨m,fun h' z=>⟨oC,esC,epC,z,hC2,hC3⟩⟩ q
  rcases YV.mp hp with z | z
  ·exact IX.pin p (XQ _ z)
  ·have e:=Yg.mp z
   subst e
   refine⟨hC1,fr,Z1 I3.lt,I3.Tu (XJ _),fun v e=>?_⟩
   have e':oC.data=.cell v:=e
   rw[hC2] at e';cases e'
 have L:∀tk,codeAny (model X.prog X.w) X.A (.compLoop (.ListComp elt (⟨tg,iter,ifs,0⟩::more) scope pos) 0 (.ref it) (.ref acc) (compEnvC scope cl s3.heap.objs.size X.env)) (compPost (model X.prog X.w) X.A X.xe use Q2 (.ref acc) s3.heap.objs.size) { s3 with heap:=h₁,toks:=tk }:=fun tk=>by
  rw[<- hXe]
  exact loop X' cl _ s3 H3 fp it acc tn J _ _ hX' hXc T stat w0 (I4 tk) (T.keep _ _ _ st3' fun b _ o q=>keep4 b o q) fpn fin
 refine codeAny_compStart_list (L _) ?_
 exact T.self _ 0 _ _ _ (T.keep _ _ _ st3' fun b _ o q=>keep4 b o q) (L _)
def wX {X:Cx}{use:Option (XI->Sem Unit)}{Q2:XI->XO->Prop}{pins:List (XW × Obj)}{s:XO}{σ:St}{H:Hp}{Q:VK}{elt iter tg:YL}{tn':List Str}{tgr:TG}{ifs:List YL}{scope osc:abe}{pos:Pos}{wi:TI}{tt:TT}{te:TE} (ix:List Nat) (N':List Str)
  (hxe:X.xe=fun _ _=>False) (hc:X.calm=θ) (ho:X.env.scope=osc) (hN:N'=tn'++ix.map fun i=>(X.N[i]?).getD ("" : Str)) (hnd:N'.Nodup)
  (hall:(∀y∈scope.names,y.2=.free->osc.names.lookup y.1=ξ .cell)/\(∀y∈scope.names,y.2≠.cell)/\scope.kind=.function/\(∀y∈scope.names,y.2=.local->scope.names.lookup y.1=ξ .local)/\(∀y∈N'.drop tn'.length,scope.names.lookup y=ξ .free))
  (hi:PI X tg iter wi) (hg:∀cl C aP a_ fp,PG (cb X scope cl C aP a_ fp N') tg tgr)
  (ht:∀cl C aP a_ fp,PTs (cb X scope cl C aP a_ fp N') ifs tt)
  (he:∀cl C aP a_ fp,PE (cb X scope cl C aP a_ fp N') elt te)
  (hs:∀x,foldedSetIterable iter X.env x=pure x) (I:Inv X pins σ H s) (h:r8 wi tn'.length ix tgr tt te σ H Q)
  (hfin:∀(acc C:XW) (H5:Hp) (s5:XO) (o:Obj),Inv X (pins++[(C,o)]) σ H5 s5->(∀x c,X.env.cells.lookup x=ξ c->c≠C)->X.aP.heap.objs.size<=C->(∀p∈X.pn++pins,p.1≠C)->(∃m,∀h':Y2,h'.get? C=ξ o->h'.Ns C m)->Q (.ref acc) H5->compPost (model X.prog X.w) X.A X.xe use Q2 (.ref acc) C (.ok .next) s5) :
  wpAny (model X.prog X.w) X.A (comprehension (.ListComp elt [⟨tg,iter,ifs,0⟩] scope pos) scope X.env (firstIterPos [⟨tg,iter,ifs,0⟩] pos) (newList []) ψ (eval iter X.env) use) Q2 X.xe s:=by
 refine Fx (CW:=fun J acc H1=>JJ J tn'.length ix σ tgr tt te acc H1 Q) ix N' hc ho hN hnd hall hi hs I h hfin fun X' cl C s3 H3 fp it acc tn J R s4 hX' hXc T stat w0 I4 st4 fpn fin=>?_
 have hXp:X'.prog=X.prog:=by rw[<- hX'];rfl
 have hXw:X'.w=X.w:=by rw[<- hX'];rfl
 have hXK:X'.K=X.K:=by rw[<- hX'];rfl
 have hXA:X'.A=X.A:=by rw[<- hX'];rfl
 have hXx:X'.xe=fun _ _=>False:=by rw[<- hX'];exact hxe
 obtain⟨W,⟨m0,w0⟩,turn⟩:=w0
 refine pV (fun n s'=>∃i ys σ' H',Inv X' [] σ' H' s'/\AJ tn'.length ix σ σ'/\tn i s'.heap/\(∀b∈fp,H' b=ζ)/\W i n ys H') (fun n s5 h5=>?_) m0
  ⟨0,[],Gk tn'.length ix σ,H3,I4,⟨_,List.length_replicate,rfl⟩,st4,fpn,w0⟩
 obtain⟨i,ys,σ5,H5,I5,hσ,st5,fr5,w5⟩:=h5
 rcases turn i n ys H5 w5 with⟨stop,q⟩ | ⟨go,step⟩
 ·have d:=T.done X' hXp hXw hXK hXc i [] s5 σ5 H5 (fun _ _=>False) I5 (stat fr5) st5 stop
  rw[hXA] at d
  refine thn d fun r s6 zq1=>?_
  obtain⟨hr,I6⟩:=zq1
  subst hr
  exact fin I6 q
 ·have d:=T.item X' hXp hXw hXK hXc i [] s5 σ5 H5 (fun _ _=>False) I5 (stat fr5) st5 go
  rw[hXA] at d
  refine thn d fun r s6 zq1=>?_
  obtain⟨u,hr,h6⟩:=zq1
  subst hr
  refine thn h6 fun _ s7 zq1=>?_
  obtain⟨z,H7,I7,r7,y7,st7,fr7⟩:=zq1
  have I7':=I7.pinned (stat fr7) (T.obj _ _ st7)
  have again:∀{H9:Hp} {s9:XO} {ys9:List V} {σ9:St},Inv X' ([]++pe fp s7.heap) σ9 H9 s9->AJ tn'.length ix σ σ9->(∃m',m'<n/\W (i+1) m' ys9 H9)->∃m',m'<n/\∃i ys σ' H',Inv X' [] σ' H' s9/\AJ tn'.length ix σ σ'/\tn i s9.heap/\(∀b∈fp,H' b=ζ)/\W i m' ys H':=fun{H9 s9 ys9 σ9} I9 c9 ⟨m',hm,w9⟩=>by
   refine⟨m',hm,i+1,ys9,_,H9,I9.k4,c9,T.keep _ _ _ st7 fun b hb o e=>(I9.pin (b,o) (XQ _ (XQ _ (gy hb e)))).1,fun b hb=>?_,w9⟩
   obtain⟨o,e,_⟩:=T.obj _ _ st7 b hb
   exact(I9.pin (b,o) (XQ _ (XQ _ (gy hb e)))).2.1
  have ht':=ht cl C s3 H3 fp
  have he':=he cl C s3 H3 fp
  have hg':=hg cl C s3 H3 fp
  rw[hX'] at ht' he' hg'
  have a0:=hg' _ s7 σ5 H7 z u _ I7' r7 (step σ5 z H7 hσ y7)
  rw[hXp,hXw,hXA,hXx] at a0
  refine thn a0 fun _ s8 zq1=>?_
  obtain⟨σ8,H8,I8,c8,q8⟩:=zq1
  have a1:=ht' _ s8 _ H8 _ I8 q8
  rw[hXp,hXw,hXA,hXx] at a1
  refine thn a1 fun b s9 zq1=>?_
  obtain⟨H9,I9,q9⟩:=zq1
  cases b with
  | false=>exact again I9 c8 q9
  | true=>
   have a2:=he' _ s9 _ H9 _ I9 q9
   rw[hXp,hXw,hXA,hXx] at a2
   refine thn a2 fun yv s10 zq1=>?_
   obtain⟨y,H10,I10,r10,q1,q2,q3⟩:=zq1
   have a3:=fM (X:=X') _ s10 _ H10 (.ref acc) [y] (.ref acc) [yv] (fun _ Hq=>∃m',m'<n/\W (i+1) m' (ys++[y]) Hq) I10 rfl (.cons r10 .nil) ⟨acc,ys,y,rfl,rfl,q1,q2,q3⟩
   rw[hXp,hXw,hXA,hXx] at a3
   exact thn a3 fun _ s11 ⟨_,H11,I11,_,q11⟩=>again I11 c8 q11
section
variable {X:Cx}{elt iter tg:YL}{tn':List Str}{tgr:TG}{ifs:List YL}{scope osc:abe}{pos:Pos}{wi:TI}{tt:TT}{te:TE}
def Bg (ix) (tn' N')
  (hxe:X.xe=fun _ _=>False) (hc:X.calm=θ) (ho:X.env.scope=osc) (hN:N'=tn'++ix.map fun i=>(X.N[i]?).getD ("" : Str)) (hnd:N'.Nodup)
  (hall:(∀y∈scope.names,y.2=.free->osc.names.lookup y.1=ξ .cell)/\(∀y∈scope.names,y.2≠.cell)/\scope.kind=.function/\(∀y∈scope.names,y.2=.local->scope.names.lookup y.1=ξ .local)/\(∀y∈N'.drop tn'.length,scope.names.lookup y=ξ .free))
  (hi:PI X tg iter wi) (hg:∀cl C aP a_ fp,PG (cb X scope cl C aP a_ fp N') tg tgr)
  (ht:∀cl C aP a_ fp,PTs (cb X scope cl C aP a_ fp N') ifs tt)
  (he:∀cl C aP a_ fp,PE (cb X scope cl C aP a_ fp N') elt te)
  (hs:∀x,foldedSetIterable iter X.env x=pure x:=by intro _;rfl) :
  PE X (.ListComp elt [⟨tg,iter,ifs,0⟩] scope pos) (r8 wi tn'.length ix tgr tt te):=by
 intro pins s σ H Q I h
 have e:eval (.ListComp elt [⟨tg,iter,ifs,0⟩] scope pos) X.env=comprehension (.ListComp elt [⟨tg,iter,ifs,0⟩] scope pos) scope X.env (firstIterPos [⟨tg,iter,ifs,0⟩] pos) (newList []) ψ (eval iter X.env) none:=by
  rfl
 refine wX ix N' hxe hc ho hN hnd hall hi hg ht he hs I h fun acc C H5 s5 o I5 cC hC pC hm q=>?_
 obtain⟨m,hm⟩:=hm
 exact⟨m,hm _ (I5.pin (C,o) (XQ _ (XQ _ (Yg.mpr rfl)))).1,fun h' hs'=>⟨.ref acc,H5,I5.TZ cC hC pC hs',rfl,q⟩⟩
def Au {py spos:Pos} (ix) (tn' N')
  (hxe:X.xe=fun _ _=>False) (hc:X.calm=θ) (ho:X.env.scope=osc) (hN:N'=tn'++ix.map fun i=>(X.N[i]?).getD ("" : Str)) (hnd:N'.Nodup)
  (hall:(∀y∈scope.names,y.2=.free->osc.names.lookup y.1=ξ .cell)/\(∀y∈scope.names,y.2≠.cell)/\scope.kind=.function/\(∀y∈scope.names,y.2=.local->scope.names.lookup y.1=ξ .local)/\(∀y∈N'.drop tn'.length,scope.names.lookup y=ξ .free))
  (hi:PI X tg iter wi) (hg:∀cl C aP a_ fp,PG (cb X scope cl C aP a_ fp N') tg tgr)
  (ht:∀cl C aP a_ fp,PTs (cb X scope cl C aP a_ fp N') ifs tt)
  (he:∀cl C aP a_ fp,PE (cb X scope cl C aP a_ fp N') elt te)
  (hNN:X.N.Nodup) (hy:X.N[i]?=ξ y) (hl:X.env.scope.names.lookup y=ξ .local)
  (hsw:swapsWith (.ListComp elt [⟨tg,iter,ifs,0⟩] scope pos) (ξ (.Name y py)) spos.line X.env=pure true:=by rfl)
  (hs:∀x,foldedSetIterable iter X.env x=pure x:=by intro _;rfl) :
  PS X (.Assign [.Name y py] (.ListComp elt [⟨tg,iter,ifs,0⟩] scope pos) spos) (Qo (r8 wi tn'.length ix tgr tt te) (jW i)):=by
 intro pins s σ H D I h
 rw[exec_Assign_Name_used _ _ _ _ hsw]
 refine td (ZP ?_)
 refine td ?_
 refine td (wX ix N' hxe hc ho hN hnd hall hi hg ht he hs I h fun acc C H5 s5 o I5 cC hC pC hm q=>?_)
 obtain⟨m,hm⟩:=hm
 refine abO (gG (v:=.ref acc) I5 hNN hy (.inl hl) rfl (fun s6 I6=>?_) (.inr hl))
 refine⟨m,hm _ (I6.pin (C,o) (XQ _ (XQ _ (Yg.mpr rfl)))).1,fun h' hs'=>?_⟩
 exact XG (XG ⟨_,H5,I6.TZ cC hC pC hs',q⟩)
end
section
variable {κ:Type} [DecidableEq κ]
abbrev putK (kvs:List (κ × V)) (k:κ) (v:V):List (κ × V):=
 if (kvs.any fun kv=>decide (kv.1=k))=θ then kvs.map (fun kv=>if kv.1=k then (kv.1,v) else kv) else kvs++[(k,v)]
end
section
variable {X:Cx}{pins:List (XW × Obj)}{σ:St}{H:Hp}{s:XO}{a:XW}{y v:V}{u r:XI}{o:Option V}{A:YK}{E:XI->XO->Prop}
def NS (I:Inv X pins σ H s) (mu:Mut (H a)) (hs:Z0 a s.heap h') (he:∃q,h'.get? a=ξ q) (new:cz X.prog X.w (upd H a ob) h' a ob) :
  Inv X pins σ (upd H a ob) { s with heap:=h',toks:=t' }:=
 I.write (x:=a) (e:=a) mu (.inl rfl) (fun b q hb z=>(hs.2 b hb).trans z) he new
end
abbrev Ug (i:YL):Prop:=∀ov iv,subscripted i ψ ov iv=operate [ov,iv] (getItem ov iv)
def Nj {T id:String}
  (hl:typeLookup (.type T) "__getitem__" = pure (ξ (.builtin id))) (hs:Ug slice)
  (h:wpAny (model prog w) A (eval value env) (fun o s₁=>wpAny (model prog w) A (eval slice env) (fun i s₂=>s₂.TypeIs o T/\wpAny (model prog w) A (getItem o i) Q E s₂) E s₁) E s) :
  wpAny (model prog w) A (eval (.Subscript value slice pos) env) Q E s:=by
 refine acU (Yl h (fun o s₁ h₁=>Yl h₁ (fun i s₂ h₂=>?_) fun _ _ x=>x) fun _ _ x=>x)
 obtain⟨hT,h₂⟩:=h₂
 unfold subscriptTail
 refine td ?_
 rw[getitemInPython_of_ne hT.not_modules]
 refine td (wpAny_specialOf hT hl ?_)
 have fin:wpAny (model prog w) A (subscripted slice ψ o i) (fun r s₃=>wpAny (model prog w) A (letTemporaryGo value o r >>= fun _=>pure r) Q E s₃) E s₂:=by
  rw[hs o i]
  exact wpAny_operating (Yl h₂ (fun r s₃ h₃=>td (wpAny_letTemporaryGo (XG h₃))) fun _ _ x=>x)
 first
  | exact XG (td fin)
  | exact td (XG (td fin))
  | exact td fin
structure M2 (X:Cx) (o) (m) (apos:Pos) (e f) (cpos):Prop where
 base:attributeBase o m X.env (eval o X.env)=eval o X.env
 few:((backTo cpos (starEach [e,f] X.env)).all (fun x=>!x.1)&&(backToKw cpos (keywordEach [] X.env)).all (fun x=>x.1.isSome)
  && decide (([e,f]:List YL).length+([]:List aa8).length+(if ([]:List aa8).isEmpty then 0 else 1)<30))=true
 line:(apos.endLine == cpos.line)=true
 trees:backTo cpos (starEach [e,f] X.env)=[(false,eval e X.env),(false,eval f X.env)]
end L2
namespace L2.FE
open PySem PySem.Spec PyProof.Rows
inductive D where
 | non | bl (b:Bool) | int (i:Int) | str (x:Str) | tup (ds:List D) | frl (ds:List D) | ref (n:Nat) | fn (x:Str) | edic | scr (ds:List D) | exc (c:Str) (fs:List (Str × Int)) | clo (f:Str) (ds:List D)
inductive O where
 | lst (ds:List D) | set (ns:List Int) | dic (kvs:List (Key × D)) | dit (kvs:List (List Key × D)) | ins (c:Str) (fs:List (Str × D))
@[inline]abbrev Hh:=List O
@[inline]abbrev En:=List (Option D)
structure Xc where
 cls:Str
 fs:List (Str × Int)
inductive R (β:Type) where
 | ok (b:β) (h:Hh)
 | err (x:Xc) (h:Hh)
 | bad
abbrev R.bind (r:R β) (f:β->Hh->R γ):R γ:=match r with
 | .ok b h=>f b h
 | .err x h=>.err x h
 | .bad=>.bad
inductive Fl where
 | nx (e:En) | bk (e:En) | ct (e:En) | rt (d:D)
@[inline]abbrev ME:=En->Hh->R D
@[inline]abbrev MT:=En->Hh->R Bool
@[inline]abbrev MA:=En->Hh->R (List D)
@[inline]abbrev MS:=En->Hh->R Fl
abbrev Fro (K:gV) (H:Hp) (p:XW) (vs:List V):Prop:=
 (∃o,H p=ξ (.frz o (.lst vs)))\/∃o its n,K.lookup p=ξ o/\o.cls=.type "list" /\ o.dict=ζ/\o.data=.seq its n/\its.size<=sizeLine/\Vals vs its.toList
def Fro.sq {K:gV} (h:Fro K H p vs):SqL K H p vs:=by
 rcases h with⟨o,h⟩ | h
 ·exact .inl (.inr ⟨o,h⟩)
 ·exact .inr h
abbrev Fr1 (H:Hp) (p:XW) (vs:List V):Prop:=∃o,H p=ξ (.frz o (.lst vs))
def Fr1.fro {K:gV} (h:Fr1 H p vs):Fro K H p vs:=.inl h
def Fr1.sq {K:gV}{H:Hp}{p:XW}{vs:List V} (h:Fr1 H p vs):SqL K H p vs:=let ⟨o,h⟩:=h;.inl (.inr ⟨o,h⟩)
def Fr1.rd (h:Fr1 H p vs):Rd H p (.lst vs):=.inr h
abbrev AtO (p:XW) (o:Obj):HO:=.frz o (.ext fun h=>h.get? p=ξ o)
abbrev XFs (H:Hp) (dc:Option XW) (fs:List (Str × Int)):Prop:=(dc=ζ/\fs=[])\/∃dx od,dc=ξ dx/\H dx=ξ (.frz od (.xd (fs.map fun x=>(x.1,V.int x.2))))
abbrev nB (H:Hp) (clos:List (Str × XW)):List Str->List V->Prop:=Paired fun y v=>∃c o u,clos.lookup y=ξ c/\H c=ξ (AtO c o)/\o.data=.cell (ξ u)/\RelV v u
structure AN (f x qual) (ys) (params) (body:YL) (scope:abe):Prop where
 tx:∃(p0 p2 p3:Pos) (qs:List (Str × Pos)),qs.map (·.1)=ys/\body=.Call (.Name f p0) (qs.map (fun y=>ado y.1 y.2)++[.Name x p2]) [] p3
 kind:scope.kind=.function
 co:scope.isCoroutine=false
 gen:scope.isGenerator=false
 Rp:∀z∈scope.names,z.2≠.cell
 glob:scope.names.lookup f=some .globalImplicit
 loc:scope.names.lookup x=some .local
 free:∀y∈ys,scope.names.lookup y=some .free/\(y == ("__debug__" : Str))=false/\(y == ("__classdict__" : Str))=false
 nd:(f == ("__debug__" : Str))=false/\(x == ("__debug__" : Str))=false
 bind:∀clos pm cdv ctv u,bindArgs (PySem.W.kla_fn "<lambda>" qual params body scope clos pm cdv ctv) ⟨[u],[]⟩=pure [(x,u)]
abbrev OF (f:Str) (clos:List (Str × XW)) (ys:List Str) (o:Obj) (c':XW) (qual:Str):Prop:=
 ∃params body scope pm ctv x,o=Zm "<lambda>" qual params body scope clos pm c' ctv/\AN f x qual ys params body scope
mutual
inductive aL (K) (g) (α) (H):D->V->Prop where
 | non:aL K g α H .non .non
 | bl (b):aL K g α H (.bl b) (.bl b)
 | int (i):aL K g α H (.int i) (.int i)
 | str (x):aL K g α H (.str x) (.str x)
 | ref:α[n]?=some p->aL K g α H (.ref n) (.ref p)
 | tup {ds p vs}:H p=some (.tup vs)->ay K g α H ds vs->aL K g α H (.tup ds) (.ref p)
 | frl {ds p vs}:Fr1 H p vs->ay K g α H ds vs->aL K g α H (.frl ds) (.ref p)
 | scr {ds p vs}:Fro K H p vs->ay K g α H ds vs->aL K g α H (.scr ds) (.ref p)
 | fn:g x=some f->aL K g α H (.fn x) (.ref f)
 | edic:H p=some (.frz o (.dK []))->aL K g α H .edic (.ref p)
 | exc:g c=some C->H p=some (AtO p o)->o.cls=.ref C->(∃vs,o.data=.fields vs)->XFs H o.dict fs->aL K g α H (.exc c fs) (.ref p)
 | clo {f ds p o clos ys vs c' oc qual t vc}:H p=some (AtO p o)->OF f clos ys o c' qual->H c'=some (AtO c' oc)->oc.data=.fields vc->vc[1]?=some (.str qual t)->nB H clos ys vs->ay K g α H ds vs->aL K g α H (.clo f ds) (.ref p)
inductive ay (K) (g:Str->Option XW) (α:List XW) (H:Hp):List D->List V->Prop where
 | nil:ay K g α H [] []
 | cons:aL K g α H d v->ay K g α H ds vs->ay K g α H (d::ds) (v::vs)
end
structure Ex0 (K:gV) (α) (H:Hp) (α':List XW) (H':Hp):Prop where
 pre:α <+: α'
 tup:∀p xs , H p=some (.tup xs)->H' p=some (.tup xs)
 frz:∀p o u , H p=some (.frz o u)->H' p=some (.frz o u)
 tbl:∀p ps , H p=some (.tbl ps)->∃more,H' p=some (.tbl (ps++more))
def Ex0.fro {K:gV} (e:Ex0 K α H α' H') (p) (xs) (h:Fro K H p xs):Fro K H' p xs:=by
 rcases h with⟨o,h⟩ | h
 ·exact .inl ⟨o,e.frz _ _ _ h⟩
 ·exact .inr h
def Ex0.fr1 {K:gV} (e:Ex0 K α H α' H') (p) (xs) (h:Fr1 H p xs):Fr1 H' p xs:=let ⟨o,h⟩:=h;⟨o,e.frz _ _ _ h⟩
structure Ext (K) (α) (H) (α') (H'):Prop extends Ex0 K α H α' H' where
 kept:∀p o,H p=some o->p∉α->(∀ps,o≠.tbl ps)->H' p=some o
 new:∀p,p∈α'->p∉α->H p=none
section
variable {K:gV}{g:Str->Option XW}{α α' α'':List XW}{H H' H'':Hp}
def Ext.keep (e:Ext K α H α' H') (p) (o) (h:H p=ξ o) (n:p∉α) (t:∀ps,o≠.tbl ps:=by intro _ z;cases z):H' p=ξ o:=e.kept p o h n t
def Ext.stays (e:Ext K α H α' H'){p:XW}{o:HO} (h:H p=ξ o) (n:p∉α):H' p≠none:=by
 cases o with
 | tbl ps=>obtain⟨m,q⟩:=e.tbl p ps h;simp_all
 | _=>rw[e.keep p _ h n];simp
def Ex0.refl:Ex0 K α H α H:=⟨Z7 _,fun _ _ h=>h,fun _ _ _ h=>h,fun _ ps h=>⟨#[],by grind⟩⟩
def Ex0.trans (a:Ex0 K α H α' H') (b:Ex0 K α' H' α'' H''):Ex0 K α H α'' H'':=⟨a.pre.trans b.pre,fun p xs h=>b.tup p xs (a.tup p xs h),fun p o u h=>b.frz p o u (a.frz p o u h),fun p ps h=>by
  obtain⟨m1,e1⟩:=a.tbl p ps h
  obtain⟨m2,e2⟩:=b.tbl p _ e1
  grind⟩
def Ext.refl:Ext K α H α H:=⟨.refl,fun _ _ h _ _=>h,fun _ h n=>absurd h n⟩
def Ext.trans (a:Ext K α H α' H') (b:Ext K α' H' α'' H''):Ext K α H α'' H'':=⟨a.toEx0.trans b.toEx0,fun p o h n t=>b.kept p o (a.kept p o h n t) (fun z=>by rw[a.new p z n] at h;cases h) t,fun p z n=>by
  by_cases q:p∈α'
  ·exact a.new p q n
  ·have:=b.new p z q
   cases e:H p with
   | none=>rfl
   | some o=>exact absurd this (a.stays e n)⟩
def Ex0.get (e:Ex0 K α H α' H'){n:Nat}{p:XW} (h:α[n]?=ξ p):α'[n]?=ξ p:=by
 obtain⟨t,rfl⟩:=e.pre
 have hl:n<α.length:=by
  by_cases hl:n<α.length
  ·exact hl
  ·rw[YN {}] at h;cases h
 rw[Yy hl];exact h
mutual
theorem aL.ex0 (e:Ex0 K α H α' H'){d:D}{v:V} (r:aL K g α H d v):aL K g α' H' d v:=by
 cases r with
 | non=>exact .non
 | bl b=>exact .bl b
 | int i=>exact .int i
 | str x=>exact .str x
 | ref h=>exact .ref (e.get h)
 | tup h r=>exact .tup (e.tup _ _ h) (ay.ex0 e r)
 | frl h r=>exact .frl (e.fr1 _ _ h) (ay.ex0 e r)
 | scr h r=>exact .scr (e.fro _ _ h) (ay.ex0 e r)
 | fn h=>exact .fn h
 | edic h=>exact .edic (e.frz _ _ _ h)
 | exc hg h hc hd hf=>
  refine .exc hg (e.frz _ _ _ h) hc hd (hf.imp id ?_)
  rintro⟨dx,od,a,b⟩
  exact⟨dx,od,a,e.frz _ _ _ b⟩
 | clo h l hc hd hv cs r=>
  refine .clo (e.frz _ _ _ h) l (e.frz _ _ _ hc) hd hv (L2.Paired.vT cs ?_) (ay.ex0 e r)
  rintro _ _ ⟨c,o,u,l,a,b⟩
  exact⟨c,o,u,l,e.frz _ _ _ a,b⟩
theorem ay.ex0 (e:Ex0 K α H α' H'){ds:List D}{vs:List V} (r:ay K g α H ds vs):ay K g α' H' ds vs:=by
 cases r with
 | nil=>exact .nil
 | cons r t=>exact .cons (aL.ex0 e r) (ay.ex0 e t)
end
def aL.ext (e:Ext K α H α' H') (r:aL K g α H d v):aL K g α' H' d v:=r.ex0 e.toEx0
def ay.ext (e:Ext K α H α' H') (r:ay K g α H d v):ay K g α' H' d v:=r.ex0 e.toEx0
def ay.length {ds:List D}{vs:List V} (r:ay K g α H ds vs):ds.length=vs.length:=by
 cases r with
 | nil=>rfl
 | cons _ t=>simp[ay.length t]
def ay.append {ds es:List D}{vs us:List V} (r:ay K g α H ds vs) (s:ay K g α H es us):ay K g α H (ds++es) (vs++us):=by
 cases r with
 | nil=>exact s
 | cons r t=>exact .cons r (ay.append t s)
def ay.get:∀{ds:List D}{vs:List V}{i:Nat}{d:D},ay K g α H ds vs->ds[i]?=ξ d->∃v,vs[i]?=ξ v/\aL K g α H d v
 | _,_,_,_,.nil,e=>by simp at e
 | _,_,0,_,.cons r _,e=>by simp_all
 | _,_,i+1,d,.cons _ t,e=>by
  obtain⟨u,h1,h2⟩:=ay.get t (by simpa using e)
  simp_all
def ay.set {d:D}{v:V} (r:aL K g α H d v):∀{ds:List D}{vs:List V} (i:Nat),ay K g α H ds vs->ay K g α H (ds.set i d) (vs.set i v)
 | _,_,_,.nil=>.nil
 | _,_,0,.cons _ t=>.cons r t
 | _,_,i+1,.cons q t=>.cons q (ay.set r i t)
def ay.take:∀{ds:List D}{vs:List V} (n:Nat),ay K g α H ds vs->ay K g α H (ds.take n) (vs.take n)
 | _,_,0,_=>.nil
 | _,_,_+1,.nil=>.nil
 | _,_,n+1,.cons r t=>.cons r (ay.take n t)
def ay.drop:∀{ds:List D}{vs:List V} n , ay K g α H ds vs->ay K g α H (ds.drop n) (vs.drop n)
 | _,_,0,r=>r
 | _,_,_+1,.nil=>.nil
 | _,_,n+1,.cons _ t=>ay.drop n t
def ay.rev:∀{ds:List D}{vs:List V},ay K g α H ds vs->ay K g α H ds.reverse vs.reverse
 | _,_,.nil=>.nil
 | _,_,.cons r t=>by simp only[abT];exact(ay.rev t).append (.cons r .nil)
def ay.erase:∀{ds:List D}{vs:List V} i , ay K g α H ds vs->ay K g α H (ds.eraseIdx i) (vs.eraseIdx i)
 | _,_,_,.nil=>.nil
 | _,_,0,.cons _ t=>t
 | _,_,i+1,.cons q t=>.cons q (ay.erase i t)
def ay.ints (ns:List Int):ay K g α H (ns.map D.int) (ns.map V.int):=by
 induction ns with
 | nil=>exact .nil
 | cons n r ih=>exact .cons (.int n) ih
def ay.EZ:∀{ns:List Int}{vs:List V},ay K g α H (ns.map D.int) vs->vs=ns.map V.int:=by
 intro ns
 induction ns with
 | nil=>intro _ h;cases h;rfl
 | cons n r ih=>
  intro _ h
  cases h with | cons a t=>
  cases a
  rw[ih t];rfl
def ay.flat {ds:List D}{vs:List V} (r:ay K g α H ds vs):∀k,ay K g α H (X0 k ds).flatten (X0 k vs).flatten
 | 0=>.nil
 | k+1=>by rw[aaG];exact r.append (ay.flat r k)
end
abbrev OAt (K:gV) (g:Str->Option XW) (α:List XW) (H:Hp) (p:XW):O->Prop
 | .lst ds=>∃vs,H p=ξ (.lst vs)/\ay K g α H ds vs
 | .set ns=>H p=ξ (.set (fun k=>ns.any (· == k)) ns.length)
 | .dic kvs=>∃kws,H p=ξ (.dK kws)/\Paired (fun(a:Key × D) (b:Key × V)=>a.1=b.1/\aL K g α H a.2 b.2) kvs kws
 | .dit kvs=>∃kws,H p=ξ (.dT kws)/\Paired (fun(a:List Key × D) (b:List Key × V)=>a.1=b.1/\aL K g α H a.2 b.2) kvs kws
 | .ins c fs=>∃C dx kws,g c=ξ C/\H p=ξ (.ins C dx kws)/\Paired (fun(a:Str × D) (b:Str × V)=>a.1=b.1/\aL K g α H a.2 b.2) fs kws
abbrev B6 (H:Hp) (q:XW × Pos × Str):Prop:=H q.1=ξ (.tbl #[])\/∃c' oc vc t,H q.1=ξ (.tbl #[rawInt q.2.1.line,rawInt q.2.1.col,.ref c'])/\H c'=ξ (AtO c' oc)/\oc.data=.fields vc/\vc[1]?=ξ (.str q.2.2 t)
abbrev NM (fd:Zy):Option Pos:=match fd.body with
 | .stmts b=>(match b.getLast? with
  | some (.Return (ξ (.Lambda _ _ _ pos)) _)=>ξ pos
  | some (.Return (ξ (.Call _ es _ _)) _)=>(match es.getLast? with | some (.Lambda _ _ _ pos)=>ξ pos | _=>ζ)
  | _=>ζ)
 | _=>ζ
abbrev m5 (K:gV) (f:XW):Option (XW × Pos × Str):=match K.lookup f with
 | some ⟨_,_,.func fd,_⟩=>(match NM fd,fd.code with
  | some pos,.ref c=>(match K.lookup c with
   | some ⟨_,_,.fields vs,_⟩=>(match (vs[11]?:Option XI) with | some (.ref P)=>ξ (P,pos,fd.qualname++".<locals>." ++ "<lambda>") | _=>ζ)
   | _=>ζ)
  | _,_=>ζ)
 | _=>ζ
abbrev k7 (K:gV) (H:Hp):Prop:=∀f P,m5 K f=ξ P->B6 H P
structure bo (K) (g) (α:List XW) (H) (h:Hh):Prop where
 len:α.length=h.length
 inj:∀(n m:Nat) p , α[n]?=some p->α[m]?=some p->n=m
 here:∀(n:Nat) p o , α[n]?=some p->h[n]?=some o->OAt K g α H p o
 tab:k7 K H
section
variable {K:gV}{g:Str->Option XW}{α α':List XW}{H H':Hp}{h:Hh}
def Paired.T6 (e:Ex0 K α H α' H') (r:Paired (fun(a:Key × D) (b:Key × V)=>a.1=b.1/\aL K g α H a.2 b.2) kvs kws) :
  Paired (fun(a:Key × D) (b:Key × V)=>a.1=b.1/\aL K g α' H' a.2 b.2) kvs kws:=L2.Paired.vT r fun _ _ q=>⟨q.1,q.2.ex0 e⟩
def Paired.Ul (e:Ex0 K α H α' H') (r:Paired (fun(a:List Key × D) (b:List Key × V)=>a.1=b.1/\aL K g α H a.2 b.2) kvs kws) :
  Paired (fun(a:List Key × D) (b:List Key × V)=>a.1=b.1/\aL K g α' H' a.2 b.2) kvs kws:=L2.Paired.vT r fun _ _ q=>⟨q.1,q.2.ex0 e⟩
def Paired.U0 (e:Ex0 K α H α' H') (r:Paired (fun(a:Str × D) (b:Str × V)=>a.1=b.1/\aL K g α H a.2 b.2) kvs kws) :
  Paired (fun(a:Str × D) (b:Str × V)=>a.1=b.1/\aL K g α' H' a.2 b.2) kvs kws:=L2.Paired.vT r fun _ _ q=>⟨q.1,q.2.ex0 e⟩
def B6.mono (t:B6 H P) (a:∀b ps,H b=ξ (.tbl ps)->H' b=ξ (.tbl ps)) (z:∀b o u,H b=ξ (.frz o u)->H' b=ξ (.frz o u)):B6 H' P:=by
 rcases t with h | ⟨c',oc,vc,tk,h,hc,hd⟩
 ·exact .inl (a _ _ h)
 ·exact .inr ⟨c',oc,vc,tk,a _ _ h,z _ _ _ hc,hd⟩
def k7.mono (t:k7 K H) (a:∀b ps,H b=ξ (.tbl ps)->H' b=ξ (.tbl ps)) (z:∀b o u,H b=ξ (.frz o u)->H' b=ξ (.frz o u)):k7 K H':=fun f P e=>(t f P e).mono a z
def k7.upd (t:k7 K H) (n:H p=ζ\/∃u,H p=ξ u/\(∀ys,u≠.tup ys)/\(∀w ys,u≠.frz w ys)/\∀ps,u≠.tbl ps):k7 K (upd H p o):=by
 have ne:∀q u,H q=ξ u->((∃w ys,u=.frz w ys)\/∃ps,u=.tbl ps)->q≠p:=by
  grind
 intro f P e
 rcases t f P e with h | ⟨c',oc,vc,tk,h,hc,hd⟩
 ·exact .inl (by rw[aD (ne _ _ h (.inr ⟨_,rfl⟩))];exact h)
 ·exact .inr ⟨c',oc,vc,tk,by rw[aD (ne _ _ h (.inr ⟨_,rfl⟩))];exact h,by rw[aD (ne _ _ hc (.inl ⟨_,_,rfl⟩))];exact hc,hd⟩
def OAt.isS {p:XW}{o:O} (h:OAt K g α H p o):∃u,H p=ξ u/\(∀ys,u≠.tup ys)/\(∀w ys,u≠.frz w ys)/\∀ps,u≠.tbl ps:=by
 cases o with
 | lst ds=>obtain⟨vs,e,_⟩:=h;simp_all
 | set n=>exact⟨_,h,fun _ z=>(nomatch z),fun _ _ z=>(nomatch z),fun _ z=>nomatch z⟩
 | dic kvs=>obtain⟨vs,e,_⟩:=h;simp_all
 | dit kvs=>obtain⟨vs,e,_⟩:=h;simp_all
 | ins c fs=>obtain⟨C,dx,vs,_,e,_⟩:=h;simp_all
def bo.mem (r:bo K g α H h) (hp:p∈α):∃u,H p=ξ u/\(∀ys,u≠.tup ys)/\(∀w ys,u≠.frz w ys)/\∀ps,u≠.tbl ps:=by
 obtain⟨n,hn,e⟩:=abx hp
 have hn':n<h.length:=by rw[<- r.len];exact hn
 exact(r.here n p _ (by simp_all) (XS hn')).isS
def OAt.ex0 (e:Ex0 K α H α' H') (h:OAt K g α H p o) (k:∀u,H p=ξ u->H' p=ξ u):OAt K g α' H' p o:=by
 cases o with
 | lst ds=>obtain⟨vs,a,r⟩:=h;exact⟨vs,k _ a,r.ex0 e⟩
 | set n=>exact k _ h
 | dic kvs=>obtain⟨kws,a,r⟩:=h;exact⟨kws,k _ a,Paired.T6 e r⟩
 | dit kvs=>obtain⟨kws,a,r⟩:=h;exact⟨kws,k _ a,Paired.Ul e r⟩
 | ins c fs=>obtain⟨C,dx,kws,q,a,r⟩:=h;exact⟨C,dx,kws,q,k _ a,Paired.U0 e r⟩
abbrev Hb (H:Hp) (p:XW):Prop:=H p=ζ\/∃u,H p=ξ u/\(∀ys,u≠.tup ys)/\(∀w ys,u≠.frz w ys)/\∀ps,u≠.tbl ps
def Ex0.upd (n:Hb H p):Ex0 K α H α (upd H p o):=by
 have ne:∀q u,H q=ξ u->((∃ys,u=.tup ys)\/(∃w ys,u=.frz w ys)\/∃ps,u=.tbl ps)->q≠p:=by
  rintro q u e z rfl
  rcases n with n | ⟨u',e',n1,n2,n3⟩
  ·simp_all
  simp_all
 refine⟨Z7 _,fun q xs h=>?_,fun q o u h=>?_,fun q ps h=>⟨#[],?_⟩⟩
 ·rw[aD (ne q _ h (.inl ⟨_,rfl⟩))];exact h
 ·rw[aD (ne q _ h (.inr (.inl ⟨_,_,rfl⟩)))];exact h
 ·rw[aD (ne q _ h (.inr (.inr ⟨_,rfl⟩))),h];simp
def Ex0.more (e:Ex0 K α H α H') (l):Ex0 K α H (α++l) H':=⟨List.prefix_append _ _,e.tup,e.frz,e.tbl⟩
def Ext.fresh (n:H p=ζ):Ext K α H α (upd H p o):=⟨Ex0.upd (.inl n),fun q u h _ _=>by rw[aD (aO h n)];exact h,fun _ z m=>absurd z m⟩
def Ext.push (n:H p=ζ):Ext K α H (α++[p]) (upd H p o):=⟨(Ex0.upd (.inl n)).more _,fun q u h _ _=>by rw[aD (aO h n)];exact h,fun q z m=>by
 simp_all⟩
def bo.off {p:XW}{o:HO} (r:bo K g α H h) (n:Hb H p) (m:p∉α):bo K g α (upd H p o) h:=by
 refine⟨r.len,r.inj,fun k q u a b=>(r.here k q u a b).ex0 (Ex0.upd n) fun w e=>?_,r.tab.upd n⟩
 rw[aD];exact e
 rintro rfl;exact m (Yn a)
def bo.free (r:bo K g α H h) (n:H p=ζ):p∉α:=fun z=>by
 obtain⟨u,e,_⟩:=r.mem z
 simp_all
def bo.grow (r:bo K g α H h) (n:H p=ζ):bo K g α (upd H p o) h:=r.off (.inl n) (r.free n)
def bo.adopt {p:XW}{u:O} (r:bo K g α H h) (n:p∉α) (a:OAt K g (α++[p]) H p u):bo K g (α++[p]) H (h++[u]):=by
 have old:∀{m:Nat} {q:XW},(α++[p])[m]?=ξ q->(α[m]?=ξ q)\/(m=α.length/\q=p):=by
  intro m q h1
  by_cases hm:m<α.length
  ·rw[Yy hm] at h1
   exact .inl h1
  ·have hl:m<(α++[p]).length:=by
    by_cases hl:m<(α++[p]).length
    ·exact hl
    ·rw[YN {}] at h1;cases h1
   have e:m=α.length:=by simp at hl;lia
   subst e
   simp at h1
   exact .inr ⟨rfl,h1.symm⟩
 refine⟨by simp[r.len],fun m k q h1 h2=>?_,fun m q w h1 h2=>?_,r.tab⟩
 ·rcases old h1 with a1 | ⟨e1,e2⟩
  ·rcases old h2 with a2 | ⟨e3,e4⟩
   ·exact r.inj m k q a1 a2
   ·rw[e4] at a1;exact absurd (Yn a1) n
  ·rcases old h2 with a2 | ⟨e3,e4⟩
   ·rw[e2] at a2;exact absurd (Yn a2) n
   ·rw[e1,e3]
 ·rcases old h1 with a1 | ⟨e1,e2⟩
  ·have hm:m<α.length:=by
    by_cases hl:m<α.length
    ·exact hl
    ·rw[YN {}] at a1;cases a1
   rw[Yy (by rw[<- r.len];exact hm)] at h2
   exact(r.here m q w a1 h2).ex0 (Ex0.refl.more _) fun _ z=>z
  ·subst e1 e2
   rw[r.len] at h2
   simp at h2
   subst h2
   exact a
def bo.push (r:bo K g α H h) (n:H p=ζ) (a:OAt K g (α++[p]) (upd H p o) p u):bo K g (α++[p]) (upd H p o) (h++[u]):=(r.grow n).adopt (r.free n) a
def Ext.write {p:XW}{o:HO}{k:Nat} (r:bo K g α H h) (hk:α[k]?=ξ p):Ext K α H α (upd H p o):=
 ⟨Ex0.upd (.inr (r.mem (Yn hk))),fun q u h m _=>by
  rw[aD];exact h
  rintro rfl;exact m (Yn hk),fun _ z m=>absurd z m⟩
def bo.write (r:bo K g α H h) (hk:α[k]?=ξ p) (a:OAt K g α (upd H p o) p u'):bo K g α (upd H p o) (h.set k u'):=by
 have x:Ext K α H α (upd H p o):=Ext.write r hk
 refine⟨by simp[r.len],r.inj,fun m q w h1 h2=>?_,r.tab.upd (.inr (r.mem (Yn hk)))⟩
 rw[ZX] at h2
 by_cases hm:k=m
 ·simp_all
 ·rw[if_neg hm] at h2
  refine(r.here m q w h1 h2).ex0 x.toEx0 fun z e=>?_
  rw[aD];exact e
  rintro rfl;exact hm (r.inj _ _ _ hk h1)
end
@[inline]abbrev GG:=Str->Option XW
@[inline]abbrev EE:=List XW->Hp->Xc->Prop
structure l4 (K) (g:GG) (α) (H) (env:En) (σ:St):Prop where
 len:env.length=σ.length
 vars:∀(i:Nat) d , env[i]?=some (some d)->∃v,σ[i]?=some (some v)/\aL K g α H d v
structure eJ (K) (g:GG) (α) (H) (env) (σ) (h):Prop where
 heap:bo K g α H h
 vs:l4 K g α H env σ
abbrev WQ (K:gV) (g:GG) (ε:EE) (α:List XW) (H:Hp){β:Type} (r:R β) (k:β->Hh->Prop):Prop:=match r with
 | .ok b h=>k b h
 | .err x h=>∀α' H',Ext K α H α' H'->bo K g α' H' h->ε α' H' x
 | .bad=>False
section
variable {K:gV}{g:GG}{ε:EE}{α α':List XW}{H H':Hp}{β γ:Type}
def WQ.bind {f:β->Hh->R γ} (w:WQ K g ε α H (r.bind f) k):WQ K g ε α H r fun b h=>WQ K g ε α H (f b h) k:=by
 cases r<;>exact w
def WQ.ext (e:Ext K α H α' H') (w:WQ K g ε α H r k):WQ K g ε α' H' r k:=by
 cases r with
 | ok b h=>exact w
 | err x h=>exact fun a b c d=>w a b (e.trans c) d
 | bad=>exact w
def WQ.mono (w:WQ K g ε α H r k) (m:∀b h,r=.ok b h->k b h->k' b h):WQ K g ε α H r k':=by
 cases r with
 | ok b h=>exact m b h rfl w
 | err x h=>exact w
 | bad=>exact w
def l4.ext {env:En}{σ:St} (v:l4 K g α H env σ) (e:Ext K α H α' H'):l4 K g α' H' env σ:=
 ⟨v.len,fun i d h=>let ⟨x,a,b⟩:=v.vars i d h;⟨x,a,b.ext e⟩⟩
def eJ.ext (v:eJ K g α H env σ h) (e:Ext K α H α' H') (r:bo K g α' H' h'):eJ K g α' H' env σ h':=⟨r,v.vs.ext e⟩
def l4.set (v:l4 K g α H env σ) (r:aL K g α H d x):l4 K g α H (env.set i (ξ d)) (σ.set i (ξ x)):=by
 refine⟨by simp[v.len],fun j e h=>?_⟩
 rw[ZX] at h ⊢
 by_cases hj:i=j
 ·subst hj
  rw[if_pos rfl] at h ⊢
  have hl:=v.len
  simp_all
 ·rw[if_neg hj] at h ⊢
  exact v.vars j e h
end
abbrev aJ (K:gV) (g:GG) (α:List XW) (H:Hp) (Q:VK):D->Hh->Prop:=fun d h=>∀v H' α',Ext K α H α' H'->bo K g α' H' h->aL K g α' H' d v->Q v H'
abbrev qb (K:gV) (g:GG) (α:List XW) (H:Hp) (Q:Bool->Hp->Prop):Bool->Hh->Prop:=fun b h=>∀H' α',Ext K α H α' H'->bo K g α' H' h->Q b H'
abbrev Tt (K:gV) (g:GG) (α:List XW) (H:Hp) (Q:List V->Hp->Prop):List D->Hh->Prop:=fun ds h=>∀vs H' α',Ext K α H α' H'->bo K g α' H' h->ay K g α' H' ds vs->Q vs H'
abbrev di (K:gV) (g:GG) (α:List XW) (H:Hp) (E:Ends):Fl->Hh->Prop:=fun fl h=>∀H' α',Ext K α H α' H'->bo K g α' H' h->match fl with
 | .nx e=>∀σ,l4 K g α' H' e σ->E.nx σ H'
 | .bk e=>∀σ,l4 K g α' H' e σ->E.bk σ H'
 | .ct e=>∀σ,l4 K g α' H' e σ->E.ct σ H'
 | .rt d=>∀v,aL K g α' H' d v->E.rt v H'
abbrev tM (K:gV) (g:GG) (ε:EE) (m:ME):TE:=fun σ H Q=>∃α env h,eJ K g α H env σ h/\WQ K g ε α H (m env h) (aJ K g α H Q)
abbrev tMT (K:gV) (g:GG) (ε:EE) (m:MT):TT:=fun σ H Q=>∃α env h,eJ K g α H env σ h/\WQ K g ε α H (m env h) (qb K g α H Q)
abbrev tMA (K:gV) (g:GG) (ε:EE) (m:MA):TA:=fun σ H Q=>∃α env h,eJ K g α H env σ h/\WQ K g ε α H (m env h) (Tt K g α H Q)
abbrev tMS (K:gV) (g:GG) (ε:EE) (m:MS):TS:=fun E σ H=>∃α env h,eJ K g α H env σ h/\WQ K g ε α H (m env h) (di K g α H E)
section
variable {K:gV}{g:GG}{ε:EE}{α α':List XW}{H H':Hp}{env:En}{σ:St}{h:Hh}
def aJ.ext (e:Ext K α H α' H') (p:aJ K g α H Q d h):aJ K g α' H' Q d h:=fun v H2 α2 e2 r rd=>p v H2 α2 (e.trans e2) r rd
def qb.ext (e:Ext K α H α' H') (p:qb K g α H Q d h):qb K g α' H' Q d h:=fun H2 α2 e2 r=>p H2 α2 (e.trans e2) r
def di.ext (e:Ext K α H α' H') (p:di K g α H E d h):di K g α' H' E d h:=fun H2 α2 e2 r=>p H2 α2 (e.trans e2) r
def WQ.post (e:Ext K α H α' H') (w:WQ K g ε α H r (aJ K g α H Q)):WQ K g ε α' H' r (aJ K g α' H' Q):=(w.ext e).mono fun _ _ _ p=>p.ext e
def WQ.Se (e:Ext K α H α' H') (w:WQ K g ε α H r (qb K g α H Q)):WQ K g ε α' H' r (qb K g α' H' Q):=(w.ext e).mono fun _ _ _ p=>p.ext e
def WQ.Ej (e:Ext K α H α' H') (w:WQ K g ε α H r (di K g α H E)):WQ K g ε α' H' r (di K g α' H' E):=(w.ext e).mono fun _ _ _ p=>p.ext e
def tM.use (s:eJ K g α H env σ h) (w:WQ K g ε α H (m env h) k)
  (q:∀d h' v H' α',Ext K α H α' H'->eJ K g α' H' env σ h'->aL K g α' H' d v->k d h'->Q v H'):tM K g ε m σ H Q:=
 ⟨α,env,h,s,w.mono fun d h' _ kk v H' α' e r rd=>q d h' v H' α' e (s.ext e r) rd kk⟩
def tMT.use (s:eJ K g α H env σ h) (w:WQ K g ε α H (m env h) k)
  (q:∀d h' H' α',Ext K α H α' H'->eJ K g α' H' env σ h'->k d h'->Q d H'):tMT K g ε m σ H Q:=
 ⟨α,env,h,s,w.mono fun d h' _ kk H' α' e r=>q d h' H' α' e (s.ext e r) kk⟩
def tMA.use (s:eJ K g α H env σ h) (w:WQ K g ε α H (m env h) k)
  (q:∀d h' v H' α',Ext K α H α' H'->eJ K g α' H' env σ h'->ay K g α' H' d v->k d h'->Q v H'):tMA K g ε m σ H Q:=
 ⟨α,env,h,s,w.mono fun d h' _ kk v H' α' e r rd=>q d h' v H' α' e (s.ext e r) rd kk⟩
def aJ.now (p:aJ K g α H Q d h) (r:bo K g α H h) (rd:aL K g α H d v):Q v H:=p v H α Ext.refl r rd
end
def PE.imp (h:PE X e t) (i:∀σ H Q,t' σ H Q->t σ H Q):PE X e t':=fun pins s σ H Q I w=>h pins s σ H Q I (i σ H Q w)
def PT.imp (h:PT X e t) (i:∀σ H Q,t' σ H Q->t σ H Q):PT X e t':=fun pins s σ H Q I w=>h pins s σ H Q I (i σ H Q w)
def PW.imp (h:PW X e t) (i:∀σ H Q,t' σ H Q->t σ H Q):PW X e t':=fun wh pins s σ H Q I w=>h wh pins s σ H Q I (i σ H Q w)
def PA.imp (h:PA X e t) (i:∀σ H Q,t' σ H Q->t σ H Q):PA X e t':=fun p pins s σ H Q I w=>h p pins s σ H Q I (i σ H Q w)
def PS.imp (h:PS X e t) (i:∀σ H Q,t' σ H Q->t σ H Q):PS X e t':=fun pins s σ H Q I w=>h pins s σ H Q I (i Q σ H w)
def PSs.imp (h:PSs X e t) (i:∀σ H Q,t' σ H Q->t σ H Q):PSs X e t':=fun pins s σ H Q I w=>h pins s σ H Q I (i Q σ H w)
abbrev ag (i:Nat):ME:=fun env h=>match env[i]? with
 | some (ξ d)=>.ok d h
 | _=>.bad
abbrev cC (d:D):ME:=fun _ h=>.ok d h
abbrev ak (f:D->D->Hh->R D) (a b:ME):ME:=fun env h=>(a env h).bind fun x h1=>(b env h1).bind fun y h2=>f x y h2
abbrev cUn (f:D->Hh->R D) (a:ME):ME:=fun env h=>(a env h).bind fun x h1=>f x h1
abbrev ah:MA:=fun _ h=>.ok [] h
abbrev aa (a:ME) (r:MA):MA:=fun env h=>(a env h).bind fun x h1=>(r env h1).bind fun xs h2=>.ok (x::xs) h2
abbrev af (f:List D->Hh->R D) (a:MA):ME:=fun env h=>(a env h).bind fun xs h1=>f xs h1
abbrev aF (f:D->Hh->R Bool) (a:ME):MT:=fun env h=>(a env h).bind fun x h1=>f x h1
abbrev jL (a:MT):MT:=fun env h=>(a env h).bind fun b h1=>.ok (!b) h1
abbrev pW (a b:MT):MT:=fun env h=>(a env h).bind fun x h1=>if x=θ then b env h1 else .ok ψ h1
abbrev vf (a b:MT):MT:=fun env h=>(a env h).bind fun x h1=>if x=θ then .ok θ h1 else b env h1
abbrev cIf (c:MT) (a b:ME):ME:=fun env h=>(c env h).bind fun x h1=>if x=θ then a env h1 else b env h1
abbrev asB:D->Hh->R Bool
 | .bl b,h=>.ok b h
 | _,_=>.bad
abbrev Et (a b:ME):ME:=fun env h=>(a env h).bind fun x h1=>(asB x h1).bind fun k h2=>if k=θ then b env h2 else .ok (.bl ψ) h2
abbrev JI (a b:ME):ME:=fun env h=>(a env h).bind fun x h1=>(asB x h1).bind fun k h2=>if k=θ then .ok (.bl θ) h2 else b env h2
abbrev JC (a:ME):ME:=fun env h=>(a env h).bind fun x h1=>(asB x h1).bind fun k h2=>.ok (.bl (!k)) h2
abbrev mC (f f':D->D->Hh->R D) (a b c:ME):ME:=fun env h=>(a env h).bind fun x h1=>(b env h1).bind fun y h2=>(f x y h2).bind fun z h3=>(asB z h3).bind fun k h4=>
 if k=θ then (c env h4).bind fun w h5=>f' y w h5 else .ok (.bl ψ) h4
abbrev fB (K:gV) (g:GG) (ε:EE) (f:D->D->Hh->R D) (r:R2):Prop:=
 ∀α H h a b x y Q , bo K g α H h->aL K g α H a x->aL K g α H b y->WQ K g ε α H (f a b h) (aJ K g α H Q)->r x y H Q
abbrev Um (K:gV) (g:GG) (ε:EE) (f:D->Hh->R D) (r:V->Hp->VK->Prop):Prop:=
 ∀α H h a x Q , bo K g α H h->aL K g α H a x->WQ K g ε α H (f a h) (aJ K g α H Q)->r x H Q
abbrev Tp (K:gV) (g:GG) (ε:EE) (f:D->Hh->R Bool) (r:V->Hp->(Bool->Hp->Prop)->Prop):Prop:=
 ∀α H h a x Q , bo K g α H h->aL K g α H a x->WQ K g ε α H (f a h) (qb K g α H Q)->r x H Q
abbrev nN (K:gV) (g:GG) (ε:EE) (f:List D->Hh->R D) (r:List V->Hp->VK->Prop):Prop:=
 ∀α H h a x Q , bo K g α H h->ay K g α H a x->WQ K g ε α H (f a h) (aJ K g α H Q)->r x H Q
abbrev mH (K:gV) (g:GG) (ε:EE) (f:D->List D->Hh->R D) (r:V->List V->Hp->VK->Prop):Prop:=
 ∀α H h o a y x Q , bo K g α H h->aL K g α H o y->ay K g α H a x->WQ K g ε α H (f o a h) (aJ K g α H Q)->r y x H Q
section
variable {X:Cx}{g:GG}{ε:EE}{a b c:YL}{ma mb mc:ME}{pos:Pos}
def ae (i:Nat){x:Str}{pos:Pos} (hN:X.N[i]?=ξ x:=by rfl) (hv:Vis X.env.scope x:=by first | exact acL rfl | exact ada (acL rfl) | exact ada (ada rfl)) (hd:(x == ("__debug__" : Str))=false:=by decide)
  (hcd:(x == ("__classdict__" : Str))=false:=by decide):PE X (.Name x pos) (tM X.K g ε (ag i)):=by
 refine PE.imp (Lm hN hv hd hcd) fun σ H Q zq1=>?_
 obtain⟨α,env,h,s,w⟩:=zq1
 unfold ag at w
 cases e:env[i]? with
 | none=>rw[e] at w;exact w.elim
 | some d=>
  cases d with
  | none=>rw[e] at w;exact w.elim
  | some d=>
   rw[e] at w
   obtain⟨v,hv,rd⟩:=s.vs.vars i d e
   exact⟨v,hv,aJ.now w s.heap rd⟩
def xA (rd:∀α,aL X.K g α H d v) (t:tM X.K g ε (cC d) σ H Q):tC v σ H Q:=by
 obtain⟨α,env,h,s,w⟩:=t
 exact aJ.now w s.heap (rd α)
def aq:PE X (.Constant (.int i) j pos) (tM X.K g ε (cC (.int i))):=PE.imp Jk fun _ _ _ t=>xA (fun _=>.int i) t
def p8:PE X (.Constant (.bool i) j pos) (tM X.K g ε (cC (.bl i))):=PE.imp Sb fun _ _ _ t=>xA (fun _=>.bl i) t
def aX:PE X (.Constant (.str i) j pos) (tM X.K g ε (cC (.str i))):=PE.imp Qw fun _ _ _ t=>xA (fun _=>.str i) t
def Cs:PE X (.Constant .none j pos) (tM X.K g ε (cC .non)):=PE.imp Pt fun _ _ _ t=>xA (fun _=>.non) t
def Bf (hg:Gl X x) (hm:X.mg x=ξ (.ref f)) (hf:g x=ξ f) (hd:(x == ("__debug__" : Str))=false:=by decide):PE X (.Name x pos) (tM X.K g ε (cC (.fn x))):=
 PE.imp (nF (v:=.ref f) hg hm rfl hd) fun _ _ _ t=>xA (fun _=>.fn hf) t
def f9 (hg:Gl X x) (hm:X.mg x=ξ (.int i t)) (hd:(x == ("__debug__" : Str))=false:=by decide):PE X (.Name x pos) (tM X.K g ε (cC (.int i))):=
 PE.imp (nF (v:=.int i) hg hm ⟨t,rfl⟩ hd) fun _ _ _ t=>xA (fun _=>.int i) t
def yt {K:gV} (im:fB K g ε f r) (t:tM K g ε (ak f ma mb) σ H Q):tOp r (tM K g ε ma) (tM K g ε mb) σ H Q:=by
 obtain⟨α,env,h,s,w⟩:=t
 refine tM.use s w.bind fun d1 h1 v1 H1 α1 e1 s1 r1 w1=>?_
 refine tM.use s1 (w1.ext e1).bind fun d2 h2 v2 H2 α2 e2 s2 r2 w2=>?_
 exact im α2 H2 h2 d1 d2 v1 v2 Q s2.heap (r1.ext e2) r2 ((w2.ext e2).mono fun _ _ _ p=>p.ext (e1.trans e2))
def oF (ho:OpR X (binaryOp op) r) (im:fB X.K g ε f r) (ha:PE X a (tM X.K g ε ma)) (hb:PE X b (tM X.K g ε mb)):PE X (.BinOp a op b pos) (tM X.K g ε (ak f ma mb)):=
 PE.imp (Uk ho ha hb) fun _ _ _ t=>yt im t
def mI (ho:OpR X (compareOp op) r) (im:fB X.K g ε f r) (ha:PE X a (tM X.K g ε ma)) (hb:PE X b (tM X.K g ε mb)) (hm:behindInMarks op b=ψ):PE X (.Compare a [op] [b] pos) (tM X.K g ε (ak f ma mb)):=
 PE.imp (MM ho ha hb hm) fun _ _ _ t=>yt im t
def BA {K:gV} (ht:∀σ H Q,tM K g ε m σ H Q->t σ H Q) (w:tMT K g ε (aF asB m) σ H Q):KZ t σ H Q:=by
 obtain⟨α,env,h,s,w⟩:=w
 refine ht _ _ _ (tM.use s w.bind fun d1 h1 v1 H1 α1 e1 s1 r1 w1=>?_)
 cases r1 with
 | bl k=>exact⟨k,rfl,w1 H1 α1 e1 s1.heap⟩
 | _=>exact w1.elim
def h_ (ho:OpR X (compareOp op) r) (im:fB X.K g ε f r) (ha:PE X a (tM X.K g ε ma)) (hb:PE X b (tM X.K g ε mb)) (hm:behindInMarks op b=ψ):PT X (.Compare a [op] [b] pos) (tMT X.K g ε (aF asB (ak f ma mb))):=
 PT.imp (Mz ho ha hb hm) fun _ _ _ t=>BA (fun _ _ _ u=>yt im u) t
def wH {K:gV} (im:fB K g ε f r) (im':fB K g ε f' r') (t:tM K g ε (mC f f' ma mb mc) σ H Q):Dd r r' (tM K g ε ma) (tM K g ε mb) (tM K g ε mc) σ H Q:=by
 obtain⟨α,env,h,s,w⟩:=t
 refine tM.use s w.bind fun d1 h1 v1 H1 α1 e1 s1 r1 w1=>?_
 refine tM.use s1 (w1.ext e1).bind fun d2 h2 v2 H2 α2 e2 s2 r2 w2=>?_
 refine im α2 H2 h2 d1 d2 v1 v2 _ s2.heap (r1.ext e2) r2 ((w2.ext e2).bind.mono fun z h3 _ w3 v3 H3 α3 e3 hr3 r3=>?_)
 have w4:=w3.bind
 cases r3 with
 | bl k=>
  refine⟨k,rfl,?_⟩
  have s3:=s2.ext e3 hr3
  cases k with
  | true=>
   have w5:WQ K g ε α2 H2 ((mc env h3).bind fun w h5=>f' d2 w h5) _:=w4
   refine tM.use s3 (w5.ext e3).bind fun d4 h4 v4 H4 α4 e4 s4 r4 w6=>?_
   exact im' α4 H4 h4 d2 d4 v2 v4 Q s4.heap (r2.ext (e3.trans e4)) r4 ((w6.ext e4).mono fun _ _ _ p=>p.ext (e1.trans (e2.trans (e3.trans e4))))
  | false=>
   have w5:=w4
   exact w5 _ H3 α3 (e1.trans (e2.trans e3)) s3.heap (.bl ψ)
 | _=>exact w4.elim
def Lg (ho:OpR X (compareOp op) r) (ho':OpR X (compareOp op') r') (im:fB X.K g ε f r) (im':fB X.K g ε f' r') (ha:PE X a (tM X.K g ε ma)) (hb:PE X b (tM X.K g ε mb)) (hc:PE X c (tM X.K g ε mc))
  (hm:lastMarks [op,op'] [b,c]=false:=by with_unfolding_all rfl):PE X (.Compare a [op,op'] [b,c] pos) (tM X.K g ε (mC f f' ma mb mc)):=PE.imp (IS ho ho' ha hb hc hm) fun _ _ _ t=>wH im im' t
def Al (ho:OpR X (compareOp op) r) (ho':OpR X (compareOp op') r') (im:fB X.K g ε f r) (im':fB X.K g ε f' r') (ha:PE X a (tM X.K g ε ma)) (hb:PE X b (tM X.K g ε mb)) (hc:PE X c (tM X.K g ε mc))
  (hm:lastMarks [op,op'] [b,c]=false:=by with_unfolding_all rfl):PT X (.Compare a [op,op'] [b,c] pos) (tMT X.K g ε (aF asB (mC f f' ma mb mc))):=PT.imp (KW ho ho' ha hb hc hm) fun _ _ _ t=>BA (fun _ _ _ u=>wH im im' u) t
def pP {op:UnaryOp}{r:V->Hp->VK->Prop}{f:D->Hh->R D} (ho:UnR X (unaryOp op) r) (im:Um X.K g ε f r) (ha:PE X a (tM X.K g ε ma)):PE X (.UnaryOp op a pos) (tM X.K g ε (cUn f ma)):=
 PE.imp (OT ho ha) fun σ H Q ⟨α,env,h,s,w⟩=>tM.use s w.bind fun d1 h1 v1 H1 α1 e1 s1 r1 w1=>im α1 H1 h1 d1 v1 Q s1.heap r1 (w1.post e1)
def OY (hr:IxR X r) (im:fB X.K g ε f r) (ha:PE X a (tM X.K g ε ma)) (hb:PE X b (tM X.K g ε mb)) (hs:Ea b):PE X (.Subscript a b pos) (tM X.K g ε (ak f ma mb)):=
 PE.imp (Ti hr ha hb hs) fun _ _ _ t=>yt im t
def Ca {f:D->Hh->R Bool} (im:Tp X.K g ε f (fun x H Q=>∃k,Ny X.K x H k/\Q k H)) (ha:PE X a (tM X.K g ε ma)) (he:∀whole,isTrue a X.env whole=(do let v ← whole;standAt a.pos;holding [v] (truthy v))):PT X a (tMT X.K g ε (aF f ma)):=
 PT.imp (I_ ha he) fun σ H Q ⟨α,env,h,s,w⟩=>tM.use s w.bind fun d1 h1 v1 H1 α1 e1 s1 r1 w1=>im α1 H1 h1 d1 v1 Q s1.heap r1 (w1.Se e1)
def HS {mt:MT} (ha:PT X a (tMT X.K g ε mt)):PT X (.UnaryOp .Not a pos) (tMT X.K g ε (jL mt)):=
 PT.imp (P7 ha) fun σ H Q ⟨α,env,h,s,w⟩=>tMT.use s w.bind fun d1 h1 H1 α1 e1 s1 w1=>w1 H1 α1 e1 s1.heap
end
section
variable {X:Cx}{g:GG}{ε:EE}{a b c e:YL}{es:List YL}{rest:List YL}{ma mb mc me:ME}{mt mu:MT}{pos:Pos}
def rq (ha:PT X a (tMT X.K g ε mt)):PW X (.BoolOp .And [a] pos) (tMT X.K g ε mt):=pw_and1 ha
def ua (ha:PT X a (tMT X.K g ε mt)):PW X (.BoolOp .Or [a] pos) (tMT X.K g ε mt):=pw_or1 ha
def Rv (ha:PT X a (tMT X.K g ε mt)) (hb:PW X (.BoolOp .And (b::rest) pos) (tMT X.K g ε mu)):PW X (.BoolOp .And (a::b::rest) pos) (tMT X.K g ε (pW mt mu)):=
 PW.imp (pw_and ha hb) fun σ H Q ⟨α,env,h,s,w⟩=>tMT.use s w.bind fun d1 h1 H1 α1 e1 s1 w1=>by
  cases d1 with
  | true=>rw[if_pos rfl] at w1 ⊢;exact tMT.use s1 (w1.ext e1) fun d2 h2 H2 α2 e2 s2 w2=>w2 H2 α2 (e1.trans e2) s2.heap
  | false=>rw[if_neg Yc] at w1 ⊢;exact w1 H1 α1 e1 s1.heap
def Sv (ha:PT X a (tMT X.K g ε mt)) (hb:PW X (.BoolOp .Or (b::rest) pos) (tMT X.K g ε mu)):PW X (.BoolOp .Or (a::b::rest) pos) (tMT X.K g ε (vf mt mu)):=
 PW.imp (pw_or ha hb) fun σ H Q ⟨α,env,h,s,w⟩=>tMT.use s w.bind fun d1 h1 H1 α1 e1 s1 w1=>by
  cases d1 with
  | true=>rw[if_pos rfl] at w1 ⊢;exact w1 H1 α1 e1 s1.heap
  | false=>rw[if_neg Yc] at w1 ⊢;exact tMT.use s1 (w1.ext e1) fun d2 h2 H2 α2 e2 s2 w2=>w2 H2 α2 (e1.trans e2) s2.heap
def jU (hc:PT X c (tMT X.K g ε mt)) (ha:PE X a (tM X.K g ε ma)) (hb:PE X b (tM X.K g ε mb)):PE X (.IfExp c a b pos) (tM X.K g ε (cIf mt ma mb)):=
 PE.imp (Jo hc ha hb) fun σ H Q ⟨α,env,h,s,w⟩=>tMT.use s w.bind fun d1 h1 H1 α1 e1 s1 w1=>by
  cases d1 with
  | true=>rw[if_pos rfl] at w1 ⊢;exact tM.use s1 (w1.ext e1) fun d2 h2 v2 H2 α2 e2 s2 r2 w2=>w2 v2 H2 α2 (e1.trans e2) s2.heap r2
  | false=>rw[if_neg Yc] at w1 ⊢;exact tM.use s1 (w1.ext e1) fun d2 h2 v2 H2 α2 e2 s2 r2 w2=>w2 v2 H2 α2 (e1.trans e2) s2.heap r2
def zN (h:PE X a (tM X.K g ε ma)):PE X (.BoolOp op [a] pos) (tM X.K g ε ma):=RF h
def CP {K:gV}{k:β->Hh->Prop} (r:aL K g α1 H1 d v) (w:WQ K g ε α H ((asB d h).bind f) k):∃b,v=.bl b/\d=.bl b/\WQ K g ε α H (f b h) k:=by
 cases r with
 | bl b=>exact⟨b,rfl,rfl,w⟩
 | _=>exact w.elim
def Iw (ha:PE X a (tM X.K g ε ma)) (hb:PE X (.BoolOp .And (b::rest) pos) (tM X.K g ε mb)):PE X (.BoolOp .And (a::b::rest) pos) (tM X.K g ε (Et ma mb)):=
 PE.imp (Q9 ha hb) fun σ H Q ⟨α,env,h,s,w⟩=>tM.use s w.bind fun d1 h1 v1 H1 α1 e1 s1 r1 w1=>by
  obtain⟨k,rfl,rfl,w2⟩:=CP r1 w1
  refine⟨k,rfl,?_⟩
  cases k with
  | true=>rw[if_pos rfl] at w2 ⊢;exact tM.use s1 (w2.ext e1) fun d2 h2 v2 H2 α2 e2 s2 r2 w2=>w2 v2 H2 α2 (e1.trans e2) s2.heap r2
  | false=>rw[if_neg Yc] at w2 ⊢;exact w2 _ H1 α1 e1 s1.heap (.bl ψ)
def Lp (ha:PE X a (tM X.K g ε ma)) (hb:PE X (.BoolOp .Or (b::rest) pos) (tM X.K g ε mb)):PE X (.BoolOp .Or (a::b::rest) pos) (tM X.K g ε (JI ma mb)):=
 PE.imp (Tg ha hb) fun σ H Q ⟨α,env,h,s,w⟩=>tM.use s w.bind fun d1 h1 v1 H1 α1 e1 s1 r1 w1=>by
  obtain⟨k,rfl,rfl,w2⟩:=CP r1 w1
  refine⟨k,rfl,?_⟩
  cases k with
  | true=>rw[if_pos rfl] at w2 ⊢;exact w2 _ H1 α1 e1 s1.heap (.bl θ)
  | false=>rw[if_neg Yc] at w2 ⊢;exact tM.use s1 (w2.ext e1) fun d2 h2 v2 H2 α2 e2 s2 r2 w2=>w2 v2 H2 α2 (e1.trans e2) s2.heap r2
def Pf (ha:PE X a (tM X.K g ε ma)):PE X (.UnaryOp .Not a pos) (tM X.K g ε (JC ma)):=
 PE.imp (RC ha) fun σ H Q ⟨α,env,h,s,w⟩=>tM.use s w.bind fun d1 h1 v1 H1 α1 e1 s1 r1 w1=>by
  obtain⟨k,rfl,rfl,w2⟩:=CP r1 w1
  exact⟨k,rfl,w2 _ H1 α1 e1 s1.heap (.bl _)⟩
variable {mr:MA}
def ai:PA X [] (tMA X.K g ε ah):=PA.imp j0 fun σ H Q ⟨α,env,h,s,w⟩=>w [] H α Ext.refl s.heap .nil
def fu (ha:PE X e (tM X.K g ε ma)) (hr:PA X es (tMA X.K g ε mr)) (hs:starEach (e::es) X.env=(ψ,eval e X.env)::starEach es X.env:=by rfl):PA X (e::es) (tMA X.K g ε (aa ma mr)):=
 PA.imp (fw ha hr hs) fun σ H Q ⟨α,env,h,s,w⟩=>tM.use s w.bind fun d1 h1 v1 H1 α1 e1 s1 r1 w1=>tMA.use s1 (w1.ext e1).bind fun d2 h2 v2 H2 α2 e2 s2 r2 w2=>w2 _ H2 α2 (e1.trans e2) s2.heap (.cons (r1.ext e2) r2)
abbrev bz:List D->Hh->R D:=fun ds h=>if ds.length<=1000000 then .ok (.tup ds) h else .bad
def aJ.tup {K:gV}{α:List XW}{H:Hp}{h:Hh}{ds:List D}{vs:List V}{Q:VK}{p:XW} (w:aJ K g α H Q (.tup ds) h) (r:bo K g α H h) (rd:ay K g α H ds vs) (n:H p=ζ):Q (.ref p) (upd H p (.tup vs)):=
 w _ _ α (Ext.fresh n) (r.grow n) (.tup aR (rd.ext (Ext.fresh n)))
def WQ.dj {K:gV}{α:List XW}{H:Hp}{β:Type}{c:Prop} [Decidable c]{r:R β}{k:β->Hh->Prop} (w:WQ K g ε α H (if c then r else .bad) k):c/\WQ K g ε α H r k:=by
 by_cases h:c
 ·simp_all
 ·rw[if_neg h] at w;exact w.elim
def jZ (h:n<=1000000):n<=sizeLine:=by rw[YI];lia
def Lb {x1} (ha:PA X es (tMA X.K g ε mr)):PE X (.Tuple es x1 pos) (tM X.K g ε (af bz mr)):=
 PE.imp (Pn ha) fun σ H Q ⟨α,env,h,s,w⟩=>tMA.use s w.bind fun d1 h1 v1 H1 α1 e1 s1 r1 w1=>by
  obtain⟨hl,w2⟩:=WQ.dj w1
  exact⟨jZ (by rw[<- r1.length];exact hl),fun p hp=>aJ.tup (aJ.ext e1 w2) s1.heap r1 hp⟩
def K8 {K:gV} (im:nN K g ε f r) (t:tM K g ε (af f mr) σ H Q):tCB r (tMA K g ε mr) σ H Q:=by
 obtain⟨α,env,h,s,w⟩:=t
 exact tMA.use s w.bind fun d1 h1 v1 H1 α1 e1 s1 r1 w1=>im α1 H1 h1 d1 v1 Q s1.heap r1 (w1.post e1)
def m3 {id:String}{p:Pos} (hc:bU X (.builtin id) r) (im:nN X.K g ε f r) (hg:Gl X x) (hm:X.mg x=ζ) (hv:bootBuiltins x=ξ (.builtin id)) (ha:PA X (e::es) (tMA X.K g ε mr)) (hn:x≠"__name__" := by decide) (hdb:(x == ("__debug__" : Str))=false:=by decide)
  (he:starEach (e::es) X.env=(ψ,eval e X.env)::starEach es X.env:=by rfl) (hpl:(backTo pos (starEach es X.env)).any (·.1)=false:=by rfl):PE X (.Call (.Name x p) (e::es) [] pos) (tM X.K g ε (af f mr)):=
 PE.imp (mY hc hg hm hv ha hn hdb he hpl) fun _ _ _ t=>K8 im t
def bB {id:String}{p:Pos} (hc:bU X (.type id) r) (im:nN X.K g ε f r) (hg:Gl X x) (hm:X.mg x=ζ) (hv:bootBuiltins x=ξ (.type id)) (ha:PA X (e::es) (tMA X.K g ε mr)) (hn:x≠"__name__" := by decide) (hdb:(x == ("__debug__" : Str))=false:=by decide)
  (he:starEach (e::es) X.env=(ψ,eval e X.env)::starEach es X.env:=by rfl) (hpl:(backTo pos (starEach es X.env)).any (·.1)=false:=by rfl):PE X (.Call (.Name x p) (e::es) [] pos) (tM X.K g ε (af f mr)):=
 PE.imp (gr hc hg hm hv ha hn hdb he hpl) fun _ _ _ t=>K8 im t
end
abbrev bT:MS:=fun env h=>.ok (.nx env) h
abbrev VR:MS:=fun env h=>.ok (.bk env) h
abbrev V5:MS:=fun env h=>.ok (.ct env) h
abbrev av (a b:MS):MS:=fun env h=>(a env h).bind fun fl h1=>match fl with
 | .nx e=>b e h1
 | fl=>.ok fl h1
abbrev bR (a:ME):MS:=fun env h=>(a env h).bind fun _ h1=>.ok (.nx env) h1
abbrev aQ (a:ME):MS:=fun env h=>(a env h).bind fun d h1=>.ok (.rt d) h1
abbrev TQ:MS:=fun env h=>.ok (.rt .non) h
abbrev dI (c:MT) (a b:MS):MS:=fun env h=>(c env h).bind fun x h1=>if x=θ then a env h1 else b env h1
abbrev aZ (i:Nat) (a:ME):MS:=fun env h=>(a env h).bind fun d h1=>.ok (.nx (env.set i (ξ d))) h1
abbrev HJ (i j:Nat) (a:MA):MS:=fun env h=>(a env h).bind fun ds h1=>match ds with
 | [x,y]=>.ok (.nx ((env.set i (ξ x)).set j (ξ y))) h1
 | _=>.bad
abbrev MU (i:Nat) (f:D->D->Hh->R D) (a:ME):MS:=fun env h=>(ag i env h).bind fun x h0=>(a env h0).bind fun y h1=>(f x y h1).bind fun z h2=>.ok (.nx (env.set i (ξ z))) h2
abbrev zR (f:D->D->D->Hh->R Unit) (o i v:ME):MS:=fun env h=>(v env h).bind fun x h1=>(o env h1).bind fun y h2=>(i env h2).bind fun z h3=>(f y z x h3).bind fun _ h4=>.ok (.nx env) h4
section
variable {X:Cx}{g:GG}{ε:EE}{e:YL}{me:ME}{ms mu:MS}{mt:MT}{st:aaN}{rest:List aaN}{pos:Pos}
def eJ.nx {K:gV} (s:eJ K g α' H' env σ h') (e:Ext K α H α' H') (w:di K g α H E (.nx env) h'):E.nx σ H':=w H' α' e s.heap σ s.vs
def Ng:PSs X [] (tMS X.K g ε bT):=PSs.imp Mj fun E σ H ⟨α,env,h,s,w⟩=>s.nx Ext.refl w
def tMS.use {K:gV} (s:eJ K g α H env σ h) (w:WQ K g ε α H (m env h) k)
  (q:∀fl h' H' α',Ext K α H α' H'->bo K g α' H' h'->k fl h'->match fl with
   | .nx e=>∀σ',eJ K g α' H' e σ' h'->E.nx σ' H'
   | .bk e=>∀σ',eJ K g α' H' e σ' h'->E.bk σ' H'
   | .ct e=>∀σ',eJ K g α' H' e σ' h'->E.ct σ' H'
   | .rt d=>∀v,aL K g α' H' d v->E.rt v H'):tMS K g ε m E σ H:=
 ⟨α,env,h,s,w.mono fun fl h' _ kk H' α' e r=>by
  have:=q fl h' H' α' e r kk
  cases fl with
  | nx e=>exact fun σ' v=>this σ' ⟨r,v⟩
  | bk e=>exact fun σ' v=>this σ' ⟨r,v⟩
  | ct e=>exact fun σ' v=>this σ' ⟨r,v⟩
  | rt d=>lia⟩
def jo (h1:PS X st (tMS X.K g ε ms)) (h2:PSs X rest (tMS X.K g ε mu)):PSs X (st::rest) (tMS X.K g ε (av ms mu)):=
 PSs.imp (Li h1 h2) fun E σ H ⟨α,env,h,s,w⟩=>tMS.use s w.bind fun fl h' H' α' e r kk=>by
  cases fl with
  | nx env'=>exact fun σ' s'=>⟨α',env',h',s',WQ.Ej e kk⟩
  | bk env'=>exact fun σ' s'=>(show di X.K g α H E (.bk env') h' from kk) H' α' e r σ' s'.vs
  | ct env'=>exact fun σ' s'=>(show di X.K g α H E (.ct env') h' from kk) H' α' e r σ' s'.vs
  | rt d=>exact fun v rv=>(show di X.K g α H E (.rt d) h' from kk) H' α' e r v rv
def km (h1:PS X st (tMS X.K g ε ms)):PSs X [st] (tMS X.K g ε ms):=D8 h1
def b_ (he:PE X e (tM X.K g ε me)) (hs:swapsWith e ζ pos.line X.env=pure false:=by rfl):PS X (.Expr e pos) (tMS X.K g ε (bR me)):=
 PS.imp (N1 he hs) fun E σ H ⟨α,env,h,s,w⟩=>tM.use s w.bind fun d1 h1 v1 H1 α1 e1 s1 r1 w1=>s1.nx e1 w1
def JD (he:PE X e (tM X.K g ε me)):PS X (.Return (ξ e) pos) (tMS X.K g ε (aQ me)):=
 PS.imp (Lk he) fun E σ H ⟨α,env,h,s,w⟩=>tM.use s w.bind fun d1 h1 v1 H1 α1 e1 s1 r1 w1=>(show di X.K g α H E (.rt d1) h1 from w1) H1 α1 e1 s1.heap v1 r1
def SM {c:YL}{A B:List aaN} (hc:PT X c (tMT X.K g ε mt)) (ha:PSs X A (tMS X.K g ε ms)) (hb:PSs X B (tMS X.K g ε mu)):PS X (.If c A B pos) (tMS X.K g ε (dI mt ms mu)):=
 PS.imp (SK hc ha hb) fun E σ H ⟨α,env,h,s,w⟩=>tMT.use s w.bind fun d1 h1 H1 α1 e1 s1 w1=>by
  cases d1 with
  | true=>rw[if_pos rfl] at w1 ⊢;exact⟨α1,env,h1,s1,WQ.Ej e1 w1⟩
  | false=>rw[if_neg Yc] at w1 ⊢;exact⟨α1,env,h1,s1,WQ.Ej e1 w1⟩
def Ov {i:Nat}{x:Str}{pos':Pos} (hN:X.N.Nodup) (hi:X.N[i]?=ξ x) (hx:Loc X.env.scope x) (he:PE X e (tM X.K g ε me)) (hs:swapsWith e (ξ (.Name x pos')) pos.line X.env=pure false:=by rfl) (hf:X.fn x=θ\/X.env.scope.names.lookup x=ξ .local:=by first | exact .inl rfl | exact .inr rfl | assumption) :
  PS X (.Assign [.Name x pos'] e pos) (tMS X.K g ε (aZ i me)):=
 PS.imp (O8 hN hi hx he hs hf) fun E σ H ⟨α,env,h,s,w⟩=>tM.use s w.bind fun d1 h1 v1 H1 α1 e1 s1 r1 w1=>(show di X.K g α H E (.nx (env.set i (ξ d1))) h1 from w1) H1 α1 e1 s1.heap _ (s1.vs.set r1)
def Ui {i j:Nat}{x y:Str}{a b:YL}{ma:MA}{px py pt:Pos}{kt k2 pt2} (hc:X.calm=θ) (hN:X.N.Nodup) (hi:X.N[i]?=ξ x) (hj:X.N[j]?=ξ y) (hij:i≠j)
  (hx:X.env.scope.names.lookup x=ξ .local) (hy:X.env.scope.names.lookup y=ξ .local) (ha:PA X [a,b] (tMA X.K g ε ma))
  (hw:swappedStores [.Tuple [.Name x px,.Name y py] kt pt] (.Tuple [a,b] k2 pt2) X.env=pure (ξ [x,y]))
  (hs:swapsWithSole [.Tuple [.Name x px,.Name y py] kt pt] (.Tuple [a,b] k2 pt2) pos.line X.env=pure false:=by rfl) :
  PS X (.Assign [.Tuple [.Name x px,.Name y py] kt pt] (.Tuple [a,b] k2 pt2) pos) (tMS X.K g ε (HJ i j ma)):=
 PS.imp (Rb hc hN hi hj hij hx hy ha hw hs) fun E σ H ⟨α,env,h,s,w⟩=>tMA.use s w.bind fun d1 h1 v1 H1 α1 e1 s1 r1 w1=>by
  cases r1 with
  | nil=>exact w1.elim
  | cons ra rr=>
   cases rr with
   | nil=>exact w1.elim
   | cons rb rr=>
    cases rr with
    | nil=>exact⟨_,_,rfl,(show di X.K g α H E (.nx _) h1 from w1) H1 α1 e1 s1.heap _ ((s1.vs.set ra).set rb)⟩
    | cons _ _=>exact w1.elim
def Te {i:Nat}{x:Str}{op:adh}{ti:TIp}{f:D->D->Hh->R D}{pos':Pos} (hN:X.N.Nodup) (hi:X.N[i]?=ξ x) (hx:Loc X.env.scope x) (he:PE X e (tM X.K g ε me)) (ho:PIp X op ti) (im:fB X.K g ε f ti) (hf:X.fn x=θ\/X.env.scope.names.lookup x=ξ .local:=by first | exact .inl rfl | exact .inr rfl | assumption) :
  PS X (.AugAssign (.Name x pos') op e pos) (tMS X.K g ε (MU i f me)):=
 PS.imp (QQ hN hi hx he ho hf) fun E σ H ⟨α,env,h,s,w⟩=>by
  have w0:=w.bind
  unfold ag at w0
  cases ei:env[i]? with
  | none=>rw[ei] at w0;exact w0.elim
  | some d=>
   cases d with
   | none=>rw[ei] at w0;exact w0.elim
   | some d=>
    rw[ei] at w0
    have w1:=w0
    obtain⟨v,hv,rd⟩:=s.vs.vars i d ei
    refine⟨v,hv,tM.use s w1.bind fun d1 h1 v1 H1 α1 e1 s1 r1 w2=>?_⟩
    refine im α1 H1 h1 d d1 v v1 _ s1.heap (rd.ext e1) r1 ((w2.ext e1).bind.mono fun z h2 _ w3 v3 H3 α3 e3 hr3 r3=>?_)
    exact(show di X.K g α H E (.nx _) h2 from w3) H3 α3 (e1.trans e3) hr3 _ ((s1.vs.ext e3).set r3)
abbrev Tw (K:gV) (g:GG) (ε:EE) (f:D->D->D->Hh->R Unit) (t:DJ):Prop:=
 ∀α H h o i v x y z Q , bo K g α H h->aL K g α H o x->aL K g α H i y->aL K g α H v z->WQ K g ε α H (f o i v h) (fun _ h'=>∀H' α',Ext K α H α' H'->bo K g α' H' h'->Q H')->t x y z H Q
def EJ {o i:YL}{mo mi:ME}{t:DJ}{f:D->D->D->Hh->R Unit}{p:Pos} (he:PE X e (tM X.K g ε me)) (ho:PE X o (tM X.K g ε mo)) (hi:PE X i (tM X.K g ε mi)) (hp:NQ X t) (im:Tw X.K g ε f t)
  (ha:∀v,assign (.Subscript o i p) X.env v=(do
   let ov ← holding [v] (eval o X.env)
   let iv ← holding [v,ov] (eval i X.env)
   standAt p
   holding [v,ov,iv] (setItem ov iv v)
   release [v,ov,iv] []):=by intro _;rfl)
  (hs:swapsWithSole [.Subscript o i p] e pos.line X.env=pure false:=by rfl) (hw:swappedStores [.Subscript o i p] e X.env=pure none:=by rfl)
  (h1:(assignEach [.Subscript o i p] X.env).map (·.2)=[assign (.Subscript o i p) X.env]:=by rfl):PS X (.Assign [.Subscript o i p] e pos) (tMS X.K g ε (zR f mo mi me)):=
 PS.imp (Kg he (Pk ho hi hp ha) hs hw h1) fun E σ H ⟨α,env,h,s,w⟩=>tM.use s w.bind fun d1 h1 v1 H1 α1 e1 s1 r1 w1=>tM.use s1 (w1.ext e1).bind fun d2 h2 v2 H2 α2 e2 s2 r2 w2=>tM.use s2 (w2.ext e2).bind fun d3 h3 v3 H3 α3 e3 s3 r3 w3=>by
  refine im α3 H3 h3 d2 d3 d1 v2 v3 v1 _ s3.heap (r2.ext e3) r3 ((r1.ext e2).ext e3) ((w3.ext e3).bind.mono fun _ h4 _ w4 H4 α4 e4 hr4=>?_)
  exact(show di X.K g α H E (.nx env) h4 from w4) H4 α4 (e1.trans (e2.trans (e3.trans e4))) hr4 _ (s3.vs.ext e4)
end
def D6 {σ:St} (I:Inv X pins σ H s) (h:H p=ξ u) (mu:Mut (ξ u)):∃o,Inv X pins σ (upd H p (.frz o u)) s:=by
 obtain⟨o,ho⟩:∃o,s.heap.get? p=ξ o:=by
  cases e:s.heap.get? p with
  | some o=>simp
  | none=>
   have q:=I.hok p _ h
   cases u with
   | lst xs=>obtain⟨_,_,_,_,e'⟩:=q;simp_all
   | dK kvs=>obtain⟨_,_,_,_,o,_,_,e',_⟩:=q;simp_all
   | dT kvs=>obtain⟨_,_,_,_,o,_,_,e',_⟩:=q;simp_all
   | set S n=>obtain⟨o,_,_,_,e',_⟩:=q;simp_all
   | ins C dx fs=>obtain⟨_,_,_,e',_⟩:=q;simp_all
   | ext φ=>obtain⟨_,⟨_,e'⟩,_⟩:=q;simp_all
   | _=>exact absurd mu (fun z=>z)
 have nt:∀b xs,H b=ξ (.tup xs)->b≠p:=fun b xs e z=>by subst z;rw[h] at e;cases e;exact mu
 have nf:∀b o u,H b=ξ (.frz o u)->b≠p:=fun b o u e z=>by subst z;rw[h] at e;cases e;exact mu
 have nb:∀b ps,H b=ξ (.tbl ps)->b≠p:=fun b ps e z=>by subst z;rw[h] at e;cases e;exact mu
 have no:∀b y,H b=ξ (.own y)->b≠p:=fun b ps e z=>by subst z;rw[h] at e;cases e;exact mu
 have hok:HOk X.prog X.w (upd H p (.frz o u)) s.heap:=fun b v q=>by
  by_cases hb:b=p
  ·subst hb
   rw[aR] at q;cases q
   exact⟨ho,(I.hok b _ h).lY (fun _ _ _ z=>z) (fun c z=>by rw[aD (no c _ z)];exact z) fun c xs z=>by rw[aD (nt c xs z)];exact z⟩
  ·rw[aD hb] at q
   exact(I.hok b v q).lY (fun _ _ _ z=>z) (fun c z=>by rw[aD (no c _ z)];exact z) fun c xs z=>by rw[aD (nt c xs z)];exact z
 refine⟨o,?_⟩
 have np:∀b,H b=ζ->b≠p:=fun b e z=>by simp_all
 have:=I.un (t':=s.toks) ⟨fun b o q _ _ _=>q,fun b o q _ _ _=>⟨o.slots,q⟩,fun b v q n _=>(by rw[aD (np b n)];exact n),fun b o q _=>⟨o,q⟩,fun b xs q=>(by rw[aD (nt b xs q)];exact q),fun b o v q=>(by rw[aD (nf b o v q)];exact q),fun b ps q=>⟨#[],by rw[aD (nb b ps q),q];simp⟩⟩ hok
 omega
abbrev kI (Q:VK):VK:=fun v H=>Q v H\/∃p u,v=.ref p/\H p=ξ u/\Mut (ξ u)/\∀o,Q v (upd H p (.frz o u))
def EP.frz (h:EP X pins σ (kI Q) u s'):EP X pins σ Q u s':=by
 obtain⟨v,H',I,r,q | ⟨p,u,rfl,e,m,q⟩⟩:=h
 ·exact⟨v,H',I,r,q⟩
 ·obtain⟨o,I'⟩:=D6 I e m
  exact⟨_,_,I',r,q o⟩
def PE.frz (h:PE X e t):PE X e fun σ H Q=>t σ H (kI Q):=fun pins s σ H Q I w=>thn (h pins s σ H _ I w) fun _ _ z=>EP.frz z
def OpR.frz (h:OpR X f r):OpR X f fun x y H Q=>r x y H (kI Q):=fun pins s σ H x y v u Q I rx ry q=>thn (h pins s σ H x y v u _ I rx ry q) fun _ _ z=>EP.frz z
def bU.frz (h:bU X f r):bU X f fun xs H Q=>r xs H (kI Q):=fun pins s σ H xs us Q I rx q=>thn (h pins s σ H xs us _ I rx q) fun _ _ z=>EP.frz z
abbrev Ta (D:Ends):Ends:={ D with nx:=fun σ H=>D.nx σ H\/∃p u,H p=ξ u/\Mut (ξ u)/\∀o,D.nx σ (upd H p (.frz o u)) }
def PS.frz {st:aaN}{t:TS} (h:PS X st t):PS X st fun E σ H=>t (Ta E) σ H:=fun pins s σ H E I w=>thn (h pins s σ H _ I w) fun fl s' z=>by
 cases fl with
 | next=>
  obtain⟨σ',H',I,q | ⟨p,u,e,m,q⟩⟩:=z
  ·exact⟨σ',H',I,q⟩
  ·obtain⟨o,I'⟩:=D6 I e m
   exact⟨σ',_,I',q o⟩
 | brk=>exact z
 | cont=>exact z
 | ret u=>exact z
def NU {σ:St} (z:kI (fun v H1=>E.nx (σ.set i (ξ v)) H1) v H1):(Ta E).nx (σ.set i (ξ v)) H1:=by
 rcases z with z | ⟨p,u,_,e,m,q⟩
 ·exact .inl z
 ·exact .inr ⟨p,u,e,m,q⟩
@[inline]abbrev NL:=List D->Hh->R D
abbrev dy:NL:=fun ys h2=>.ok (.ref h2.length) (h2++[O.lst ys])
abbrev aA:NL:=fun ys h2=>.ok (.frl ys) h2
class ji (nl:NL):Prop where
 at':∀{K:gV} {g:GG} {ε:EE} {α1 α2:List XW} {H1 H2:Hp} {h:Hh} {as:List D} {ys:List V} {acc:XW} {Q:D->Hh->Prop} {R:VK},WQ K g ε α1 H1 (nl as h) Q->(∀d h',Q d h'->aJ K g α1 H1 R d h')->Ext K α1 H1 α2 H2->bo K g α2 H2 h->ay K g α2 H2 as ys->H2 acc=some (.lst ys)->acc∉α2->H1 acc=none->kI R (.ref acc) H2
instance:ji dy where
 at':=fun{K g ε α1 α2 H1 H2 h as ys acc Q R} w hq x2 hr2 ra ha hna hacc=>by
  have x3:Ext K α1 H1 (α2++[acc]) H2:=⟨x2.toEx0.trans (Ex0.refl.more _),x2.kept,fun p z n=>by
   rcases YV.mp z with z | z
   ·exact x2.new p z n
   ·rw[Yg.mp z];exact hacc⟩
  refine .inl (hq _ _ w _ H2 (α2++[acc]) x3 (hr2.adopt hna ⟨ys,ha,ra.ex0 (Ex0.refl.more _)⟩) (.ref ?_))
  rw[<- hr2.len,Yh (XJ _)];simp
instance:ji aA where
 at':=fun{K g ε α1 α2 H1 H2 h as ys acc Q R} w hq x2 hr2 ra ha hna hacc=>by
  refine .inr ⟨acc,_,rfl,ha,trivial,fun o=>?_⟩
  have soft:Hb H2 acc:=.inr ⟨_,ha,fun _ z=>(nomatch z),fun _ _ z=>(nomatch z),fun _ z=>nomatch z⟩
  have x6:Ex0 K α2 H2 α2 (upd H2 acc (.frz o (.lst ys))):=Ex0.upd soft
  refine hq _ _ w _ _ α2 ⟨x2.toEx0.trans x6,fun p u z n nt=>?_,x2.new⟩ (hr2.off soft hna) (.frl ⟨o,aR⟩ (ra.ex0 x6))
  rw[aD (aO z hacc)];exact x2.kept p u z n nt
def NL.post [ji nl]{K:gV}{g:GG}{ε:EE}{α:List XW}{H:Hp}{h:Hh}{ds:List D}{vs:List V}{Q:VK}{p:XW} (w:WQ K g ε α H (nl ds h) (aJ K g α H Q)) (r:bo K g α H h) (rd:ay K g α H ds vs) (n:H p=ζ):kI Q (.ref p) (upd H p (.lst vs)):=
 ji.at' w (fun _ _ z=>z) (Ext.fresh n) (r.grow n) (rd.ext (Ext.fresh n)) aR (r.free n) n
abbrev bV (nl:NL):List D->Hh->R D:=fun ds h=>if ds.length<=1000000 then nl ds h else .bad
def IV {X:Cx}{g:GG}{ε:EE}{es:List YL}{mr:MA}{pos:Pos}{nl:NL} [ji nl] (ha:PA X es (tMA X.K g ε mr)):PE X (.List es pos) (tM X.K g ε (af (bV nl) mr)):=
 PE.imp (PE.frz (RD ha)) fun σ H Q ⟨α,env,h,s,w⟩=>tMA.use s w.bind fun d1 h1 v1 H1 α1 e1 s1 r1 w1=>by
  obtain⟨hl,w2⟩:=WQ.dj w1
  exact⟨jZ (by rw[<- r1.length];exact hl),fun p hp=>NL.post (w2.post e1) s1.heap r1 hp⟩
abbrev aE (h:Hh) (n:Nat):Option (List D):=match h[n]? with
 | some (.lst ds)=>ξ ds
 | _=>ζ
inductive Src where
 | snap (ds:List D)
 | live (n:Nat)
 | liveE (n:Nat)
@[inline]abbrev MI:=En->Hh->R Src
@[inline]abbrev Rdr:=Hh->Nat->Option (Option D)
abbrev Src.rdr:Src->Rdr
 | .snap ds=>fun _ i=>ξ ds[i]?
 | .live n=>fun h i=>(aE h n).map fun ds=>ds[i]?
 | .liveE n=>fun h i=>(aE h n).map fun ds=>(ds[i]?).map fun d=>D.tup [.int i,d]
abbrev Src.fuel (s:Src) (h:Hh):Nat:=match s with
 | .snap ds=>ds.length
 | .live n=>((aE h n).getD []).length
 | .liveE n=>((aE h n).getD []).length
abbrev Reads (K:gV) (g:GG) (J:It) (rd:Rdr) (α₀:List XW) (a_:Hp):Prop:=
 ∀α H h , Ext K α₀ a_ α H->bo K g α H h->∀i,match rd h i with
  | none=>True
  | some ζ=>J.stop i H
  | some (ξ d)=>J.go i H/\∀x H',J.yld i H x H'->∃α',Ext K α H α' H'/\bo K g α' H' h/\aL K g α' H' d x
abbrev tMI (K:gV) (g:GG) (ε:EE) (m:MI):TI:=fun σ H T=>∃α env h,eJ K g α H env σ h/\WQ K g ε α H (m env h) fun sr h'=>∀J H' α',Ext K α H α' H'->bo K g α' H' h'->Reads K g J sr.rdr α' H'->T J H'
def PI.imp (h:PI X tg e t) (i:∀σ H Q,t' σ H Q->t σ H Q):PI X tg e t':=fun pins s σ H Q I w=>h pins s σ H Q I (i σ H Q w)
abbrev l7 (rd:Rdr) (tg:D->En->Hh->R En) (body:MS):Nat->Nat->En->Hh->R Fl
 | k,i,env,h=>match rd h i with
  | none=>.bad
  | some ζ=>.ok (.nx env) h
  | some (ξ d)=>match k with
   | 0=>.bad
   | k+1=>(tg d env h).bind fun e1 h1=>(body e1 h1).bind fun fl h2=>match fl with
    | .nx e=>l7 rd tg body k (i+1) e h2
    | .ct e=>l7 rd tg body k (i+1) e h2
    | .bk e=>.ok (.nx e) h2
    | .rt d=>.ok (.rt d) h2
abbrev eg (tg:D->En->Hh->R En) (body:MS):List D->En->Hh->R Fl
 | [],env,h=>.ok (.nx env) h
 | d::ds,env,h=>(tg d env h).bind fun e1 h1=>(body e1 h1).bind fun fl h2=>match fl with
  | .nx e=>eg tg body ds e h2
  | .ct e=>eg tg body ds e h2
  | .bk e=>.ok (.nx e) h2
  | .rt d=>.ok (.rt d) h2
def NT (tg:D->En->Hh->R En) (body:MS) (all:List D):∀(ds:List D) (i:Nat) (env:En) (h:Hh),all.drop i=ds->l7 (Src.snap all).rdr tg body ds.length i env h=eg tg body ds env h:=by
 intro ds
 induction ds with
 | nil=>
  intro i env h e
  have:all[i]?=none:=by
   simp_all
  unfold l7 eg Src.rdr
  grind
 | cons d ds ih=>
  intro i env h e
  have h0:all[i]?=ξ d:=by
   have:=congrArg (fun l=>l[0]?) e
   grind
  have h1:all.drop (i+1)=ds:=by
   have:=congrArg List.tail e
   simpa using this
  unfold l7 eg
  have:(Src.snap all).rdr h i=ξ (ξ d):=by unfold Src.rdr;simp[h0]
  simp_all
abbrev fh (mi:MI) (tg:D->En->Hh->R En) (body:MS):MS:=fun env h=>(mi env h).bind fun sr h1=>match sr with
 | .snap ds=>eg tg body ds env h1
 | .live n=>l7 (Src.live n).rdr tg body ((aE h1 n).getD []).length 0 env h1
 | .liveE n=>l7 (Src.liveE n).rdr tg body ((aE h1 n).getD []).length 0 env h1
def Nk:fh mi tg body env h=(mi env h).bind fun sr h1=>l7 sr.rdr tg body (sr.fuel h1) 0 env h1:=by
 unfold fh
 congr 1
 funext sr h1
 cases sr with
 | snap ds=>exact(NT tg body ds ds 0 env h1 rfl).symm
 | live n=>rfl
 | liveE n=>rfl
abbrev gN (i:Nat):D->En->Hh->R En:=fun d env h=>.ok (env.set i (ξ d)) h
abbrev gT2 (i j:Nat):D->En->Hh->R En:=fun d env h=>match d with
 | .tup [x,y]=>.ok ((env.set i (ξ x)).set j (ξ y)) h
 | _=>.bad
abbrev Qc (K:gV) (g:GG) (ε:EE) (tg:D->En->Hh->R En) (t:TG):Prop:=
 ∀α H h env σ d x Q , eJ K g α H env σ h->aL K g α H d x →
  WQ K g ε α H (tg d env h) (fun e1 h1=>∀σ' H' α',Ext K α H α' H'->eJ K g α' H' e1 σ' h1->Q σ' H')->t x σ H Q
def gD {K:gV}:Qc K g ε (gN i) (jW i):=fun α H h env σ d x Q s r w=>w _ H α Ext.refl ⟨s.heap,s.vs.set r⟩
def zZ {K:gV}:Qc K g ε (gT2 i j) (K4 K 2 (nj (jW i) (nj (jW j) Le))):=fun α H h env σ d x Q s r w=>by
 cases r with
 | tup hq rs=>
  cases rs with
  | nil=>exact w.elim
  | cons ra rr=>
   cases rr with
   | nil=>exact w.elim
   | cons rb rr=>
    cases rr with
    | nil=>exact⟨_,_,rfl,SqT.of hq,rfl,_,_,rfl,_,_,rfl,rfl,w _ H α Ext.refl ⟨s.heap,(s.vs.set ra).set rb⟩⟩
    | cons _ _=>exact w.elim
 | _=>exact w.elim
section
variable {X:Cx}{g:GG}{ε:EE}
def jN {tg iter:YL}{body:List aaN}{mi:MI}{t:TG}{fg:D->En->Hh->R En}{mb:MS}{pos:Pos} (hp:abf (model X.prog X.w) X.A X.env X.xe) (hc:X.calm=θ) (hi:PI X tg iter (tMI X.K g ε mi)) (hg:PG X tg t) (ig:Qc X.K g ε fg t) (hb:PSs X body (tMS X.K g ε mb))
  (hs:∀x,foldedSetIterable iter X.env x=pure x:=by intro _;rfl):PS X (.For tg iter body [] pos) (tMS X.K g ε (fh mi fg mb)):=by
 refine PS.imp (Rf hp hc hi hg hb hs) fun E σ H zq1=>?_
 obtain⟨α,env,h,s,w⟩:=zq1
 rw[Nk] at w
 refine⟨α,env,h,s,w.bind.mono fun sr h1 _ w1 J H1 α1 e1 hr1 rd=>?_⟩
 refine⟨fun i m σ H=>∃α env h,Ext X.K α1 H1 α H/\eJ X.K g α H env σ h/\WQ X.K g ε α H (l7 sr.rdr fg mb m i env h) (di X.K g α H E),⟨sr.fuel h1,α1,env,h1,Ext.refl,s.ext e1 hr1,w1.Ej e1⟩,?_⟩
 rintro i m σ2 H2 ⟨α2,env2,h2,x2,s2,w2⟩
 have q:=rd α2 H2 h2 x2 s2.heap i
 unfold l7 at w2
 cases e:sr.rdr h2 i with
 | none=>rw[e] at w2;exact w2.elim
 | some od=>
  rw[e] at w2 q
  cases od with
  | none=>exact .inl ⟨q,s2.nx Ext.refl w2⟩
  | some d=>
   cases m with
   | zero=>exact w2.elim
   | succ m=>
    have w3:=WQ.bind (show WQ X.K g ε α2 H2 ((fg d env2 h2).bind _) _ from w2)
    refine .inr ⟨q.1,fun σ' H'=>∃α env h,Ext X.K α1 H1 α H'/\eJ X.K g α H' env σ' h/\WQ X.K g ε α H' (l7 sr.rdr fg mb m (i+1) env h) (di X.K g α H' E),fun σ' H' z=>⟨m,YQ _,z⟩,fun x H3 y=>?_⟩
    obtain⟨α3,x3,hr3,rx⟩:=q.2 x H3 y
    refine ig α3 H3 h2 env2 σ2 d x _ (s2.ext x3 hr3) rx ((w3.ext x3).mono fun e4 h4 _ w4 σ4 H4 α4 x4 s4=>?_)
    refine tMS.use s4 ((w4.ext x3).ext x4).bind fun fl h5 H5 α5 x5 hr5 w5=>?_
    have tr:=x3.trans (x4.trans x5)
    cases fl with
    | nx e=>exact fun σ' s'=>⟨α5,e,h5,x2.trans tr,s',((w5.ext x5)).mono fun _ _ _ p=>p.ext tr⟩
    | ct e=>exact fun σ' s'=>⟨α5,e,h5,x2.trans tr,s',((w5.ext x5)).mono fun _ _ _ p=>p.ext tr⟩
    | bk e=>exact fun σ' s'=>(show di X.K g α2 H2 E (.nx e) h5 from w5) H5 α5 tr hr5 σ' s'.vs
    | rt d=>exact fun v rv=>(show di X.K g α2 H2 E (.rt d) h5 from w5) H5 α5 tr hr5 v rv
def bo.lst {K:gV}{α:List XW}{H:Hp}{h:Hh}{n:Nat}{ds:List D} (r:bo K g α H h) (e:aE h n=ξ ds){p:XW} (hp:α[n]?=ξ p):∃vs,H p=ξ (.lst vs)/\ay K g α H ds vs:=by
 unfold aE at e
 cases o:h[n]? with
 | none=>simp_all
 | some o'=>
  rw[o] at e
  have q:=r.here n p o' hp o
  cases o' with
  | lst ds'=>cases e;assumption
  | set n=>cases e
  | dic k=>cases e
  | dit k=>cases e
  | ins c k=>cases e
abbrev An:D->Hh->R Src
 | .tup ds,h=>.ok (.snap ds) h
 | .frl ds,h=>.ok (.snap ds) h
 | .scr ds,h=>.ok (.snap ds) h
 | .ref n,h=>match aE h n with
  | some _=>.ok (.live n) h
  | none=>.bad
 | _,_=>.bad
abbrev du (a:ME):MI:=fun env h=>(a env h).bind An
abbrev Wd (K:gV) (tl:TE):TI:=fun σ H R=>tl σ H fun x H1=>∃a,x=.ref a/\(((∃xs,SqL K H1 a xs)/\R (Itl K a) H1)\/((∃xs,SqT K H1 a xs)/\R (Itt K a) H1))
def PC {tg l:YL}{tl:TE} (hl:PE X l tl):PI X tg l (Wd X.K tl):=by
 intro pins s σ H R I h
 refine thn (hl pins s σ H _ I h) fun v s1 zq1=>?_
 obtain⟨x,H1,I1,r1,q1⟩:=zq1
 obtain⟨a,e,q⟩:=q1
 subst e
 cases r1
 rcases q with⟨⟨xs,hq⟩,q⟩ | ⟨⟨xs,hq⟩,q⟩
 ·obtain⟨its,rv,p,hz⟩:=I1.list hq
  refine wpAny_pyIter_list p.isList ?_
  refine⟨s1.heap.objs.size,[s1.heap.objs.size],_,_,H1,rfl,I1.kept fun b o e=>XB _ e,GZ a _,⟨_,XN _ rfl,rfl,rfl⟩,fun b hb=>?_,q⟩
  have e:b=s1.heap.objs.size:=by simp_all
  subst e
  exact I1.HX (XJ _) (I1.hok.fresh (XJ _))
 ·obtain⟨its,rv,p,hz⟩:=I1.tuple hq
  refine aaf (show s1.heap.IsTuple a its.toArray from p) ?_
  refine⟨s1.heap.objs.size,[s1.heap.objs.size],_,_,H1,rfl,I1.kept fun b o e=>XB _ e,CZ a _,⟨_,XN _ rfl,rfl,rfl⟩,fun b hb=>?_,q⟩
  have e:b=s1.heap.objs.size:=by simp_all
  subst e
  exact I1.HX (XJ _) (I1.hok.fresh (XJ _))
def GA {K:gV} (hq':H a=ξ (.tup vs)) (rs:ay K g α H ds vs):Reads K g (Itt K a) (Src.snap ds).rdr α H:=by
 intro α2 H2 h2 x2 hr i
 have hq2:SqT K H2 a vs:=SqT.of (x2.tup _ _ hq')
 have rs2:=rs.ext x2
 show match ξ ds[i]? with | none=>True | some ζ=>_ | some (ξ d)=>_
 cases e:ds[i]? with
 | none=>
  have:ds.length<=i:=YW.mp e
  exact⟨vs,hq2,by rw[<- rs.length];lia⟩
 | some d=>
  obtain⟨v,ev,rv⟩:=rs2.get e
  refine⟨⟨vs,v,hq2,ev⟩,fun x H' y=>?_⟩
  obtain⟨e1,e2⟩:=y
  subst e1
  have:=e2 vs hq2
  rw[ev] at this
  cases this
  exact⟨α2,Ext.refl,hr,rv⟩
def xq {K:gV} (hq:Fro K H a vs) (rs:ay K g α H ds vs):Reads K g (Itl K a) (Src.snap ds).rdr α H:=by
 intro α2 H2 h2 x2 hr i
 have hq2:=x2.fro _ _ hq
 have rs2:=rs.ext x2
 show match ξ ds[i]? with | none=>True | some ζ=>_ | some (ξ d)=>_
 cases e:ds[i]? with
 | none=>
  have:ds.length<=i:=YW.mp e
  exact⟨vs,hq2.sq,by rw[<- rs.length];lia⟩
 | some d=>
  obtain⟨v,ev,rv⟩:=rs2.get e
  refine⟨⟨vs,v,hq2.sq,ev⟩,fun x H' y=>?_⟩
  obtain⟨e1,e2⟩:=y
  subst e1
  have:=e2 vs hq2.sq
  rw[ev] at this
  cases this
  exact⟨α2,Ext.refl,hr,rv⟩
def FG {K:gV} (ha:α[n]?=ξ a):Reads K g (Itl K a) (Src.live n).rdr α H:=by
 intro α2 H2 h2 x2 hr i
 show match (aE h2 n).map fun ds=>ds[i]? with | none=>True | some ζ=>_ | some (ξ d)=>_
 cases e:aE h2 n with
 | none=>trivial
 | some ds=>
  obtain⟨vs,hq',rs⟩:=hr.lst e (x2.get ha)
  have hq:SqL K H2 a vs:=SqL.of hq'
  show match ξ ds[i]? with | none=>True | some ζ=>_ | some (ξ d)=>_
  cases ei:ds[i]? with
  | none=>
   have:ds.length<=i:=YW.mp ei
   exact⟨vs,hq,by rw[<- rs.length];lia⟩
  | some d=>
   obtain⟨v,ev,rv⟩:=rs.get ei
   refine⟨⟨vs,v,hq,ev⟩,fun x H' y=>?_⟩
   obtain⟨e1,e2⟩:=y
   subst e1
   have:=e2 vs hq
   rw[ev] at this
   cases this
   exact⟨α2,Ext.refl,hr,rv⟩
def d8 {tg e:YL}{me:ME} (he:PE X e (tM X.K g ε me)):PI X tg e (tMI X.K g ε (du me)):=
 PI.imp (PC he) fun σ H T ⟨α,env,h,s,w⟩=>tM.use s w.bind fun d1 h1 v1 H1 α1 e1 s1 r1 w1=>by
  unfold An at w1
  cases r1 with
  | tup hq rs=>exact⟨_,rfl,.inr ⟨⟨_,SqT.of hq⟩,w1 _ H1 α1 e1 s1.heap (GA hq rs)⟩⟩
  | frl hq rs=>exact⟨_,rfl,.inl ⟨⟨_,hq.sq⟩,w1 _ H1 α1 e1 s1.heap (xq hq.fro rs)⟩⟩
  | scr hq rs=>exact⟨_,rfl,.inl ⟨⟨_,hq.sq⟩,w1 _ H1 α1 e1 s1.heap (xq hq rs)⟩⟩
  | @ref n p hp=>
   cases el:aE h1 n with
   | none=>simp only[el] at w1;exact w1.elim
   | some ds=>
    simp only[el] at w1
    obtain⟨vs,hq,_⟩:=s1.heap.lst el hp
    exact⟨p,rfl,.inl ⟨⟨_,SqL.of hq⟩,w1 _ H1 α1 e1 s1.heap (FG hp)⟩⟩
  | _=>exact w1.elim
abbrev fJ (ds:List D):List D:=(XF ds.length).map fun(i:Nat)=>D.tup [.int i,ds.getD i .non]
abbrev sI:D->Hh->R Src
 | .tup ds,h=>.ok (.snap (fJ ds)) h
 | .frl ds,h=>.ok (.snap (fJ ds)) h
 | .ref n,h=>match aE h n with
  | some _=>.ok (.liveE n) h
  | none=>.bad
 | _,_=>.bad
abbrev kX (a:ME):MI:=fun env h=>(a env h).bind sI
def wL {ds:List D}{i:Nat}:(fJ ds)[i]?=(ds[i]?).map fun d=>D.tup [.int i,d]:=by
 unfold fJ
 rw[Yi]
 by_cases hi:i<ds.length
 ·have e:ds.getD i .non=ds[i]:=by rw[Ym,XS hi];rfl
  rw[aaH hi,XS hi,acm,acm,e]
 ·rw[YN (by simpa using hi),YN {}];rfl
def sC {K:gV}{i:Nat} (hr:bo K g α H h) (rv:aL K g α H d v) (hp:H p=ζ) :
  ∃α',Ext K α H α' (upd H p (.tup [.int i,v]))/\bo K g α' (upd H p (.tup [.int i,v])) h/\aL K g α' (upd H p (.tup [.int i,v])) (.tup [.int i,d]) (.ref p):=
 ⟨α,Ext.fresh hp,hr.grow hp,.tup aR (.cons (.int _) (.cons (rv.ext (Ext.fresh hp)) .nil))⟩
def Bu {K:gV} (hq':H a=ξ (.tup vs)) (rs:ay K g α H ds vs):Reads K g (Iet K a) (Src.snap (fJ ds)).rdr α H:=by
 intro α2 H2 h2 x2 hr i
 have hq2:SqT K H2 a vs:=SqT.of (x2.tup _ _ hq')
 have rs2:=rs.ext x2
 show match ξ (fJ ds)[i]? with | none=>True | some ζ=>_ | some (ξ d)=>_
 rw[wL]
 cases e:ds[i]? with
 | none=>
  have:ds.length<=i:=YW.mp e
  exact⟨vs,hq2,by rw[<- rs.length];lia⟩
 | some d=>
  obtain⟨v,ev,rv⟩:=rs2.get e
  refine⟨⟨vs,v,hq2,ev⟩,fun x H' y=>?_⟩
  obtain⟨p,v',e1,hp,e2,e3⟩:=y
  subst e1 e3
  have:=e2 vs hq2
  rw[ev] at this
  cases this
  exact sC hr rv hp
def AY {K:gV} (hq:Fro K H a vs) (rs:ay K g α H ds vs):Reads K g (Iel K a) (Src.snap (fJ ds)).rdr α H:=by
 intro α2 H2 h2 x2 hr i
 have hq2:=(x2.fro _ _ hq).sq
 have rs2:=rs.ext x2
 show match ξ (fJ ds)[i]? with | none=>True | some ζ=>_ | some (ξ d)=>_
 rw[wL]
 cases e:ds[i]? with
 | none=>
  have:ds.length<=i:=YW.mp e
  exact⟨vs,hq2,by rw[<- rs.length];lia⟩
 | some d=>
  obtain⟨v,ev,rv⟩:=rs2.get e
  refine⟨⟨vs,v,hq2,ev⟩,fun x H' y=>?_⟩
  obtain⟨p,v',e1,hp,e2,e3⟩:=y
  subst e1 e3
  have:=e2 vs hq2
  rw[ev] at this
  cases this
  exact sC hr rv hp
def Bc {K:gV} (ha:α[n]?=ξ a):Reads K g (Iel K a) (Src.liveE n).rdr α H:=by
 intro α2 H2 h2 x2 hr i
 show match (aE h2 n).map fun ds=>(ds[i]?).map fun d=>D.tup [.int i,d] with | none=>True | some ζ=>_ | some (ξ d)=>_
 cases e:aE h2 n with
 | none=>trivial
 | some ds=>
  obtain⟨vs,hq',rs⟩:=hr.lst e (x2.get ha)
  have hq:SqL K H2 a vs:=SqL.of hq'
  show match ξ ((ds[i]?).map fun d=>D.tup [.int i,d]) with | none=>True | some ζ=>_ | some (ξ d)=>_
  cases ei:ds[i]? with
  | none=>
   have:ds.length<=i:=YW.mp ei
   exact⟨vs,hq,by rw[<- rs.length];lia⟩
  | some d=>
   obtain⟨v,ev,rv⟩:=rs.get ei
   refine⟨⟨vs,v,hq,ev⟩,fun x H' y=>?_⟩
   obtain⟨p,v',e1,hp,e2,e3⟩:=y
   subst e1 e3
   have:=e2 vs hq
   rw[ev] at this
   cases this
   exact sC hr rv hp
def rj {elts:List YL}{kt:Nat}{tp p pos:Pos}{e:YL}{me:ME} (hg:Gl X "enumerate") (hm:X.mg "enumerate" = ζ) (he:PE X e (tM X.K g ε me)) (hs:starEach [e] X.env=[(ψ,eval e X.env)]:=by rfl):PI X (.Tuple elts kt tp) (.Call (.Name "enumerate" p) [e] [] pos) (tMI X.K g ε (kX me)):=
 PI.imp (Nq hg hm he hs) fun σ H T ⟨α,env,h,s,w⟩=>tM.use s w.bind fun d1 h1 v1 H1 α1 e1 s1 r1 w1=>by
  unfold sI at w1
  cases r1 with
  | tup hq rs=>exact⟨_,rfl,.inr ⟨⟨_,SqT.of hq⟩,w1 _ H1 α1 e1 s1.heap (Bu hq rs)⟩⟩
  | frl hq rs=>exact⟨_,rfl,.inl ⟨⟨_,hq.sq⟩,w1 _ H1 α1 e1 s1.heap (AY hq.fro rs)⟩⟩
  | @ref n p hp=>
   cases el:aE h1 n with
   | none=>simp only[el] at w1;exact w1.elim
   | some ds=>
    simp only[el] at w1
    obtain⟨vs,hq,_⟩:=s1.heap.lst el hp
    exact⟨p,rfl,.inl ⟨⟨_,SqL.of hq⟩,w1 _ H1 α1 e1 s1.heap (Bc hp)⟩⟩
  | _=>exact w1.elim
abbrev bI (lo:Int) (n:Nat):List D:=(XF n).map fun(i:Nat)=>D.int (lo+i)
abbrev jh:List D->Hh->R Src
 | [.int j],h=>if j.natAbs<=1000000 then .ok (.snap (bI 0 j.toNat)) h else .bad
 | _,_=>.bad
abbrev wb:List D->Hh->R Src
 | [.int i,.int j],h=>if i.natAbs<=1000000/\j.natAbs<=1000000 then .ok (.snap (bI i (j - i).toNat)) h else .bad
 | _,_=>.bad
abbrev fE (f:List D->Hh->R Src) (a:MA):MI:=fun env h=>(a env h).bind f
def wR {K:gV}{lo:Int}:Reads K g (Itr lo n) (Src.snap (bI lo n)).rdr α H:=by
 intro α2 H2 h2 x2 hr i
 show match ξ (bI lo n)[i]? with | none=>True | some ζ=>_ | some (ξ d)=>_
 unfold bI
 rw[Yi]
 by_cases hi:i<n
 ·rw[aaH hi]
  refine⟨hi,fun x H' y=>?_⟩
  obtain⟨e1,e2⟩:=y
  subst e1 e2
  exact⟨α2,Ext.refl,hr,.int _⟩
 ·rw[YN (by simp_all)]
  exact Nat.le_of_not_lt hi
def eY {tg a:YL}{ma:MA}{p pos:Pos} (hg:Gl X "range") (hm:X.mg "range" = ζ) (ha:PA X [a] (tMA X.K g ε ma)) (hs:starEach [a] X.env=[(ψ,eval a X.env)]:=by rfl):PI X tg (.Call (.Name "range" p) [a] [] pos) (tMI X.K g ε (fE jh ma)):=
 PI.imp (F0 hg hm ha hs) fun σ H T ⟨α,env,h,s,w⟩=>tMA.use s w.bind fun d1 h1 v1 H1 α1 e1 s1 r1 w1=>by
  cases r1 with
  | nil=>exact w1.elim
  | cons ra rr=>
   cases rr with
   | cons _ _=>cases ra<;>exact w1.elim
   | nil=>
    cases ra with
    | int j=>
     obtain⟨hj,w2⟩:=WQ.dj w1
     exact⟨j,rfl,{},{},w2 _ H1 α1 e1 s1.heap wR⟩
    | _=>exact w1.elim
def D1 {tg a b:YL}{ma:MA}{p pos:Pos} (hg:Gl X "range") (hm:X.mg "range" = ζ) (ha:PA X [a,b] (tMA X.K g ε ma)) (hs:starEach [a,b] X.env=[(ψ,eval a X.env),(ψ,eval b X.env)]:=by rfl) (hs2:starEach [b] X.env=[(ψ,eval b X.env)]:=by rfl):PI X tg (.Call (.Name "range" p) [a,b] [] pos) (tMI X.K g ε (fE wb ma)):=
 PI.imp (FL hg hm ha hs hs2) fun σ H T ⟨α,env,h,s,w⟩=>tMA.use s w.bind fun d1 h1 v1 H1 α1 e1 s1 r1 w1=>by
  unfold wb at w1
  split at w1
  ·cases r1 with
   | cons ra rr=>
    cases ra
    cases rr with
    | cons rb rr=>
     cases rb
     cases rr
     obtain⟨hj,w2⟩:=WQ.dj w1
     exact⟨_,_,rfl,⟨{},{},{},{}⟩,w2 _ H1 α1 e1 s1.heap wR⟩
  ·exact w1.elim
abbrev i_ (c:MT) (b:MS):Nat->En->Hh->R Fl
 | 0,_,_=>.bad
 | k+1,env,h=>(c env h).bind fun x h1=>if x=θ then (b env h1).bind fun fl h2=>match fl with
   | .nx e=>i_ c b k e h2
   | .ct e=>i_ c b k e h2
   | .bk e=>.ok (.nx e) h2
   | .rt d=>.ok (.rt d) h2
  else .ok (.nx env) h1
abbrev sM (fuel:Nat) (c:MT) (b:MS):MS:=fun env h=>i_ c b fuel env h
def EM {c:YL}{body:List aaN}{mc:MT}{mb:MS}{pos:Pos} (fuel:Nat) (hp:abf (model X.prog X.w) X.A X.env X.xe) (hc:PT X c (tMT X.K g ε mc)) (hb:PSs X body (tMS X.K g ε mb)):PS X (.While c body [] pos) (tMS X.K g ε (sM fuel mc mb)):=by
 refine PS.imp (Lo hp hc hb) fun E σ H zq1=>?_
 obtain⟨α,env,h,s,w⟩:=zq1
 refine⟨fun m σ H=>∃α env h,eJ X.K g α H env σ h/\WQ X.K g ε α H (i_ mc mb m env h) (di X.K g α H E),⟨fuel,α,env,h,s,w⟩,?_⟩
 rintro m σ2 H2 ⟨α2,env2,h2,s2,w2⟩
 cases m with
 | zero=>exact w2.elim
 | succ m=>
  refine tMT.use s2 (WQ.bind (show WQ X.K g ε α2 H2 ((mc env2 h2).bind _) _ from w2)) fun b h3 H3 α3 x3 s3 w3=>?_
  cases b with
  | false=>rw[if_neg Yc] at w3 ⊢;exact s3.nx x3 w3
  | true=>
   refine⟨fun σ' H'=>∃α env h,eJ X.K g α H' env σ' h/\WQ X.K g ε α H' (i_ mc mb m env h) (di X.K g α H' E),fun σ' H' z=>⟨m,YQ _,z⟩,?_⟩
   refine tMS.use s3 (w3.ext x3).bind fun fl h5 H5 α5 x5 hr5 w5=>?_
   have tr:=x3.trans x5
   cases fl with
   | nx e=>exact fun σ' s'=>⟨α5,e,h5,s',(w5.ext x5).mono fun _ _ _ p=>p.ext tr⟩
   | ct e=>exact fun σ' s'=>⟨α5,e,h5,s',(w5.ext x5).mono fun _ _ _ p=>p.ext tr⟩
   | bk e=>exact fun σ' s'=>(show di X.K g α2 H2 E (.nx e) h5 from w5) H5 α5 tr hr5 σ' s'.vs
   | rt d=>exact fun v rv=>(show di X.K g α2 H2 E (.rt d) h5 from w5) H5 α5 tr hr5 v rv
end
@[inline]abbrev E00:EE:=fun _ _ _=>False
@[inline]abbrev MF:=List D->Hh->R D
abbrev ba (n:Nat) (m:MS):MF:=fun ds h=>(m (ds.map ξ++X0 (n - ds.length) ζ) h).bind fun fl h1=>match fl with
 | .rt d=>.ok d h1
 | .nx _=>.ok .non h1
 | _=>.bad
abbrev spG (K:gV) (g:GG) (ε:XK->EE) (np:Nat) (m:MF):Sp:=fun vs H Q E=>vs.length=np/\∃α ds h,ay K g α H ds vs/\bo K g α H h/\WQ K g (ε E) α H (m ds h) (aJ K g α H Q)
@[inline]abbrev spM (K:gV) (g:GG) (np:Nat) (m:MF):Sp:=spG K g (fun _=>E00) np m
def lM {K:gV}{g:GG}{α:List XW}{H:Hp}{N:List Str}{ds:List D}{vs:List V} (r:ay K g α H ds vs):l4 K g α H (ds.map ξ++X0 (N.length - ds.length) ζ) (start N vs):=by
 have hl:=r.length
 refine⟨by simp[start,hl],fun i d h=>?_⟩
 by_cases hi:i<ds.length
 ·rw[Yy (by simpa using hi),Yi] at h
  cases e:ds[i]? with
  | none=>rw[e] at h;cases h
  | some d'=>
   rw[e] at h
   cases h
   obtain⟨v,ev,rv⟩:=r.get e
   refine⟨v,?_,rv⟩
   unfold start
   rw[Yy (by simp;lia),Yi,ev]
   rfl
 ·rw[Yh (by simpa using hi),List.getElem?_replicate] at h
  split at h<;>cases h
section
variable {P:X5}{w:Yw}{K:gV}{mg:Str->Option XI}{base:Y2}{g:GG}
def yu {st:aaN} (F:Fun K x qual st f fd) (S:a9 N ps (aj st))
  (hb:∀cdv A outer s H E , b8 k (A.deeper (envOfC qual (aj st) s.heap.objs.size f cdv)) →
   PSs (gF CX0 P w K mg base N qual (aj st) f cdv A outer s H E).nox (br st) (tMS K g E00 mb)):cJ P w K mg base CX0 (k+1) f fd ps (spM K g ps.length (ba N.length mb)):=by
 refine F.ok S (fun vs H Q E h=>h.1) fun cdv A outer s H vs Q E hr h=>⟨_,hb cdv A outer s H E hr,?_⟩
 obtain⟨hl,α,ds,h,rs,hh,w⟩:=h
 refine tMS.use ⟨hh,lM rs⟩ w.bind fun fl h' H' α' e r kk=>?_
 cases fl with
 | nx e'=>exact fun σ' s'=>(show aJ K g α H Q .non h' from kk) _ H' α' e r .non
 | bk e'=>exact kk.elim
 | ct e'=>exact kk.elim
 | rt d=>exact fun v rv=>(show aJ K g α H Q d h' from kk) _ H' α' e r rv
end
section
variable {X:Cx}{g:GG}
def cM {k:Nat}{f:XW}{fd:Zy}{ps:List Str}{m:MF}{np:Nat}{x:Str}{p pos:Pos}{e:YL}{es:List YL}{mr:MA} (F:cJ X.prog X.w X.K X.mg X.base CX0 k f fd ps (spM X.K g np m)) (hr:b8 k X.A) (hg:Gl X x) (hm:X.mg x=ξ (.ref f)) (hk:X6 X.K (.ref f)=θ) (hb:Binds X.K fd ps [])
  (ha:PA X (e::es) (tMA X.K g E00 mr)) (hlen:∀env h ds h',mr env h=.ok ds h'->ds.length=np) (hdb:(x == ("__debug__" : Str))=false:=by decide) (he:starEach (e::es) X.env=(ψ,eval e X.env)::starEach es X.env:=by rfl) (hpl:(backTo pos (starEach es X.env)).any (·.1)=false:=by rfl) :
  PE X (.Call (.Name x p) (e::es) [] pos) (tM X.K g E00 (af m mr)):=
 PE.imp (DV F hr hg hm hk hb .nil Oz ha hdb he hpl) fun σ H Q ⟨α,env,h,s,w⟩=>⟨α,env,h,s,w.bind.mono fun d1 h1 eq w1 v1 H1 α1 e1 hr1 r1=>by
  show spM X.K g np m (v1++[]) H1 Q E0
  rw[YD]
  refine⟨?_,α1,d1,h1,r1,hr1,w1.post e1⟩
  rw[<- r1.length]
  grind⟩
def aM:∀env h ds h',ah env h=.ok ds h'->ds.length=0:=fun env h ds h' e=>by cases e;rfl
def aC {a:ME}{r:MA}{n:Nat} (q:∀env h ds h',r env h=.ok ds h'->ds.length=n):∀env h ds h',aa a r env h=.ok ds h'->ds.length=n+1:=fun env h ds h' e=>by
 unfold aa at e
 cases e1:a env h with
 | ok d h1=>
  rw[e1] at e
  cases e2:r env h1 with
  | ok ds2 h2=>
   have e3:(R.ok (d::ds2) h2:R (List D))=.ok ds h':=by simpa [R.bind,e2] using e
   grind
  | err x h2=>simp[R.bind,e2] at e
  | bad=>simp[R.bind,e2] at e
 | err x h2=>rw[e1] at e;cases e
 | bad=>rw[e1] at e;cases e
end
abbrev ky (ix:List Nat) (env:En) (d:D):En:=ξ d::ix.map fun i=>(env[i]?).join
abbrev tt1:MT:=fun _ h=>.ok θ h
abbrev iq (rd:Rdr) (tt:MT) (te:ME) (ee:D->En):Nat->Nat->List D->Hh->R (List D)
 | k,i,acc,h=>match rd h i with
  | none=>.bad
  | some ζ=>.ok acc h
  | some (ξ d)=>match k with
   | 0=>.bad
   | k+1=>(tt (ee d) h).bind fun b h1=>if b=θ then (te (ee d) h1).bind fun y h2=>iq rd tt te ee k (i+1) (acc++[y]) h2 else iq rd tt te ee k (i+1) acc h1
abbrev cu (tt:MT) (te:ME) (ee:D->En):List D->Hh->R (List D)
 | [],h=>.ok [] h
 | d::ds,h=>(tt (ee d) h).bind fun b h1=>if b=θ then (te (ee d) h1).bind fun y h2=>(cu tt te ee ds h2).bind fun ys h3=>.ok (y::ys) h3 else cu tt te ee ds h1
def bX (r:R β) (f) (k:γ->Hh->R δ):(r.bind f).bind k=r.bind fun b h=>(f b h).bind k:=by cases r<;>rfl
def Ij (tt:MT) (te:ME) (ee:D->En) (all:List D):∀(ds:List D) (i:Nat) (acc:List D) (h:Hh),all.drop i=ds->iq (Src.snap all).rdr tt te ee ds.length i acc h=(cu tt te ee ds h).bind fun ys h'=>.ok (acc++ys) h':=by
 intro ds
 induction ds with
 | nil=>
  intro i acc h e
  have:all[i]?=none:=by
   simp_all
  unfold iq cu Src.rdr
  simp[this,R.bind]
 | cons d ds ih=>
  intro i acc h e
  have h0:all[i]?=ξ d:=by
   have:=congrArg (fun l=>l[0]?) e
   grind
  have h1:all.drop (i+1)=ds:=by
   have:=congrArg List.tail e
   simpa using this
  unfold iq cu
  have:(Src.snap all).rdr h i=ξ (ξ d):=by unfold Src.rdr;simp[h0]
  rw[this]
  show((tt (ee d) h).bind _)=_
  rw[bX]
  congr 1
  funext b h2
  cases b with
  | false=>simp_all
  | true=>
   rw[if_pos rfl,if_pos rfl,bX]
   congr 1
   funext y h3
   rw[bX]
   have:=ih (i+1) (acc++[y]) h3 h1
   rw[this]
   congr 1
   funext ys h4
   show R.ok (acc++[y]++ys) h4=R.ok (acc++(y::ys)) h4
   simp
abbrev bZ (nl:NL) (mi:MI) (ix:List Nat) (tt:MT) (te:ME):ME:=fun env h=>(mi env h).bind fun sr h1=>if sr.fuel h1<=1000000 then
 (match sr with
  | .snap ds=>cu tt te (ky ix env) ds h1
  | .live n=>iq (Src.live n).rdr tt te (ky ix env) ((aE h1 n).getD []).length 0 [] h1
  | .liveE n=>iq (Src.liveE n).rdr tt te (ky ix env) ((aE h1 n).getD []).length 0 [] h1).bind nl else .bad
def ur:bZ nl mi ix tt te env h=(mi env h).bind fun sr h1=>if sr.fuel h1<=1000000 then (iq sr.rdr tt te (ky ix env) (sr.fuel h1) 0 [] h1).bind nl else .bad:=by
 unfold bZ
 congr 1
 funext sr h1
 cases sr with
 | snap ds=>
  have:=Ij tt te (ky ix env) ds ds 0 [] h1 rfl
  have e:(Src.snap ds).fuel h1=ds.length:=rfl
  rw[e,this,bX]
  rfl
 | live n=>rfl
 | liveE n=>rfl
def yV {K:gV}{g:GG}{α:List XW}{H:Hp}{env:En}{σ:St}{ix:List Nat}{d:D}{v:V} (s:l4 K g α H env σ) (r:aL K g α H d v):l4 K g α H (ky ix env d) ((ik ix σ).set 0 (ξ v)):=by
 refine⟨by simp[ky,ik],fun i e h=>?_⟩
 cases i with
 | zero=>
  have:d=e:=by simpa [ky] using h
  subst this
  exact⟨v,by rfl,r⟩
 | succ i=>
  have h':(ix.map fun i=>(env[i]?).join)[i]?=ξ (ξ e):=by assumption
  rw[Yi] at h'
  cases ei:ix[i]? with
  | none=>simp_all
  | some j=>
   rw[ei] at h'
   have h2:(env[j]?).join=ξ e:=by simp_all
   cases ej:env[j]? with
   | none=>simp_all
   | some oe=>
    rw[ej] at h2
    have h3:oe=ξ e:=by simp_all
    subst h3
    obtain⟨u,eu,ru⟩:=s.vars j e ej
    refine⟨u,?_,ru⟩
    simp only[ik,List.set_cons_zero,List.getElem?_cons_succ,Yi,ei,acm,eu]
    rfl
section
variable {X:Cx}{g:GG}
def uD:PTs X [] (tMT X.K g E00 tt1):=fun pins s σ H Q I ⟨α,env,h,s',w⟩=>L8 pins s σ H Q I (w H α Ext.refl s'.heap)
def jy {mt:MT} (h:PT X c (tMT X.K g E00 mt)):PTs X [c] (tMT X.K g E00 mt):=M6 h
def A5 {K:gV}{nl:NL} [ji nl]{mi:MI}{tt:MT}{te:ME}{ix:List Nat}{σ:St}{H:Hp}{Q R:VK} (hR:∀v H,kI Q v H->R v H) (t:tM K g E00 (bZ nl mi ix tt te) σ H Q):Fj (tMI K g E00 mi) ix (tMT K g E00 tt) (tM K g E00 te) σ H R:=by
 obtain⟨α,env,h,s,w⟩:=t
 rw[ur] at w
 refine⟨α,env,h,s,w.bind.mono fun sr h1 _ w1 J H1 α1 e1 hr1 rd=>fun acc hacc=>?_⟩
 obtain⟨hf,w1⟩:=WQ.dj w1
 have s1:=s.ext e1 hr1
 refine⟨fun i m ys H=>∃α h as,Ext K α1 H1 α H/\bo K g α H h/\ay K g α H as ys/\H acc=ξ (.lst ys)/\acc∉α/\as.length+m<=1000000 ∧
  WQ K g E00 α1 H1 ((iq sr.rdr tt te (ky ix env) m i as h).bind nl) (aJ K g α1 H1 Q),
  ⟨sr.fuel h1,α1,h1,[],Ext.fresh hacc,hr1.grow hacc,.nil,aR,hr1.free hacc,by simp_all,w1.post e1⟩,?_⟩
 rintro i m ys H2 ⟨α2,h2,as,x2,hr2,ra,ha,hna,hm,w2⟩
 have q:=rd α2 H2 h2 x2 hr2 i
 unfold iq at w2
 cases e:sr.rdr h2 i with
 | none=>rw[e] at w2;exact w2.elim
 | some od=>
  rw[e] at w2 q
  cases od with
  | none=>
   refine .inl ⟨q,?_⟩
   exact hR _ _ <| ji.at' (show WQ K g E00 α1 H1 (nl as h2) _ from w2) (fun _ _ z=>z) x2 hr2 ra ha hna hacc
  | some d=>
   cases m with
   | zero=>exact w2.elim
   | succ m=>
    rw[bX] at w2
    have w3:=WQ.bind (show WQ K g E00 α1 H1 ((tt (ky ix env d) h2).bind _) _ from w2)
    refine .inr ⟨q.1,fun x H3 y=>?_⟩
    obtain⟨α3,x3,hr3,rx⟩:=q.2 x H3 y
    have ha3:=x3.keep _ _ ha hna
    have hna3:acc∉α3:=fun z=>by have:=x3.new _ z hna;simp_all
    have s3:eJ K g α3 H3 (ky ix env d) ((ik ix σ).set 0 (ξ x)) h2:=⟨hr3,yV (s1.vs.ext (x2.trans x3)) rx⟩
    refine tMT.use s3 ((w3.ext x2).ext x3) fun b h4 H4 α4 x4 s4 w4=>?_
    have ha4:=x4.keep _ _ ha3 hna3
    have hna4:acc∉α4:=fun z=>by have:=x4.new _ z hna3;simp_all
    cases b with
    | false=>
     exact⟨m,YQ _,α4,h4,as,x2.trans (x3.trans x4),s4.heap,ra.ext (x3.trans x4),ha4,hna4,{},w4⟩
    | true=>
     rw[if_pos rfl] at w4 ⊢
     rw[bX] at w4
     refine tM.use s4 (((WQ.bind w4).ext x2).ext (x3.trans x4)) fun y h5 v5 H5 α5 x5 s5 r5 w5=>?_
     have ha5:=x5.keep _ _ ha4 hna4
     have hna5:acc∉α5:=fun z=>by have:=x5.new _ z hna4;simp_all
     have soft:Hb H5 acc:=.inr ⟨_,ha5,fun _ z=>(nomatch z),fun _ _ z=>(nomatch z),fun _ z=>nomatch z⟩
     have x6:Ex0 K α5 H5 α5 (upd H5 acc (.lst (ys++[v5]))):=Ex0.upd soft
     have tr:=x2.trans (x3.trans (x4.trans x5))
     refine⟨ha5,?_,m,YQ _,α5,h5,as++[y],⟨tr.toEx0.trans x6,fun p o z n nt=>?_,tr.new⟩,s5.heap.off soft hna5,((ra.ext (x3.trans (x4.trans x5))).append (.cons r5 .nil)).ex0 x6,aR,hna5,by grind,w5⟩
     ·rw[<- ra.length,YI];lia
     ·rw[aD (aO z hacc)];exact tr.kept p o z n nt
abbrev unp (m:En->Hh->R β):En->Hh->R β:=fun env h=>match env with
 | some (.tup [x,y])::r=>m (ξ x::ξ y::r) h
 | _=>.bad
def Qk {K:gV}{r:En}{k:β->Hh->Prop} (rx:aL K g α H d x) (w:WQ K g ε α' H' (unp m (ξ d::r) h) k) :
  ∃a b p va vb,d=.tup [a,b]/\x=.ref p/\H p=ξ (.tup [va,vb])/\aL K g α H a va/\aL K g α H b vb/\WQ K g ε α' H' (m (ξ a::ξ b::r) h) k:=by
 cases rx with
 | tup hp rs=>
  cases rs with
  | nil=>exact w.elim
  | cons ra rr=>
   cases rr with
   | nil=>exact w.elim
   | cons rb rr=>
    cases rr with
    | nil=>exact⟨_,_,_,_,_,rfl,rfl,hp,ra,rb,w⟩
    | cons _ _=>exact w.elim
 | _=>exact w.elim
def II {K:gV}{ix:List Nat} (s:l4 K g α H env σ) (r:aL K g α H d v) (q:aL K g α H e u):l4 K g α H (ξ d::ξ e::ix.map fun i=>(env[i]?).join) (ξ v::ξ u::ix.map fun i=>(σ[i]?).join):=by
 have z:=yV (ix:=ix) s q
 have e1:(ik ix σ).set 0 (ξ u)=ξ u::ix.map fun i=>(σ[i]?).join:=rfl
 rw[e1] at z
 refine⟨{..},fun i x h=>?_⟩
 cases i with
 | zero=>simp_all
 | succ i=>
  obtain⟨y,ey,ry⟩:=z.vars i x (by assumption)
  simp_all
def GH {K:gV}{nl:NL} [ji nl]{mi:MI}{tt:MT}{te:ME}{ix:List Nat}{σ:St}{H:Hp}{Q R:VK} (hR:∀v H,kI Q v H->R v H) (t:tM K g E00 (bZ nl mi ix (unp tt) (unp te)) σ H Q):r8 (tMI K g E00 mi) 2 ix (K4 K 2 (nj (jW 0) (nj (jW 1) Le))) (tMT K g E00 tt) (tM K g E00 te) σ H R:=by
 obtain⟨α,env,h,s,w⟩:=t
 rw[ur] at w
 refine⟨α,env,h,s,w.bind.mono fun sr h1 _ w1 J H1 α1 e1 hr1 rd=>fun acc hacc=>?_⟩
 obtain⟨hf,w1⟩:=WQ.dj w1
 have s1:=s.ext e1 hr1
 refine⟨fun i m ys H=>∃α h as,Ext K α1 H1 α H/\bo K g α H h/\ay K g α H as ys/\H acc=ξ (.lst ys)/\acc∉α/\as.length+m<=1000000 ∧
  WQ K g E00 α1 H1 ((iq sr.rdr (unp tt) (unp te) (ky ix env) m i as h).bind nl) (aJ K g α1 H1 Q),
  ⟨sr.fuel h1,α1,h1,[],Ext.fresh hacc,hr1.grow hacc,.nil,aR,hr1.free hacc,by simp_all,w1.post e1⟩,?_⟩
 rintro i m ys H2 ⟨α2,h2,as,x2,hr2,ra,ha,hna,hm,w2⟩
 have q:=rd α2 H2 h2 x2 hr2 i
 unfold iq at w2
 cases e:sr.rdr h2 i with
 | none=>rw[e] at w2;exact w2.elim
 | some od=>
  rw[e] at w2 q
  cases od with
  | none=>
   refine .inl ⟨q,?_⟩
   exact hR _ _ <| ji.at' (show WQ K g E00 α1 H1 (nl as h2) _ from w2) (fun _ _ z=>z) x2 hr2 ra ha hna hacc
  | some d=>
   cases m with
   | zero=>exact w2.elim
   | succ m=>
    rw[bX] at w2
    have w3:=WQ.bind (show WQ K g E00 α1 H1 ((unp tt (ky ix env d) h2).bind _) _ from w2)
    refine .inr ⟨q.1,fun σ0 x H3 ⟨ts,tl,e0⟩ y=>?_⟩
    obtain⟨α3,x3,hr3,rx⟩:=q.2 x H3 y
    have ha3:=x3.keep _ _ ha hna
    have hna3:acc∉α3:=fun z=>by have:=x3.new _ z hna;simp_all
    obtain⟨da,db,pp,va,vb,rfl,rfl,hq,rda,rdb,w3'⟩:=Qk rx ((w3.ext x2).ext x3)
    obtain⟨t0,t1,rfl⟩:∃t0 t1,ts=[t0,t1]:=by
     match ts,tl with
     | [t0,t1],_=>simp
    subst e0
    refine⟨_,_,rfl,SqT.of hq,rfl,_,_,rfl,_,_,rfl,rfl,⟨[ξ va,ξ vb],rfl,rfl⟩,?_⟩
    have s3:eJ K g α3 H3 (ξ da::ξ db::ix.map fun i=>(env[i]?).join) (ξ va::ξ vb::ix.map fun i=>(σ[i]?).join) h2:=⟨hr3,II (s1.vs.ext (x2.trans x3)) rda rdb⟩
    refine tMT.use s3 w3' fun b h4 H4 α4 x4 s4 w4=>?_
    have ha4:=x4.keep _ _ ha3 hna3
    have hna4:acc∉α4:=fun z=>by have:=x4.new _ z hna3;simp_all
    cases b with
    | false=>
     exact⟨m,YQ _,α4,h4,as,x2.trans (x3.trans x4),s4.heap,ra.ext (x3.trans x4),ha4,hna4,{},w4⟩
    | true=>
     rw[if_pos rfl] at w4 ⊢
     rw[bX] at w4
     refine tM.use s4 (((WQ.bind w4).ext x2).ext (x3.trans x4)) fun y h5 v5 H5 α5 x5 s5 r5 w5=>?_
     have ha5:=x5.keep _ _ ha4 hna4
     have hna5:acc∉α5:=fun z=>by have:=x5.new _ z hna4;simp_all
     have soft:Hb H5 acc:=.inr ⟨_,ha5,fun _ z=>(nomatch z),fun _ _ z=>(nomatch z),fun _ z=>nomatch z⟩
     have x6:Ex0 K α5 H5 α5 (upd H5 acc (.lst (ys++[v5]))):=Ex0.upd soft
     have tr:=x2.trans (x3.trans (x4.trans x5))
     refine⟨ha5,?_,m,YQ _,α5,h5,as++[y],⟨tr.toEx0.trans x6,fun p o z n nt=>?_,tr.new⟩,s5.heap.off soft hna5,((ra.ext (x3.trans (x4.trans x5))).append (.cons r5 .nil)).ex0 x6,aR,hna5,by grind,w5⟩
     ·rw[<- ra.length,YI];lia
     ·rw[aD (aO z hacc)];exact tr.kept p o z n nt
def pg2 (hc:X.calm=θ) (hn:X.N.Nodup) (h0:X.N[0]?=ξ x) (h1:X.N[1]?=ξ y) (hx:Loc X.env.scope x/\X.env.scope.names.lookup x=ξ .local) (hy:Loc X.env.scope y/\X.env.scope.names.lookup y=ξ .local) :
  PG X (.Tuple [.Name x px,.Name y py] kt pt) (K4 X.K 2 (nj (jW 0) (nj (jW 1) Le))):=tV hc (fq (kf hn h0 hx.1 (.inr hx.2)) (fq (kf hn h1 hy.1 (.inr hy.2)) nD))
def AI {nl:NL} [ji nl]{elt iter:YL}{x y:Str}{px py pt:Pos}{kt:Nat}{ifs:List YL}{scope osc:abe}{pos:Pos}{mi:MI}{tt:MT}{te:ME} (ix:List Nat) (N':List Str)
  (hxe:X.xe=fun _ _=>False) (hc:X.calm=θ) (ho:X.env.scope=osc) (hN:N'=[x,y]++ix.map fun i=>(X.N[i]?).getD ("" : Str)) (hnd:N'.Nodup)
  (hall:(∀y∈scope.names,y.2=.free->osc.names.lookup y.1=ξ .cell)/\(∀y∈scope.names,y.2≠.cell)/\scope.kind=.function/\(∀y∈scope.names,y.2=.local->scope.names.lookup y.1=ξ .local)/\(∀z∈N'.drop [x,y].length,scope.names.lookup z=ξ .free))
  (hi:PI X (.Tuple [.Name x px,.Name y py] kt pt) iter (tMI X.K g E00 mi))
  (hx:∀cl C aP a_ fp,Loc (cb X scope cl C aP a_ fp N').env.scope x/\(cb X scope cl C aP a_ fp N').env.scope.names.lookup x=ξ .local) (hy:∀cl C aP a_ fp,Loc (cb X scope cl C aP a_ fp N').env.scope y/\(cb X scope cl C aP a_ fp N').env.scope.names.lookup y=ξ .local)
  (ht:∀cl C aP a_ fp,PTs (cb X scope cl C aP a_ fp N') ifs (tMT X.K g E00 tt))
  (he:∀cl C aP a_ fp,PE (cb X scope cl C aP a_ fp N') elt (tM X.K g E00 te))
  (hs:∀x,foldedSetIterable iter X.env x=pure x:=by intro _;rfl) :
  PE X (.ListComp elt [⟨.Tuple [.Name x px,.Name y py] kt pt,iter,ifs,0⟩] scope pos) (tM X.K g E00 (bZ nl mi ix (unp tt) (unp te))):=by
 refine PE.imp (PE.frz (Bg (tgr:=K4 X.K 2 (nj (jW 0) (nj (jW 1) Le))) ix [x,y] N' hxe hc ho hN hnd hall hi (fun cl C aP a_ fp=>pg2 hc hnd (show N'[0]?=ξ x by rw[hN];rfl) (show N'[1]?=ξ y by rw[hN];rfl) (hx cl C aP a_ fp) (hy cl C aP a_ fp)) ht he hs)) fun σ H Q t=>?_
 exact GH (fun _ _ z=>z) t
end
abbrev sml (i:Int):Bool:=decide (i.natAbs<2 ^ 1900)
def sR (h:sml i=θ):aaI i<=1900:=by
 have h':=of_decide_eq_true h
 unfold aaI
 split
 ·lia
 ·rename_i z
  have z':i.natAbs≠0:=by
   simp_all
  have:=(Nat.log2_lt z').mpr h'
  lia
def Ep (h:sml i=θ):i.natAbs.log2<1900:=by
 have h':=of_decide_eq_true h
 by_cases z:i.natAbs=0
 ·simp_all
 ·exact(Nat.log2_lt z).mpr h'
def Ct (h:i.natAbs<=10 ^ 560):sml i=true:=by
 refine decide_eq_true (Nat.lt_of_le_of_lt h {})
section
variable {X:Cx}{K:gV}{g:GG}{ε:EE}
def OpR.or (h:OpR X f r) (h':OpR X f r'):OpR X f (fun x y H Q=>r x y H Q\/r' x y H Q):=fun pins s σ H x y v u Q I rx ry q=>q.elim (h pins s σ H x y v u Q I rx ry) (h' pins s σ H x y v u Q I rx ry)
abbrev rK (d:D) (h:Hh):Option (List D):=match d with
 | .frl ds=>ξ ds
 | .ref n=>aE h n
 | _=>ζ
def Dy (r:bo K g α H h) (rd:aL K g α H d x) (e:rK d h=ξ ds):∃p vs,x=.ref p/\Rd H p (.lst vs)/\ay K g α H ds vs:=by
 cases rd with
 | frl hq rs=>cases e;exact⟨_,_,rfl,hq.rd,rs⟩
 | ref hp=>obtain⟨vs,hv,rs⟩:=r.lst e hp;exact⟨_,vs,rfl,.inl hv,rs⟩
 | _=>cases e
abbrev OC:R2:=fun x y H Q=>∃l b xs zs,x=.ref l/\y=.ref b/\Rd H l (.lst xs)/\Rd H b (.lst zs)/\xs.length+zs.length<=sizeLine/\∀p,H p=ζ->Q (.ref p) (upd H p (.lst (xs++zs)))
def PK {σ:St} (I:Inv X pins σ H s) (h:Rd H l (.lst xs)):∃its n,xs.length<=sizeLine/\Vals xs its/\xs.length=its.length/\s.heap.get? l=ξ { cls:=.type "list", data:=.seq its.toArray n }:=by
 obtain⟨z,its,n,r,e⟩:=h.ok I.hok
 exact⟨its,n,z,r,r.length,e⟩
def LW:OpR X (binaryOp .Add) OC:=by
 intro pins s σ H x y v u Q I rx ry h
 obtain⟨l,b,xs,zs,rfl,rfl,hH,hB,hz,q⟩:=h
 cases rx
 cases ry
 obtain⟨its,n,z,r,hl,e⟩:=PK I hH
 obtain⟨its2,n2,z2,r2,hl2,e2⟩:=PK I hB
 refine PySem.P.add_list e e2 ?_ (by simp_all)
 have ea:its.toArray++its2.toArray=(its++its2).toArray:={..}
 rw[ea]
 exact⟨.ref _,_,I.DC (r.append r2) (by simp_all),rfl,q _ I.fresh⟩
abbrev bg (nl:NL):D->D->Hh->R D:=fun x y h=>match x,y with
 | .int i,.int j=>.ok (.int (i+j)) h
 | .tup a,.tup b=>if a.length+b.length<=1000000 then .ok (.tup (a++b)) h else .bad
 | .str a,.str b=>if a.length+b.length<=1000000 then .ok (.str (a++b)) h else .bad
 | x,y=>match rK x h,rK y h with
  | some a,ξ b=>if a.length+b.length<=1000000 then nl (a++b) h else .bad
  | _,_=>.bad
@[inline]abbrev Ll (K:gV):R2:=fun x y H Q=>(rI0 fun i j=>.int (i+j)) x y H Q\/(OW K x y H Q\/JN K x y H Q)\/OC x y H Q\/∃i j,x=.str i/\y=.str j/\i.length+j.length<=sizeLine/\Q (.str (i++j)) H
def Pl:OpR X (binaryOp .Add) (fun x y H Q=>Ll X.K x y H (kI Q)):=OpR.frz (OpR.or QC (OpR.or (OpR.or N4 KG) (OpR.or LW CK)))
def aJ.G4 (p:aJ K g α H Q d h) (r:bo K g α H h) (rd:aL K g α H d v):kI Q v H:=.inl (p.now r rd)
def P6 {nl:NL} [ji nl]:fB K g ε (bg nl) (fun x y H Q=>Ll K x y H (kI Q)):=by
 intro α H h a b x y Q r ra rb w
 have gen:∀{a b:D} {x y:V},aL K g α H a x->aL K g α H b y->WQ K g ε α H (match rK a h,rK b h with
  | some a,ξ b=>if a.length+b.length<=1000000 then nl (a++b) h else .bad
  | _,_=>.bad) (aJ K g α H Q)->Ll K x y H (kI Q):=by
  intro a b x y ra rb w
  cases e1:rK a h with
  | none=>simp only[e1] at w;exact w.elim
  | some da=>
   cases e2:rK b h with
   | none=>simp only[e1,e2] at w;exact w.elim
   | some db=>
    simp only[e1,e2] at w
    obtain⟨p,va,rfl,hva,rsa⟩:=Dy r ra e1
    obtain⟨q,vb,rfl,hvb,rsb⟩:=Dy r rb e2
    obtain⟨hl,w⟩:=WQ.dj w
    refine .inr (.inr (.inl ⟨p,q,va,vb,rfl,rfl,hva,hvb,jZ (by rw[<- rsa.length,<- rsb.length];exact hl),fun l hl'=>?_⟩))
    exact NL.post w r (rsa.append rsb) hl'
 unfold bg at w
 split at w
 ·cases ra
  cases rb
  exact .inl ⟨_,_,rfl,rfl,aJ.G4 w r (.int _)⟩
 ·cases ra with
  | @tup da pa va ha rsa=>
   cases rb with
   | @tup db pb vb hb rsb=>
    obtain⟨hl,w⟩:=WQ.dj w
    refine .inr (.inl ?_)
    cases va with
    | nil=>
     cases rsa
     exact .inr ⟨_,_,_,rfl,rfl,SqT.of ha,SqT.of hb,aJ.G4 w r (.tup hb rsb)⟩
    | cons z zs=>
     refine .inl ⟨_,_,_,_,rfl,rfl,SqT.of ha,SqT.of hb,{..},jZ (by rw[<- rsa.length,<- rsb.length];exact hl),fun e=>?_,fun _ p hp=>.inl (aJ.tup w r (rsa.append rsb) hp)⟩
     subst e
     cases rsb
     refine aJ.G4 w r (.tup ha ?_)
     rw[YD];exact rsa
 ·cases ra
  cases rb
  obtain⟨hl,w⟩:=WQ.dj w
  exact .inr (.inr (.inr ⟨_,_,rfl,rfl,jZ hl,aJ.G4 w r (.str _)⟩))
 ·exact gen ra rb w
abbrev gm:D->D->Hh->R D
 | .int i,.int j,h=>.ok (.int (i - j)) h
 | _,_,_=>.bad
def Qi:fB K g ε gm (rI0 fun i j=>.int (i - j)):=by
 intro α H h a b x y Q r ra rb w
 cases ra with
 | int i=>
  cases rb with
  | int j=>exact⟨i,j,rfl,rfl,aJ.now w r (.int _)⟩
  | _=>exact w.elim
 | _=>exact w.elim
abbrev OO:R2:=fun x y H Q=>∃l k xs,x=.ref l/\y=.int k/\Rd H l (.lst xs)/\-(2 ^ 63)<=k/\k<2 ^ 63/\xs.length*k.toNat<=sizeLine ∧
 ∀p,H p=ζ->Q (.ref p) (upd H p (.lst (X0 k.toNat xs).flatten))
def Mm:OpR X (binaryOp .Mult) OO:=by
 intro pins s σ H x y v u Q I rx ry h
 obtain⟨l,k,xs,rfl,rfl,hH,h1,h2,hz,q⟩:=h
 cases rx
 obtain⟨t,rfl⟩:=ry
 obtain⟨its,n,z,r,hl,e⟩:=PK I hH
 have hlen:its.toArray.size*k.toNat<=sizeLine:=by simp_all
 have hcap:¬ its.toArray.size*k.toNat > (2 ^ 63 - 1) / 8:=by
  have:(sizeLine:Nat)<=(2 ^ 63 - 1) / 8:=by decide
  lia
 have hfit:¬ (!Builtin.List.listFitsIndex k)=true:=by
  rw[fitsIndex_both h1 h2]
  simp
 have hlong:¬ aaL (its.toArray.size*k.toNat)=true:=by
  rw[Lu hlen]
  simp
 have hnew:ac8 (fun x1 x2=>x1++x2) #[] (X0 (if its.toArray.isEmpty=θ then 0 else k.toNat) its.toArray)=(X0 k.toNat its).flatten.toArray:=by
  have f0:=fun m=>by
   have:=foldl_rep its m []
   rw[aby] at this
   exact this
  rw[f0]
  cases its with
  | nil=>simp
  | cons a r'=>rfl
 refine wpAny_binaryOp_repeat_ref (by decide) ⟨_,e,rfl⟩ (fun s'=>ac7 s' k t) noFill_list_mul F.fills_int_mul F.slot_int_rmul repeat_list F.slot_int_index.lookup
  (aab F.slot_int_rmul (ac7 s k t) F.entry_int_rmul (F.args_int_rmul_2 _ _) (int___rmul___int_list k t l its.toArray n)
   ⟨e,rfl,⟨_,e,rfl⟩,aab F.slot_list_mul ⟨_,e,rfl⟩ F.entry_list_mul (F.args_list_mul_2 _ _) (AutoListH.list___mul___list_int_3 l its.toArray n k t hfit hcap hlong) ⟨e,?_⟩⟩)
 rw[hnew]
 exact⟨.ref _,_,I.DC (r.rep k.toNat) (by rw[len_rep,acn];exact hz),rfl,q _ I.fresh⟩
abbrev kN (nl:NL):D->D->Hh->R D:=fun x y h=>match x,y with
 | .int i,.int j=>if sml i=θ/\sml j=θ then .ok (.int (i*j)) h else .bad
 | x,.int k=>match rK x h with
  | some ds=>if k.natAbs<=1000000/\ds.length*k.toNat<=1000000 then nl (X0 k.toNat ds).flatten h else .bad
  | none=>.bad
 | _,_=>.bad
def Oa:OpR X (binaryOp .Mult) (rI (fun i j=>sml i=θ/\sml j=θ) fun i j=>.int (i*j)):=opI fun _ _ _ _ _ _ _ hc q=>mul_int q (IntMulOk.of_bits (XR (sR hc.1) (by decide)) (XR (sR hc.2) (by decide)))
@[inline]abbrev Kl:R2:=fun x y H Q=>(rI (fun i j=>sml i=θ/\sml j=θ) fun i j=>.int (i*j)) x y H Q\/OO x y H Q
def Qj:OpR X (binaryOp .Mult) (fun x y H Q=>Kl x y H (kI Q)):=OpR.frz (OpR.or Oa Mm)
def PY {nl:NL} [ji nl]:fB K g ε (kN nl) (fun x y H Q=>Kl x y H (kI Q)):=by
 intro α H h a b x y Q r ra rb w
 have gen:∀{a:D} {k:Int} {x:V},aL K g α H a x->WQ K g ε α H (match rK a h with
  | some ds=>if k.natAbs<=1000000/\ds.length*k.toNat<=1000000 then nl (X0 k.toNat ds).flatten h else .bad
  | none=>.bad) (aJ K g α H Q)->Kl x (.int k) H (kI Q):=by
  intro a k x ra w
  cases e1:rK a h with
  | none=>simp only[e1] at w;exact w.elim
  | some ds=>
   simp only[e1] at w
   obtain⟨hl,w⟩:=WQ.dj w
   obtain⟨p,vs,rfl,hv,rs⟩:=Dy r ra e1
   refine .inr ⟨p,k,vs,rfl,rfl,hv,{},{},jZ (by rw[<- rs.length];exact hl.2),fun l hl'=>?_⟩
   exact NL.post w r (rs.flat k.toNat) hl'
 unfold kN at w
 split at w
 ·cases ra
  cases rb
  obtain⟨hc,w⟩:=WQ.dj w
  exact .inl ⟨_,_,rfl,rfl,hc,aJ.G4 w r (.int _)⟩
 ·cases rb
  exact gen ra w
 ·exact w.elim
abbrev AM:D->D->Hh->R D
 | .int i,.int j,h=>if 0<j/\sml j=θ then .ok (.int (i / j)) h else .bad
 | _,_,_=>.bad
def HE:OpR X (binaryOp .FloorDiv) (rI (fun i j=>0<j/\sml j=θ) fun i j=>.int (i / j)):=opI fun i j _ _ _ _ _ hc q=>by
 have e:i.fdiv j=i / j:=Int.fdiv_eq_ediv_of_nonneg _ {}
 refine floordiv_int {} ?_ (.inl (PyProof.noPylong_of_log2 (aco (Ep hc.2) (by decide))))
 simp_all
def P8:fB K g ε AM (rI (fun i j=>0<j/\sml j=θ) fun i j=>.int (i / j)):=by
 intro α H h a b x y Q r ra rb w
 cases ra with
 | int i=>
  cases rb with
  | int j=>
   obtain⟨hc,w⟩:=WQ.dj w
   exact⟨i,j,rfl,rfl,hc,aJ.now w r (.int _)⟩
  | _=>exact w.elim
 | _=>exact w.elim
abbrev xM:D->D->Hh->R D
 | .int i,.int j,h=>if 0<j then .ok (.int (i % j)) h else .bad
 | _,_,_=>.bad
def O7:fB K g ε xM (rI (fun _ j=>0<j) fun i j=>.int (i % j)):=by
 intro α H h a b x y Q r ra rb w
 cases ra with
 | int i=>
  cases rb with
  | int j=>
   obtain⟨hc,w⟩:=WQ.dj w
   exact⟨i,j,rfl,rfl,hc,aJ.now w r (.int _)⟩
  | _=>exact w.elim
 | _=>exact w.elim
abbrev PJ:D->D->Hh->R D
 | .int i,.int j,h=>if 0<=j/\j.natAbs<=1000/\sml i=θ then .ok (.int (i ^ j.toNat)) h else .bad
 | _,_,_=>.bad
def Nw:OpR X (binaryOp .Pow) (rI (fun i j=>0<=j/\j.natAbs<=1000/\sml i=θ) fun i j=>.int (i ^ j.toNat)):=opI fun i j _ _ _ _ _ hc q=>pow_int hc.1 (by
 have:=sR hc.2.2
 have h1:((aaI i:Nat):Int)<=1900:={}
 calc ((aaI i:Nat):Int)*j<=1900*j:=Int.mul_le_mul_of_nonneg_right h1 hc.1
  _<=1900*1000:=Int.mul_le_mul_of_nonneg_left (show j<=1000 by lia) (by decide)
  _<=2 ^ 27:=by decide) q
def Qy:fB K g ε PJ (rI (fun i j=>0<=j/\j.natAbs<=1000/\sml i=θ) fun i j=>.int (i ^ j.toNat)):=by
 intro α H h a b x y Q r ra rb w
 cases ra with
 | int i=>
  cases rb with
  | int j=>
   obtain⟨hc,w⟩:=WQ.dj w
   exact⟨i,j,rfl,rfl,hc,aJ.now w r (.int _)⟩
  | _=>exact w.elim
 | _=>exact w.elim
abbrev kL:D->Hh->R D
 | .int i,h=>.ok (.int (-i)) h
 | _,_=>.bad
def lb:Um K g ε kL (rU fun i=>.int (-i)):=by
 intro α H h a x Q r ra w
 cases ra with
 | int i=>exact⟨i,rfl,aJ.now w r (.int _)⟩
 | _=>exact w.elim
abbrev H0 (p:Int->Int->Bool):D->D->Hh->R D
 | .int i,.int j,h=>.ok (.bl (p i j)) h
 | _,_,_=>.bad
abbrev ltI:Int->Int->Bool
 | .ofNat a,.ofNat b=>ads a b
 | .ofNat _,.negSucc _=>ψ
 | .negSucc _,.ofNat _=>θ
 | .negSucc a,.negSucc b=>ads b a
def rD:ltI=fun i j=>decide (i<j):=by
 funext i j
 cases i with
 | ofNat a=>
  cases j with
  | ofNat b=>
   show ads a b=_
   rw[abz,Nat.blt_eq,decide_eq_true_iff]
   simp
  | negSucc b=>rfl
 | negSucc a=>
  cases j with
  | ofNat b=>exact(decide_eq_true (by grind)).symm
  | negSucc b=>
   show ads b a=_
   rw[abz,Nat.blt_eq,decide_eq_true_iff]
   lia
abbrev leI (i j:Int):Bool:=!ltI j i
def zm:leI=fun i j=>decide (i<=j):=by
 funext i j
 unfold leI
 rw[rD,abz]
 simp
abbrev dLt:D->D->Hh->R D:=H0 ltI
abbrev dLe:D->D->Hh->R D:=H0 leI
abbrev dGt:D->D->Hh->R D:=H0 fun i j=>ltI j i
abbrev dGe:D->D->Hh->R D:=H0 fun i j=>leI j i
def zF:fB K g ε (H0 p) (rI0 fun i j=>.bl (p i j)):=by
 intro α H h a b x y Q r ra rb w
 cases ra with
 | int i=>
  cases rb with
  | int j=>exact⟨i,j,rfl,rfl,aJ.now w r (.bl _)⟩
  | _=>exact w.elim
 | _=>exact w.elim
def OM:fB K g ε dLt (rI0 fun i j=>.bl (decide (i<j))):=by
 unfold dLt;rw[rD];exact zF
def xC:fB K g ε dLe (rI0 fun i j=>.bl (decide (i<=j))):=by
 unfold dLe;rw[zm];exact zF
def S0:fB K g ε dGt (rI0 fun i j=>.bl (decide (j<i))):=by
 unfold dGt;rw[rD];exact zF
def Uo:fB K g ε dGe (rI0 fun i j=>.bl (decide (j<=i))):=by
 unfold dGe;rw[zm];exact zF
abbrev jR (d:D) (h:Hh):Option (List D):=match d with
 | .tup ds=>ξ ds
 | .frl ds=>ξ ds
 | .scr ds=>ξ ds
 | .ref n=>aE h n
 | _=>ζ
def qV (r:bo K g α H h) (rd:aL K g α H d x) (e:jR d h=ξ ds):∃p vs,x=.ref p/\(SqL K H p vs\/SqT K H p vs)/\ay K g α H ds vs:=by
 cases rd with
 | tup hq rs=>cases e;exact⟨_,_,rfl,.inr (SqT.of hq),rs⟩
 | frl hq rs=>cases e;exact⟨_,_,rfl,.inl hq.sq,rs⟩
 | scr hq rs=>cases e;exact⟨_,_,rfl,.inl hq.sq,rs⟩
 | ref hp=>obtain⟨vs,hv,rs⟩:=r.lst e hp;exact⟨_,vs,rfl,.inl (SqL.of hv),rs⟩
 | _=>cases e
abbrev dIx:D->D->Hh->R D:=fun a b h=>match jR a h,b with
 | some ds,.int i=>match atI ds i with
  | some d=>.ok d h
  | none=>.bad
 | _,_=>.bad
def EO (rs:ay K g α H ds vs) (e:atI ds i=ξ d):∃v,atI vs i=ξ v/\aL K g α H d v:=by
 unfold atI at e ⊢
 rw[<- rs.length]
 cases e1:ixN ds.length i with
 | none=>simp_all
 | some j=>
  rw[e1] at e
  exact rs.get e
def Sg:fB K g ε dIx (rIx K):=by
 intro α H h a b x y Q r ra rb w
 unfold dIx at w
 cases e1:jR a h with
 | none=>simp only[e1] at w;exact w.elim
 | some ds=>
  simp only[e1] at w
  obtain⟨p,vs,rfl,hq,rs⟩:=qV r ra e1
  cases rb with
  | int i=>
   cases e2:atI ds i with
   | none=>simp only[e2] at w;exact w.elim
   | some d=>
    simp only[e2] at w
    obtain⟨v,ev,rv⟩:=EO rs e2
    rcases hq with hq | hq
    ·exact .inl ⟨p,vs,i,v,rfl,rfl,hq,ev,aJ.now w r rv⟩
    ·exact .inr (.inl ⟨p,vs,i,v,rfl,rfl,hq,ev,aJ.now w r rv⟩)
  | _=>exact w.elim
abbrev j8:D->D->D->Hh->R Unit:=fun o i v h=>match o,i with
 | .ref n,.int k=>match aE h n with
  | some ds=>match ixN ds.length k with
   | some j=>.ok () (h.set n (.lst (ds.set j v)))
   | none=>.bad
  | none=>.bad
 | _,_=>.bad
def s_:Tw K g ε j8 O3:=by
 intro α H h o i v x y z Q r ro ri rv w
 unfold j8 at w
 cases ro with
 | @ref n p hp=>
  cases ri with
  | int k=>
   cases e1:aE h n with
   | none=>simp only[e1] at w;exact w.elim
   | some ds=>
    simp only[e1] at w
    cases e2:ixN ds.length k with
    | none=>simp only[e2] at w;exact w.elim
    | some j=>
     simp only[e2] at w
     obtain⟨vs,hv,rs⟩:=r.lst e1 hp
     refine⟨p,vs,k,j,rfl,rfl,hv,by rw[<- rs.length];exact e2,?_⟩
     have x:=Ext.write (o:=.lst (vs.set j z)) r hp
     exact w _ α x (r.write hp ⟨_,aR,(rs.set rv j).ext x⟩)
  | _=>exact w.elim
 | _=>exact w.elim
abbrev cutD (xs:List D) (lo hi:Option Int):List D:=(xs.drop (HT.sIx xs.length 0 lo)).take (HT.sIx xs.length xs.length hi - HT.sIx xs.length 0 lo)
def nE (rs:ay K g α H ds vs) (lo hi):ay K g α H (cutD ds lo hi) (uV vs lo hi):=by
 unfold cutD uV
 rw[<- rs.length]
 exact(rs.drop _).take _
@[inline]abbrev MO:=En->Hh->R (Option Int)
abbrev fZ:MO:=fun _ h=>.ok ζ h
abbrev ft (a:ME):MO:=fun env h=>(a env h).bind fun d h1=>match d with
 | .int i=>.ok (ξ i) h1
 | _=>.bad
abbrev tMO (K:gV) (g:GG) (ε:EE) (m:MO):TO:=fun σ H Q=>∃α env h,eJ K g α H env σ h/\WQ K g ε α H (m env h) fun o h'=>∀H' α',Ext K α H α' H'->bo K g α' H' h'->Q o H'
def PO.imp (h:PO X e t) (i:∀σ H Q,t' σ H Q->t σ H Q):PO X e t':=fun pins s σ H Q I w=>h pins s σ H Q I (i σ H Q w)
def lP:PO X ζ (tMO X.K g ε fZ):=PO.imp Og fun σ H Q ⟨α,env,h,s,w⟩=>w H α Ext.refl s.heap
def fA {e:YL}{me:ME} (he:PE X e (tM X.K g ε me)):PO X (ξ e) (tMO X.K g ε (ft me)):=PO.imp (N7 he) fun σ H Q ⟨α,env,h,s,w⟩=>tM.use s w.bind fun d1 h1 v1 H1 α1 e1 s1 r1 w1=>by
 cases r1 with
 | int i=>exact⟨i,rfl,w1 H1 α1 e1 s1.heap⟩
 | _=>exact w1.elim
abbrev Fq (nl:NL):D->Option Int->Option Int->Hh->R D:=fun d lo hi h=>match d with
 | .tup ds=>.ok (.tup (cutD ds lo hi)) h
 | .frl ds=>nl (cutD ds lo hi) h
 | .scr ds=>nl (cutD ds lo hi) h
 | .ref n=>match aE h n with
  | some ds=>nl (cutD ds lo hi) h
  | none=>.bad
 | _=>.bad
abbrev e9 (nl:NL) (a:ME) (l u:MO):ME:=fun env h=>(a env h).bind fun x h1=>(l env h1).bind fun lo h2=>(u env h2).bind fun hi h3=>Fq nl x lo hi h3
def tMO.use (s:eJ K g α H env σ h) (w:WQ K g ε α H (m env h) k)
  (q:∀d h' H' α',Ext K α H α' H'->eJ K g α' H' env σ h'->k d h'->Q d H'):tMO K g ε m σ H Q:=
 ⟨α,env,h,s,w.mono fun d h' _ kk H' α' e r=>q d h' H' α' e (s.ext e r) kk⟩
def fW {nl:NL} [ji nl]{e:YL}{me:ME}{lo hi:Option YL}{ml mh:MO}{p2 pos:Pos} (he:PE X e (tM X.K g ε me)) (hl:PO X lo (tMO X.K g ε ml)) (hu:PO X hi (tMO X.K g ε mh)):PE X (.Subscript e (.Slice lo hi ζ p2) pos) (tM X.K g ε (e9 nl me ml mh)):=
 PE.imp (PE.frz (IW (SlR.or Ml (SlR.or Pg NF)) he hl hu)) fun σ H Q ⟨α,env,h,s,w⟩=>tM.use s w.bind fun d1 h1 v1 H1 α1 e1 s1 r1 w1=>tMO.use s1 (w1.ext e1).bind fun o2 h2 H2 α2 e2 s2 w2=>tMO.use s2 (w2.ext e2).bind fun o3 h3 H3 α3 e3 s3 w3=>by
  have tr:=e1.trans (e2.trans e3)
  have r3:=r1.ext (e2.trans e3)
  have w4:=(w3.ext e3).mono fun _ _ _ p=>aJ.ext tr p
  unfold Fq at w4
  cases r3 with
  | @frl ds p vs hq rs=>exact .inl ⟨_,_,rfl,hq.sq,fun l hl=>NL.post w4 s3.heap (nE rs _ _) hl⟩
  | @scr ds p vs hq rs=>exact .inl ⟨_,_,rfl,hq.sq,fun l hl=>NL.post w4 s3.heap (nE rs _ _) hl⟩
  | @ref n p hp=>
   cases e1:aE h3 n with
   | none=>simp only[e1] at w4;exact w4.elim
   | some ds=>
    simp only[e1] at w4
    obtain⟨vs,hv,rs⟩:=s3.heap.lst e1 hp
    exact .inl ⟨_,_,rfl,SqL.of hv,fun l hl=>NL.post w4 s3.heap (nE rs _ _) hl⟩
  | @tup ds p vs hq rs=>
   refine .inr ?_
   by_cases hw:HT.sIx vs.length 0 o2=0/\HT.sIx vs.length vs.length o3=vs.length
   ·refine .inr ⟨_,_,rfl,SqT.of hq,hw.1,hw.2,?_⟩
    refine aJ.G4 w4 s3.heap (.tup hq ?_)
    have:uV vs o2 o3=vs:=by unfold uV;simp_all
    have q:=nE rs o2 o3
    simp_all
   ·exact .inl ⟨_,_,rfl,SqT.of hq,hw,fun l hl=>.inl (aJ.tup w4 s3.heap (nE rs _ _) hl)⟩
  | _=>exact w4.elim
end
abbrev ip:D->Bool
 | .non=>θ | .bl _=>θ | .int _=>θ | .str _=>θ
 | _=>ψ
abbrev eqF:D->D->Bool
 | .non,.non=>θ
 | .bl a,.bl b=>a == b
 | .bl a,.int b=>(if a then 1 else 0) == b
 | .int a,.bl b=>a == (if b then 1 else 0)
 | .int a,.int b=>a == b
 | .str a,.str b=>a == b
 | _,_=>ψ
abbrev eqL (f:D->D->Option Bool):List D->List D->Option Bool
 | x::xs,y::ys=>match f x y,eqL f xs ys with
  | some b,ξ c=>ξ (b&&c)
  | _,_=>ζ
 | [],[]=>ξ θ
 | _,_=>ξ ψ
inductive Vw where
 | fl | tp (ds:List D) | ls (ds:List D) | no
abbrev vw (d:D) (h:Hh):Vw:=match d with
 | .non=>.fl | .bl _=>.fl | .int _=>.fl | .str _=>.fl
 | .tup ds=>.tp ds
 | .frl ds=>.ls ds
 | .scr ds=>.ls ds
 | .ref n=>match aE h n with
  | some ds=>.ls ds
  | none=>.no
 | _=>.no
abbrev eqD:Nat->Hh->D->D->Option Bool
 | 0,_,_,_=>ζ
 | k+1,h,a,b=>match vw a h,vw b h with
  | .fl,.fl=>ξ (eqF a b)
  | .tp xs,.tp ys=>eqL (eqD k h) xs ys
  | .ls xs,.ls ys=>if xs.length=ys.length then eqL (eqD k h) xs ys else ξ ψ
  | .fl,.tp _=>ξ ψ
  | .fl,.ls _=>ξ ψ
  | .tp _,.fl=>ξ ψ
  | .tp _,.ls _=>ξ ψ
  | .ls _,.fl=>ξ ψ
  | .ls _,.tp _=>ξ ψ
  | _,_=>ζ
section
variable {K:gV}{g:GG}{α:List XW}{H:Hp}{h:Hh}
def rE {f:D->D->Option Bool} (hf:∀a b x c,aL K g α H a x->aL K g α H b x->f a b=ξ c->c=θ){xs ys:List D}{vs:List V}{c:Bool} (h1:ay K g α H xs vs) (h2:ay K g α H ys vs) (e:eqL f xs ys=ξ c):c=true:=by
 cases h1 with
 | nil=>cases h2;simp[eqL] at e;exact e
 | cons r t=>
  cases h2 with | cons r' t'=>
  unfold eqL at e
  split at e
  ·rename_i b c' h1 h2
   have e1:=hf _ _ _ _ r r' h1
   have e2:=rE hf t t' h2
   simp_all
  grind
def sS {d:D}{x:V} (rd:aL K g α H d x) (e:vw d h=.fl):ip d=true:=by
 cases rd with
 | ref hp=>unfold vw at e;simp only at e;split at e<;>cases e
 | _=>first | rfl | cases e
def pR (rd:aL K g α H d x) (e:vw d h=.tp ds):∃p vs,x=.ref p/\SqT K H p vs/\ay K g α H ds vs:=by
 cases rd with
 | tup hp rs=>cases e;exact⟨_,_,rfl,SqT.of hp,rs⟩
 | ref hp=>unfold vw at e;grind
 | _=>cases e
def pU (r:bo K g α H h) (rd:aL K g α H d x) (e:vw d h=.ls ds):∃p vs,x=.ref p/\SqL K H p vs/\ay K g α H ds vs:=by
 cases rd with
 | frl hp rs=>cases e;exact⟨_,_,rfl,hp.sq,rs⟩
 | scr hp rs=>cases e;exact⟨_,_,rfl,hp.sq,rs⟩
 | @ref n p hp=>
  unfold vw at e
  simp only at e
  cases el:aE h n with
  | none=>simp_all
  | some ds'=>
   rw[el] at e;cases e
   obtain⟨vs,hv,rs⟩:=r.lst el hp
   exact⟨_,_,rfl,SqL.of hv,rs⟩
 | _=>cases e
def ES {f:D->D->Option Bool}:∀{xs ys:List D}{c:Bool},eqL f xs ys=ξ c →
  (∀(j:Nat) (x y:D),xs[j]?=ξ x->ys[j]?=ξ y->∃b,f x y=ξ b)/\c=((XF (min xs.length ys.length)).all (fun j=>((f (xs.getD j .non) (ys.getD j .non)).getD ψ))&&xs.length == ys.length)
 | [],[],c,e=>by
  simp[eqL] at e
  simp[<- e]
 | [],_::_,c,e=>by
  simp[eqL] at e
  exact⟨fun j x y h=>by simp at h,by simp[<- e]⟩
 | _::_,[],c,e=>by
  simp[eqL] at e
  exact⟨fun j x y _ h=>by simp at h,by simp[<- e]⟩
 | x::xs,y::ys,c,e=>by
  unfold eqL at e
  split at e
  ·rename_i b c' h1 h2
   obtain⟨q1,q2⟩:=ES h2
   refine⟨fun j x' y' hx hy=>?_,?_⟩
   ·cases j with
    | zero=>simp at hx hy;subst hx hy;exact⟨b,h1⟩
    | succ j=>exact q1 j x' y' (by simpa using hx) (by simpa using hy)
   ·have e':=(Y5 e).symm
    rw[e',q2]
    have hm:min (x::xs).length (y::ys).length=min xs.length ys.length+1:=by simp[Nat.succ_min_succ]
    rw[hm,aa1,aaS,acY]
    have h0:(f ((x::xs).getD 0 .non) ((y::ys).getD 0 .non)).getD ψ=b:=by
     show(f x y).getD ψ=b
     rw[h1];rfl
    rw[h0]
    have hlen:((x::xs).length == (y::ys).length)=(xs.length == ys.length):={..}
    rw[hlen,Bool.and_assoc]
    rfl
  ·cases e
end
section
variable {X:Cx}{g:GG}{pins:List (XW × Obj)}{σ:St}{H:Hp}{s:XO}{α:List XW}{h:Hh}
open PySem.SeqAt
def M4 {K:gV} (ra:aL K g α H a x) (rb:aL K g α H b y) (ru:RelV x u) (rv:RelV y v) (fa:ip a=θ) (fb:ip b=θ) :
  YH A s u v (eqF a b)/\RcAt A s u v (eqF a b)/\acM A s u v (!eqF a b):=by
 cases ra with
 | non=>
  cases ru
  cases rb with
  | non=>cases rv;exact⟨.same _,.none_none,.none_none⟩
  | bl z=>cases rv;exact⟨.none_bool z,.none_bool z,.none_bool z⟩
  | int z=>obtain⟨t,rfl⟩:=rv;exact⟨.none_int z t,.none_int z t,.none_int z t⟩
  | str z=>obtain⟨t,rfl⟩:=rv;exact⟨.none_str z t,.none_str z t,.none_str z t⟩
  | _=>cases fb
 | bl q=>
  cases ru
  cases rb with
  | non=>cases rv;exact⟨.bool_none q,.bool_none q,.bool_none q⟩
  | bl z=>cases rv;exact⟨.bool_bool q z,.bool_bool q z,.bool_bool q z⟩
  | int z=>obtain⟨t,rfl⟩:=rv;exact⟨.bool_int q z t,.bool_int q z t,.bool_int q z t⟩
  | str z=>obtain⟨t,rfl⟩:=rv;exact⟨.bool_str q z t,.bool_str q z t,.bool_str q z t⟩
  | _=>cases fb
 | int q=>
  obtain⟨t',rfl⟩:=ru
  cases rb with
  | non=>cases rv;exact⟨.int_none q t',.int_none q t',.int_none q t'⟩
  | bl z=>cases rv;exact⟨.int_bool q t' z,.int_bool q t' z,.int_bool q t' z⟩
  | int z=>obtain⟨t,rfl⟩:=rv;exact⟨.int_int q t' z t,.int_int q t' z t,.int_int q t' z t⟩
  | str z=>obtain⟨t,rfl⟩:=rv;exact⟨.int_str q t' z t,.int_str q t' z t,.int_str q t' z t⟩
  | _=>cases fb
 | str q=>
  obtain⟨t',rfl⟩:=ru
  cases rb with
  | non=>cases rv;exact⟨.str_none q t',.str_none q t',.str_none q t'⟩
  | bl z=>cases rv;exact⟨.str_bool q t' z,.str_bool q t' z,.str_bool q t' z⟩
  | int z=>obtain⟨t,rfl⟩:=rv;exact⟨.str_int q t' z t,.str_int q t' z t,.str_int q t' z t⟩
  | str z=>obtain⟨t,rfl⟩:=rv;exact⟨.str_str q t' z t,.str_str q t' z t,.str_str q t' z t⟩
  | _=>cases fb
 | _=>cases fa
def AQ {K:gV} (ht:s.heap.IsTuple p its) (hu:A.units<cLine) (rb:aL K g α H b y) (rv:RelV y v) (fb:ip b=θ) :
  (YH A s (.ref p) v ψ/\RcAt A s (.ref p) v ψ/\acM A s (.ref p) v θ)/\(YH A s v (.ref p) ψ/\RcAt A s v (.ref p) ψ/\acM A s v (.ref p) θ):=by
 cases rb with
 | non=>cases rv;exact⟨⟨.tuple_none ht hu,.tuple_none ht hu,.tuple_none ht hu⟩,.none_tuple ht hu,.none_tuple ht hu,.none_tuple ht hu⟩
 | bl z=>cases rv;exact⟨⟨.tuple_bool z ht hu,.tuple_bool z ht hu,.tuple_bool z ht hu⟩,.bool_tuple z ht hu,.bool_tuple z ht hu,.bool_tuple z ht hu⟩
 | int z=>obtain⟨t,rfl⟩:=rv;exact⟨⟨.tuple_int z t ht hu,.tuple_int z t ht hu,.tuple_int z t ht hu⟩,.int_tuple z t ht hu,.int_tuple z t ht hu,.int_tuple z t ht hu⟩
 | str z=>obtain⟨t,rfl⟩:=rv;exact⟨⟨.tuple_str z t ht hu,.tuple_str z t ht hu,.tuple_str z t ht hu⟩,.str_tuple z t ht hu,.str_tuple z t ht hu,.str_tuple z t ht hu⟩
 | _=>cases fb
def AW {K:gV} (ht:s.heap.IsList p its) (hu:A.units<cLine) (rb:aL K g α H b y) (rv:RelV y v) (fb:ip b=θ) :
  (YH A s (.ref p) v ψ/\RcAt A s (.ref p) v ψ/\acM A s (.ref p) v θ)/\(YH A s v (.ref p) ψ/\RcAt A s v (.ref p) ψ/\acM A s v (.ref p) θ):=by
 cases rb with
 | non=>cases rv;exact⟨⟨.list_none ht hu,.list_none ht hu,.list_none ht hu⟩,.none_list ht hu,.none_list ht hu,.none_list ht hu⟩
 | bl z=>cases rv;exact⟨⟨.list_bool z ht hu,.list_bool z ht hu,.list_bool z ht hu⟩,.bool_list z ht hu,.bool_list z ht hu,.bool_list z ht hu⟩
 | int z=>obtain⟨t,rfl⟩:=rv;exact⟨⟨.list_int z t ht hu,.list_int z t ht hu,.list_int z t ht hu⟩,.int_list z t ht hu,.int_list z t ht hu,.int_list z t ht hu⟩
 | str z=>obtain⟨t,rfl⟩:=rv;exact⟨⟨.list_str z t ht hu,.list_str z t ht hu,.list_str z t ht hu⟩,.str_list z t ht hu,.str_list z t ht hu,.str_list z t ht hu⟩
 | _=>cases fb
def BH {A:YK}{k:Nat}{ds es:List D}{vs us:List V}{its jts:List XI}{c:Bool} (r:bo X.K g α H h)
  (ih:∀(a b:D) (x y:V) (u v:XI) (c:Bool),aL X.K g α H a x->aL X.K g α H b y->RelV x u->RelV y v->eqD k h a b=ξ c->YH A.in1 s u v c)
  (rs:ay X.K g α H ds vs) (rt:ay X.K g α H es us) (rv:Vals vs its) (ru:Vals us jts) (e:eqL (eqD k h) ds es=ξ c) :
  (∀j (h1:j<its.toArray.size) (h2:j<jts.toArray.size),YH A.in1 s its.toArray[j] jts.toArray[j] ((fun(j:Nat)=>(eqD k h (ds.getD j .non) (es.getD j .non)).getD ψ) j)) ∧
  c=((XF (min its.toArray.size jts.toArray.size)).all (fun(j:Nat)=>(eqD k h (ds.getD j .non) (es.getD j .non)).getD ψ)&&its.toArray.size == jts.toArray.size):=by
 obtain⟨q1,q2⟩:=ES e
 have l1:its.toArray.size=ds.length:=by rw[Yr,<- rv.length,rs.length]
 have l2:jts.toArray.size=es.length:=by rw[Yr,<- ru.length,rt.length]
 refine⟨fun j h1 h2=>?_,by rw[l1,l2];exact q2⟩
 have hd:ds[j]?=ξ (ds.getD j .non):=by rw[Ym,XS {}];rfl
 have he:es[j]?=ξ (es.getD j .non):=by rw[Ym,XS {}];rfl
 obtain⟨b,hb⟩:=q1 j _ _ hd he
 obtain⟨x,hx,rx⟩:=rs.get hd
 obtain⟨y,hy,ry⟩:=rt.get he
 obtain⟨u,hu,rxu⟩:=rv.get hx
 obtain⟨v,hv,ryv⟩:=ru.get hy
 have eu:its.toArray[j]=u:=by
  have:=XS (by simpa using h1)
  rw[hu] at this
  simpa using(Y5 this).symm
 have ev:jts.toArray[j]=v:=by
  have:=XS (by simpa using h2)
  rw[hv] at this
  simpa using(Y5 this).symm
 rw[eu,ev]
 show YH A.in1 s u v ((eqD k h (ds.getD j .non) (es.getD j .non)).getD ψ)
 rw[hb]
 exact ih _ _ _ _ _ _ _ rx ry rxu ryv hb
def D5 (I:Inv X pins σ H s) (a:SqT X.K H p vs) (b:SqL X.K H p us):False:=by
 obtain⟨its,r1,⟨o,e,c,_⟩,_⟩:=I.tuple a
 obtain⟨jts,r2,⟨o',n',e',c',_⟩,_⟩:=I.list b
 simp_all
def uu (I:Inv X pins σ H s) (r:bo X.K g α H h):∀(k:Nat) (a b:D) (x:V) (c:Bool),aL X.K g α H a x->aL X.K g α H b x->eqD k h a b=ξ c->c=θ
 | 0,_,_,_,_,_,_,e=>by cases e
 | k+1,a,b,x,c,ra,rb,e=>by
  unfold eqD at e
  cases ea:vw a h with
  | no=>simp_all
  | fl=>
   have fa:=sS ra ea
   cases eb:vw b h with
   | no=>simp_all
   | fl=>
    simp only[ea,eb] at e
    cases e
    cases ra with
    | non=>cases rb with
     | non=>rfl
    | bl z=>cases rb with
     | bl _=>simp[eqF]
    | int z=>cases rb with
     | int _=>simp[eqF]
    | str z=>cases rb with
     | str _=>simp[eqF]
    | _=>cases fa
   | tp ds=>obtain⟨p,vs,rfl,_⟩:=pR rb eb;cases ra<;>cases fa
   | ls ds=>obtain⟨p,vs,rfl,_⟩:=pU r rb eb;cases ra<;>cases fa
  | tp da=>
   obtain⟨p,va,rfl,hp,rs⟩:=pR ra ea
   cases eb:vw b h with
   | no=>simp_all
   | fl=>have fb:=sS rb eb;cases rb<;>cases fb
   | tp db=>
    simp only[ea,eb] at e
    obtain⟨q,vb,hpq,hq,rt⟩:=pR rb eb
    cases hpq
    have:=I.pE hp hq
    subst this
    exact rE (fun a b x c=>uu I r k a b x c) rs rt e
   | ls db=>
    obtain⟨q,vb,hpq,hq,rt⟩:=pU r rb eb
    cases hpq
    exact(D5 I hp hq).elim
  | ls da=>
   obtain⟨p,va,rfl,hp,rs⟩:=pU r ra ea
   cases eb:vw b h with
   | no=>simp_all
   | fl=>have fb:=sS rb eb;cases rb<;>cases fb
   | tp db=>
    obtain⟨q,vb,hpq,hq,rt⟩:=pR rb eb
    cases hpq
    exact(D5 I hq hp).elim
   | ls db=>
    simp only[ea,eb] at e
    obtain⟨q,vb,hpq,hq,rt⟩:=pU r rb eb
    cases hpq
    have:=I.sT hp hq
    subst this
    rw[if_pos (by rw[rs.length,rt.length])] at e
    exact rE (fun a b x c=>uu I r k a b x c) rs rt e
def DM (I:Inv X pins σ H s) (r:bo X.K g α H h):∀(k:Nat) (A:YK) (a b:D) (x y:V) (u v:XI) (c:Bool),A.units+k<cLine->aL X.K g α H a x->aL X.K g α H b y->RelV x u->RelV y v->eqD k h a b=ξ c →
  YH A s u v c/\RcAt A s u v c/\acM A s u v (!c)
 | 0,_,_,_,_,_,_,_,_,_,_,_,_,_,e=>by cases e
 | k+1,A,a,b,x,y,u,v,c,hu,ra,rb,ru,rv,e=>by
  have hu0:A.units<cLine:={}
  have ih:∀(a b:D) (x y:V) (u v:XI) (c:Bool),aL X.K g α H a x->aL X.K g α H b y->RelV x u->RelV y v->eqD k h a b=ξ c->YH A.in1 s u v c:=
   fun a b x y u v c h1 h2 h3 h4 h5=>(DM I r k A.in1 a b x y u v c (by grind) h1 h2 h3 h4 h5).1
  have whole:=fun x ra rb=>uu I r (k+1) a b x c ra rb e
  unfold eqD at e
  cases ea:vw a h with
  | no=>simp_all
  | fl=>
   have fa:=sS ra ea
   cases eb:vw b h with
   | no=>simp_all
   | fl=>simp only[ea,eb] at e;cases e;exact M4 ra rb ru rv fa (sS rb eb)
   | tp db=>
    simp only[ea,eb] at e;cases e
    obtain⟨q,vb,rfl,hq,rt⟩:=pR rb eb
    cases rv
    obtain⟨its,r1,ht,_⟩:=I.tuple hq
    exact(AQ ht hu0 ra ru fa).2
   | ls db=>
    simp only[ea,eb] at e;cases e
    obtain⟨q,vb,rfl,hq,rt⟩:=pU r rb eb
    cases rv
    obtain⟨its,r1,ht,_⟩:=I.list hq
    exact(AW ht.isList hu0 ra ru fa).2
  | tp da=>
   obtain⟨p,va,rfl,hp,rs⟩:=pR ra ea
   cases ru
   obtain⟨its,r1,ht,_⟩:=I.tuple hp
   cases eb:vw b h with
   | no=>simp_all
   | fl=>simp only[ea,eb] at e;cases e;exact(AQ ht hu0 rb rv (sS rb eb)).1
   | tp db=>
    simp only[ea,eb] at e
    obtain⟨q,vb,rfl,hq,rt⟩:=pR rb eb
    cases rv
    obtain⟨jts,r2,ht2,_⟩:=I.tuple hq
    obtain⟨h1,h2⟩:=BH r ih rs rt r1 r2 e
    have rc:RcAt A s (.ref p) (.ref q) c:=by rw[h2];exact RcAt.tuples ht ht2 hu0 h1
    refine⟨?_,rc,by rw[h2];exact acM.tuples ht ht2 hu0 h1⟩
    by_cases hpq:p=q
    ·subst hpq
     rw[whole _ ra rb]
     exact .same _
    ·exact .of_refs hpq rc
   | ls db=>
    simp only[ea,eb] at e;cases e
    obtain⟨q,vb,rfl,hq,rt⟩:=pU r rb eb
    cases rv
    obtain⟨jts,r2,ht2,_⟩:=I.list hq
    exact⟨.tuple_list ht ht2.isList hu0,.tuple_list ht ht2.isList hu0,.tuple_list ht ht2.isList hu0⟩
  | ls da=>
   obtain⟨p,va,rfl,hp,rs⟩:=pU r ra ea
   cases ru
   obtain⟨its,r1,ht',_⟩:=I.list hp
   have ht:=ht'.isList
   cases eb:vw b h with
   | no=>simp_all
   | fl=>simp only[ea,eb] at e;cases e;exact(AW ht hu0 rb rv (sS rb eb)).1
   | tp db=>
    simp only[ea,eb] at e;cases e
    obtain⟨q,vb,rfl,hq,rt⟩:=pR rb eb
    cases rv
    obtain⟨jts,r2,ht2,_⟩:=I.tuple hq
    exact⟨.list_tuple ht ht2 hu0,.list_tuple ht ht2 hu0,.list_tuple ht ht2 hu0⟩
   | ls db=>
    simp only[ea,eb] at e
    obtain⟨q,vb,rfl,hq,rt⟩:=pU r rb eb
    cases rv
    obtain⟨jts,r2,ht2',_⟩:=I.list hq
    have ht2:=ht2'.isList
    have l1:its.toArray.size=da.length:=by rw[Yr,<- r1.length,rs.length]
    have l2:jts.toArray.size=db.length:=by rw[Yr,<- r2.length,rt.length]
    have fin:RcAt A s (.ref p) (.ref q) c/\acM A s (.ref p) (.ref q) (!c):=by
     by_cases hl:da.length=db.length
     ·rw[if_pos hl] at e
      obtain⟨h1,h2⟩:=BH r ih rs rt r1 r2 e
      have hsz:its.toArray.size=jts.toArray.size:={}
      have h2':c=(XF its.toArray.size).all (fun(j:Nat)=>(eqD k h (da.getD j .non) (db.getD j .non)).getD ψ):=by
       simp_all
      exact⟨by rw[h2'];exact RcAt.lists ht ht2 hsz hu0 h1,by rw[h2'];exact acM.lists ht ht2 hsz hu0 h1⟩
     ·rw[if_neg hl] at e
      have e2:c=false:=(Y5 e).symm
      have hsz:(its.toArray.size != jts.toArray.size)=true:=by
       simp_all
      rw[e2]
      exact⟨RcAt.lists_lengths ht ht2 hsz hu0,acM.lists_lengths ht ht2 hsz hu0⟩
    refine⟨?_,fin⟩
    by_cases hpq:p=q
    ·subst hpq
     rw[whole _ ra rb]
     exact .same _
    ·exact .of_refs hpq fin.1
@[inline]abbrev eqN:Nat:=12
abbrev dEq:D->D->Hh->R D:=fun a b h=>match eqD eqN h a b with
 | some c=>.ok (.bl c) h
 | none=>.bad
abbrev dNe:D->D->Hh->R D:=fun a b h=>match eqD eqN h a b with
 | some c=>.ok (.bl (!c)) h
 | none=>.bad
abbrev NW (K:gV) (g:GG) (neg:Bool):R2:=fun x y H Q=>∃α h a b c,bo K g α H h/\aL K g α H a x/\aL K g α H b y/\eqD eqN h a b=ξ c/\Q (.bl (if neg then !c else c)) H
def zI (hu:X.A.units+64<cLine):OpR X (compareOp .Eq) (NW X.K g ψ):=by
 intro pins s σ H x y v u Q I rx ry ⟨α,h,a,b,c,r,ra,rb,e,q⟩
 exact(DM I r eqN X.A a b x y v u c (by grind) ra rb rx ry e).2.1 _ _ _ _ ⟨.bl c,H,I,rfl,q⟩
def PZ (hu:X.A.units+64<cLine):OpR X (compareOp .NotEq) (NW X.K g θ):=by
 intro pins s σ H x y v u Q I rx ry ⟨α,h,a,b,c,r,ra,rb,e,q⟩
 exact(DM I r eqN X.A a b x y v u c (by grind) ra rb rx ry e).2.2 _ _ _ _ ⟨.bl (!c),H,I,rfl,q⟩
def E5 {K:gV}:fB K g ε dEq (NW K g ψ):=by
 intro α H h a b x y Q r ra rb w
 unfold dEq at w
 cases e:eqD eqN h a b with
 | none=>simp only[e] at w;exact w.elim
 | some c=>simp only[e] at w;exact⟨α,h,a,b,c,r,ra,rb,e,aJ.now w r (.bl _)⟩
def TR {K:gV}:fB K g ε dNe (NW K g θ):=by
 intro α H h a b x y Q r ra rb w
 unfold dNe at w
 cases e:eqD eqN h a b with
 | none=>simp only[e] at w;exact w.elim
 | some c=>simp only[e] at w;exact⟨α,h,a,b,c,r,ra,rb,e,aJ.now w r (.bl _)⟩
end
abbrev EV (f:D->Option PyData):List D->Option (List PyData)
 | []=>ξ []
 | d::ds=>match f d,EV f ds with
  | some p,ξ ps=>ξ (p::ps)
  | _,_=>ζ
abbrev toPy:Nat->Hh->D->Option PyData
 | 0,_,_=>ζ
 | k+1,h,d=>match d with
  | .non=>ξ .none
  | .bl b=>ξ (.bool b)
  | .int i=>if sml i=θ then ξ (.int i) else ζ
  | .str x=>if x.cps.toList.all (fun c=>decide (c<16 ^ 8))=θ then ξ (.str x) else ζ
  | .tup ds=>(EV (toPy k h) ds).map .tuple
  | .frl ds=>(EV (toPy k h) ds).map .list
  | .ref n=>match aE h n with
   | some ds=>(EV (toPy k h) ds).map .list
   | none=>ζ
  | _=>ζ
abbrev Q0 (d:D) (h:Hh):R D:=match toPy 12 h d with
 | some p=>if p.bulk<=8000 then .ok (.str p.shown) h else .bad
 | none=>.bad
abbrev T9:List D->Hh->R D:=fun ds h=>match ds with
 | [.int i]=>if sml i=θ then .ok (.str (toString i)) h else .bad
 | [.tup ds]=>Q0 (.tup ds) h
 | [.ref n]=>Q0 (.ref n) h
 | [.frl ds]=>Q0 (.frl ds) h
 | _=>.bad
section
variable {X:Cx}{K:gV}{g:GG}{ε:EE}
abbrev bA:List D->Hh->R D:=fun ds h=>match ds with
 | [.tup ds]=>.ok (.int ds.length) h
 | [.frl ds]=>.ok (.int ds.length) h
 | [.scr ds]=>.ok (.int ds.length) h
 | [.str x]=>if x.length<=1000000 then .ok (.int x.length) h else .bad
 | [.ref n]=>match h[n]? with
  | some (.lst ds)=>.ok (.int ds.length) h
  | some (.set k)=>.ok (.int k.length) h
  | _=>.bad
 | _=>.bad
@[inline]abbrev OP (K:gV):List V->Hp->VK->Prop:=fun xs H Q=>(∃p ys,xs=[.ref p]/\(SqL K H p ys\/SqT K H p ys)/\Q (.int ys.length) H)\/(∃p S n,xs=[.ref p]/\H p=ξ (.set S n)/\Q (.int n) H)\/∃z,xs=[.str z]/\z.length<=sizeLine/\Q (.int z.length) H
def JK:bU X (.builtin "len") (OP X.K):=bU.or yN (bU.or vi zr)
def pM {f:List D->Hh->R D} (hf:∀d e r h,f (d::e::r) h=.bad) (hf0:∀h,f [] h=.bad) (rs:ay K g α H ds vs) (w:WQ K g ε α H (f ds h) (aJ K g α H Q)):∃d v,ds=[d]/\vs=[v]/\aL K g α H d v:=by
 cases rs with
 | nil=>rw[hf0] at w;exact w.elim
 | cons r t=>
  cases t with
  | nil=>simp_all
  | cons _ _=>rw[hf] at w;exact w.elim
def Kd:nN K g ε bA (OP K):=by
 intro α H h a x Q r ra w
 obtain⟨d,v,rfl,rfl,rd⟩:=pM (fun d _ _ _=>by cases d<;>rfl) (fun _=>rfl) ra w
 unfold bA at w
 cases rd with
 | tup hp rs=>exact .inl ⟨_,_,rfl,.inr (SqT.of hp),aJ.now w r (by rw[<- rs.length];exact .int _)⟩
 | frl hp rs=>exact .inl ⟨_,_,rfl,.inl hp.sq,aJ.now w r (by rw[<- rs.length];exact .int _)⟩
 | scr hp rs=>exact .inl ⟨_,_,rfl,.inl hp.sq,aJ.now w r (by rw[<- rs.length];exact .int _)⟩
 | str z=>
  obtain⟨hl,w⟩:=WQ.dj w
  exact .inr (.inr ⟨z,rfl,jZ hl,aJ.now w r (.int _)⟩)
 | @ref n p hp=>
  simp only at w
  cases e:h[n]? with
  | none=>rw[e] at w;exact w.elim
  | some o=>
   rw[e] at w
   have q:=r.here n p o hp e
   cases o with
   | lst ds=>obtain⟨vs,hv,rs⟩:=q;exact .inl ⟨p,vs,rfl,.inl (SqL.of hv),aJ.now w r (by rw[<- rs.length];exact .int _)⟩
   | set k=>exact .inr (.inl ⟨p,_,_,rfl,q,aJ.now w r (.int _)⟩)
   | dic k=>exact w.elim
   | dit k=>exact w.elim
   | ins c k=>exact w.elim
 | _=>exact w.elim
abbrev dList (nl:NL):List D->Hh->R D:=fun ds h=>match ds with
 | [d]=>match jR d h with
  | some xs=>nl xs h
  | none=>.bad
 | _=>.bad
def Ma [ji nl]:nN K g ε (dList nl) (fun xs H Q=>∃p ys,xs=[.ref p]/\(SqL K H p ys\/SqT K H p ys)/\∀l,H l=ζ->kI Q (.ref l) (upd H l (.lst ys))):=by
 intro α H h a x Q r ra w
 obtain⟨d,v,rfl,rfl,rd⟩:=pM (fun _ _ _ _=>rfl) (fun _=>rfl) ra w
 unfold dList at w
 simp only at w
 cases e:jR d h with
 | none=>rw[e] at w;exact w.elim
 | some ds=>
  rw[e] at w
  obtain⟨p,vs,rfl,hq,rs⟩:=qV r rd e
  exact⟨p,vs,rfl,hq,fun l hl=>NL.post w r rs hl⟩
abbrev dv:List D->Hh->R D:=fun ds h=>match ds with
 | [.tup ds]=>.ok (.tup ds) h
 | [.frl ds]=>.ok (.tup ds) h
 | [.ref n]=>match aE h n with
  | some ds=>.ok (.tup ds) h
  | none=>.bad
 | _=>.bad
def Ie:nN K g ε dv (fun xs H Q=>∃p ys,xs=[.ref p]/\((SqL K H p ys/\∀l,H l=ζ->Q (.ref l) (upd H l (.tup ys)))\/(SqT K H p ys/\Q (.ref p) H))):=by
 intro α H h a x Q r ra w
 obtain⟨d,v,rfl,rfl,rd⟩:=pM (fun d _ _ _=>by cases d<;>rfl) (fun _=>rfl) ra w
 unfold dv at w
 cases rd with
 | tup hp rs=>exact⟨_,_,rfl,.inr ⟨SqT.of hp,aJ.now w r (.tup hp rs)⟩⟩
 | frl hp rs=>exact⟨_,_,rfl,.inl ⟨hp.sq,fun l hl=>aJ.tup w r rs hl⟩⟩
 | @ref n p hp=>
  simp only at w
  cases e:aE h n with
  | none=>rw[e] at w;exact w.elim
  | some ds=>
   rw[e] at w
   obtain⟨vs,hv,rs⟩:=r.lst e hp
   exact⟨p,vs,rfl,.inl ⟨SqL.of hv,fun l hl=>aJ.tup w r rs hl⟩⟩
 | _=>exact w.elim
abbrev intsOf:List D->Option (List Int)
 | []=>ξ []
 | .int i::ds=>(intsOf ds).map (i::·)
 | _::_=>ζ
def fN:∀{ds:List D}{ns:List Int},intsOf ds=ξ ns->ds=ns.map D.int
 | [],ns,e=>by cases e;rfl
 | .int i::ds,ns,e=>by
  unfold intsOf at e
  cases e1:intsOf ds with
  | none=>simp_all
  | some ms=>rw[e1] at e;cases e;rw[fN e1];rfl
 | .non::_,_,e=>by cases e
 | .bl _::_,_,e=>by cases e
 | .str _::_,_,e=>by cases e
 | .tup _::_,_,e=>by cases e
 | .frl _::_,_,e=>by cases e
 | .ref _::_,_,e=>by cases e
 | .fn _::_,_,e=>by cases e
 | .edic::_,_,e=>by cases e
 | .exc _ _::_,_,e=>by cases e
 | .clo _ _::_,_,e=>by cases e
 | .scr _::_,_,e=>by cases e
def kg:∀(ns:List Int),intsOf (ns.map D.int)=ξ ns
 | []=>rfl
 | n::r=>by rw[XT,intsOf,kg r];rfl
abbrev Ih:List D->Hh->R D:=fun ds h=>match ds with
 | [.tup ds]=>match intsOf ds with
  | some ns=>if ns.length<=4000 then .ok (.ref h.length) (h++[.set (unl ns)]) else .bad
  | none=>.bad
 | _=>.bad
def Pa:nN K g ε Ih (fun vs H Q=>∃p ns,vs=[.ref p]/\SqT K H p (ns.map V.int)/\ns.length+1<scanBound/\∀l,H l=ζ->Q (.ref l) (upd H l (.set (fun k=>(unl ns).any (· == k)) (unl ns).length))):=by
 intro α H h a x Q r ra w
 obtain⟨d,v,rfl,rfl,rd⟩:=pM (fun d _ _ _=>by cases d<;>rfl) (fun _=>rfl) ra w
 unfold Ih at w
 cases rd with
 | tup hp rs=>
  simp only at w
  cases e:intsOf _ with
  | none=>rw[e] at w;exact w.elim
  | some ns=>
   rw[e] at w
   obtain⟨hl,w⟩:=WQ.dj w
   have e2:=fN e
   subst e2
   have e3:=rs.EZ
   subst e3
   refine⟨_,ns,rfl,SqT.of hp,by show ns.length+1<4096;lia,fun l hn=>?_⟩
   refine(show aJ K g α H Q _ _ from w) _ _ (α++[l]) (Ext.push hn) (r.push hn aR) (.ref ?_)
   rw[<- r.len];simp
 | _=>exact w.elim
abbrev Im:List D->Hh->R D:=fun ds h=>match ds with
 | [.int i,.int j]=>.ok (.int (if j > i then j else i)) h
 | _=>.bad
def Jd {t:Int->Int->Int} (r:bo K g α H h) (rs:ay K g α H ds vs) (w:WQ K g ε α H (match ds with | [.int i,.int j]=>.ok (.int (t i j)) h | _=>.bad) (aJ K g α H Q)):∃i j,vs=[.int i,.int j]/\Q (.int (t i j)) H:=by
 split at w
 ·cases rs with
  | cons r1 t1=>
   cases r1
   cases t1 with
   | cons r2 t2=>
    cases r2
    cases t2
    exact⟨_,_,rfl,aJ.now w r (.int _)⟩
 ·exact w.elim
def LR:nN K g ε Im (fun xs H Q=>∃i j,xs=[.int i,.int j]/\Q (.int (if j > i then j else i)) H):=fun α H h a x Q r ra w=>Jd r ra w
abbrev Bn:List D->Hh->R D:=fun ds h=>match ds with
 | [.int i]=>.ok (.int i) h
 | [.bl b]=>.ok (.int (if b then 1 else 0)) h
 | _=>.bad
def Ig:nN K g ε Bn (fun xs H Q=>(∃i,xs=[.int i]/\Q (.int i) H)\/∃k,xs=[.bl k]/\Q (.int (if k then 1 else 0)) H):=by
 intro α H h a x Q r ra w
 obtain⟨d,v,rfl,rfl,rd⟩:=pM (fun d _ _ _=>by cases d<;>rfl) (fun _=>rfl) ra w
 cases rd with
 | int i=>exact .inl ⟨i,rfl,aJ.now w r (.int _)⟩
 | bl b=>exact .inr ⟨b,rfl,aJ.now w r (.int _)⟩
 | _=>exact w.elim
abbrev tyD (d:D) (h:Hh):Option String:=match d with
 | .non=>ξ "NoneType"
 | .bl _=>ξ "bool"
 | .int _=>ξ "int"
 | .str _=>ξ "str"
 | .tup _=>ξ "tuple"
 | .frl _=>ξ "list"
 | .edic=>ξ "dict"
 | .ref n=>match h[n]? with
  | some (.lst _)=>ξ "list"
  | some (.dic _)=>ξ "dict"
  | some (.dit _)=>ξ "dict"
  | _=>ζ
 | _=>ζ
abbrev ED (t n:String):Option Bool:=
 if n="int" then (if t="int" then ξ θ else if t="bool" then ξ θ else if t="NoneType" \/ t="str" \/ t="tuple" \/ t="list" \/ t="dict" then ξ ψ else ζ)
 else if n="bool" \/ n="tuple" \/ n="list" \/ n="str" then (if t=n then ξ θ else if t="int" \/ t="bool" \/ t="NoneType" \/ t="str" \/ t="tuple" \/ t="list" \/ t="dict" then ξ ψ else ζ)
 else ζ
abbrev m9 (n:String):D->Hh->R D:=fun d h=>match tyD d h with
 | some t=>match ED t n with
  | some b=>.ok (.bl b) h
  | none=>.bad
 | none=>.bad
def SV (r:bo K g α H h) (rd:aL K g α H d v) (e:tyD d h=ξ t):mS K H v (.type t):=by
 unfold tyD at e
 cases rd with
 | non=>cases e;exact .non
 | bl b=>cases e;exact .bl b
 | int i=>cases e;exact .int i
 | str i=>cases e;exact .str i
 | tup hp rs=>cases e;exact .tup hp
 | frl hp rs=>cases e;obtain⟨o,hp⟩:=hp;exact .frz hp
 | edic hp=>cases e;exact .kO hp
 | @ref n p hp=>
  simp only at e
  cases eo:h[n]? with
  | none=>simp_all
  | some o=>
   rw[eo] at e
   have q:=r.here n p o hp eo
   cases o with
   | lst ds=>cases e;obtain⟨vs,hv,_⟩:=q;exact .lst hv
   | set k=>cases e
   | dic k=>cases e;obtain⟨vs,hv,_⟩:=q;exact .dK hv
   | dit k=>cases e;obtain⟨vs,hv,_⟩:=q;exact .dT hv
   | ins c k=>cases e
 | _=>cases e
def NV (K):Y3 K (.type "int") (.type "int")=ξ θ/\Y3 K (.type "bool") (.type "int")=ξ θ/\Y3 K (.type "NoneType") (.type "int")=ξ ψ/\Y3 K (.type "str") (.type "int")=ξ ψ
  /\ Y3 K (.type "tuple") (.type "int")=ξ ψ/\Y3 K (.type "list") (.type "int")=ξ ψ/\Y3 K (.type "dict") (.type "int")=ξ false:=⟨rfl,rfl,rfl,rfl,rfl,rfl,rfl⟩
def Pp (e:ED t n=ξ b):Y3 K (.type t) (.type n)=ξ b:=by
 unfold ED at e
 obtain⟨a1,a2,a3,a4,a5,a6,a7⟩:=NV K
 split at e
 ·grind
 ·split at e
  ·rename_i hn
   split at e
   ·rename_i h;subst h;rcases hn with rfl | rfl | rfl | rfl<;>assumption
   ·rename_i hne
    split at e
    ·rename_i h;rcases hn with rfl | rfl | rfl | rfl<;>rcases h with rfl | rfl | rfl | rfl | rfl | rfl | rfl<;>first | assumption | simp_all
    grind
  grind
def yz {e:YL}{me:ME}{n:String}{x:Str}{p1 p2 pos:Pos} (he:PE X e (tM X.K g ε me)) (hg:Gl X "isinstance") (hm:X.mg "isinstance" = ζ) (hg2:Gl X x) (hm2:X.mg x=ζ) (hb:bootBuiltins x=ξ (.type n)) (hn:x≠"__name__" := by decide) (hd:(x == ("__debug__" : Str))=false:=by decide)
  (hs1:starEach [e,.Name x p2] X.env=(ψ,eval e X.env)::starEach [.Name x p2] X.env:=by rfl) (hs2:starEach [.Name x p2] X.env=[(ψ,eval (.Name x p2) X.env)]:=by rfl) (hpl:(backTo pos (starEach [.Name x p2] X.env)).any (·.1)=false:=by rfl) :
  PE X (.Call (.Name "isinstance" p1) [e,.Name x p2] [] pos) (tM X.K g ε (cUn (m9 n) me)):=
 PE.imp (mY A_ hg hm aag (fw he (fw (DX (v:=.ty n) hg2 hm2 hb rfl hn hd) j0 hs2) hs1) (by decide) (by decide) hs1 hpl) fun σ H Q ⟨α,env,h,s,w⟩=>tM.use s w.bind fun d1 h1 v1 H1 α1 e1 s1 r1 w1=>by
  unfold m9 at w1
  cases et:tyD d1 h1 with
  | none=>simp only[et] at w1;exact w1.elim
  | some t=>
   simp only[et] at w1
   cases es:ED t n with
   | none=>simp only[es] at w1;exact w1.elim
   | some b=>
    simp only[es] at w1
    exact⟨v1,.type t,n,b,rfl,SV s1.heap r1 et,Pp es,aJ.now (aJ.ext e1 w1) s1.heap (.bl b)⟩
end
section
variable {X:Cx}{K:gV}{g:GG}{ε:EE}
abbrev kW:D->Hh->R Bool:=fun d h=>match d with
 | .non=>.ok ψ h
 | .bl b=>.ok b h
 | .int i=>.ok (i != 0) h
 | .tup ds=>.ok (!ds.isEmpty) h
 | .frl ds=>.ok (!ds.isEmpty) h
 | .ref n=>match aE h n with
  | some ds=>.ok (!ds.isEmpty) h
  | none=>.bad
 | _=>.bad
def ay.isEmpty (r:ay K g α H ds vs):ds.isEmpty=vs.isEmpty:=by cases r<;>rfl
def Ki:Tp K g ε kW (fun x H Q=>∃k,Ny K x H k/\Q k H):=by
 intro α H h a x Q r ra w
 unfold kW at w
 have now:∀{b:Bool},qb K g α H Q b h->Q b H:=fun p=>p H α Ext.refl r
 cases ra with
 | non=>exact⟨ψ,rfl,now w⟩
 | bl b=>exact⟨b,rfl,now w⟩
 | int i=>exact⟨_,rfl,now w⟩
 | tup hp rs=>exact⟨_,.inr (.inl ⟨_,SqT.of hp,rfl⟩),now (by rw[<- rs.isEmpty];exact w)⟩
 | frl hp rs=>exact⟨_,.inl ⟨_,hp.sq,rfl⟩,now (by rw[<- rs.isEmpty];exact w)⟩
 | @ref n p hp=>
  simp only at w
  cases e:aE h n with
  | none=>rw[e] at w;exact w.elim
  | some ds=>
   rw[e] at w
   obtain⟨vs,hv,rs⟩:=r.lst e hp
   exact⟨_,.inl ⟨vs,SqL.of hv,rfl⟩,now (by rw[<- rs.isEmpty];exact w)⟩
 | _=>exact w.elim
def Kv (r:aL K g α H d v) (f:ip d=θ):mn v=true:=by
 cases r<;>first | rfl | cases f
def SH (r:aL K g α H d v) (q:aL K g α H e u) (f:ip d=θ) (f':ip e=θ):eqF d e=eqV v u:=by
 cases r<;>first | (cases f;done) | (cases q<;>rfl)
def O0 {α:List XW}{H:Hp}:∀{ds:List D}{vs:List V},ay K g α H ds vs->ds.all ip=θ->vs.all mn=θ
 | _,_,.nil,_=>rfl
 | _,_,.cons r t,f=>by
  rw[aaS,XX] at f ⊢
  exact⟨Kv r f.1,O0 t f.2⟩
def OJ (q:aL K g α H e u) (f':ip e=θ):∀{ds:List D}{vs:List V},ay K g α H ds vs->ds.all ip=θ->(ds.any fun d=>eqF d e)=vs.any fun y=>eqV y u
 | _,_,.nil,_=>rfl
 | _,_,.cons r t,f=>by
  rw[aaS,XX] at f
  rw[Zj,Zj,SH r q f.1 f',OJ q f' t f.2]
abbrev dIn (neg:Bool):D->D->Hh->R D:=fun a b h=>match jR b h with
 | some ds=>if ip a=θ/\ds.all ip=θ then .ok (.bl (if neg then !(ds.any fun d=>eqF d a) else ds.any fun d=>eqF d a)) h else .bad
 | none=>.bad
def Ee:fB K g ε (dIn neg) (rIn K neg):=by
 intro α H h a b x y Q r ra rb w
 unfold dIn at w
 cases e:jR b h with
 | none=>rw[e] at w;exact w.elim
 | some ds=>
  rw[e] at w
  obtain⟨p,vs,rfl,hq,rs⟩:=qV r rb e
  obtain⟨⟨f1,f2⟩,w⟩:=WQ.dj w
  refine⟨p,vs,rfl,hq,Kv ra f1,O0 rs f2,?_⟩
  have e2:(ds.any fun d=>eqF d a)=inV x vs:=OJ ra f1 rs f2
  rw[<- e2]
  exact aJ.now w r (.bl _)
abbrev vk:List D->Option (List D)
 | [.int j]=>if j.natAbs<=1000000 then ξ (bI 0 j.toNat) else ζ
 | [.int i,.int j]=>if (i.natAbs<=1000000/\j.natAbs<=1000000)/\(j - i).toNat<=1000000 then ξ (bI i (j - i).toNat) else ζ
 | _=>ζ
abbrev oM (nl:NL):List D->Hh->R D:=fun ds h=>match vk ds with
 | some xs=>nl xs h
 | none=>.bad
abbrev sf:List D->Hh->R D:=fun ds h=>match vk ds with
 | some xs=>.ok (.tup xs) h
 | none=>.bad
def xX (lo) (n):ay K g α H (bI lo n) ((uk lo 1 n).map V.int):=by
 have e:bI lo n=(uk lo 1 n).map D.int:=by
  unfold bI uk
  simp
 rw[e]
 exact ay.ints _
def Es (r:ay K g α H ds vs) (e:vk ds=ξ xs) :
  (∃j,vs=[.int j]/\mj 0 j 1 j.toNat/\xs=bI 0 j.toNat)\/∃i j,vs=[.int i,.int j]/\mj i j 1 (j - i).toNat/\xs=bI i (j - i).toNat:=by
 unfold vk at e
 split at e
 ·rename_i j
  split at e
  ·rename_i hj
   cases e
   cases r with
   | cons r1 t=>
    cases r1
    cases t
    refine .inl ⟨j,rfl,?_,rfl⟩
    have:=Lq (a:=0) (b:=j) {} {} {} {} {}
    simp_all
  grind
 ·rename_i i j
  split at e
  ·rename_i hj
   cases e
   cases r with
   | cons r1 t=>
    cases r1
    cases t with
    | cons r2 t=>
     cases r2
     cases t
     exact .inr ⟨i,j,rfl,Lq {} {} {} {} {},rfl⟩
  grind
 grind
def HY:bU X (.type "range") (fun vs H Q=>(∃j,vs=[.int j]/\∀p,H p=ζ->Q (.ref p) (upd H p (nI p 0 j 1)))\/∃i j,vs=[.int i,.int j]/\∀p,H p=ζ->Q (.ref p) (upd H p (nI p i j 1))):=bU.or Fu Fp
section
variable {e:YL}{es:List YL}{mr:MA}{p1 p2 q1 q2:Pos}
def Ia {nl:NL} [ji nl] (hc:X.calm=θ) (hg:Gl X "list") (hm:X.mg "list" = ζ) (hg2:Gl X "range") (hm2:X.mg "range" = ζ) (ha:PA X (e::es) (tMA X.K g ε mr))
  (he:starEach (e::es) X.env=(ψ,eval e X.env)::starEach es X.env:=by rfl) (hpl:(backTo q2 (starEach es X.env)).any (·.1)=false:=by rfl)
  (he1:starEach [.Call (.Name "range" p2) (e::es) [] q2] X.env=[(ψ,eval (.Call (.Name "range" p2) (e::es) [] q2) X.env)]:=by rfl) (hpl1:(backTo q1 (starEach [] X.env)).any (·.1)=false:=by rfl) :
  PE X (.Call (.Name "list" p1) [.Call (.Name "range" p2) (e::es) [] q2] [] q1) (tM X.K g ε (af (oM nl) mr)):=
 PE.imp (PE.frz (gr (uZ hc) hg hm PyProof.Rows.boot_list (fw (gr HY hg2 hm2 Z2 ha (by decide) (by decide) he hpl) j0 he1) (by decide) (by decide) he1 hpl1)) fun σ H Q ⟨α,env,h,s,w⟩=>tMA.use s w.bind fun d1 h1 v1 H1 α1 e1 s1 r1 w1=>by
  unfold oM at w1
  cases er:vk d1 with
  | none=>rw[er] at w1;exact w1.elim
  | some xs=>
   rw[er] at w1
   rcases Es r1 er with⟨j,rfl,ok,rfl⟩ | ⟨i,j,rfl,ok,rfl⟩
   ·refine .inl ⟨j,rfl,fun p hp=>⟨p,0,j,1,j.toNat,rfl,aR,ok,fun l hl=>?_⟩⟩
    have x:=Ext.fresh (K:=X.K) (α:=α1) (o:=nI p 0 j 1) hp
    exact NL.post ((w1.post e1).post x) (s1.heap.grow hp) (xX 0 j.toNat) hl
   ·refine .inr ⟨i,j,rfl,fun p hp=>⟨p,i,j,1,(j - i).toNat,rfl,aR,ok,fun l hl=>?_⟩⟩
    have x:=Ext.fresh (K:=X.K) (α:=α1) (o:=nI p i j 1) hp
    exact NL.post ((w1.post e1).post x) (s1.heap.grow hp) (xX i (j - i).toNat) hl
def E7 (hc:X.calm=θ) (hg:Gl X "tuple") (hm:X.mg "tuple" = ζ) (hg2:Gl X "range") (hm2:X.mg "range" = ζ) (ha:PA X (e::es) (tMA X.K g ε mr))
  (he:starEach (e::es) X.env=(ψ,eval e X.env)::starEach es X.env:=by rfl) (hpl:(backTo q2 (starEach es X.env)).any (·.1)=false:=by rfl)
  (he1:starEach [.Call (.Name "range" p2) (e::es) [] q2] X.env=[(ψ,eval (.Call (.Name "range" p2) (e::es) [] q2) X.env)]:=by rfl) (hpl1:(backTo q1 (starEach [] X.env)).any (·.1)=false:=by rfl) :
  PE X (.Call (.Name "tuple" p1) [.Call (.Name "range" p2) (e::es) [] q2] [] q1) (tM X.K g ε (af sf mr)):=
 PE.imp (gr (lE hc) hg hm aaT (fw (gr HY hg2 hm2 Z2 ha (by decide) (by decide) he hpl) j0 he1) (by decide) (by decide) he1 hpl1) fun σ H Q ⟨α,env,h,s,w⟩=>tMA.use s w.bind fun d1 h1 v1 H1 α1 e1 s1 r1 w1=>by
  unfold sf at w1
  cases er:vk d1 with
  | none=>rw[er] at w1;exact w1.elim
  | some xs=>
   rw[er] at w1
   rcases Es r1 er with⟨j,rfl,ok,rfl⟩ | ⟨i,j,rfl,ok,rfl⟩
   ·refine .inl ⟨j,rfl,fun p hp=>⟨p,0,j,1,j.toNat,rfl,aR,ok,fun l hl=>?_⟩⟩
    have x:=Ext.fresh (K:=X.K) (α:=α1) (o:=nI p 0 j 1) hp
    exact aJ.tup (aJ.ext (e1.trans x) w1) (s1.heap.grow hp) (xX 0 j.toNat) hl
   ·refine .inr ⟨i,j,rfl,fun p hp=>⟨p,i,j,1,(j - i).toNat,rfl,aR,ok,fun l hl=>?_⟩⟩
    have x:=Ext.fresh (K:=X.K) (α:=α1) (o:=nI p i j 1) hp
    exact aJ.tup (aJ.ext (e1.trans x) w1) (s1.heap.grow hp) (xX i (j - i).toNat) hl
end
abbrev isL (d:D) (h:Hh):Bool:=match d with
 | .ref n=>(aE h n).isSome
 | .frl _=>θ
 | _=>ψ
abbrev cG (f:D->List D->Hh->R D) (o:ME) (a:MA):ME:=fun env h=>(o env h).bind fun x h1=>if isL x h1=θ then (a env h1).bind fun xs h2=>f x xs h2 else .bad
def Fm (r:bo K g α H h) (rd:aL K g α H d x) (e:isL d h=θ):tyV K "list" x H:=by
 unfold isL at e
 cases rd with
 | @ref n p hp=>
  obtain⟨ds,e⟩:=Zs.mp e
  obtain⟨vs,hv,_⟩:=r.lst e hp
  exact .inl ⟨rfl,vs,SqL.of hv⟩
 | frl hq rs=>exact .inl ⟨rfl,_,hq.sq⟩
 | _=>cases e
def kn {o e:YL}{es:List YL}{mo:ME}{mr:MA}{name:Str}{apos cpos:Pos}{id:String}{r:V->List V->Hp->VK->Prop}{f:D->List D->Hh->R D} (slot:Slot "list" name id) (hty:typeOf (.builtin id)=pure (.type "method_descriptor")) (hm:MtM X id r) (im:mH X.K g ε f r) (ho:PE X o (tM X.K g ε mo)) (ha:PA X (e::es) (tMA X.K g ε mr))
  (hbase:attributeBase o name X.env (eval o X.env)=eval o X.env:=by rfl)
  (hfew:((backTo cpos (starEach (e::es) X.env)).all (fun x=>!x.1)&&(backToKw cpos (keywordEach [] X.env)).all (fun x=>x.1.isSome)
   && decide ((e::es).length+([]:List aa8).length+(if ([]:List aa8).isEmpty then 0 else 1)<30))=true:=by rfl)
  (hline:(apos.endLine == cpos.line)=true:=by rfl) (hs:starEach (e::es) X.env=(ψ,eval e X.env)::starEach es X.env:=by rfl) (hplain:(backTo cpos (starEach es X.env)).any (·.1)=false:=by rfl) :
  PE X (.Call (.Attribute o name apos) (e::es) [] cpos) (tM X.K g ε (cG f mo mr)):=
 PE.imp (Bt PySem.F.plainAttrs_list slot hty hm ho ha hbase hfew hline hs hplain) fun σ H Q ⟨α,env,h,s,w⟩=>tM.use s w.bind fun d1 h1 v1 H1 α1 e1 s1 r1 w1=>by
  obtain⟨hl,w1⟩:=WQ.dj w1
  refine⟨Fm s1.heap r1 hl,tMA.use s1 (w1.ext e1).bind fun d2 h2 v2 H2 α2 e2 s2 r2 w2=>?_⟩
  exact im α2 H2 h2 d1 d2 v1 v2 Q s2.heap (r1.ext e2) r2 ((w2.ext e2).mono fun _ _ _ p=>aJ.ext (e1.trans e2) p)
abbrev bP:D->List D->Hh->R D:=fun o ds h=>match o,ds with
 | .ref n,[d]=>match aE h n with
  | some xs=>if xs.length<1000000 then .ok .non (h.set n (.lst (xs++[d]))) else .bad
  | none=>.bad
 | _,_=>.bad
def iw:mH K g ε bP D_:=by
 intro α H h o a y x Q r ro ra w
 unfold bP at w
 cases ro with
 | @ref n p hp=>
  cases ra with
  | nil=>exact w.elim
  | @cons d v _ _ rd rr=>
   cases rr with
   | cons _ _=>exact w.elim
   | nil=>
    simp only at w
    cases e:aE h n with
    | none=>rw[e] at w;exact w.elim
    | some xs=>
     rw[e] at w
     obtain⟨hl,w⟩:=WQ.dj w
     obtain⟨vs,hv,rs⟩:=r.lst e hp
     refine⟨p,vs,_,rfl,rfl,hv,by rw[<- rs.length,YI];lia,?_⟩
     have x:=Ext.write (o:=.lst (vs++[v])) r hp
     exact(show aJ K g α H Q _ _ from w) _ _ α x (r.write hp ⟨_,aR,(rs.append (.cons rd .nil)).ext x⟩) .non
 | _=>exact w.elim
abbrev A6:D->List D->Hh->R D:=fun o ds h=>match o,ds with
 | .ref n,[.int i]=>match aE h n with
  | some xs=>match ixN xs.length i with
   | some k=>match xs[k]? with
    | some d=>if xs.length<=1000000 then .ok d (h.set n (.lst (xs.eraseIdx k))) else .bad
    | none=>.bad
   | none=>.bad
  | none=>.bad
 | _,_=>.bad
def QB:mH K g ε A6 HM:=by
 intro α H h o a y x Q r ro ra w
 unfold A6 at w
 cases ro with
 | @ref n p hp=>
  cases ra with
  | nil=>exact w.elim
  | cons rd rr=>
   cases rr with
   | cons _ _=>cases rd<;>exact w.elim
   | nil=>
    cases rd with
    | int i=>
     simp only at w
     cases e:aE h n with
     | none=>rw[e] at w;exact w.elim
     | some xs=>
      rw[e] at w
      simp only at w
      cases e2:ixN xs.length i with
      | none=>rw[e2] at w;exact w.elim
      | some k=>
       rw[e2] at w
       simp only at w
       cases e3:xs[k]? with
       | none=>rw[e3] at w;exact w.elim
       | some d=>
        rw[e3] at w
        obtain⟨hl,w⟩:=WQ.dj w
        obtain⟨vs,hv,rs⟩:=r.lst e hp
        obtain⟨v,ev,rv⟩:=rs.get e3
        obtain⟨h1,h2,h3,h4⟩:=zX e2
        refine⟨p,vs,i,k,v,rfl,rfl,hv,?_,?_,by rw[<- rs.length];exact h1,ev,?_⟩
        ·lia
        ·lia
        ·have x:=Ext.write (o:=.lst (vs.eraseIdx k)) r hp
         exact(show aJ K g α H Q _ _ from w) _ _ α x (r.write hp ⟨_,aR,(rs.erase k).ext x⟩) (rv.ext x)
    | _=>exact w.elim
 | _=>exact w.elim
def p5 (ns:List Int):∀k,k<=ns.length->preSum (fun i=>ns.getD i 0) k=(ns.take k).sum
 | 0,_=>by rfl
 | k+1,h=>by
  rw[preSum,p5 ns k {},List.take_succ,List.sum_append]
  grind
def GU (hc:X.calm=θ):bU X (.builtin "sum") (fun vs H Q=>∃(p:XW) (ns:List Int),vs=[.ref p]/\(SqL X.K H p (ns.map V.int)\/SqT X.K H p (ns.map V.int))/\Q (.int ns.sum) H):=by
 intro pins s σ H xs us Q I r h
 obtain⟨p,ns,rfl,hq,q⟩:=h
 obtain⟨u,rfl,rx⟩:=vals1 r
 cases rx
 have hh:X.A.in1.handled=none:=I.ok.hd hc
 have fin:∀{its:List XI} {o:Obj},Vals (ns.map V.int) its->∀s',Moved [s.heap.objs.size] (fun a b=>b=a) { s with heap:=s.heap.push o } s'->∀t',EP X pins σ Q (.int (preSum (fun i=>ns.getD i 0) its.toArray.size) t') s':=fun{its o} rv s' mv t'=>by
  have hl:its.toArray.size=ns.length:=by rw[Yr,<- rv.length,XE]
  have keep:=fun b u e=>mv.heap b u (by simp;exact XZ (XH e)) (XB _ e)
  have I':Inv X pins σ H s':=by
   obtain⟨hp,gs,dr,tk,os⟩:=s'
   have e1:=mv.gens
   have e2:=mv.drawn
   have e3:=mv.os
   subst e1 e2 e3
   exact I.kept keep
  refine⟨.int ns.sum,H,I',⟨t',?_⟩,q⟩
  rw[hl,p5 ns _ (XJ _),List.take_length]
 have val:∀{its:List XI},Vals (ns.map V.int) its->∀i v,its.toArray[i]?=ξ v->∃t:Tok,v=aah (ns.getD i 0) t:=fun{its} rv i v e=>by
  obtain⟨x,hx,rxv⟩:=rv.get' (show its[i]?=ξ v by simp_all)
  rw[Yi] at hx
  cases en:ns[i]? with
  | none=>simp_all
  | some z=>
   rw[en] at hx
   cases hx
   obtain⟨t,e⟩:=rxv
   simp_all
 rcases hq with hq | hq
 ·obtain⟨its,rv,pl,hz⟩:=I.list hq
  have plt:p<s.heap.objs.size:=by obtain⟨o,e,_⟩:=pl.isList;exact XH e
  have hne:=XZ plt
  refine call_sum_walkAnyS (wpAny_pyIter_list pl.isList ?_)
  refine⟨s.heap.objs.size,_,_,_,its.toArray.size,_,_,fun i=>ns.getD i 0,rfl,(Walks.list hh s.heap.objs.size p hne its.toArray).toS,⟨⟨_,XN _ rfl,rfl,rfl⟩,?_⟩,fun b hb=>?_,val rv,fun s' t' mv=>fin rv s' mv t'⟩
  ·exact pl.isList.at fun o e=>XB _ e
  ·simp at hb
   rcases hb with rfl | rfl
   ·simp
   ·exact aco plt (XH (XN _ rfl))
 ·obtain⟨its,rv,pl,hz⟩:=I.tuple hq
  have pt:s.heap.IsTuple p its.toArray:=pl
  have hne:=XZ pl.lt
  refine call_sum_walkAnyS (aaf pt ?_)
  refine⟨s.heap.objs.size,_,_,_,its.toArray.size,_,_,fun i=>ns.getD i 0,rfl,(Walks.tuple hh s.heap.objs.size p hne its.toArray).toS,⟨⟨_,XN _ rfl,rfl,rfl⟩,?_⟩,fun b hb=>?_,val rv,fun s' t' mv=>fin rv s' mv t'⟩
  ·exact pt.at fun o e=>XB _ e
  ·simp at hb
   rcases hb with rfl | rfl
   ·simp
   ·exact aco pl.lt (XH (XN _ rfl))
abbrev K_:List D->Hh->R D:=fun ds h=>match ds with
 | [d]=>match jR d h with
  | some xs=>match intsOf xs with
   | some ns=>.ok (.int ns.sum) h
   | none=>.bad
  | none=>.bad
 | _=>.bad
def QU:nN K g ε K_ (fun vs H Q=>∃(p:XW) (ns:List Int),vs=[.ref p]/\(SqL K H p (ns.map V.int)\/SqT K H p (ns.map V.int))/\Q (.int ns.sum) H):=by
 intro α H h a x Q r ra w
 obtain⟨d,v,rfl,rfl,rd⟩:=pM (fun _ _ _ _=>rfl) (fun _=>rfl) ra w
 unfold K_ at w
 simp only at w
 cases e:jR d h with
 | none=>rw[e] at w;exact w.elim
 | some ds=>
  rw[e] at w
  simp only at w
  cases e2:intsOf ds with
  | none=>rw[e2] at w;exact w.elim
  | some ns=>
   rw[e2] at w
   obtain⟨p,vs,rfl,hq,rs⟩:=qV r rd e
   have e3:=fN e2
   subst e3
   have e4:=rs.EZ
   subst e4
   exact⟨p,ns,rfl,hq,aJ.now w r (.int _)⟩
abbrev xn:D->D->Hh->R D
 | .int i,.int j,h=>.ok (.int (i+j)) h
 | _,_,_=>.bad
abbrev RX:D->D->Hh->R D
 | .int i,.int j,h=>if sml i=θ/\sml j=θ then .ok (.int (i*j)) h else .bad
 | _,_,_=>.bad
def Ke:fB K g ε xn (ipI fun i j=>i+j):=by
 intro α H h a b x y Q r ra rb w
 cases ra with
 | int i=>
  cases rb with
  | int j=>exact⟨i,j,rfl,rfl,aJ.now w r (.int _)⟩
  | _=>exact w.elim
 | _=>exact w.elim
end
section
variable {P:X5}{w:Yw}{K:gV}{mg:Str->Option XI}{base:Y2}{g:GG}
abbrev aK (K:gV) (mg:Str->Option XI) (x:Str) (st:aaN):Prop:=∃f fd,mg x=ξ (.ref f)/\Fun K x x st f fd
abbrev aN (K:gV) (x:Str) (st:aaN):Prop:=∃f fd,X7 K mainGlobals x=ξ (ξ (.ref f))/\Fun K x x st f fd
def Rk {st:aaN}{kV doc pm cdv ct:XI} (a:X7 K mainGlobals x=ξ (ξ (.ref f)))
  (l:K.lookup f=ξ ⟨oc,od,.func (Yz x x (dq st) (br st) (aj st) .none kV doc pm an cdv ct),osl⟩) (c:aaa K cdv x=θ) (k:X6 K (.ref f)=θ):aN K x st:=⟨f,_,a,xS l c k⟩
def aK.of {h:Y2}{x:Str}{st:aaN} (X:K.In h) (G:h.Ns mainGlobals mg) (d:aN K x st):aK K mg x st:=
 let ⟨f,fd,a,F⟩:=d;⟨f,fd,Zq X G a,F⟩
abbrev Has (P:X5) (w:Yw) (K:gV) (mg:Str->Option XI) (base:Y2) (g:GG) (x:Str) (k:Nat) (ps:List Str) (m:MF):Prop:=
 ∃f fd,cJ P w K mg base CX0 k f fd ps (spM K g ps.length m)/\X6 K (.ref f)=θ/\Binds K fd ps []/\mg x=ξ (.ref f)/\∃oc od osl,K.lookup f=ξ ⟨oc,od,.func fd,osl⟩
abbrev gOf (mg:Str->Option XI):GG:=fun x=>match mg x with
 | some (.ref f)=>ξ f
 | _=>ζ
def f_ {st:aaN} (F:Fun K x x st f fd):∃oc od osl,K.lookup f=ξ ⟨oc,od,.func fd,osl⟩:=by
 obtain⟨oc,od,kV,doc,pm,an,cdv,ct,osl,rfl,lk,hcd⟩:=F.ex
 simp_all
def Pd {st:aaN} (F:Fun K x x st f fd) (hm:mg x=ξ (.ref f)) (h:Has P w K mg base g x k ps m):cJ P w K mg base CX0 k f fd ps (spM K g ps.length m):=by
 obtain⟨f2,fd2,G,_,_,hm2,oc,od,osl,l2⟩:=h
 obtain⟨oc',od',osl',l1⟩:=f_ F
 simp_all
end
section
variable {X:Cx}{g:GG}{ε:EE}
abbrev LP (i j:Nat) (m:ME):MS:=fun env h=>(m env h).bind fun d h1=>(gT2 i j d env h1).bind fun e h2=>.ok (.nx e) h2
def OS {i j:Nat}{x y:Str}{e:YL}{me:ME}{px py pt pos:Pos}{kt} (hc:X.calm=θ) (hN:X.N.Nodup) (hi:X.N[i]?=ξ x) (hj:X.N[j]?=ξ y) (he:PE X e (tM X.K g ε me))
  (hx:Loc X.env.scope x:=by first | exact acL rfl | exact ada rfl) (hy:Loc X.env.scope y:=by first | exact acL rfl | exact ada rfl)
  (fx:X.fn x=θ\/X.env.scope.names.lookup x=ξ .local:=by first | exact .inl rfl | exact .inr rfl) (fy:X.fn y=θ\/X.env.scope.names.lookup y=ξ .local:=by first | exact .inl rfl | exact .inr rfl)
  (hs:swapsWithSole [.Tuple [.Name x px,.Name y py] kt pt] e pos.line X.env=pure false:=by rfl) (hw:swappedStores [.Tuple [.Name x px,.Name y py] kt pt] e X.env=pure none:=by rfl) :
  PS X (.Assign [.Tuple [.Name x px,.Name y py] kt pt] e pos) (tMS X.K g ε (LP i j me)):=
 PS.imp (Kg he (tV hc (fq (kf hN hi hx fx) (fq (kf hN hj hy fy) nD))) hs hw rfl) fun E σ H ⟨α,env,h,s,w⟩=>tM.use s w.bind fun d1 h1 v1 H1 α1 e1 s1 r1 w1=>by
  refine zZ α1 H1 h1 env σ d1 v1 _ s1 r1 ((w1.ext e1).bind.mono fun e' h2 _ w2 σ2 H2 α2 e2 s2=>?_)
  exact(show di X.K g α H E (.nx e') h2 from w2) H2 α2 (e1.trans e2) s2.heap σ2 s2.vs
def O5 {px py pt pos:Pos}{kt k2 pt2} (hc:X.calm=θ) (hN:X.N.Nodup) (hi:X.N[i]?=ξ x) (hj:X.N[j]?=ξ y) (hij:i≠j) (ha:PA X [a,b] (tMA X.K g ε ma))
  (hx:X.env.scope.names.lookup x=ξ .local:=by rfl) (hy:X.env.scope.names.lookup y=ξ .local:=by rfl)
  (hw:swappedStores [.Tuple [.Name x px,.Name y py] kt pt] (.Tuple [a,b] k2 pt2) X.env=pure (ξ [x,y]):=by rfl)
  (hs:swapsWithSole [.Tuple [.Name x px,.Name y py] kt pt] (.Tuple [a,b] k2 pt2) pos.line X.env=pure false:=by rfl) :
  PS X (.Assign [.Tuple [.Name x px,.Name y py] kt pt] (.Tuple [a,b] k2 pt2) pos) (tMS X.K g ε (HJ i j ma)):=Ui hc hN hi hj hij hx hy ha hw hs
end
section
variable {X:Cx}{K:gV}{g:GG}{ε:EE}
abbrev Ek:D->Bool
 | .non=>θ
 | _=>ψ
abbrev Wn (neg:Bool):D->D->Hh->R D:=fun a b h=>match b with
 | .non=>.ok (.bl (if neg then !Ek a else Ek a)) h
 | _=>.bad
abbrev pT (lo st:Int) (n:Nat):List D:=(uk lo st n).map D.int
abbrev CN:List D->Option (List D)
 | [.int a,.int b,.int c]=>if ZJ.Range.small a b c=θ/\0<=Y7 a b c/\(Y7 a b c).natAbs<=1000000/\c≠0/\c.natAbs<1073741824 then ξ (pT a c (Y7 a b c).toNat) else ζ
 | _=>ζ
abbrev DA:List D->Hh->R D:=fun ds h=>match CN ds with
 | some xs=>.ok (.tup xs) h
 | none=>.bad
def B4 (r:ay K g α H ds vs) (e:CN ds=ξ xs) :
  ∃a b c n,vs=[.int a,.int b,.int c]/\c≠0/\c.natAbs<1073741824/\mj a b c n/\xs=pT a c n:=by
 unfold CN at e
 split at e
 ·rename_i a b c
  split at e
  ·rename_i hc
   cases e
   cases r with
   | cons r1 t=>
    cases t with
    | cons r2 t=>
     cases t with
     | cons r3 t=>
      cases t;cases r1;cases r2;cases r3
      exact⟨a,b,c,_,rfl,hc.2.2.2.1,hc.2.2.2.2,⟨hc.1,{},{}⟩,rfl⟩
  grind
 grind
section
variable {e:YL}{es:List YL}{mr:MA}{p1 p2 q1 q2:Pos}
def J0 (hc:X.calm=θ) (hg:Gl X "tuple") (hm:X.mg "tuple" = ζ) (hg2:Gl X "range") (hm2:X.mg "range" = ζ) (ha:PA X (e::es) (tMA X.K g ε mr))
  (he:starEach (e::es) X.env=(ψ,eval e X.env)::starEach es X.env:=by rfl) (hpl:(backTo q2 (starEach es X.env)).any (·.1)=false:=by rfl)
  (he1:starEach [.Call (.Name "range" p2) (e::es) [] q2] X.env=[(ψ,eval (.Call (.Name "range" p2) (e::es) [] q2) X.env)]:=by rfl) (hpl1:(backTo q1 (starEach [] X.env)).any (·.1)=false:=by rfl) :
  PE X (.Call (.Name "tuple" p1) [.Call (.Name "range" p2) (e::es) [] q2] [] q1) (tM X.K g ε (af DA mr)):=
 PE.imp (gr (lE hc) hg hm aaT (fw (gr FW hg2 hm2 Z2 ha (by decide) (by decide) he hpl) j0 he1) (by decide) (by decide) he1 hpl1) fun σ H Q ⟨α,env,h,s,w⟩=>tMA.use s w.bind fun d1 h1 v1 H1 α1 e1 s1 r1 w1=>by
  unfold DA at w1
  cases er:CN d1 with
  | none=>rw[er] at w1;exact w1.elim
  | some xs=>
   rw[er] at w1
   obtain⟨a,b,c,n,rfl,c0,c1,ok,rfl⟩:=B4 r1 er
   refine⟨a,b,c,rfl,c0,c1,fun p hp=>⟨p,a,b,c,n,rfl,aR,ok,fun l hl=>?_⟩⟩
   have x:=Ext.fresh (K:=X.K) (α:=α1) (o:=nI p a b c) hp
   exact aJ.tup (aJ.ext (e1.trans x) w1) (s1.heap.grow hp) (ay.ints _) hl
end
abbrev Ld:D->D->Hh->R D:=fun a b h=>match a with
 | .ref n=>dIx (.ref n) b h
 | _=>.bad
abbrev xT (o i v:ME):MS:=fun env h=>(o env h).bind fun x h1=>(i env h1).bind fun y h2=>(Ld x y h2).bind fun z h3=>(v env h3).bind fun u h4=>(xn z u h4).bind fun t h5=>(j8 x y t h5).bind fun _ h6=>.ok (.nx env) h6
def Mu:S_ X (fun x y H Q=>Rm X.K x y H Q):=by
 intro pins s σ H o i ov iv Q I ro ri h
 obtain⟨p,xs,k,z,rfl,rfl,hq,he,q⟩:=h
 cases ro
 obtain⟨t,rfl⟩:=ri
 obtain⟨its,r,pl,hz⟩:=I.list hq
 obtain⟨j,h1,h2,h3,h4,h5⟩:=rp he
 obtain⟨w,ew,rw'⟩:=r.get h2
 have hl:=r.length
 have hn:=lg
 have fin:EP X pins σ Q w s:=⟨z,H,I,rw',q⟩
 by_cases h0:0<=k
 ·have hj:k.toNat=j:=by
   rw[acD h0 h5] at h1
   simp_all
  exact wpAny_getItem_list pl.isList h0 {} (by simp_all) fin
 ·have hj:(k+(its.toArray.size:Int)).toNat=j:=by
   rw[aci {} h4] at h1
   simp_all
  exact wpAny_getItem_list_neg pl.isList {} (by simp_all) {} (by simp_all) fin
def LX {o i e:YL}{mo mi me:ME}{tpos pos:Pos} (ho:PE X o (tM X.K g ε mo)) (hi:PE X i (tM X.K g ε mi)) (he:PE X e (tM X.K g ε me))
  (ha:∀ov iv new,augStore i ov iv new=(do holding [new,ov,iv] (setItem ov iv new);release [new,ov,iv] [];pure .next):=by intros;rfl):PS X (.AugAssign (.Subscript o i tpos) .Add e pos) (tMS X.K g ε (xT mo mi me)):=
 PS.imp (MH ho hi Mu he Jw set_list ha) fun E σ H ⟨α,env,h,s,w⟩=>tM.use s w.bind fun d1 h1 v1 H1 α1 e1 s1 r1 w1=>tM.use s1 (w1.ext e1).bind fun d2 h2 v2 H2 α2 e2 s2 r2 w2=>by
  have w3:=(w2.ext e2).bind
  have r1':=r1.ext e2
  unfold Ld at w3
  cases r1' with
  | @ref n p hp=>
   simp only[dIx] at w3
   cases eq:jR (.ref n) h2 with
   | none=>simp only[eq] at w3;exact w3.elim
   | some ds=>
    simp only[eq] at w3
    cases r2 with
    | int k=>
     cases ea:atI ds k with
     | none=>simp only[ea] at w3;exact w3.elim
     | some z=>
      simp only[ea] at w3
      have w4:=w3
      have eq':=eq
      obtain⟨vs',hv',rs'⟩:=s2.heap.lst eq' hp
      obtain⟨v',ev',rv'⟩:=EO rs' ea
      refine⟨p,vs',k,v',rfl,rfl,SqL.of hv',ev',tM.use s2 w4.bind fun d3 h3 v3 H3 α3 e3 s3 r3 w5=>?_⟩
      refine Ke α3 H3 h3 z d3 v' v3 _ s3.heap (rv'.ext e3) r3 ((w5.ext e3).bind.mono fun t h4 _ w6 v4 H4 α4 e4 hr4 r4=>?_)
      refine s_ α4 H4 h4 (.ref n) (.int k) t (.ref p) (.int k) v4 _ hr4 (.ref ((e3.trans e4).get hp)) (.int k) r4 (((w6.ext e4)).bind.mono fun _ h5 _ w7 H5 α5 e5 hr5=>?_)
      exact(show di X.K g α H E (.nx env) h5 from w7) H5 α5 (e1.trans (e2.trans (e3.trans (e4.trans e5)))) hr5 _ (s3.vs.ext (e4.trans e5))
    | _=>exact w3.elim
  | _=>exact w3.elim
abbrev tK (tab:Str->Option MF) (f:ME) (a:MA):ME:=fun env h=>(f env h).bind fun d h1=>match d with
 | .fn x=>match tab x with
  | some m=>(a env h1).bind m
  | none=>.bad
 | _=>.bad
def Gm (its:List XI):slicePick its.toArray ζ ζ (ξ (-1))=its.reverse.toArray:=by
 have h:=AR its.toArray
 unfold slicePick
 have e1:sliceBounds ζ ζ (ξ (-1)) its.toArray.size=((its.toArray.size:Int) - 1,-1,-1):=rfl
 rw[e1]
 have e2:sliceRange ((its.toArray.size:Int) - 1) (-1) (-1)=(XF its.toArray.size).map fun(k:Nat)=>((its.toArray.size:Int) - 1+(k:Int)*(-1)).toNat:=by
  unfold sliceRange
  have e3:(if (-1:Int) > 0 then (if ((its.toArray.size:Int) - 1) < -1 then (-1 - ((its.toArray.size:Int) - 1) + -1 - 1) / -1 else 0) else (if ((its.toArray.size:Int) - 1) > -1 then (((its.toArray.size:Int) - 1) - -1 - -1 - 1) / (- -1) else 0)).toNat=its.toArray.size:=by
   grind
  simp_all
 rw[e2,abD]
 exact h
abbrev SN (K:gV) (te:TE):TE:=fun σ H Q=>te σ H fun x H1=>∃a xs,x=.ref a/\((SqT K H1 a xs/\∀p,H1 p=ζ->Q (.ref p) (upd H1 p (.tup xs.reverse)))\/(SqL K H1 a xs/\∀p,H1 p=ζ->Q (.ref p) (upd H1 p (.lst xs.reverse))))
def Od {e:YL}{te:TE}{j p1 p2 p3 pos} (he:PE X e te):PE X (.Subscript e (.Slice ζ ζ (ξ (.UnaryOp .USub (.Constant (.int 1) j p1) p3)) p2) pos) (SN X.K te):=by
 intro pins s σ H Q I h
 refine acU (thn (he pins s σ H _ I h) fun v s1 zq1=>?_)
 obtain⟨x,H1,I1,r1,q1⟩:=zq1
 obtain⟨a,xs,rfl,q⟩:=q1
 cases r1
 refine wpAny_Slice (evalPart_none_step (evalPart_none_step (evalPart_some_step ?_)))
 refine thn (OT ku Jk pins s1 σ H1 (fun v H'=>v=.int (-1)/\H'=H1) I1 ⟨1,rfl,rfl,rfl⟩) fun u s2 zq1=>?_
 obtain⟨v2,H2,I2,r2,e1,e2⟩:=zq1
 subst e1 e2
 obtain⟨tk,rfl⟩:=r2
 have I4:Inv X pins σ H2 { s2 with heap:=s2.heap.push { cls:=.type "slice", data:=.fields #[.none,.none,.int (-1) tk] } }:=I2.kept fun b ob q=>XB _ q
 rcases q with⟨hx,q⟩ | ⟨hx,q⟩
 ·obtain⟨its,r,ht,hz⟩:=I4.tuple hx
  have hlen:its.toArray.size=xs.length:=by rw[Yr];exact r.length.symm
  refine adj ht.typeIs Ye.lookup (m6 ht (abF ..) ?_ {}) (by rfl)
  refine⟨.ref _,_,I4.laid (fun b ob q=>XB _ q) (XJ _) ?_,rfl,q _ (I4.hok.fresh (XJ _))⟩
  exact⟨by simp_all,its.reverse,r.reverse,pj.new _ _⟩
 ·obtain⟨its,r,pl,hz⟩:=I4.list hx
  have hlen:its.toArray.size=xs.length:=by rw[Yr];exact r.length.symm
  refine adj pl.isList.typeIs abS.lookup (wpAny_getItem_list_slice pl.isList (abF ..) .none .none (.int (-1) tk) (by decide) ?_ {}) (by rfl)
  rw[Gm]
  refine⟨.ref _,_,I4.laid (t':=s2.toks) (o:=.lst xs.reverse) (fun b ob q=>XB _ q) (XJ _) ?_,rfl,q _ (I4.hok.fresh (XJ _))⟩
  exact⟨by simp_all,its.reverse,0,r.reverse,XN _ rfl⟩
abbrev m8 (nl:NL):D->Hh->R D:=fun d h=>match d with
 | .tup ds=>.ok (.tup ds.reverse) h
 | .frl ds=>nl ds.reverse h
 | .ref n=>match aE h n with
  | some ds=>nl ds.reverse h
  | none=>.bad
 | _=>.bad
def E6 {nl:NL} [ji nl]{e:YL}{me:ME}{j p1 p2 p3 pos} (he:PE X e (tM X.K g ε me)):PE X (.Subscript e (.Slice ζ ζ (ξ (.UnaryOp .USub (.Constant (.int 1) j p1) p3)) p2) pos) (tM X.K g ε (cUn (m8 nl) me)):=
 PE.imp (PE.frz (Od he)) fun σ H Q ⟨α,env,h,s,w⟩=>tM.use s w.bind fun d1 h1 v1 H1 α1 e1 s1 r1 w1=>by
  have w4:=w1.post e1
  unfold m8 at w4
  cases r1 with
  | tup hq rs=>exact⟨_,_,rfl,.inl ⟨SqT.of hq,fun l hl=>.inl (aJ.tup w4 s1.heap rs.rev hl)⟩⟩
  | frl hq rs=>exact⟨_,_,rfl,.inr ⟨hq.sq,fun l hl=>NL.post w4 s1.heap rs.rev hl⟩⟩
  | @ref n p hp=>
   simp only at w4
   cases e:aE h1 n with
   | none=>rw[e] at w4;exact w4.elim
   | some ds=>
    rw[e] at w4
    obtain⟨vs,hv,rs⟩:=s1.heap.lst e hp
    exact⟨_,_,rfl,.inr ⟨SqL.of hv,fun l hl=>NL.post w4 s1.heap rs.rev hl⟩⟩
  | _=>exact w4.elim
end
mutual
noncomputable def i8 (k:Nat):D->Bool
 | .ref n=>decide (n<k)
 | .tup ds=>bM k ds
 | .frl ds=>bM k ds
 | .scr ds=>bM k ds
 | .clo _ ds=>bM k ds
 | _=>θ
noncomputable def bM (k:Nat):List D->Bool
 | []=>θ
 | d::ds=>i8 k d&&bM k ds
end
abbrev oW (k:Nat):O->Bool
 | .lst ds=>bM k ds
 | .set _=>θ
 | .dic kvs=>bM k (kvs.map (·.2))
 | .dit kvs=>bM k (kvs.map (·.2))
 | .ins _ fs=>bM k (fs.map (·.2))
abbrev ph (f:D->Option D):List D->Option (List D)
 | []=>ξ []
 | d::ds=>match f d,ph f ds with
  | some e,ξ es=>ξ (e::es)
  | _,_=>ζ
abbrev kO (k:Nat) (h:Hh):Nat->D->Option D
 | 0,_=>ζ
 | f+1,d=>match d with
  | .ref n=>if n<k then ξ (.ref n) else match aE h n with
   | some ds=>(ph (kO k h f) ds).map .frl
   | none=>ζ
  | .tup ds=>(ph (kO k h f) ds).map .tup
  | .frl ds=>(ph (kO k h f) ds).map .frl
  | .scr _=>ζ
  | .clo f ds=>if bM 0 ds=θ then ξ (.clo f ds) else ζ
  | d=>ξ d
abbrev dz (h:Hh):D->Hh->R D:=fun d h'=>if (h'.take h.length).all (oW h.length)=θ then match kO h.length h' 8 d with
 | some e=>.ok e (h'.take h.length)
 | none=>.bad else .bad
open Classical in
abbrev mW (S:XW->Prop) (o:XW->Obj) (H:Hp):Hp:=fun p=>if S p then (H p).map (.frz (o p)) else H p
def O9 (q:cz P w H h p u) (mu:Mut (ξ u)):∃o,h.get? p=ξ o:=by
 cases u with
 | lst xs=>obtain⟨_,_,_,_,e'⟩:=q;simp_all
 | dK kvs=>obtain⟨_,_,_,_,o,_,_,e',_⟩:=q;simp_all
 | dT kvs=>obtain⟨_,_,_,_,o,_,_,e',_⟩:=q;simp_all
 | set S n=>obtain⟨o,_,_,_,e',_⟩:=q;simp_all
 | ins C dx fs=>obtain⟨_,_,_,e',_⟩:=q;simp_all
 | ext φ=>obtain⟨_,⟨_,e'⟩,_⟩:=q;simp_all
 | _=>exact absurd mu (fun z=>z)
def Qs (h:CE outer P w H s Q' u s')
  (hQ:∀v H',Q' v H'->∃S:XW->Prop,(∀p,S p->∃u,H' p=ξ u/\Mut (ξ u))/\∀o:XW->Obj,Q v (mW S o H')):CE outer P w H s Q u s':=by
 obtain⟨v,H',os,bare,un,hok,r,q⟩:=h
 obtain⟨S,hS,q⟩:=hQ v H' q
 have hS1:∀p,S p->∀u,H' p=ξ u->Mut (ξ u):=fun p z u e=>by grind
 have off:∀(o:XW->Obj) b u,H' b=ξ u->¬ Mut (ξ u)->mW S o H' b=ξ u:=fun o b u e m=>by
  unfold mW
  grind
 have offn:∀(o:XW->Obj) b,H' b=ζ->mW S o H' b=none:=fun o b e=>by
  unfold mW
  simp_all
 let o:XW->Obj:=fun b=>(s'.heap.get? b).getD { cls:=.none,data:=.fields #[] }
 refine⟨v,mW S o H',os,bare,⟨un.keep,un.slot,fun b ob e n hx=>offn o b (un.free b ob e n hx),un.there,fun b xs e=>off o b _ (un.mZ b xs e) fun z=>z,fun b ob xs e=>off o b _ (un.mE b ob xs e) fun z=>z,fun b ps e=>?_⟩,?_,r,q o⟩
 ·obtain⟨more,e1⟩:=un.ow b ps e
  exact⟨more,off o b _ e1 fun z=>z⟩
 ·intro b u e
  have st:∀u,cz P w H' s'.heap b u->cz P w (mW S o H') s'.heap b u:=fun u x=>x.lY (fun _ _ _ z=>z) (fun c z=>off o c _ z fun z=>z) fun c xs z=>off o c _ z fun z=>z
  unfold mW at e
  split at e
  ·rename_i hb
   obtain⟨u',e',m⟩:=hS b hb
   rw[e'] at e
   cases e
   have x:=hok b u' e'
   obtain⟨ob,eo⟩:=O9 x m
   refine⟨?_,st _ x⟩
   grind
  ·exact st u (hok b u e)
section
variable {K:gV}{g:GG}{α α':List XW}{H H' H2:Hp}{k:Nat}
structure wJ (K:gV) (α α':List XW) (H' H2:Hp) (k:Nat):Prop where
 pre:∀n,n<k->α[n]?=α'[n]?
 tup:∀p xs,H' p=some (.tup xs)->H2 p=some (.tup xs)
 frz:∀p o u , H' p=some (.frz o u)->H2 p=some (.frz o u)
mutual
theorem nk (L:wJ K α α' H' H2 k){d:D}{v:V} (hl:i8 k d=θ) (r:aL K g α' H' d v):aL K g α H2 d v:=by
 cases r with
 | non=>exact .non
 | bl b=>exact .bl b
 | int i=>exact .int i
 | str x=>exact .str x
 | ref h=>exact .ref (by rw[L.pre _ (by simpa [i8] using hl)];exact h)
 | tup h r=>exact .tup (L.tup _ _ h) (gL L (by assumption) r)
 | frl h r=>
  obtain⟨o,h⟩:=h
  exact .frl ⟨o,L.frz _ _ _ h⟩ (gL L (by assumption) r)
 | scr h r=>
  refine .scr (h.imp ?_ id) (gL L (by assumption) r)
  rintro⟨o,h⟩
  exact⟨o,L.frz _ _ _ h⟩
 | fn h=>exact .fn h
 | edic h=>exact .edic (L.frz _ _ _ h)
 | exc hg h hc hd hf=>
  refine .exc hg (L.frz _ _ _ h) hc hd (hf.imp id ?_)
  rintro⟨dx,od,a,b⟩
  exact⟨dx,od,a,L.frz _ _ _ b⟩
 | clo h l hc hd hv cs r=>
  refine .clo (L.frz _ _ _ h) l (L.frz _ _ _ hc) hd hv (L2.Paired.vT cs ?_) (gL L (by assumption) r)
  rintro _ _ ⟨c,o,u,l,a,b⟩
  exact⟨c,o,u,l,L.frz _ _ _ a,b⟩
theorem gL (L:wJ K α α' H' H2 k){ds:List D}{vs:List V} (hl:bM k ds=θ) (r:ay K g α' H' ds vs):ay K g α H2 ds vs:=by
 cases r with
 | nil=>exact .nil
 | cons r t=>
  simp only[bM,XX] at hl
  exact .cons (nk L hl.1 r) (gL L hl.2 t)
end
def nh {f:D->Option D} (hf:∀d e v,f d=ξ e->aL K g α' H' d v->aL K g α H2 e v):∀{ds es:List D}{vs:List V},ph f ds=ξ es->ay K g α' H' ds vs->ay K g α H2 es vs
 | [],es,_,e,.nil=>by cases e;exact .nil
 | d::ds,es,_,e,.cons r t=>by
  unfold ph at e
  split at e
  ·rename_i e1 es1 h1 h2
   cases e
   exact .cons (hf _ _ _ h1 r) (nh hf h2 t)
  grind
def qU {h' hx:Hh} (L:wJ K α α' H' H2 k) (r:bo K g α' H' h') (hx':∀n ds,aE hx n=ξ ds->aE h' n=ξ ds) (fz:∀n p ds vs,k<=n->aE hx n=ξ ds->α'[n]?=ξ p->H' p=ξ (.lst vs)->Fr1 H2 p vs) :
  ∀(f:Nat) (d e:D) (v:V),kO k hx f d=ξ e->aL K g α' H' d v->aL K g α H2 e v
 | 0,_,_,_,e,_=>by cases e
 | f+1,d,e,v,he,rd=>by
  unfold kO at he
  cases rd with
  | non=>cases he;exact .non
  | bl b=>cases he;exact .bl b
  | int i=>cases he;exact .int i
  | str x=>cases he;exact .str x
  | fn h=>cases he;exact .fn h
  | edic h=>cases he;exact .edic (L.frz _ _ _ h)
  | exc hg h hc hd hf=>cases he;exact .exc hg (L.frz _ _ _ h) hc hd (hf.elim .inl fun⟨dx,od,a,b⟩=>.inr ⟨dx,od,a,L.frz _ _ _ b⟩)
  | scr _ _=>cases he
  | clo h l hc hd hv cs rs=>
   simp only at he
   split at he
   ·rename_i lo
    cases he
    exact .clo (L.frz _ _ _ h) l (L.frz _ _ _ hc) hd hv (L2.Paired.vT cs fun _ _ ⟨c,o,u,l,a,b⟩=>⟨c,o,u,l,L.frz _ _ _ a,b⟩) (gL ⟨fun n hn=>absurd hn (abA _),L.tup,L.frz⟩ lo rs)
   grind
  | tup h rs=>
   simp only at he
   cases e1:ph (kO k hx f) _ with
   | none=>rw[e1] at he;cases he
   | some es=>rw[e1] at he;cases he;exact .tup (L.tup _ _ h) (nh (fun d e v=>qU L r hx' fz f d e v) e1 rs)
  | frl h rs=>
   simp only at he
   cases e1:ph (kO k hx f) _ with
   | none=>rw[e1] at he;cases he
   | some es=>rw[e1] at he;cases he;exact .frl (let ⟨o,h⟩:=h;⟨o,L.frz _ _ _ h⟩) (nh (fun d e v=>qU L r hx' fz f d e v) e1 rs)
  | @ref n p hp=>
   simp only at he
   split at he
   ·rename_i hn
    cases he
    exact .ref (by rw[L.pre n hn];exact hp)
   ·rename_i hn
    cases el:aE hx n with
    | none=>simp_all
    | some ds=>
     rw[el] at he
     simp only at he
     cases e1:ph (kO k hx f) ds with
     | none=>simp_all
     | some es=>
      rw[e1] at he;cases he
      obtain⟨vs,hv,rs⟩:=r.lst (hx' n ds el) hp
      exact .frl (fz n p ds vs {} el hp hv) (nh (fun d e v=>qU L r hx' fz f d e v) e1 rs)
end
def ub {β:Type}{l:List β}{k n:Nat}{x:β} (e:(l.take k)[n]?=ξ x):n<k/\l[n]?=ξ x:=by
 rw[List.getElem?_take] at e
 split at e
 ·exact⟨by assumption,e⟩
 ·cases e
def qR {α α':List XW} (h:α <+: α'){n:Nat} (hn:n<α.length):α[n]?=α'[n]?:=by
 obtain⟨t,rfl⟩:=h
 rw[Yy hn]
def Oe {β:Type}{l:List β}{f:β->Bool} (h:l.all f=θ){n:Nat}{x:β} (e:l[n]?=ξ x):f x=true:=X_.mp h x (Yn e)
def BD {K:gV}{g:GG}{h h':Hh} (r0:α.length=h.length) (e:Ext K α H α' H') (r:bo K g α' H' h') (hl:(h'.take h.length).all (oW h.length)=θ)
  (L:wJ K α2 α' H' H2 h.length) (kp:∀n p u,n<h.length->α'[n]?=ξ p->H' p=ξ u->H2 p=ξ u):∀n p o , n<h.length->α'[n]?=ξ p->(h'.take h.length)[n]?=ξ o->OAt K g α2 H2 p o:=by
 intro n p o hn hp ho
 have lo:=Oe hl ho
 obtain⟨_,ho'⟩:=ub ho
 have q:=r.here n p o hp ho'
 cases o with
 | lst ds=>obtain⟨vs,a,b⟩:=q;exact⟨vs,kp n p _ hn hp a,gL L lo b⟩
 | set m=>exact kp n p _ hn hp q
 | dic kvs=>
  obtain⟨kws,a,b⟩:=q
  refine⟨kws,kp n p _ hn hp a,?_⟩
  replace lo:bM h.length (kvs.map (·.2))=true:=lo
  clear a ho ho'
  induction b with
  | nil=>exact .nil
  | cons x t ih=>
   simp only[XT,bM,XX] at lo
   exact .cons ⟨x.1,nk L lo.1 x.2⟩ (ih lo.2)
 | dit kvs=>
  obtain⟨kws,a,b⟩:=q
  refine⟨kws,kp n p _ hn hp a,?_⟩
  replace lo:bM h.length (kvs.map (·.2))=true:=lo
  clear a ho ho'
  induction b with
  | nil=>exact .nil
  | cons x t ih=>
   simp only[XT,bM,XX] at lo
   exact .cons ⟨x.1,nk L lo.1 x.2⟩ (ih lo.2)
 | ins c kvs=>
  obtain⟨C,dx,kws,z,a,b⟩:=q
  refine⟨C,dx,kws,z,kp n p _ hn hp a,?_⟩
  replace lo:bM h.length (kvs.map (·.2))=true:=lo
  clear a ho ho'
  induction b with
  | nil=>exact .nil
  | cons x t ih=>
   simp only[XT,bM,XX] at lo
   exact .cons ⟨x.1,nk L lo.1 x.2⟩ (ih lo.2)
section
variable {P:X5}{w:Yw}{K:gV}{mg:Str->Option XI}{base:Y2}{g:GG}{k np:Nat}{f:XW}{fd:Zy}{ps:List Str}{m:MF}
def kj {CX:CXT}{ε:XK->EE} (F:cJ P w K mg base CX k f fd ps (spG K g ε np m)):cJ P w K mg base CX k f fd ps (spG K g ε np fun ds h=>(m ds h).bind (dz h)):=by
 refine⟨fun vs H Q E h=>?_,fun A outer s H args us vs Q E hr e0 hb hv hsp=>?_⟩
 ·obtain⟨hl,α,ds,h,rs,hh,w⟩:=h
  exact F.len vs H (fun _ _=>True) E ⟨hl,α,ds,h,rs,hh,w.bind.mono fun _ _ _ _ _ _ _ _ _ _=>trivial⟩
 ·obtain⟨hl,α,ds,h,rs,hh,w⟩:=hsp
  refine Zc (F.run A outer s H args us vs (fun v H'=>∃α' d h',Ext K α H α' H'/\bo K g α' H' h'/\aL K g α' H' d v/\WQ K g (ε E) α H (dz h d h') (aJ K g α H Q)) E hr e0 hb hv ⟨hl,α,ds,h,rs,hh,w.bind.mono fun d h' _ w1 v H' α' e r rd=>⟨α',d,h',e,r,rd,w1⟩⟩) fun res s' q=>?_
  cases res with
  | error e=>exact q
  | ok fl=>
   cases fl with
   | ret u=>
    refine Qs (show CE outer P _ H s _ u s' from q) fun v H' zq1=>?_
    obtain⟨α',d,h',e,r,rd,w⟩:=zq1
    refine⟨fun p=>∃n ds,h.length<=n/\α'[n]?=ξ p/\aE h' n=ξ ds,fun p ⟨n,ds,_,hp,hn⟩=>?_,fun o=>?_⟩
    ·obtain⟨vs,hv,_⟩:=r.lst hn hp
     exact⟨_,hv,trivial⟩
    ·unfold dz at w
     obtain⟨hl,w⟩:=WQ.dj w
     cases ez:kO h.length h' 8 d with
     | none=>rw[ez] at w;exact w.elim
     | some e'=>
      rw[ez] at w
      generalize hS:(fun p=>∃n ds,h.length<=n/\α'[n]?=ξ p/\aE h' n=ξ ds)=S
      have inS:∀p,S p↔∃n ds,h.length<=n/\α'[n]?=ξ p/\aE h' n=ξ ds:=fun p=>by rw[<- hS]
      have k0:=hh.len
      have notS:∀p u,H' p=ξ u->(∀vs,u≠.lst vs)->¬ S p:=fun p u e1 e2 z=>by
       obtain⟨n,ds,_,hp,hn⟩:=(inS p).mp z
       obtain⟨vs,hv,_⟩:=r.lst hn hp
       rw[e1] at hv;cases hv;exact e2 vs rfl
      have off:∀p,¬ S p->mW S o H' p=H' p:=fun p z=>by unfold mW;rw[if_neg z]
      have offT:∀(p:XW) (ps:Array XI),H' p=ξ (.tbl ps)->mW S o H' p=ξ (.tbl ps):=fun p ps z=>by rw[off p (notS p _ z fun vs z=>nomatch z)];exact z
      have L:wJ K α α' H' (mW S o H') h.length:=⟨fun n hn=>qR e.pre {},fun p xs z=>by rw[off p (notS p _ z fun vs z=>nomatch z)];exact z,fun p o u z=>by rw[off p (notS p _ z fun vs z=>nomatch z)];exact z⟩
      have kp:∀n p u,n<h.length->α'[n]?=ξ p->H' p=ξ u->mW S o H' p=ξ u:=fun n p u hn hp e1=>by
       rw[off p fun z=>?_];exact e1
       obtain⟨m,ds,hm,hp',_⟩:=(inS p).mp z
       have:=r.inj n m p hp hp'
       lia
      have rd2:=qU L r (fun _ _ z=>z) (fun n p ds vs hn hl hp hv=>⟨o p,by unfold mW;rw[if_pos ((inS p).mpr ⟨n,ds,hn,hp,hl⟩),hv];rfl⟩) 8 d e' v ez rd
      refine(show aJ K g α H Q e' (h'.take h.length) from w) v _ α ⟨⟨Z7 _,fun p xs z=>L.tup p xs (e.tup p xs z),fun p o u z=>L.frz p o u (e.frz p o u z),fun p ps z=>(e.tbl p ps z).imp fun _ q=>offT p _ q⟩,fun p u z n nt=>?_,fun _ z n=>absurd z n⟩ ⟨?_,fun n m p h1 h2=>hh.inj n m p h1 h2,fun n p ob h1 h2=>?_,r.tab.mono offT L.frz⟩ rd2
      ·rw[off p fun z'=>?_];exact e.kept p u z n nt
       obtain⟨m,ds,_,hp',_⟩:=(inS p).mp z'
       have:=e.new p (Yn hp') n
       rw[z] at this;cases this
      ·rw[Z6,<- r.len]
       have:=e.pre.length_le
       lia
      ·have hn:=(ub h2).1
       rw[qR e.pre {}] at h1
       exact BD k0 e r hl L kp n p ob hn h1 h2
   | next=>exact q
   | brk=>exact q
   | cont=>exact q
end
section
variable {X:Cx}{g:GG}{ε:EE}
abbrev gT3 (i j k:Nat):D->En->Hh->R En:=fun d env h=>match d with
 | .tup [x,y,z]=>.ok (((env.set i (ξ x)).set j (ξ y)).set k (ξ z)) h
 | _=>.bad
abbrev Wa (i j k:Nat) (m:ME):MS:=fun env h=>(m env h).bind fun d h1=>(gT3 i j k d env h1).bind fun e h2=>.ok (.nx e) h2
end
section
variable {X:Cx}{g:GG}{ε:EE}{K:gV}
abbrev DK:List D->List D->List D
 | x::xs,y::ys=>D.tup [x,y]::DK xs ys
 | _,_=>[]
abbrev Pj:List D->Hh->R Src
 | [.frl ds,.frl es],h=>.ok (.snap (DK ds es)) h
 | _,_=>.bad
abbrev SO (a:MA):MI:=fun env h=>(a env h).bind Pj
abbrev pS:List D->Option (List Bool)
 | []=>ξ []
 | .bl b::r=>(pS r).map (b::·)
 | _=>ζ
def mK:∀{ds:List D}{bs:List Bool},pS ds=ξ bs->ds=bs.map D.bl
 | [],_,e=>by cases e;rfl
 | d::ds,bs,e=>by
  cases d with
  | bl b=>
   simp only[pS] at e
   cases e2:pS ds with
   | none=>simp_all
   | some cs=>
    rw[e2] at e
    cases e
    rw[mK e2];rfl
  | _=>cases e
def ay.Rr {α:List XW}{H:Hp}:∀{bs:List Bool}{vs:List V},ay K g α H (bs.map D.bl) vs->vs=bs.map V.bl
 | [],_,.nil=>rfl
 | b::bs,_,.cons r t=>by
  cases r
  rw[ay.Rr t];rfl
abbrev FZ (m:MF):MF:=fun ds h=>if bM 0 ds=θ then match m ds [] with
  | .ok d _=>if i8 0 d=θ then .ok d h else .bad
  | _=>.bad
 else m ds h
def E8 (e:Ext K [] H α' H'):Ext K α H α H':=
 ⟨⟨Z7 _,e.tup,e.frz,e.tbl⟩,fun p o h _ t=>e.kept p o h {..} t,fun p a b=>absurd a b⟩
def Ip (e:Ext K [] H α' H') (r:bo K g α H h) (t:k7 K H'):bo K g α H' h:=
 ⟨r.len,r.inj,fun n p o a b=>(r.here n p o a b).ex0 (E8 e).toEx0 fun u hu=>e.kept p u hu {..} (by obtain⟨u',e1,_,_,e4⟩:=(r.here n p o a b).isS;simp_all),t⟩
def IQ (h:spM K g np (FZ m) vs H Q E):spM K g np m vs H Q E:=by
 obtain⟨hl,α,ds,h,rs,hh,w⟩:=h
 unfold FZ at w
 by_cases lo:bM 0 ds=θ
 ·rw[if_pos lo] at w
  cases e:m ds [] with
  | bad=>rw[e] at w;exact w.elim
  | err x h1=>rw[e] at w;exact w.elim
  | ok d h1=>
   rw[e] at w
   obtain⟨ld,w⟩:=WQ.dj w
   refine⟨hl,[],ds,[],gL ⟨fun n hn=>absurd hn (abA _),fun _ _ z=>z,fun _ _ _ z=>z⟩ lo rs,⟨rfl,fun n m p a=>by simp at a,fun n p o a=>by simp at a,hh.tab⟩,?_⟩
   rw[e]
   exact fun v H' α' ex hr' rd=>(show aJ K g α H Q d h from w) v H' α (E8 ex) (Ip ex hh hr'.tab) (nk ⟨fun n hn=>absurd hn (abA _),fun _ _ z=>z,fun _ _ _ z=>z⟩ ld rd)
 ·rw[if_neg lo] at w
  exact⟨hl,α,ds,h,rs,hh,w⟩
def PM (F:cJ P w K mg base CX0 k f fd ps (spM K g np m)):cJ P w K mg base CX0 k f fd ps (spM K g np (FZ m)):=
 ⟨fun vs H Q E h=>F.len vs H Q E (IQ h),fun A outer s H args us vs Q E hr e0 hb hv hsp=>F.run A outer s H args us vs Q E hr e0 hb hv (IQ hsp)⟩
end
section
variable {X:Cx}{g:GG}{ε:EE}{K:gV}
abbrev Nc:List D->Hh->R Src
 | [.frl ds,.frl es],h=>.ok (.snap (DK ds es)) h
 | [.tup ds,.tup es],h=>.ok (.snap (DK ds es)) h
 | _,_=>.bad
abbrev SG (a:MA):MI:=fun env h=>(a env h).bind Nc
end
section
variable {X:Cx}{g:GG}{ε:EE}{K:gV}
abbrev SW (nl:NL):D->D->Hh->R D:=fun x y h=>match x,y with
 | .tup ds,.int k=>if ds.isEmpty=ψ/\1<=k/\k.natAbs<=1000000/\ds.length*k.toNat<=1000000 then .ok (.tup (X0 k.toNat ds).flatten) h else .bad
 | x,y=>kN nl x y h
end
section
variable {X:Cx}{g:GG}{ε:EE}{K:gV}
def cO {mg:Str->Option XI}{x:Str}{f:XW} (e:g=gOf mg) (h:mg x=ξ (.ref f)):g x=ξ f:=by rw[e];simp[gOf,h]
end
end L2.FE
namespace L2
open PySem PySem.Spec PyProof.Rows
abbrev Its (lo st:Int) (n:Nat):It:=⟨fun i _=>i<n,fun i H x H'=>H'=H/\x=.int (lo+i*st),fun i _=>n<=i⟩
def GN {K:gV} (it) (lo st) (n):Turn P w K tg (Its lo st n) [it] it (fun i h=>acB h it (lo+(i:Nat)*st) ((n:Int) - (i:Nat)) st) where
 mem:={..}
 obj:=fun i h q b hb=>by
  simp_all
 keep:=fun i h h' q k=>k it {..} _ q
 item:=by
  intro X hP hw hK hc i pins s σ H E I hf q hg
  subst hP hw hK
  obtain⟨f0,f1,f2,f3,f4,f5⟩:=hf it {..}
  have W:=Walks.range (prog:=X.prog) (w:=X.w) (I.ok.hd hc) it lo st n
  refine W.item i s _ _ hg q fun v h' tk hv q' kk=>?_
  obtain⟨t,rfl⟩:=hv
  have I1:Inv X pins σ H { s with heap:=h',toks:=tk }:=I.turned (fun b o hb e=>kk b o (by simp_all) e) f0 f1 f3 f4 f5
  exact⟨_,rfl,EH (s:={ s with heap:=h',toks:=tk }) (n:="range_iterator") q' rfl rfl (by decide) ⟨.int (lo+i*st),H,I1,⟨t,rfl⟩,⟨rfl,rfl⟩,q',fun b hb=>(hf b hb).1⟩⟩
 done:=by
  intro X hP hw hK hc i pins s σ H E I hf q hg
  subst hP hw hK
  obtain⟨f0,f1,f2,f3,f4,f5⟩:=hf it {..}
  exact wpAny_pyNext_range_end (I.ok.hd hc) q (by have:n<=i:=hg;lia) fun h' eb=>⟨rfl,I.turned (t':=s.toks) (fun b o hb e=>eb b o hb e) f0 f1 f3 f4 f5⟩
 self:=fun _ _ _ _ _ q h=>wpAny_pyIter_rangeiter q h
section
variable {X:Cx}{tg:YL}
def Mc {σ:St}{lo hi st:Int} (I:Inv X pins σ H s) (ok:mj lo hi st n)
  (q:R (Its lo st n) H):wpAny (model X.prog X.w) X.A (pyIter (.ref s.heap.objs.size)) (PIE X pins σ tg R) E { s with heap:=s.heap.push { cls:=.type "range", data:=.fields #[.int lo t,.int hi u,.int st v] },toks:=tk }:=by
 refine wpAny_pyIter_range (adi.new ..) ok.sm ?_
 have I1:Inv X pins σ H { s with heap:=s.heap.push { cls:=.type "range", data:=.fields #[.int lo t,.int hi u,.int st v] },toks:=tk }:=I.kept fun b o e=>XB _ e
 refine⟨(s.heap.push { cls:=.type "range", data:=.fields #[.int lo t,.int hi u,.int st v] }).objs.size,[(s.heap.push { cls:=.type "range", data:=.fields #[.int lo t,.int hi u,.int st v] }).objs.size],_,_,H,rfl,
  I1.kept (t':=tk) fun b o e=>XB _ e,GN _ lo st n,?_,fun b hb=>?_,q⟩
 ·have e1:lo+((0:Nat):Int)*st=lo:={..}
  have e2:(n:Int) - ((0:Nat):Int)=Y7 lo hi st:=by rw[ok.sz];lia
  show acB _ _ (lo+((0:Nat):Int)*st) ((n:Int) - ((0:Nat):Int)) st
  rw[e1,e2]
  exact XN _ rfl
 ·have e:b=(s.heap.push { cls:=.type "range", data:=.fields #[.int lo t,.int hi u,.int st v] }).objs.size:=by simp_all
  subst e
  exact I1.HX (XJ _) (I1.hok.fresh (XJ _))
abbrev TM (ta:TA):TI:=fun σ H R=>ta σ H fun vs H1=>∃i j k n,vs=[.int i,.int j,.int k]/\k≠0/\k.natAbs<1073741824/\mj i j k n/\R (Its i k n) H1
def G6 {a b c:YL}{ta:TA}{p pos:Pos} (hg:Gl X "range") (hm:X.mg "range" = ζ) (ha:PA X [a,b,c] ta) (hs:starEach [a,b,c] X.env=(ψ,eval a X.env)::starEach [b,c] X.env:=by rfl) (hp:(backTo pos (starEach [b,c] X.env)).any (·.1)=false:=by rfl) :
  PI X tg (.Call (.Name "range" p) [a,b,c] [] pos) (TM ta):=by
 intro pins s σ H R I h
 refine Call_ (kY I hg hm Z2 (Y8 (thn (ha pos pins s σ H _ I h) fun us s1 ⟨vs,H1,I1,r1,q1⟩=>?_) hs hp))
 obtain⟨i,j,k,n,e,k0,k1,ok,q⟩:=q1
 subst e
 cases r1 with
 | cons r rr=>
  cases rr with
  | cons r' rr=>
   cases rr with
   | cons r'' rr=>
    cases rr
    obtain⟨t,rfl⟩:=r
    obtain⟨t',rfl⟩:=r'
    obtain⟨t'',rfl⟩:=r''
    exact call_range_3 k0 (Mc I1 ok q) (.inl (PyProof.noPylong_small {}))
end
end L2
namespace L2.FE
open PySem PySem.Spec PyProof.Rows
section
variable {X:Cx}{g:GG}{ε:EE}{K:gV}
abbrev p9:List D->Hh->R Src:=fun ds h=>match CN ds with
 | some xs=>.ok (.snap xs) h
 | none=>.bad
def Cf {α:List XW}{H:Hp}{lo st:Int}{n:Nat}:Reads K g (Its lo st n) (Src.snap (pT lo st n)).rdr α H:=by
 intro α2 H2 h2 x2 hr i
 show match ξ (pT lo st n)[i]? with | none=>True | some ζ=>_ | some (ξ d)=>_
 by_cases hi:i<n
 ·have e:(pT lo st n)[i]?=ξ (.int (lo+i*st)):=by
   unfold pT
   rw[Yi]
   simp[uk,hi]
  rw[e]
  refine⟨hi,fun x H' y=>?_⟩
  obtain⟨rfl,rfl⟩:=y
  exact⟨α2,Ext.refl,hr,.int _⟩
 ·have e:(pT lo st n)[i]?=none:=YN (by unfold pT;rw[XE,kT];lia)
  rw[e]
  show n<=i
  lia
def Me {tg a b c:YL}{ma:MA}{p pos:Pos} (hg:Gl X "range") (hm:X.mg "range" = ζ) (ha:PA X [a,b,c] (tMA X.K g ε ma)) (hs:starEach [a,b,c] X.env=(ψ,eval a X.env)::starEach [b,c] X.env:=by rfl) (hp:(backTo pos (starEach [b,c] X.env)).any (·.1)=false:=by rfl):PI X tg (.Call (.Name "range" p) [a,b,c] [] pos) (tMI X.K g ε (fE p9 ma)):=
 PI.imp (G6 hg hm ha hs hp) fun σ H T ⟨α,env,h,s,w⟩=>tMA.use s w.bind fun d1 h1 v1 H1 α1 e1 s1 r1 w1=>by
  unfold p9 at w1
  cases er:CN d1 with
  | none=>rw[er] at w1;exact w1.elim
  | some xs=>
   rw[er] at w1
   obtain⟨a,b,c,n,rfl,c0,c1,ok,rfl⟩:=B4 r1 er
   exact⟨a,b,c,n,rfl,c0,c1,ok,w1 _ H1 α1 e1 s1.heap Cf⟩
end
def mG (ok:HOk P w H h) (e:H p=ξ (AtO p o)):h.get? p=ξ o:=(show cz P w H h p (AtO p o) from ok p _ e).1
def oZ {rest:List YL}:starEach (.Name a b::rest) env=(ψ,eval (.Name a b) env)::starEach rest env:=by rfl
def GL:backTo pos ((ψ,t)::r)=(ψ,t)::backTo pos r:=rfl
def pY {env:Env}{pos:Pos}{x:Str}{p2:Pos}:∀qs:List (Str × Pos),(backTo pos (starEach (qs.map (fun y=>ado y.1 y.2)++[.Name x p2]) env)).any (·.1)=ψ
 | []=>by rfl
 | q::qs=>by
  rw[XT,aaD,oZ,GL,Zj,pY qs];rfl
section
variable {P:X5}{w:Yw}{K:gV}{mg:Str->Option XI}{base:Y2}{H:Hp}{clos:List (Str × XW)}{scope:abe}{env:Env}{A:YK}{E:XI->XO->Prop}{s:XO}{m:Str->Option XI}
def w_ {x:Str}{p2 pos:Pos}{u:XI} (hs:env.scope.kind=.function) (hcl:env.cells=clos) (hok:HOk P w H s.heap) (hx:env.kindOf x=ξ .local) (hxd:(x == ("__debug__" : Str))=ψ) (hn:s.heap.Ns env.locals m) (hm:m x=ξ u) :
  ∀(qs:List (Str × Pos)) (vs:List V) (Q:List XI->XO->Prop),nB H clos (qs.map (·.1)) vs->(∀y∈qs.map (·.1),env.kindOf y=ξ .free/\(y == ("__debug__" : Str))=ψ/\(y == ("__classdict__" : Str))=ψ) →
   (∀us,Vals vs us->Q (us++[u]) s)->wpAny (model P w) A (spliced (backTo pos (starEach (qs.map (fun y=>ado y.1 y.2)++[.Name x p2]) env))) Q E s
 | [],_,Q,.nil,_,h=>by
  exact aae (abN (aav hs hx hn hm (abR (h [] .nil))) hxd)
 | q::qs,_,Q,.cons ⟨c,o,z,hl,hc,hd,r⟩ t,hf,h=>by
  obtain⟨f1,f2,f3⟩:=hf q.1 {..}
  refine aae (abN (wpAny_loadName_free hs f1 (by simp_all) ⟨o,mG hok hc,hd⟩ ?_ f3) f2)
  exact w_ hs hcl hok hx hxd hn hm qs _ _ t (fun y hy=>hf y (by simp_all)) fun us r2=>h (z::us) (.cons r r2)
end
def MB {K:gV}
  (F:cJ P w K mg base CX0 k f fd ps sp) (hkp:X6 K (.ref f)=θ) (hb:Binds K fd ps []) (hm:mg fn=ξ (.ref f)) (T:AN fn x qual ys params body scope)
          (hr:b8 (k+1) A) (e0:vU P w K mg base A outer s H)
  (hp:H p=ξ (AtO p (Zm "<lambda>" qual params body scope clos pm c' ctv))) (hc:H c'=ξ (AtO c' oc)) (hd:oc.data=.fields vc) (hv:vc[1]?=ξ (.str qual t)) (cs:nB H clos ys cv) (rv:RelV v u)
  (h:sp (cv++[v]) H Q E1):codeAny (model P w) A (.call (.ref p) ⟨[u],[]⟩) (CR CX0 outer P w H s Q E) s:=by
 refine PySem.W.kla_callFunE hr.depth (mG e0.hok hp) rfl T.co T.gen rfl ⟨c',oc,vc,t,rfl,mG e0.hok hc,hd,hv⟩ ?_
 rw[T.bind]
 refine XG (abn T.Rp (by intro y hy;simp at hy;subst hy;exact T.loc) (fun h₁ hns hsb=>?_) T.kind)
 have keep1:=fun b o e=>hsb.extBut b o (XZ (XH e)) (XB _ e)
 refine⟨(e0.mod.nolimit.keeps fun b o e=>(e0.bs b o e).1).keeps keep1,?_⟩
 refine PySem.W.kla_codeExpr ?_
 obtain⟨p0,p2,p3,qs,rfl,rfl⟩:=T.tx
 have KX:=(e0.mod.kin.keeps fun b o e=>(e0.bs b o e).1).keeps keep1
 have hok1:=e0.hok.kept keep1
 refine Zr (aar T.kind T.glob (Calls.loadGlobal_global ((e0.mod.glob.keeps fun b o e=>(e0.bs b o e).1).keeps keep1) hm ?_) T.nd.1)
 have hL:frs (YZ qual scope s.heap.objs.size p (.ref c') clos::outer)=s.heap.objs.size::frs outer:=rfl
 have sz:s.heap.objs.size<=h₁.objs.size:=by
  by_cases z:s.heap.objs.size=0
  ·lia
  ·exact ace hns.lt
 have e1:vU P w K mg base (A.deeper (YZ qual scope s.heap.objs.size p (.ref c') clos)) (YZ qual scope s.heap.objs.size p (.ref c') clos::outer) { s with heap:=h₁,toks:=s.toks+1 } H:=
  ⟨abj e0.frames,e0.mod,fun b o e=>⟨keep1 b o (e0.bs b o e).1,(e0.bs b o e).2⟩,XR e0.bsz sz,
   Y2.FunFrames.cons (by show scope.kind≠_;rw[T.kind];decide) rfl hns (aau e0.bsz) (Y2.FunFrames.of_keeps (fun b o e _=>⟨o,keep1 b o e,rfl⟩) e0.kM),
   fun b hb'=>by
    rcases X4.mp hb' with z | z
    ·rw[z];exact e0.hok.fresh (XJ _)
    ·exact e0.frf b z,hok1,e0.bare⟩
 have fin:∀us:List XI,Vals cv us->wpAny (model P w) (A.deeper (YZ qual scope s.heap.objs.size p (.ref c') clos)) (call (.ref f) ([]++(us++[u]))) (fun z s'=>CR CX0 outer P w H s Q E (.ok (.ret z)) s')
   (fun e' s'=>wpAny (model P w) (A.deeper (YZ qual scope s.heap.objs.size p (.ref c') clos)) (leaving (YZ qual scope s.heap.objs.size p (.ref c') clos) e') (fun _ s''=>CR CX0 outer P w H s Q E (.error e') s'') (fun e'' s''=>CR CX0 outer P w H s Q E (.error e'') s'') s') { s with heap:=h₁,toks:=s.toks+1 }:=fun us r2=>by
  have rr:=r2.append (.cons rv .nil)
  have hl:(us++[u]).length=ps.length:=by rw[<- rr.length];exact F.len _ _ _ _ h
  have hb2:=hb { s with heap:=h₁,toks:=s.toks+1 } (us++[u]) KX (by simp_all)
  rw[YD] at hb2
  refine Z_ (Zc (F.run _ _ _ H ⟨us++[u],[]⟩ (us++[u]) (cv++[v]) Q E1 (hr.deeper _) e1 hb2 rr h) fun r s' hq=>?_)
  cases r with
  | error e=>exact ZU hq
  | ok fl=>
   cases fl with
   | ret z=>
    obtain⟨y,H',os,bare,un,hok,r,q⟩:=(show CE _ P w H _ Q z s' from hq)
    have old:∀{b:XW} {o:Obj},s.heap.get? b=ξ o->b∉frs outer->b∉frs (YZ qual scope s.heap.objs.size p (.ref c') clos::outer):=fun{b o} e n z=>by
     rcases X4.mp z with z | z
     ·exact absurd (XH e) (by simp_all)
     ·exact n z
    exact⟨y,H',os,bare,⟨fun b o e n hb' hx=>un.keep b o (keep1 b o e) n (old e hb') hx,fun b o e n hb' hx=>un.slot b o (keep1 b o e) n (by simp_all) hx,fun b o e n hx=>un.free b o (keep1 b o e) n hx,fun b o e hx=>un.there b o (keep1 b o e) hx,un.mZ,un.mE,un.ow⟩,hok,r,q⟩
   | next=>assumption
   | brk=>assumption
   | cont=>assumption
 have main:=w_ (env:=YZ qual scope s.heap.objs.size p (.ref c') clos) (A:=A.deeper (YZ qual scope s.heap.objs.size p (.ref c') clos)) (s:={ s with heap:=h₁,toks:=s.toks+1 }) (x:=x) (p2:=p2) (pos:=p3) (u:=u)
  (E:=fun e' s'=>wpAny (model P w) (A.deeper (YZ qual scope s.heap.objs.size p (.ref c') clos)) (leaving (YZ qual scope s.heap.objs.size p (.ref c') clos) e') (fun _ s''=>CR CX0 outer P w H s Q E (.error e') s'') (fun e'' s''=>CR CX0 outer P w H s Q E (.error e'') s'') s')
  T.kind rfl hok1 T.loc T.nd.2 hns {..} qs cv (fun us s2=>K.In s2.heap/\wpAny (model P w) (A.deeper (YZ qual scope s.heap.objs.size p (.ref c') clos)) (call (.ref f) ([]++us)) (fun z s'=>CR CX0 outer P w H s Q E (.ok (.ret z)) s')
   (fun e' s'=>wpAny (model P w) (A.deeper (YZ qual scope s.heap.objs.size p (.ref c') clos)) (leaving (YZ qual scope s.heap.objs.size p (.ref c') clos) e') (fun _ s''=>CR CX0 outer P w H s Q E (.error e') s'') (fun e'' s''=>CR CX0 outer P w H s Q E (.error e'') s'') s') s2) cs T.free fun us r2=>⟨KX,fin us r2⟩
 cases qs with
 | nil=>exact ZQ (h₀:=h₁) KX hkp main oZ rfl
 | cons q qs=>exact ZQ (h₀:=h₁) KX hkp main oZ (pY qs)
abbrev kS (tab:Str->Option (Nat × MF)) (f:ME) (a:MA):ME:=fun env h=>(f env h).bind fun d h1=>match d with
 | .clo x ds=>match tab x with
  | some (np,m)=>if ds.length+1=np then (a env h1).bind fun es h2=>m (ds++es) h2 else .bad
  | none=>.bad
 | _=>.bad
def uy {X:Cx}{g:GG}{k:Nat}{tab:Str->Option (Nat × MF)}{fe e:YL}{pos:Pos}{mf:ME}{mr:MA}
  (T:∀x np m,tab x=ξ (np,m)->∃f fd ps,X.mg x=ξ (.ref f)/\cJ X.prog X.w X.K X.mg X.base CX0 k f fd ps (spM X.K g np m)/\X6 X.K (.ref f)=θ/\Binds X.K fd ps [])
  (hr:b8 (k+1) X.A) (hf:PE X fe (tM X.K g E00 mf)) (ha:PA X [e] (tMA X.K g E00 mr)) (hlen:∀env h ds h',mr env h=.ok ds h'->ds.length=1)
  (hc:eval (.Call fe [e] [] pos) X.env=(do callWith pos (← eval fe X.env) [] (backTo pos (starEach [e] X.env)) (backToKw pos (keywordEach [] X.env))):=by rfl)
  (he:starEach [e] X.env=(ψ,eval e X.env)::starEach [] X.env:=by rfl) :
  PE X (.Call fe [e] [] pos) (tM X.K g E00 (kS tab mf mr)):=by
 intro pins s σ H Q I ⟨α,env,h,s0,w⟩
 refine Call_ (thn (hf pins s σ H (fun v H1=>∃α1 h1 p o clos ys cv c' oc qual t vc x ds np m,v=.ref p/\H1 p=ξ (AtO p o)/\OF x clos ys o c' qual/\H1 c'=ξ (AtO c' oc)/\oc.data=.fields vc/\vc[1]?=ξ (.str qual t)/\nB H1 clos ys cv/\ay X.K g α1 H1 ds cv ∧
   tab x=ξ (np,m)/\ds.length+1=np/\eJ X.K g α1 H1 env σ h1/\WQ X.K g E00 α1 H1 ((mr env h1).bind fun es h2=>m (ds++es) h2) (aJ X.K g α1 H1 Q)) I ?_) fun v s1 ⟨x,H1,I1,r1,q1⟩=>?_) hc
 ·refine tM.use s0 w.bind fun d1 h1 v1 H1 α1 e1 s1 r1 w1=>?_
  cases r1 with
  | @clo x ds p o clos ys vs c' oc qual t vc hp hl hc' hd hv cs rs=>
   simp only at w1
   cases et:tab x with
   | none=>rw[et] at w1;exact w1.elim
   | some q=>
    obtain⟨np,m⟩:=q
    rw[et] at w1
    obtain⟨hn,w1⟩:=WQ.dj w1
    exact⟨α1,h1,p,o,clos,ys,vs,c',oc,qual,t,vc,x,ds,np,m,rfl,hp,hl,hc',hd,hv,cs,rs,et,hn,s1,WQ.post e1 w1⟩
  | _=>exact w1.elim
 ·obtain⟨α1,h1,p,o,clos,ys,cv,c',oc,qual,t,vc,x,ds,np,m,rfl,hp,⟨params,body,scope,pm,ctv,xa,rfl,tx⟩,hc',hd,hv,cs,rs,et,hn,s2,w2⟩:=q1
  cases r1
  obtain⟨f,fd,ps,hm,F,hk,hb⟩:=T x np m et
  have fn:∀{h:Y2},h.get? p=ξ (Zm "<lambda>" qual params body scope clos pm c' ctv)->PySem.W.FnAt p h:=fun e=>⟨_,_,_,_,e⟩
  refine PySem.W.callWith_F (fn (mG I1.hok hp)) (thn (ha pos pins s1 σ H1 (fun vs H2=>∃v,vs=[v]/\H2 p=ξ (AtO p (Zm "<lambda>" qual params body scope clos pm c' ctv))/\H2 c'=ξ (AtO c' oc)/\nB H2 clos ys cv/\spM X.K g np m (cv++[v]) H2 Q E0) I1 ?_) fun us s3 ⟨vs,H2,I2,r,v,ev,hp2,hc2,cs2,q⟩=>⟨fn (mG I2.hok hp2),?_⟩) he rfl
  ·refine⟨α1,env,h1,s2,w2.bind.mono fun es h3 eq w3 v3 H3 α3 e3 hr3 r3=>?_⟩
   have l1:=hlen env h1 es h3 eq
   obtain⟨d,rfl⟩:∃d,es=[d]:=List.length_eq_one_iff.mp l1
   cases r3 with
   | @cons _ v _ _ rd rn=>
    cases rn
    refine⟨v,rfl,e3.frz _ _ _ hp,e3.frz _ _ _ hc',L2.Paired.vT cs fun _ _ ⟨c,o,u,l,a,b⟩=>⟨c,o,u,l,e3.frz _ _ _ a,b⟩,?_,α3,ds++[d],h3,(rs.ext e3).append (.cons rd .nil),hr3,w3.post e3⟩
    rw[YU,<- rs.length];exact hn
  ·subst ev
   cases r with
   | @cons _ u _ _ ru rn=>
    cases rn
    refine Z_ (Zc (MB F hk hb hm tx (E:=E0) hr I2.Oo hp2 hc2 hd hv cs2 ru q) fun r s' hq=>?_)
    cases r with
    | error e=>exact ZU hq
    | ok fl=>
     cases fl with
     | ret u=>exact I2.after hq
     | next=>assumption
     | brk=>assumption
     | cont=>assumption
open Classical in
abbrev mkH (S:XW->Prop) (h2:Y2) (PT:XW) (T:Array XI) (H1:Hp):Hp:=fun b=>if S b then (h2.get? b).map (AtO b) else if b=PT then ξ (.tbl T) else H1 b
structure MkS (P) (w) (S:XW->Prop) (h1 h2:Y2) (PT) (ps more) (H1):Prop where
 hok:HOk P w H1 h1
 hPT:H1 PT=some (.tbl ps)
 k:∀b o,b≠PT->h1.get? b=some o->h2.get? b=some o
 hT:h2.get? PT=some (aaz (ps++more))
 hS:∀b,S b->b≠PT/\(∃o,h2.get? b=some o)/\(H1 b=none\/∃o,H1 b=some (AtO b o))
section
variable {P:X5}{w:Yw}{S:XW->Prop}{h0 h1 h2:Y2}{PT:XW}{ps more:Array XI}{H H1:Hp}{K:gV}{g:GG}{α:List XW}{h:Hh}{fs:List XW}
def MkS.at_ (M:MkS P w S h1 h2 PT ps more H1) (hb:S b) (e:h2.get? b=ξ o):mkH S h2 PT (ps++more) H1 b=ξ (AtO b o):=by
 unfold mkH;simp_all
def MkS.pt (M:MkS P w S h1 h2 PT ps more H1):mkH S h2 PT (ps++more) H1 PT=ξ (.tbl (ps++more)):=by
 unfold mkH;rw[if_neg fun z=>(M.hS PT z).1 rfl,if_pos rfl]
def MkS.off (M:MkS P w S h1 h2 PT ps more H1) (e:H1 b=ξ o) (n:b≠PT):mkH S h2 PT (ps++more) H1 b=ξ o:=by
 by_cases hb:S b
 ·obtain⟨_,⟨o2,e2⟩,z | ⟨o1,z⟩⟩:=M.hS b hb
  ·simp_all
  ·rw[e] at z;cases z
   have e1:=M.k b o1 n (mG M.hok e)
   exact M.at_ hb e1
 ·unfold mkH;simp_all
def MkS.non (M:MkS P w S h1 h2 PT ps more H1) (e:H1 b=ζ) (n:¬ S b):mkH S h2 PT (ps++more) H1 b=none:=by
 unfold mkH;rw[if_neg n,if_neg (aO M.hPT e).symm];exact e
def MkS.Vp (M:MkS P w S h1 h2 PT ps more H1):HOk P w (mkH S h2 PT (ps++more) H1) h2:=by
 intro b u e
 by_cases hb:S b
 ·obtain⟨_,⟨o2,e2⟩,_⟩:=M.hS b hb
  rw[M.at_ hb e2] at e
  cases e
  exact⟨e2,e2,⟨o2,e2⟩,fun a c x y=>y _ x⟩
 ·by_cases hp:b=PT
  ·subst hp
   rw[M.pt] at e
   cases e
   exact M.hT
  ·have e1:H1 b=ξ u:=by unfold mkH at e;simp_all
   refine(M.hok b u e1).lY (fun c x hc hx=>M.k c x ?_ hx) (fun c z=>M.off z fun q=>?_) fun c xs z=>M.off z fun q=>?_
   ·rcases hc with rfl | hc
    ·exact hp
    ·rintro rfl;rw[M.hPT] at hc;cases hc
   ·subst q;rw[M.hPT] at z;cases z
   ·subst q;rw[M.hPT] at z;cases z
def MkS.un (M:MkS P w S h1 h2 PT ps more H1) (u:Un fs [] H H1 h0 h1) (hn:∀b,S b->h0.objs.size<=b\/H1 b≠ζ):Un fs [] H (mkH S h2 PT (ps++more) H1) h0 h2:=by
 have nt:=fun b o e n=>(aO M.hPT (u.free b o e n {..})).symm
 refine⟨fun b o e n hf hx=>M.k b o (nt b o e n) (u.keep b o e n hf hx),fun b o e n hf hx=>?_,fun b o e n hx=>?_,fun b o e hx=>?_,fun b xs e=>M.off (u.mZ b xs e) fun z=>?_,fun b o x e=>M.off (u.mE b o x e) fun z=>?_,fun b qs e=>?_⟩
 ·obtain⟨sl,e1⟩:=u.slot b o e n hf hx
  exact⟨sl,M.k b _ (nt b o e n) e1⟩
 ·have z:=u.free b o e n hx
  refine M.non z fun hb=>?_
  rcases hn b hb with q | q
  ·exact absurd (XH e) (abp.mpr q)
  grind
 ·obtain⟨o1,e1⟩:=u.there b o e hx
  by_cases z:b=PT
  ·exact⟨_,z ▸ M.hT⟩
  ·exact⟨o1,M.k b o1 z e1⟩
 ·have:=u.mZ b xs e;rw[z,M.hPT] at this;grind
 ·have:=u.mE b o x e;rw[z,M.hPT] at this;grind
 ·obtain⟨m1,e1⟩:=u.ow b qs e
  by_cases z:b=PT
  ·subst z
   rw[M.hPT] at e1
   cases e1
   exact⟨m1++more,by rw[M.pt,Array.append_assoc]⟩
  ·exact⟨m1,M.off e1 z⟩
def MkS.ext (M:MkS P w S h1 h2 PT ps more H1):Ext K α H1 α (mkH S h2 PT (ps++more) H1):=
 ⟨⟨Z7 _,fun p xs e=>M.off e (fun z=>by rw[z,M.hPT] at e;cases e),fun p o x e=>M.off e (fun z=>by rw[z,M.hPT] at e;cases e),fun p qs e=>by
  by_cases z:p=PT
  ·subst z
   rw[M.hPT] at e;cases e
   exact⟨more,M.pt⟩
  ·exact⟨#[],by rw[M.off e z];simp⟩⟩,fun p o e _ t=>M.off e (fun z=>by rw[z,M.hPT] at e;grind),fun _ z n=>absurd z n⟩
def MkS.VT (M:MkS P w S h1 h2 PT ps more H1) (r:bo K g α H1 h){ns:Pos × Str} (uq:∀f q,m5 K f=ξ q->q.1=PT->q.2=ns) (t:B6 (mkH S h2 PT (ps++more) H1) (PT,ns)):bo K g α (mkH S h2 PT (ps++more) H1) h:=by
 refine⟨r.len,r.inj,fun n p o a b=>(r.here n p o a b).ex0 M.ext.toEx0 fun x e=>M.off e fun z=>?_,fun f q e=>?_⟩
 ·obtain⟨u,e1,_,_,nt⟩:=r.mem (Yn a)
  rw[z,M.hPT] at e1;cases e1;exact nt _ rfl
 ·by_cases z:q.1=PT
  ·have:=uq f q e z
   cases z;cases this
   exact t
  ·rcases r.tab f q e with x | ⟨c',oc,vc,tk,x,hc,hd⟩
   ·exact .inl (M.off x z)
   ·exact .inr ⟨c',oc,vc,tk,M.off x z,M.off hc (fun y=>by rw[y,M.hPT] at hc;cases hc),hd⟩
end
def Ga {h h':Y2}{mg:Str->Option XI}{PT:XW} (k:∀b o,h.get? b=ξ o->h'.get? b=ξ o) (x:h.BuiltinsAt mg PT):h'.BuiltinsAt mg PT:=
 let ⟨bm,o,a,b,c,d,e,r⟩:=x;⟨bm,o,a,b,c,d,k _ _ e,r⟩
abbrev Made (X:Cx) (g:GG) (α:List XW) (h:Hh) (H1:Hp) (s1:XO) (d:D) (u:XI) (s2:XO):Prop:=∃p H2,u=.ref p/\s2.os=s1.os/\s2.gens=s1.gens/\HOk X.prog X.w H2 s2.heap/\Un X.fs [] X.a_ H2 X.aP.heap s2.heap/\Ext X.K α H1 α H2/\bo X.K g α H2 h/\aL X.K g α H2 d (.ref p) ∧
 (∀b o,H1 b=ζ->s1.heap.get? b=ξ o->s2.heap.get? b=ξ o)/\(∀b o,s1.heap.get? b=ξ o->H1 b=ζ->(∀x c,X.env.cells.lookup x=ξ c->c≠b)->H2 b=ζ)
def Kq {X:Cx}{g:GG}{pins:List (XW × Obj)}{σ:St}{H1:Hp}{s1:XO}{α:List XW}{h:Hh}{params:acG}{body:YL}{scope:abe}{pos:Pos}{clos:List (Str × XW)}{c PT f:XW}{lf x ql:Str}{ys:List Str}{vs:List V}{ds:List D}{E:XI->XO->Prop}
  (J:Inv X pins σ H1 s1) (hex:X.ex=[]) (hdef:defaultsOf params X.env=([],[])) (hq:X.env.qual++"<lambda>" = ql) (hcode:X.env.code=.ref c) (C:Zd X.K c PT=θ) (hB:X.base.BuiltinsAt X.mg PT) (hgP:mainGlobals≠PT)
  (hmk:m5 X.K f=ξ (PT,pos,ql)) (uq:∀f q,m5 X.K f=ξ q->q.1=PT->q.2=(pos,ql)) (hcl:closureFor scope X.env=pure clos) (hcs:∀y c,clos.lookup y=ξ c->X.env.cells.lookup y=ξ c) (hfn:∀y,X.fn y=θ)
  (T:AN lf x ql ys params body scope) (hr:bo X.K g α H1 h) (hvs:Paired (fun y v=>(∃c,clos.lookup y=ξ c)/\X.env.kindOf y=ξ .cell/\∃i:Nat,X.N[i]?=ξ y/\σ[i]?=ξ (ξ v)) ys vs) (rds:ay X.K g α H1 ds vs) :
  wpAny (model X.prog X.w) X.A (eval (.Lambda params body scope pos) X.env) (Made X g α h H1 s1 (.clo lf ds)) E s1:=by
 subst hq
 refine PySem.W.kla_eval hdef ?_
 have Ch:=PySem.W.codeHd_of_K J.kIn C
 have hg:=J.mod.glob.keeps J.bk
 have hb:=Ga J.bk hB
 obtain⟨m,hns,hloc⟩:=J.loc
 have fin:∀(h':Y2) (tk:Tok) (c':XW) (ctv:XI) (oc:Obj) (vc:Array XI) (t:Tok) (ps more:Array XI),H1 PT=ξ (.tbl ps)->(∀b o,b≠PT->s1.heap.get? b=ξ o->h'.get? b=ξ o)->s1.heap.objs.size<=h'.objs.size->h'.get? PT=ξ (aaz (ps++more)) →
   ps++more = #[rawInt pos.line,rawInt pos.col,.ref c']->h'.get? c'=ξ oc->oc.data=.fields vc->vc[1]?=ξ (.str (X.env.qual++"<lambda>") t)->c'≠PT->((H1 c'=ζ/\s1.heap.objs.size<=c')\/H1 c'=ξ (AtO c' oc)) →
   Made X g α h H1 s1 (.clo lf ds) (.ref h'.objs.size) { s1 with heap:=h'.push (Zm "<lambda>" (X.env.qual++"<lambda>") params body scope clos ((X.mg "__name__").getD .none) c' ctv),toks:=tk }:=by
  intro h' tk c' ctv oc vc t ps more hPT hk hsz hT hT2 hc hd hv hcP hc1
  have kp:∀b o,h'.get? b=ξ o->(h'.push (Zm "<lambda>" (X.env.qual++"<lambda>") params body scope clos ((X.mg "__name__").getD .none) c' ctv)).get? b=ξ o:=fun b o e=>XB _ e
  have pp:(h'.push (Zm "<lambda>" (X.env.qual++"<lambda>") params body scope clos ((X.mg "__name__").getD .none) c' ctv)).get? h'.objs.size=ξ (Zm "<lambda>" (X.env.qual++"<lambda>") params body scope clos ((X.mg "__name__").getD .none) c' ctv):=XN _ rfl
  have M:MkS X.prog X.w (fun b=>b=h'.objs.size\/b=c'\/∃y,clos.lookup y=ξ b) s1.heap (h'.push (Zm "<lambda>" (X.env.qual++"<lambda>") params body scope clos ((X.mg "__name__").getD .none) c' ctv)) PT ps more H1:=by
   refine⟨J.hok,hPT,fun b o n e=>kp b o (hk b o n e),kp _ _ hT,fun b hb=>?_⟩
   rcases hb with rfl | rfl | ⟨y,hy⟩
   ·exact⟨fun z=>absurd (XH hT) (by rw[<- z];exact Y6 _),⟨_,pp⟩,.inl (J.hok.fresh hsz)⟩
   ·refine⟨hcP,⟨_,kp _ _ hc⟩,?_⟩
    rcases hc1 with⟨z,_⟩ | z
    ·exact .inl z
    ·exact .inr ⟨_,z⟩
   ·have z:=J.e8 y b (hcs y b hy)
    obtain⟨v,o,e,_⟩:=J.cell y b (hcs y b hy)
    have n:=(aO hPT z).symm
    exact⟨n,⟨o,kp _ _ (hk b o n e)⟩,.inl z⟩
  have atp:=M.at_ (.inl rfl) pp
  have atc:=M.at_ (.inr (.inl rfl)) (kp _ _ hc)
  refine⟨h'.objs.size,_,rfl,rfl,rfl,M.Vp,M.un (hex ▸ J.base) fun b hb=>?_,M.ext,M.VT hr uq (.inr ⟨c',oc,vc,t,?_,atc,hd,hv⟩),?_,fun b o n e=>kp b o (hk b o (aO hPT n).symm e),fun b o e n hcc=>M.non n fun hb=>?_⟩
  ·rcases hb with rfl | rfl | ⟨y,hy⟩
   ·exact .inl (XR J.sz hsz)
   ·rcases hc1 with⟨_,z⟩ | z
    ·exact .inl (XR J.sz z)
    ·exact .inr (by rw[z];exact fun q=>nomatch q)
   ·exact .inl (J.ok.cab y b (hfn y) (hcs y b hy))
  ·rw[M.pt,hT2]
  ·refine .clo atp ⟨params,body,scope,_,ctv,x,rfl,T⟩ atc hd hv (L2.Paired.vT hvs fun y v ⟨⟨cc,hcc⟩,kd,i,hN,hσ⟩=>?_) (rds.ext M.ext)
   obtain⟨u,ru,lk⟩:=hloc i y v hN hσ (.inr (.inl kd))
   rcases lk with⟨z,_⟩ | ⟨_,c2,hc2,o,e,hdo⟩
   ·rw[kd] at z;cases z
   ·rw[hcs y cc hcc] at hc2
    cases hc2
    have z:=J.e8 y cc (hcs y cc hcc)
    exact⟨cc,o,u,hcc,M.at_ (.inr (.inr ⟨y,hcc⟩)) (kp _ _ (hk cc o (aO hPT z).symm e)),hdo,ru⟩
  ·rcases hb with rfl | rfl | ⟨y,hy⟩
   ·exact absurd (XH e) (abp.mpr hsz)
   ·rcases hc1 with⟨_,z⟩ | z
    ·exact absurd (XH e) (abp.mpr z)
    ·rw[n] at z;cases z
   ·exact hcc y b (hcs y b hy) rfl
 rcases hr.tab f _ hmk with hPT | ⟨c',oc,vc,t,hPT,hc,hd,hv⟩
 ·have hP:=J.hok PT _ hPT
  refine PySem.W.kla_makeFunction hcl J.ok.glob hg hcode Ch hP trivial rfl hgP hb fun c' ctv h' tk hx hge hlt hrec htb=>?_
  obtain⟨c2,oc,vc,t,z,hc,hd,hv⟩:=hrec
  cases z
  refine fin h' tk c' ctv oc vc t _ _ hPT (fun b o n e=>hx b o n e) {} htb {..} hc hd hv (fun z=>?_) (.inl ⟨J.hok.fresh hge,hge⟩)
  exact absurd (XH hP) (by rw[<- z];exact abp.mpr hge)
 ·have hP:=J.hok PT _ hPT
  refine PySem.W.kla_makeFunctionHit (cv:=.ref c') hcl J.ok.glob hg hcode Ch hP trivial (by simp[codeAmong,rawInt]) hb fun ctv h' tk hk hsz=>?_
  refine fin h' tk c' ctv oc vc t _ #[] hPT (fun b o n e=>hk b o e) hsz (by rw[Array.append_empty];exact hk _ _ hP) {..} (hk _ _ (mG J.hok hc)) hd hv (fun z=>?_) (.inr hc)
  rw[z,hPT] at hc;cases hc
def AS {last:aaN}{env:Env}:∀rows:List aaN,execs (rows++[last]) env=(execs rows env >>= fun f=>match f with
  | .next=>exec last env
  | f=>pure f)
 | []=>by
  show(exec last env >>= fun f=>match f with | .next=>pure .next | f=>pure f)=_
  refine aaB ?_ (bind_pure _)
  congr 1
  grind
 | r::rows=>by
  show(exec r env >>= fun f=>match f with | .next=>execs (rows++[last]) env | f=>pure f)=((exec r env >>= fun f=>match f with | .next=>execs rows env | f=>pure f) >>= _)
  rw[bind_assoc]
  congr 1
  funext f
  cases f with
  | next=>exact AS rows
  | ret v=>rfl
  | brk=>rfl
  | cont=>rfl
def MJ {CX:CXT}{P:X5}{w:Yw}{K:gV}{mg:Str->Option XI}{base:Y2}{k:Nat}{f:XW}{name qual:Str}{params:acG}{body rows:List aaN}{last:aaN}{scope:abe}{dV kV doc pm cdv ct oc:XI}{an od:Option XW}
  {osl:Array (Option XI)} {N ps:List Str} {sp:Sp} (lk:K.lookup f=ξ ⟨oc,od,.func (Yz name qual params body scope dV kV doc pm an cdv ct),osl⟩) (hcd:aaa K cdv qual=θ) (S:a9 N ps scope)
  (len:∀vs H Q E,sp vs H Q E->vs.length=ps.length) (hbd:body=rows++[last])
  (hbody:∀(A:YK) (outer:List Env) (s:XO) (H:Hp) (vs:List V) (Q:VK) (E:XK),b8 k (A.deeper (envOfC qual scope s.heap.objs.size f cdv))->sp vs H Q E →
   ∃t R,PSs (gF CX P w K mg base N qual scope f cdv A outer s H E) rows t/\t { nx:=R,rt:=fun _ _=>False } (start N vs) H/\∀σ H1 s1,Inv (gF CX P w K mg base N qual scope f cdv A outer s H E) [] σ H1 s1->R σ H1 →
    wpAny (model P w) (gF CX P w K mg base N qual scope f cdv A outer s H E).A (exec last (envOfC qual scope s.heap.objs.size f cdv)) (fun fl s2=>∃u,fl=.ret u/\CE outer P w H s Q u s2) (gF CX P w K mg base N qual scope f cdv A outer s H E).xe s1) :
  cJ P w K mg base CX (k+1) f (Yz name qual params body scope dV kV doc pm an cdv ct) ps sp:=by
 subst hbd
 refine⟨len,fun A outer s H args us vs Q E hr e0 hb r hsp=>?_⟩
 have hl:=len _ _ _ _ hsp
 have KX:=e0.mod.kin.keeps fun b o e=>(e0.bs b o e).1
 have lim:=e0.mod.nolimit.keeps fun b o e=>(e0.bs b o e).1
 have hkind:∀y∈ps.zip us,scope.names.lookup y.1=ξ .local\/(scope.names.lookup y.1=ξ .cell/\((cellsFrom (s.heap.objs.size+1) scope.names []).lookup y.1).isSome=θ):=fun⟨n,v⟩ hy=>by
  rcases S.par n (aaj hy).1 with q | q
  ·grind
  ·exact .inr ⟨q,ZH _ _ _ (.inl q)⟩
 refine aak hr.depth (KX _ _ lk) rfl S.co S.gen rfl (abC KX hcd) (hb _ _ _ _ ?_)
 refine ZI S.kind hkind fun env he s1 x=>?_
 subst he
 refine⟨lim.keeps x.toInCall.keep,ach ?_⟩
 obtain⟨t,R,ht,hq,hlast⟩:=hbody A outer s H vs Q E (hr.deeper _) hsp
 have I:Inv (gF CX P w K mg base N qual scope f cdv A outer s H E) [] (start N vs) H s1:=oG S hr.hd e0 hl r x
 rw[AS]
 refine Yl (td (thn (ht [] s1 (start N vs) H _ I hq) fun fl s' hs=>?_)) (Q:=fun fl s2=>∃u,fl=Flow.ret u/\CE outer P w H s Q u s2) (fun fl s' hs=>?_) fun e s' hs=>hs
 ·cases fl with
  | next=>
   obtain⟨σ',H',J,q⟩:=hs
   exact hlast σ' H' s' J q
  | ret u=>obtain⟨_,_,_,_,_,q⟩:=hs;simp_all
  | brk=>obtain⟨_,_,_,q⟩:=hs;simp_all
  | cont=>obtain⟨_,_,_,q⟩:=hs;simp_all
 ·obtain⟨u,rfl,q⟩:=hs
  exact q
abbrev Df:List Nat->En->Option (List D)
 | [],_=>ξ []
 | i::r,e=>match (e[i]?:Option (Option D)),Df r e with
  | some (ξ d),ξ ds=>ξ (d::ds)
  | _,_=>ζ
abbrev Nz (n:Nat) (m:MS) (lf:Str) (ix:List Nat):MF:=fun ds h=>(m (ds.map ξ++X0 (n - ds.length) ζ) h).bind fun fl h1=>match fl with
 | .nx e=>(match Df ix e with
  | some cs=>.ok (.clo lf cs) h1
  | none=>.bad)
 | _=>.bad
def By {K:gV}{g:GG}{α:List XW}{H:Hp}{N:List Str}{σ:St}{e:En} (v:l4 K g α H e σ):∀{ix:List Nat}{ys:List Str}{cs:List D},ix.map (fun i=>N[i]?)=ys.map ξ->Df ix e=ξ cs →
  ∃vs,Paired (fun y v=>∃i:Nat,N[i]?=ξ y/\σ[i]?=ξ (ξ v)) ys vs/\ay K g α H cs vs
 | [],[],_,_,h=>by cases h;exact⟨[],.nil,.nil⟩
 | [],_::_,_,e,_=>by cases e
 | _::_,[],_,e,_=>by cases e
 | i::ix,y::ys,cs,hi,h=>by
  simp only[XT,List.cons.injEq] at hi
  unfold Df at h
  split at h
  ·rename_i d ds e1 e2
   cases h
   obtain⟨u,hu,ru⟩:=v.vars i d e1
   obtain⟨vs,p,r⟩:=By v hi.2 e2
   exact⟨u::vs,.cons ⟨i,hi.1,hu⟩ p,.cons ru r⟩
  grind
abbrev mkU (K:gV):Bool:=(K.filterMap fun p=>m5 K p.1).all fun a=>(K.filterMap fun p=>m5 K p.1).all fun b=>!(ac3 a.1 b.1) || decide (a.2=b.2)
def Ik {K:gV} (h:K.lookup f=ξ o):∃p∈K,p.1=f:=by
 induction K with
 | nil=>cases h
 | cons q r ih=>
  grind
def yE {K:gV} (h:m5 K f=ξ q):q∈K.filterMap fun p=>m5 K p.1:=by
 cases e:K.lookup f with
 | none=>unfold m5 at h;simp_all
 | some o=>
  obtain⟨p,hp,e1⟩:=Ik e
  grind
def RA {K:gV} (u:mkU K=θ) (h:m5 K f=ξ q) (h':m5 K f'=ξ q') (e:q'.1=q.1):q'.2=q.2:=by
 have:=X_.mp (X_.mp u q' (yE h')) q (yE h)
 simp_all
structure Mkr (K) (mg) (base:Y2) (fd:Zy) (c PT):Prop where
 code:fd.code=.ref c
 hd:Zd K c PT=true
 bat:base.BuiltinsAt mg PT
 ne:mainGlobals≠PT
 uq:mkU K=true
def M7 {K:gV}{c PT:XW} (e:Zd K c PT=θ):∃k d vs s,K.lookup c=ξ ⟨k,d,.fields vs,s⟩/\vs[11]?=ξ (.ref PT):=by
 unfold Zd at e
 grind
def Np {K:gV}{f c PT:XW} (lk:K.lookup f=ξ ⟨oc,od,.func fd,osl⟩) (hc:fd.code=.ref c) (C:Zd K c PT=θ) (hm:NM fd=ξ pos) :
  m5 K f=ξ (PT,pos,fd.qualname++".<locals>." ++ "<lambda>"):=by
 obtain⟨k,d,vs,s,e,e11⟩:=M7 C
 unfold m5
 simp_all
section
variable {P:X5}{w:Yw}{K:gV}{mg:Str->Option XI}{base:Y2}{g:GG}
def Sn {st:aaN}{c PT:XW} (F:Fun K x x st f fd) (S:a9 N ps (aj st)) (M:Mkr K mg base fd c PT)
  (hbd:br st=rows++[.Return (ξ (.Lambda params body scope pos)) rpos]) (hdef:∀env,defaultsOf params env=([],[]))
  (hcl:∀L cdv , ∃clos,closureFor scope (envOfC x (aj st) L f cdv)=pure clos/\(∀z c,clos.lookup z=ξ c->(envOfC x (aj st) L f cdv).cells.lookup z=ξ c)/\∀z∈ys,∃c,clos.lookup z=ξ c)
  (hys:∀z∈ys,(aj st).names.lookup z=ξ .cell) (hix:ix.map (fun i=>N[i]?)=ys.map ξ) (T:AN lf y (x++".<locals>." ++ "<lambda>") ys params body scope)
  (hb:∀cdv A outer s H E , b8 k (A.deeper (envOfC x (aj st) s.heap.objs.size f cdv)) →
   PSs (gF CX0 P w K mg base N x (aj st) f cdv A outer s H E).nox rows (tMS K g E00 mb)):cJ P w K mg base CX0 (k+1) f fd ps (spM K g ps.length (Nz N.length mb lf ix)):=by
 obtain⟨oc,od,kV,doc,pm,an,cdv,ct,osl,rfl,lk,hcd⟩:=F.ex
 have hmk:NM (Yz x x (dq st) (br st) (aj st) .none kV doc pm an cdv ct)=ξ pos:=by
  unfold NM Yz
  simp_all
 have hT:=Np lk M.code M.hd hmk
 obtain rfl:cdv=.ref c:=M.code
 refine MJ lk hcd S (fun vs H Q E h=>h.1) hbd fun A outer s H vs Q E hr hsp=>?_
 obtain⟨hl,α,ds,h,rs,hh,w1⟩:=hsp
 refine⟨_,fun σ H1=>∃α1 e h1 cs,Ext K α H α1 H1/\eJ K g α1 H1 e σ h1/\Df ix e=ξ cs/\aJ K g α H Q (.clo lf cs) h1,(hb (.ref c) A outer s H E hr).nox,?_,fun σ H1 s1 J hR=>?_⟩
 ·refine tMS.use ⟨hh,lM rs⟩ w1.bind fun fl h' H' α' e r kk=>?_
  cases fl with
  | nx e'=>
   intro σ' s'
   dsimp only at kk
   cases ec:Df ix e' with
   | none=>rw[ec] at kk;exact kk.elim
   | some cs=>rw[ec] at kk;exact⟨α',e',h',cs,e,s',ec,kk⟩
  | bk e'=>exact kk.elim
  | ct e'=>exact kk.elim
  | rt d=>exact kk.elim
 ·obtain⟨α1,e,h1,cs,ex,sr,ec,po⟩:=hR
  obtain⟨clos,hc1,hc2,hc3⟩:=hcl s.heap.objs.size (.ref c)
  obtain⟨vs',pv,rds⟩:=By sr.vs hix ec
  have pv2:Paired (fun z v=>(∃c,clos.lookup z=ξ c)/\(aj st).names.lookup z=ξ .cell/\∃i:Nat,N[i]?=ξ z/\σ[i]?=ξ (ξ v)) ys vs':=by
   clear ec rds hix T hcl
   induction pv with
   | nil=>exact .nil
   | cons q t ih=>exact .cons ⟨hc3 _ (XU ..),hys _ (XU ..),q⟩ (ih (fun z hz=>hys z (XM _ hz)) (fun z hz=>hc3 z (XM _ hz)))
  refine wpAny_Return_some (thn (Kq J rfl (hdef _) rfl rfl M.hd M.bat M.ne hT (fun f' q e1 e2=>RA M.uq hT e1 e2) hc1 hc2 (fun _=>rfl) T sr.heap pv2 rds) fun u s2 md=>?_)
  obtain⟨p,H2,rfl,os,gn,hok,un,ex2,hr2,rd,_,_⟩:=md
  exact⟨_,rfl,.ref p,H2,os.trans J.os,by rw[gn];exact J.bare,un,hok,rfl,po _ H2 α1 (ex.trans ex2) hr2 rd⟩
end
abbrev kH (ts:List XW) (Hs:Hp):Hp:=fun b=>if b∈ts then ξ (.tbl #[]) else Hs b
def Gv {P:X5}{w:Yw}{K:gV}{mg mb:Str->Option XI}{k:Nat}{fa a:XW}{fd:Zy}{x:Str}{sp:Sp}{s₁:XO}{vs:List XI}{ns:List Int}{ts:List XW}
  (KX:K.In s₁.heap) (hns:s₁.heap.Ns mainGlobals mg) (hb:s₁.heap.Ns builtinsNs mb) (hbb:∀x:Str,x≠"__name__" -> mb x=bootBuiltins x) (hlim:s₁.heap.NoLimit) (hg:s₁.gens = #[])
  (hbm:∃bm ob,mg "__builtins__" = ξ (.ref bm)/\bm≠builtinsNs/\s₁.heap.get? bm=ξ ob/\ob.cls=.type "module" /\ ob.dict=ξ builtinsNs/\ob.data=.plain)
  (hts:∀P∈ts,s₁.heap.get? P=ξ (aaz #[])) (hct:∀P∈ts,∃c,PySem.W.CodeHd s₁.heap c P) (hKt:∀P∈ts,K.lookup P=ζ)
  (ha:s₁.heap.get? a=ξ { cls:=.type "list", data:=.seq vs.toArray }) (hi:acC vs ns) (hl:ns.length<=sizeLine) (hr:b8 k callerA)
  (F:∀base:Y2,K.In base->base.Ns mainGlobals mg->(∀P∈ts,base.BuiltinsAt mg P)->cJ P w K mg base CX0 k fa fd [x] sp) (hbind:∀(s:XO) (u:XI),acT s fd ⟨[u],[]⟩ [(x,u)])
  (hsp:∀H:Hp,(∀P∈ts,H P=ξ (.tbl #[]))->Fro K H a (ns.map V.int)->sp [.ref a] H (fun v _=>v=.bl θ) fun _ _ _=>False) :
  codeAny (model P w) callerA (.call (.ref fa) ⟨[.ref a],[]⟩) (fun r s'=>r=.ok (.ret (.bool θ))/\OldK s₁.heap s'.heap/\s'.os=s₁.os/\ab0 s'.gens) s₁:=by
 have rv:=xk hi
 have lenV:=hi.length
 have aT:a∉ts:=fun z=>by simp_all
 have core:∀Hs:Hp,Vv Hs->Fro K (kH ts Hs) a (ns.map V.int)->HOk P w Hs s₁.heap->(∀b,Hs b≠ζ->b=a)->(Hs a≠ζ->K.lookup a=ζ) →
   codeAny (model P w) callerA (.call (.ref fa) ⟨[.ref a],[]⟩) (fun r s'=>r=.ok (.ret (.bool θ))/\OldK s₁.heap s'.heap/\s'.os=s₁.os/\ab0 s'.gens) s₁:=by
  intro Hs hO hS hok0 hA hK
  have inT:∀{b:XW},b∈ts->kH ts Hs b=ξ (.tbl #[]):=fun h=>by unfold kH;simp_all
  have offT:∀{b:XW},b∉ts->kH ts Hs b=Hs b:=fun h=>by unfold kH;simp_all
  have hok:HOk P w (kH ts Hs) s₁.heap:=fun b u e=>by
   by_cases hb:b∈ts
   ·rw[inT hb] at e;cases e;exact hts b hb
   ·rw[offT hb] at e
    refine(hok0 b u e).lY (fun _ _ _ z=>z) (fun c z=>?_) fun c xs z=>?_
    ·grind
    grind
  have non:∀{b:XW} {o:Obj},s₁.heap.get? b=ξ o->(∀a n,o.data≠.seq a n)->(∀a,o.data≠.fields a)->kH ts Hs b=none:=fun{b o} e d1 d2=>by
   by_cases hb:b∈ts
   ·grind
   grind
  have base_of:∀{b:XW} {o:Obj},s₁.heap.get? b=ξ o->kH ts Hs b=ζ->(vv s₁.heap (kH ts Hs)).get? b=ξ o:=fun e n=>KY e n
  have nsK:∀{b:XW} {m:Str->Option XI},s₁.heap.Ns b m->(vv s₁.heap (kH ts Hs)).Ns b m:=fun{b m} ⟨o,es,ep,e,d,r⟩=>⟨o,es,ep,base_of e (non e (fun _ _ z=>by rw[d] at z;cases z) fun _ z=>by rw[d] at z;cases z),d,r⟩
  have hKb:K.In (vv s₁.heap (kH ts Hs)):=fun b o e=>base_of (KX b o e) (by
   grind)
  have hM:Mod K mg (vv s₁.heap (kH ts Hs)):=⟨hKb,nsK hns,⟨mb,nsK hb,hbb⟩,let ⟨mc,h1,h2⟩:=hlim;⟨mc,nsK h1,h2⟩⟩
  have hBA:∀P∈ts,(vv s₁.heap (kH ts Hs)).BuiltinsAt mg P:=fun PT hP=>by
   obtain⟨bm,ob,b1,b2,b3,b4,b5,b6⟩:=hbm
   refine⟨bm,ob,b1,b2,fun z=>?_,fun z=>?_,base_of b3 (non b3 (fun _ _ z=>by rw[b6] at z;cases z) fun _ z=>by rw[b6] at z;cases z),b4,b5,b6⟩
   ·obtain⟨o,es,ep,e,d,_⟩:=hns
    rw[<- z,b3] at e;cases e;rw[b6] at d;cases d
   grind
  have e0:vU P w K mg (vv s₁.heap (kH ts Hs)) callerA [] s₁ (kH ts Hs):=⟨rfl,hM,fun b o e=>Mf e,acW (GI _ _),trivial,fun b hb=>absurd (show b∈([]:List XW) from hb) {..},hok,.of_eq hg⟩
  refine Zc ((F _ hKb (nsK hns) hBA).run callerA [] s₁ (kH ts Hs) ⟨[.ref a],[]⟩ [.ref a] [.ref a] _ _ hr e0 (hbind s₁ (.ref a)) (.cons rfl .nil) (hsp _ (fun P hP=>inT hP) hS)) fun r s' h=>?_
  cases r with
  | error e=>exact h.elim
  | ok fl=>
   cases fl with
   | next=>exact ZU h
   | brk=>exact ZU h
   | cont=>exact ZU h
   | ret u=>
    obtain⟨v,H',os,bare,un,hok',r',q⟩:=h
    have q':v=.bl true:=q
    subst q'
    obtain rfl:u=abo true:=r'
    have old:∀b o,s₁.heap.get? b=ξ o->b∉ts->s'.heap.get? b=ξ o:=fun b o e hb=>by
     cases q:kH ts Hs b with
     | none=>exact un.keep b o e q (by intro z;exact absurd (show b∈([]:List XW) from z) {..}) {..}
     | some u=>
      rw[offT hb] at q
      rcases hO b with z | ⟨ob,xs,z⟩
      ·rw[q] at z;cases z
      ·have z2:=un.mE b ob _ ((offT hb).trans z)
       obtain⟨e1,_⟩:=hok0 b _ z
       obtain⟨e2,_⟩:=hok' b _ z2
       grind
    have grown:∀b∈ts,∃ps,s'.heap.get? b=ξ (aaz ps):=fun b hb=>by
     obtain⟨more,e1⟩:=un.ow b _ (inT hb)
     exact⟨_,hok' b _ e1⟩
    refine⟨rfl,⟨fun b o e=>?_,fun b o e=>?_⟩,os,bare⟩
    ·by_cases hb:b∈ts
     ·obtain⟨ps,e1⟩:=grown b hb
      obtain⟨c,C⟩:=hct b hb
      have e2:=hts b hb
      rw[e] at e2;cases e2
      exact .inr (.inl ⟨(C.tab (hts b hb)).isCodeTable,rfl,#[],ps,rfl,by rw[e1];simp⟩)
     ·exact .inl (old b o e hb)
    ·by_cases hb:b∈ts
     ·obtain⟨ps,e1⟩:=grown b hb;exact⟨_,e1⟩
     ·exact⟨o,old b o e hb⟩
 cases hk:K.lookup a with
 | some o=>
  have e:=KX a o hk
  rw[ha] at e
  cases e
  refine core (fun _=>ζ) (fun _=>.inl rfl) (.inr ⟨_,vs.toArray,_,hk,rfl,rfl,rfl,by simp_all,{}⟩) (fun b u z=>by have z':(none:Option HO)=ξ u:=z;cases z') (fun b z=>absurd rfl z) fun z=>absurd rfl z
 | none=>
  refine core (fun b=>if b=a then ξ (.frz { cls:=.type "list", data:=.seq vs.toArray } (.lst (ns.map V.int))) else ζ) (fun b=>?_) (.inl ⟨{ cls:=.type "list", data:=.seq vs.toArray },?_⟩) (fun b u z=>?_) (fun b z=>?_) fun _=>hk
  ·by_cases hb:b=a
   ·exact .inr ⟨_,_,if_pos hb⟩
   ·exact .inl (if_neg hb)
  ·unfold kH;rw[if_neg aT];exact if_pos rfl
  ·by_cases hb:b=a
   ·have z':=(if_pos hb).symm.trans z
    cases z'
    subst hb
    exact⟨ha,by rw[XE];exact hl,vs,_,rv,ha⟩
   ·have z':=(if_neg hb).symm.trans z
    cases z'
  ·by_cases hb:b=a
   ·exact hb
   ·exact absurd (if_neg hb) z
abbrev tabOf (K:gV) (c:XW):XW:=match K.lookup c with
 | some ⟨_,_,.fields vs,_⟩=>(match (vs[11]?:Option XI) with | some (.ref P)=>P | _=>0)
 | _=>0
abbrev Pr (K:gV) (ts:List XW):Bool:=(K.filterMap fun p=>m5 K p.1).all (fun q=>ts.any (ac3 q.1))&&ts.all fun P=>(K.lookup P).isNone&&K.any fun p=>match p.2.data with
 | .func fd=>(match fd.code with
  | .ref c=>Zd K c P
  | _=>ψ)
 | _=>ψ
abbrev PN (K:gV) (ts:List XW) (x:Str) (st:aaN):Prop:=∃f fd c,X7 K mainGlobals x=ξ (ξ (.ref f))/\Fun K x x st f fd/\fd.code=.ref c/\Zd K c (tabOf K c)=θ/\ts.any (ac3 (tabOf K c))=θ/\ac3 mainGlobals (tabOf K c)=ψ
abbrev LS (K:gV) (mg:Str->Option XI) (base:Y2) (x:Str) (st:aaN):Prop:=∀f fd,mg x=ξ (.ref f)->Fun K x x st f fd->∃c PT,Mkr K mg base fd c PT
def Ue {K:gV}{st:aaN}{kV doc pm ct:XI} (a:X7 K mainGlobals x=ξ (ξ (.ref f)))
  (l:K.lookup f=ξ ⟨oc,od,.func (Yz x x (dq st) (br st) (aj st) .none kV doc pm an (.ref c) ct),osl⟩) (cc:aaa K (.ref c) x=θ) (k:X6 K (.ref f)=θ)
  (h1:Zd K c (tabOf K c)=θ) (h2:ts.any (ac3 (tabOf K c))=θ) (h3:ac3 mainGlobals (tabOf K c)=ψ):PN K ts x st:=⟨f,_,c,a,xS l cc k,rfl,h1,h2,h3⟩
def LS.of {K:gV}{st:aaN} (X:K.In h) (G:h.Ns mainGlobals mg) (hB:∀P∈ts,base.BuiltinsAt mg P) (hU:mkU K=θ) (m:PN K ts x st):LS K mg base x st:=by
 intro f fd hm F
 obtain⟨f2,fd2,c,a,F2,hc,h1,h2,h3⟩:=m
 have hm2:=Zq X G a
 rw[hm] at hm2
 cases hm2
 obtain⟨oc,od,osl,l1⟩:=f_ F
 obtain⟨oc',od',osl',l2⟩:=f_ F2
 rw[l1] at l2
 cases l2
 obtain⟨P,hP,e⟩:=Ze.mp h2
 have e:=Nat.eq_of_beq_eq_true e
 refine⟨c,tabOf K c,hc,h1,hB _ (by simp_all),fun z=>?_,hU⟩
 simp_all
def Mt {k:Nat}{m:MF}{l:PySem.W.OpenLaw}{q:X5}{loose:List Str}{XP:(Str->Option XI)->Y2->Prop}{YP:Yw->Y2->Prop}{d:DefRec}{K:Params->gV}{ts:List XW} (hn:l.most=ξ 63) (hdf:d.params.defaults=[]) (hr:b8 k callerA)
  (hY:∀(w:Yw) (h:Y2),YP w h->(K w.params).In h) (hT:∀(w:Yw) (h:Y2),YP w h->∀P∈ts,h.get? P=ξ (aaz #[])) (hI:∀P,Pr (K P) ts=θ)
  (ok:∀ns:List Int,ns.length<=63->∃h,m [.scr (ns.map D.int)] []=.ok (.bl θ) h)
  (F:∀(w:Yw) (mg:Str->Option XI) (fa:XW) (h:Y2),(K w.params).In h->h.Ns mainGlobals mg->mg d.name=ξ (.ref fa) →
   ∃fd:Zy,(∀(s:XO) (u:XI),acT s fd ⟨[u],[]⟩ [("_law_script", u)])/\∀base:Y2,(K w.params).In base->base.Ns mainGlobals mg->(∀P∈ts,base.BuiltinsAt mg P)->cJ l.prog w (K w.params) mg base CX0 k fa fd ["_law_script"] (spM (K w.params) (gOf mg) 1 m)) :
  PySem.W.WalkO q loose XP YP l.row.toRowW d [] (fun f vs=>ac9 f vs):=by
 refine Att.AX hn hdf fun w aP s₁ mg mb fa o pm cd doc a vs ns G Y ho hd hcd hmg hobj hints hlen hg=>?_
 have KX:=hY w _ Y
 obtain⟨fd,hb,hF⟩:=F w mg fa _ KX G.T.g hmg
 have i:=hI w.params
 unfold Pr at i
 obtain⟨i1,i2⟩:=Bool.and_eq_true_iff.mp i
 have tq:∀P∈ts,∃c,(K w.params).lookup P=ζ/\Zd (K w.params) c P=true:=fun P hP=>by
  have z:=Bool.and_eq_true_iff.mp (X_.mp i2 P hP)
  obtain⟨p,_,y⟩:=Ze.mp z.2
  split at y
  ·split at y
   ·rename_i c _;exact⟨c,by simpa using z.1,y⟩
   grind
  grind
 refine Gv (sp:=fun vs H Q _=>∃a ns,vs=[V.ref a]/\ns.length<=63/\(∀P∈ts,H P=ξ (.tbl #[]))/\Fro (K w.params) H a (ns.map V.int)/\∀v H',v=V.bl θ->Q v H') KX G.T.g G.T.b G.T.builtins G.T.nolimit hg G.T.bmain (hT w _ Y) (fun P hP=>let ⟨c,_,e⟩:=tq P hP;⟨c,PySem.W.codeHd_of_K KX e⟩) (fun P hP=>let ⟨_,e,_⟩:=tq P hP;e) hobj hints (XR hlen (by decide)) hr
  (fun base kb nb bb=>(hF base kb nb bb).imp fun vs H Q E z=>?_) hb (fun H h1 h2=>⟨a,ns,rfl,hlen,h1,h2,fun _ _ z=>z⟩)
 obtain⟨a,ns,rfl,hl,hO,hS,hQ⟩:=z
 obtain⟨hh,e⟩:=ok ns hl
 refine⟨rfl,[],[.scr (ns.map D.int)],[],.cons (.scr hS (ay.ints ns)) .nil,⟨rfl,fun n m p z=>by simp at z,fun n p o z=>by simp at z,fun f q e=>.inl (hO _ ?_)⟩,?_⟩
 ·obtain⟨p,hp,z⟩:=Ze.mp (X_.mp i1 q (yE e))
  simp_all
 ·rw[e]
  intro v H' α' _ _ rd
  cases rd
  simp_all
abbrev kR (cells:List (Str × XW)):List (Str × ZG)->List (Str × XW)->List (Str × XW)
 | [],cs=>cs
 | (n,k)::r,cs=>kR cells r (if k == .free then (n,(cells.lookup n).getD 0)::cs else cs)
def D0 {env:Env}:∀(ns:List (Str × ZG)) (cs:List (Str × XW)),(∀q∈ns,q.2=.free->(env.cells.lookup q.1).isSome=θ) →
  (forIn ns cs fun(x:Str × ZG) (r:List (Str × XW))=>match x with
   | (name,kind)=>if (kind == .free)=θ then do let c ← cellOf env name;pure (Za ((name,c)::r)) else pure (Za r):Sem (List (Str × XW)))=pure (kR env.cells ns cs)
 | [],cs,_=>by rfl
 | (n,k)::r,cs,h=>by
  rw[acj]
  have ih:=fun cs=>D0 r cs fun q hq=>h q (XM _ hq)
  by_cases hk:(k == .free)=θ
  ·obtain⟨c,hc⟩:=Zs.mp (h (n,k) (XU ..) (beq_iff_eq.mp hk))
   simp only[hk,kR,hc,cellOf]
   exact ih _
  ·simp only[Bool.not_eq_true] at hk
   simp only[hk,kR]
   grind
def N6 (h:∀q∈scope.names,q.2=.free->(env.cells.lookup q.1).isSome=θ):closureFor scope env=pure (kR env.cells scope.names []):=by
 exact(congrArg (fun m:Sem (List (Str × XW))=>m >>= fun s=>pure s) (D0 scope.names [] h)).trans (pure_bind _ _)
def BQ {cells:List (Str × XW)}{z:Str}{c:XW}:∀(ns:List (Str × ZG)) (cs:List (Str × XW)),(∀q∈ns,q.2=.free->(cells.lookup q.1).isSome=θ)->(∀z c,cs.lookup z=ξ c->cells.lookup z=ξ c)->(kR cells ns cs).lookup z=ξ c->cells.lookup z=ξ c
 | [],cs,_,h,e=>h z c e
 | (n,k)::r,cs,hf,h,e=>by
  refine BQ r _ (fun q hq=>hf q (XM _ hq)) (fun z c=>?_) e
  split
  ·rename_i hk
   rw[List.lookup_cons]
   split
   ·rename_i hz
    intro q
    cases q
    obtain⟨c,hc⟩:=Zs.mp (hf (n,k) (XU ..) (beq_iff_eq.mp hk))
    simp_all
   simp_all
  simp_all
def xj {cells:List (Str × XW)}{z:Str}:∀(ns:List (Str × ZG)) (cs:List (Str × XW)),(∃c,cs.lookup z=ξ c)->∃c,(kR cells ns cs).lookup z=ξ c
 | [],cs,h=>h
 | (n,k)::r,cs,h=>by
  refine xj r _ ?_
  grind
def Be {cells:List (Str × XW)}{z:Str}:∀(ns:List (Str × ZG)) (cs:List (Str × XW)),(z,aao)∈ns->∃c,(kR cells ns cs).lookup z=ξ c
 | (n,k)::r,cs,h=>by
  rcases X4.mp h with e | e
  ·cases e
   refine xj r _ ?_
   simp
  ·exact Be r _ e
section
variable {P:X5}{w:Yw}{K:gV}{mg:Str->Option XI}{base:Y2}{g:GG}
def Q_ {x:Str}{st:aaN}{f:XW}{fd:Zy}{N ps:List Str}{k:Nat}{mb:MS} (rows:List aaN){params:acG}{body:YL}{scope:abe}{pos rpos:Pos} (lf y:Str) (ys:List Str) (ix:List Nat){c PT:XW} (F:Fun K x x st f fd) (S:a9 N ps (aj st)) (M:Mkr K mg base fd c PT)
  (hbd:br st=rows++[.Return (ξ (.Lambda params body scope pos)) rpos]) (hdef:∀env,defaultsOf params env=([],[]))
  (hfr:∀q∈scope.names,q.2=.free->(aj st).names.lookup q.1=ξ .cell) (hyf:∀z∈ys,(z,aao)∈scope.names)
  (hix:ix.map (fun i=>N[i]?)=ys.map ξ) (T:AN lf y (x++".<locals>." ++ "<lambda>") ys params body scope)
  (hb:∀(cdv:XI) (A:YK) (outer:List Env) (s:XO) (H:Hp) (E:XK),b8 k (A.deeper (envOfC x (aj st) s.heap.objs.size f cdv)) →
   PSs (gF CX0 P w K mg base N x (aj st) f cdv A outer s H E).nox rows (tMS K g E00 mb)):cJ P w K mg base CX0 (k+1) f fd ps (spM K g ps.length (Nz N.length mb lf ix)):=by
 refine Sn F S M hbd hdef (fun L cdv=>?_) (fun z hz=>hfr (z,.free) (hyf z hz) rfl) hix T hb
 have hs:∀q∈scope.names,q.2=.free->((envOfC x (aj st) L f cdv).cells.lookup q.1).isSome=true:=fun q hq e=>ZH _ _ _ (.inl (hfr q hq e))
 exact⟨_,N6 hs,fun z c e=>BQ scope.names [] hs (fun _ _ z=>nomatch z) e,fun z hz=>Be scope.names [] (hyf z hz)⟩
end
end L2.FE
namespace L2.FE
open PySem
section
variable {β γ:Type}{h h1:Hh}{env:En}
@[simp] def gz {f:β->Hh->R γ}:(R.ok b h).bind f=f b h:=rfl
@[simp] def Jq {f:β->Hh->R γ}:(R.err x h).bind f=.err x h:=rfl
@[simp] def Tr:(R.bad).bind f=.bad:=rfl
@[simp] def TJ [Decidable c]{a b:R β}{f:β->Hh->R γ}:(if c then a else b).bind f=if c then a.bind f else b.bind f:=by split<;>rfl
@[simp] def e_C:cC d env h=.ok d h:=rfl
@[simp] def HF {r:En}:ag 0 (ξ d::r) h=.ok d h:=rfl
@[simp] def HR {r:En}:ag (i+1) (x::r) h=ag i r h:=rfl
@[simp] def Sy:ak f a b env h=(a env h).bind fun x h1=>(b env h1).bind fun y h2=>f x y h2:=rfl
@[simp] def Xu:cUn f a env h=(a env h).bind fun x h1=>f x h1:=rfl
@[simp] def Su:ah env h=.ok [] h:=rfl
@[simp] def P2:aa a r env h=(a env h).bind fun x h1=>(r env h1).bind fun xs h2=>.ok (x::xs) h2:=rfl
@[simp] def PV:af f a env h=(a env h).bind f:=rfl
@[simp] def MD:cG f o a env h=(o env h).bind fun x h1=>if isL x h1=θ then (a env h1).bind fun xs h2=>f x xs h2 else .bad:=rfl
@[simp] def Qd:aF f a env h=(a env h).bind f:=rfl
@[simp] def Vr:jL a env h=(a env h).bind fun b h1=>.ok (!b) h1:=rfl
@[simp] def Wu:pW a b env h=(a env h).bind fun x h1=>if x=θ then b env h1 else .ok ψ h1:=rfl
@[simp] def WN:vf a b env h=(a env h).bind fun x h1=>if x=θ then .ok θ h1 else b env h1:=rfl
@[simp] def Xw:cIf c a b env h=(c env h).bind fun x h1=>if x=θ then a env h1 else b env h1:=rfl
@[simp] def WG:asB (.bl b) h=.ok b h:=rfl
@[simp] def Wx:Et a b env h=(a env h).bind fun x h1=>(asB x h1).bind fun k h2=>if k=θ then b env h2 else .ok (.bl ψ) h2:=rfl
@[simp] def Xp:JI a b env h=(a env h).bind fun x h1=>(asB x h1).bind fun k h2=>if k=θ then .ok (.bl θ) h2 else b env h2:=rfl
@[simp] def U3:JC a env h=(a env h).bind fun x h1=>(asB x h1).bind fun k h2=>.ok (.bl (!k)) h2:=rfl
@[simp] def UD:mC f f' a b c env h=(a env h).bind fun x h1=>(b env h1).bind fun y h2=>(f x y h2).bind fun z h3=>(asB z h3).bind fun k h4=>if k=θ then (c env h4).bind fun w h5=>f' y w h5 else .ok (.bl ψ) h4:=rfl
@[simp] def Sl:fZ env h=.ok ζ h:=rfl
abbrev OH:D->Hh->R (Option Int):=fun d h1=>match d with
 | .int i=>.ok (ξ i) h1
 | _=>.bad
@[simp] def UM:OH (.int i) h=.ok (ξ i) h:=rfl
@[simp] def VN:ft a env h=(a env h).bind OH:=rfl
@[simp] def UR:e9 nl a l u env h=(a env h).bind fun x h1=>(l env h1).bind fun lo h2=>(u env h2).bind fun hi h3=>Fq nl x lo hi h3:=rfl
@[simp] def V6:bT env h=.ok (.nx env) h:=rfl
@[simp] def WO:VR env h=.ok (.bk env) h:=rfl
@[simp] def WR:V5 env h=.ok (.ct env) h:=rfl
@[simp] def V8:TQ env h=.ok (.rt .non) h:=rfl
abbrev Kb (b:MS):Fl->Hh->R Fl:=fun fl h1=>match fl with
 | .nx e=>b e h1
 | fl=>.ok fl h1
@[simp] def Xr:Kb b (.nx e) h=b e h:=rfl
@[simp] def XA:Kb b (.bk e) h=.ok (.bk e) h:=rfl
@[simp] def Xz:Kb b (.ct e) h=.ok (.ct e) h:=rfl
@[simp] def Xy:Kb b (.rt d) h=.ok (.rt d) h:=rfl
@[simp] def Xh:av a b env h=(a env h).bind (Kb b):=by
 rfl
@[simp] def VX:bR a env h=(a env h).bind fun _ h1=>.ok (.nx env) h1:=rfl
@[simp] def W8:aQ a env h=(a env h).bind fun d h1=>.ok (.rt d) h1:=rfl
@[simp] def W5:dI c a b env h=(c env h).bind fun x h1=>if x=θ then a env h1 else b env h1:=rfl
@[simp] def WX:aZ i a env h=(a env h).bind fun d h1=>.ok (.nx (env.set i (ξ d))) h1:=rfl
abbrev R3 (i j:Nat) (env:En):List D->Hh->R Fl:=fun ds h1=>match ds with
 | [x,y]=>.ok (.nx ((env.set i (ξ x)).set j (ξ y))) h1
 | _=>.bad
@[simp] def Vj:R3 i j env [x,y] h=.ok (.nx ((env.set i (ξ x)).set j (ξ y))) h:=rfl
@[simp] def W9:HJ i j a env h=(a env h).bind (R3 i j env):=by
 rfl
abbrev Tx (i j k:Nat) (env:En):List D->Hh->R Fl:=fun ds h1=>match ds with
 | [x,y,z]=>.ok (.nx (((env.set i (ξ x)).set j (ξ y)).set k (ξ z))) h1
 | _=>.bad
@[simp] def Uz:Tx i j k env [x,y,z] h=.ok (.nx (((env.set i (ξ x)).set j (ξ y)).set k (ξ z))) h:=rfl
@[simp] def Oh:gN i d env h=.ok (env.set i (ξ d)) h:=rfl
@[simp] def WW:gT2 i j (.tup [x,y]) env h=.ok ((env.set i (ξ x)).set j (ξ y)) h:=rfl
@[simp] def Xn:LP i j a env h=(a env h).bind fun d h1=>(gT2 i j d env h1).bind fun e h2=>.ok (.nx e) h2:=rfl
@[simp] def WT:MU i f a env h=(ag i env h).bind fun x h0=>(a env h0).bind fun y h1=>(f x y h1).bind fun z h2=>.ok (.nx (env.set i (ξ z))) h2:=rfl
@[simp] def UG:zR f o i v env h=(v env h).bind fun x h1=>(o env h1).bind fun y h2=>(i env h2).bind fun z h3=>(f y z x h3).bind fun _ h4=>.ok (.nx env) h4:=rfl
@[simp] def Uy:xT o i v env h=(o env h).bind fun x h1=>(i env h1).bind fun y h2=>(Ld x y h2).bind fun z h3=>(v env h3).bind fun u h4=>(xn z u h4).bind fun t h5=>(j8 x y t h5).bind fun _ h6=>.ok (.nx env) h6:=rfl
abbrev Qt:Fl->Hh->R D:=fun fl h1=>match fl with
 | .rt d=>.ok d h1
 | .nx _=>.ok .non h1
 | _=>.bad
@[simp] def Xs:Qt (.rt d) h=.ok d h:=rfl
@[simp] def Xv:Qt (.nx e) h=.ok .non h:=rfl
def aH:ba n m ds h=(m (ds.map ξ++X0 (n - ds.length) ζ) h).bind Qt:=by
 rfl
section
variable {nl:NL}
@[simp] def Vn:bg nl (.int i) (.int j) h=.ok (.int (i+j)) h:=rfl
@[simp] def UO:xn (.int i) (.int j) h=.ok (.int (i+j)) h:=rfl
@[simp] def VO:gm (.int i) (.int j) h=.ok (.int (i - j)) h:=rfl
@[simp] def VL:kL (.int i) h=.ok (.int (-i)) h:=rfl
@[simp] def Xk:dLt (.int i) (.int j) h=.ok (.bl (decide (i<j))) h:=by unfold dLt;rw[rD];rfl
@[simp] def Xd:dLe (.int i) (.int j) h=.ok (.bl (decide (i<=j))) h:=by unfold dLe;rw[zm];rfl
@[simp] def WU:dGt (.int i) (.int j) h=.ok (.bl (decide (j<i))) h:=by unfold dGt;rw[rD];rfl
@[simp] def W6:dGe (.int i) (.int j) h=.ok (.bl (decide (j<=i))) h:=by unfold dGe;rw[zm];rfl
@[simp] def U5:kN nl (.int i) (.int j) h=if sml i=θ/\sml j=θ then .ok (.int (i*j)) h else .bad:=rfl
@[simp] def UI:RX (.int i) (.int j) h=if sml i=θ/\sml j=θ then .ok (.int (i*j)) h else .bad:=rfl
@[simp] def UU:AM (.int i) (.int j) h=if 0<j/\sml j=θ then .ok (.int (i / j)) h else .bad:=rfl
@[simp] def VA:xM (.int i) (.int j) h=if 0<j then .ok (.int (i % j)) h else .bad:=rfl
@[simp] def VV:PJ (.int i) (.int j) h=if 0<=j/\j.natAbs<=1000/\sml i=θ then .ok (.int (i ^ j.toNat)) h else .bad:=rfl
@[simp] def VJ:Im [.int i,.int j] h=.ok (.int (max i j)) h:=by
 have:(if j > i then j else i)=max i j:=by split<;>lia
 rw[<- this];rfl
@[simp] def UZ:Bn [.int i] h=.ok (.int i) h:=rfl
@[simp] def We:Bn [.bl b] h=.ok (.int (if b then 1 else 0)) h:=rfl
@[simp] def Xl:bz ds h=if ds.length<=1000000 then .ok (.tup ds) h else .bad:=rfl
@[simp] def WZ:bV nl ds h=if ds.length<=1000000 then nl ds h else .bad:=rfl
@[simp] def Wh:dy ds h=.ok (.ref h.length) (h++[.lst ds]):=rfl
@[simp] def V4:aA ds h=.ok (.frl ds) h:=rfl
@[simp] def Vu:bA [.tup ds] h=.ok (.int ds.length) h:=rfl
@[simp] def Wb:bA [.frl ds] h=.ok (.int ds.length) h:=rfl
@[simp] def Wy:bA [.scr ds] h=.ok (.int ds.length) h:=rfl
abbrev ixK (ds:List D) (i:Int) (h:Hh):R D:=match atI ds i with
 | some d=>.ok d h
 | none=>.bad
@[simp] def Jp:dIx (.tup ds) (.int i) h=ixK ds i h:=rfl
@[simp] def W3:dIx (.frl ds) (.int i) h=ixK ds i h:=rfl
@[simp] def Xa:dIx (.scr ds) (.int i) h=ixK ds i h:=rfl
def pZ (e:aE h n=ξ ds):dIx (.ref n) (.int i) h=ixK ds i h:=by
 have z:jR (.ref n) h=ξ ds:=e
 delta dIx;rw[z];rfl
def Jn {ds:List D}{i:Int}{d:D} (e:atI ds i=ξ d):ixK ds i h=.ok d h:=by simp only[ixK,e]
def KA {j:Nat}{v:β} (h:xs[j]?=ξ v) (e:i=(j:Int)):atI xs i=ξ v:=by rw[e];exact Oj h
def nR {j:Nat} (e:i=(j:Int)) (e2:ds[j]?=ξ d):ixK ds i h=.ok d h:=Jn (KA e2 e)
abbrev gI (ns:List Int) (i:Nat):Int:=ns.getD i 0
def eI (hj):gI ns j=ns[j]:=by
 unfold gI;simp_all
def DR (hj:j<ns.length):gI ns j∈ns:=by rw[eI hj];simp
def fX {j:Nat} (e:i=(j:Int)) (hj:j<ns.length):ixK (ns.map D.int) i h=.ok (.int (gI ns j)) h:=by
 refine nR e ?_
 rw[Yi,XS hj,eI hj];rfl
@[simp] def WY:ixK (d::ds) 0 h=.ok d h:=nR rfl rfl
@[simp] def Xq:ixK (d::d1::ds) 1 h=.ok d1 h:=nR rfl rfl
def Ic:atI (xs++[x]) (-1)=ξ x:=by
 unfold atI ixN
 rw[if_neg (by decide),if_pos (by grind)]
 have:((-1:Int)+((xs++[x]).length:Nat)).toNat=xs.length:=by grind
 simp_all
@[simp] def RR:ixK (xs++[x]) (-1) h=.ok x h:=Jn Ic
@[simp] def VE:Fq nl (.tup ds) lo hi h=.ok (.tup (cutD ds lo hi)) h:=rfl
@[simp] def Ve:Fq nl (.frl ds) lo hi h=nl (cutD ds lo hi) h:=rfl
@[simp] def U6:Fq nl (.scr ds) lo hi h=nl (cutD ds lo hi) h:=rfl
@[simp] def WA:bg nl (.tup a) (.tup b) h=if a.length+b.length<=1000000 then .ok (.tup (a++b)) h else .bad:=rfl
@[simp] def UT:bg nl (.frl a) (.frl b) h=if a.length+b.length<=1000000 then nl (a++b) h else .bad:=rfl
@[simp] def U1:bg nl (.str a) (.str b) h=if a.length+b.length<=1000000 then .ok (.str (a++b)) h else .bad:=rfl
@[simp] def Vo:kN nl (.frl a) (.int k) h=if k.natAbs<=1000000/\a.length*k.toNat<=1000000 then nl (X0 k.toNat a).flatten h else .bad:=rfl
@[simp] def V2:m8 nl (.tup ds) h=.ok (.tup ds.reverse) h:=rfl
@[simp] def Vs:m8 nl (.frl ds) h=nl ds.reverse h:=rfl
@[simp] def UN:dList nl [.tup ds] h=nl ds h:=rfl
@[simp] def UK:dList nl [.frl ds] h=nl ds h:=rfl
@[simp] def VQ:dv [.tup ds] h=.ok (.tup ds) h:=rfl
@[simp] def U9:dv [.frl ds] h=.ok (.tup ds) h:=rfl
@[simp] def VG {ns:List Int}:K_ [.frl (ns.map D.int)] h=.ok (.int ns.sum) h:=by simp only[K_,jR,kg]
@[simp] def Wi:kW (.bl b) h=.ok b h:=rfl
@[simp] def Wg:kW (.int i) h=.ok (i != 0) h:=rfl
@[simp] def VH:kW (.frl ds) h=.ok (!ds.isEmpty) h:=rfl
@[simp] def Vb:kW (.tup ds) h=.ok (!ds.isEmpty) h:=rfl
@[simp] def WM:dEq (.int i) (.int j) h=.ok (.bl (i == j)) h:=rfl
@[simp] def Xj:dNe (.int i) (.int j) h=.ok (.bl (!(i == j))) h:=rfl
@[simp] def Xe:dEq (.str i) (.str j) h=.ok (.bl (i == j)) h:=rfl
@[simp] def WS:dNe (.str i) (.str j) h=.ok (.bl (!(i == j))) h:=rfl
@[simp] def WH:dEq (.bl i) (.bl j) h=.ok (.bl (i == j)) h:=rfl
@[simp] def WB:dNe (.bl i) (.bl j) h=.ok (.bl (!(i == j))) h:=rfl
@[simp] def UB:T9 [.int i] h=if sml i=θ then .ok (.str (toString i)) h else .bad:=rfl
@[simp] def W4:Wn neg d .non h=.ok (.bl (if neg then !Ek d else Ek d)) h:=rfl
@[simp] def Vx:m9 "int" (.int i) h=.ok (.bl θ) h:=rfl
@[simp] def U4:m9 "int" (.bl b) h=.ok (.bl θ) h:=rfl
@[simp] def Vc:m9 "bool" (.int i) h=.ok (.bl ψ) h:=rfl
@[simp] def Vt:m9 "bool" (.bl b) h=.ok (.bl θ) h:=rfl
@[simp] def Vi:m9 "tuple" (.tup ds) h=.ok (.bl θ) h:=rfl
@[simp] def Vy:m9 "tuple" (.frl ds) h=.ok (.bl ψ) h:=rfl
@[simp] def Vf:m9 "list" (.frl ds) h=.ok (.bl θ) h:=rfl
@[simp] def VI:m9 "list" (.tup ds) h=.ok (.bl ψ) h:=rfl
@[simp] def Uc {j:Int}:oM nl [.int j] h=if j.natAbs<=1000000 then nl (bI 0 j.toNat) h else .bad:=by
 by_cases z:j.natAbs<=1000000
 ·rw[if_pos z];simp only[oM,vk,if_pos z]
 ·rw[if_neg z];simp only[oM,vk,if_neg z]
@[simp] def Uw {j:Int}:sf [.int j] h=if j.natAbs<=1000000 then .ok (.tup (bI 0 j.toNat)) h else .bad:=by
 by_cases z:j.natAbs<=1000000
 ·rw[if_pos z];simp only[sf,vk,if_pos z]
 ·rw[if_neg z];simp only[sf,vk,if_neg z]
@[simp] def cT {t:Hh}:aE (h++.lst ds::t) h.length=ξ ds:=by
 unfold aE;simp
@[simp] def lW {t:Hh}:(h++o::t).set h.length o'=h++o'::t:=by
 simp
def r9 {n:Nat}{ds:List D} (e:aE h n=ξ ds):isL (.ref n) h=true:=by simp[isL,e]
@[simp] def Xo:isL (.frl ds) h=true:=rfl
def AB (e:aE h n=ξ ds):bP (.ref n) [d] h=if ds.length<1000000 then .ok .non (h.set n (.lst (ds++[d]))) else .bad:=by delta bP;simp_all
def P4 (e:aE h n=ξ ds):bA [.ref n] h=.ok (.int ds.length) h:=by
 unfold aE at e
 split at e
 ·rename_i ds' q;cases e;delta bA;simp_all
 grind
def RG (e:aE h n=ξ ds):dv [.ref n] h=.ok (.tup ds) h:=by delta dv;simp_all
def qX (e:aE h n=ξ ds) (e2:ixN ds.length i=ξ j):j8 (.ref n) (.int i) v h=.ok () (h.set n (.lst (ds.set j v))):=by delta j8;simp_all
@[simp] def UA {t:Hh}:bA [.ref h.length] (h++.set k::t)=.ok (.int k.length) (h++.set k::t):=by
 have:(h++O.set k::t)[h.length]?=ξ (.set k):=by rw[Yh (XJ _)];simp
 delta bA;dsimp only;rw[this]
@[simp] def U8:Ih [.tup (ns.map D.int)] h=if ns.length<=4000 then .ok (.ref h.length) (h++[.set (unl ns)]) else .bad:=by delta Ih;dsimp only;rw[kg]
@[simp] def V_ {t:Hh}:isL (.ref h.length) (h++.lst ds::t)=true:=r9 cT
@[simp] def lN {t:Hh}:bP (.ref h.length) [d] (h++.lst ds::t)=if ds.length<1000000 then .ok .non (h++.lst (ds++[d])::t) else .bad:=by rw[AB cT,lW]
@[simp] def WI {t:Hh}:dIx (.ref h.length) (.int i) (h++.lst ds::t)=ixK ds i (h++.lst ds::t):=pZ cT
def D4 {n j:Nat} (e:i=(j:Int)) (hj:j<n):ixN n i=ξ j:=by
 subst e
 unfold ixN
 simp_all
end
@[simp] def VC:fE jh a env h=(a env h).bind jh:=rfl
@[simp] def VY:fE wb a env h=(a env h).bind wb:=rfl
@[simp] def Vg:jh [.int j] h=if j.natAbs<=1000000 then .ok (.snap (bI 0 j.toNat)) h else .bad:=rfl
@[simp] def VW:wb [.int i,.int j] h=if i.natAbs<=1000000/\j.natAbs<=1000000 then .ok (.snap (bI i (j - i).toNat)) h else .bad:=rfl
@[simp] def RU:du a env h=(a env h).bind An:=rfl
@[simp] def US:kX a env h=(a env h).bind sI:=rfl
@[simp] def WK:An (.tup ds) h=.ok (.snap ds) h:=rfl
@[simp] def Xf:An (.frl ds) h=.ok (.snap ds) h:=rfl
@[simp] def W0:An (.scr ds) h=.ok (.snap ds) h:=rfl
@[simp] def W_:SO a env h=(a env h).bind Pj:=rfl
@[simp] def Xg:Pj [.frl ds,.frl es] h=.ok (.snap (DK ds es)) h:=rfl
@[simp] def Wl:SG a env h=(a env h).bind Nc:=rfl
@[simp] def Wc:Nc [.frl ds,.frl es] h=.ok (.snap (DK ds es)) h:=rfl
@[simp] def Ux:Nc [.tup ds,.tup es] h=.ok (.snap (DK ds es)) h:=rfl
@[simp] def Va:SW nl (.tup ds) (.int k) h=if ds.isEmpty=ψ/\1<=k/\k.natAbs<=1000000/\ds.length*k.toNat<=1000000 then .ok (.tup (X0 k.toNat ds).flatten) h else .bad:=rfl
def zU {tab:Str->Option MF}{f:ME}{a:MA}{x:Str}{m:MF}{h1:Hh} (e:f env h=.ok (.fn x) h1) (t:tab x=ξ m):tK tab f a env h=(a env h1).bind m:=by simp only[tK,e,R.bind,t]
@[simp] def WC:gT3 i j k (.tup [x,y,z]) env h=.ok (((env.set i (ξ x)).set j (ξ y)).set k (ξ z)) h:=rfl
@[simp] def WJ:Wa i j k a env h=(a env h).bind fun d h1=>(gT3 i j k d env h1).bind fun e h2=>.ok (.nx e) h2:=rfl
@[simp] def UJ:sI (.tup ds) h=.ok (.snap (fJ ds)) h:=rfl
@[simp] def UC:sI (.frl ds) h=.ok (.snap (fJ ds)) h:=rfl
def R4 (e:aE h n=ξ ds):An (.ref n) h=.ok (.live n) h:=by simp only[An,e]
abbrev QR (tg:D->En->Hh->R En) (body:MS) (env:En):Src->Hh->R Fl:=fun sr h1=>match sr with
 | .snap ds=>eg tg body ds env h1
 | .live n=>l7 (Src.live n).rdr tg body ((aE h1 n).getD []).length 0 env h1
 | .liveE n=>l7 (Src.liveE n).rdr tg body ((aE h1 n).getD []).length 0 env h1
@[simp] def Wo:QR tg body env (.snap ds) h=eg tg body ds env h:=rfl
@[simp] def Tz:fh mi tg body env h=(mi env h).bind (QR tg body env):=by
 congr 1
abbrev RO (nl:NL) (tt:MT) (te:ME) (ee:D->En):Src->Hh->R D:=fun sr h1=>if sr.fuel h1<=1000000 then
 (match sr with
  | .snap ds=>cu tt te ee ds h1
  | .live n=>iq (Src.live n).rdr tt te ee ((aE h1 n).getD []).length 0 [] h1
  | .liveE n=>iq (Src.liveE n).rdr tt te ee ((aE h1 n).getD []).length 0 [] h1).bind nl else .bad
@[simp] def VB:bZ nl mi ix tt te env h=(mi env h).bind (RO nl tt te (ky ix env)):=rfl
@[simp] def Uu:RO nl tt te ee (.snap ds) h=if ds.length<=1000000 then (cu tt te ee ds h).bind nl else .bad:=rfl
@[simp] def RH {lo:Int}{n:Nat}:(bI lo n).length=n:=by simp[bI]
@[simp] def RL {ds:List D}:(fJ ds).length=ds.length:=by simp[fJ]
@[simp] def Ut (x:Option β):Option.join (ξ x)=x:=by rfl
@[simp] def Xi:ky ix env=fun d=>ξ d::ix.map fun i=>(env[i]?).join:=rfl
@[simp] def R_:tt1 env h=.ok θ h:=rfl
@[simp] def Xm {m:En->Hh->R β}{r:En}:unp m (ξ (.tup [x,y])::r) h=m (ξ x::ξ y::r) h:=rfl
@[simp] def UP:sM f c b env h=i_ c b f env h:=rfl
abbrev Kp (tg:D->En->Hh->R En) (body:MS) (ds:List D):Fl->Hh->R Fl:=fun fl h2=>match fl with
 | .nx e=>eg tg body ds e h2
 | .ct e=>eg tg body ds e h2
 | .bk e=>.ok (.nx e) h2
 | .rt d=>.ok (.rt d) h2
def qW:eg tg body [] env h=.ok (.nx env) h:=rfl
def gJ:eg tg body (d::ds) env h=(tg d env h).bind fun e1 h1=>(body e1 h1).bind (Kp tg body ds):=rfl
@[simp] def Jr:Kp tg body ds (.nx e) h=eg tg body ds e h:=rfl
@[simp] def W7:Kp tg body ds (.ct e) h=eg tg body ds e h:=rfl
@[simp] def Xb:Kp tg body ds (.bk e) h=.ok (.nx e) h:=rfl
@[simp] def WL:Kp tg body ds (.rt d) h=.ok (.rt d) h:=rfl
def PX:bI 0 2=[.int 0,.int 1]:=rfl
def xg (ns):fJ (ns.map D.int)=(XF ns.length).map fun(i:Nat)=>D.tup [.int i,.int (gI ns i)]:=by
 unfold fJ
 rw[XE]
 apply ZD
 intro i hi
 have hi:=X8.mp hi
 rw[Ym,Yi,XS hi,eI hi];rfl
def Ai {σ X:Type}{tg:D->En->Hh->R En}{body:MS} (E:σ->En) (G:σ->Hh) (enc:X->D) (f:σ->X->σ) (I:List X->σ->Prop) (st:∀s x r,I (x::r) s->I r (f s x)/\((tg (enc x) (E s) (G s)).bind body=.ok (.nx (E (f s x))) (G (f s x))\/(tg (enc x) (E s) (G s)).bind body=.ok (.ct (E (f s x))) (G (f s x)))) :
  ∀(xs:List X) (s:σ),I xs s->eg tg body (xs.map enc) (E s) (G s)=.ok (.nx (E (xs.foldl f s))) (G (xs.foldl f s))/\I [] (xs.foldl f s)
 | [],s,i=>⟨rfl,i⟩
 | x::xs,s,i=>by
  obtain⟨i1,e⟩:=st s x xs i
  obtain⟨e2,i2⟩:=Ai E G enc f I st xs (f s x) i1
  refine⟨?_,i2⟩
  rw[XT,eg]
  rw[<- bX]
  rcases e with e | e<;>rw[e]<;>exact e2
def comp_map {X:Type}{tt:MT}{te:ME}{ee:D->En} (enc:X->D) (p:X->Bool) (g:X->D):∀(xs:List X),(∀x∈xs,tt (ee (enc x)) h=.ok (p x) h/\(p x=θ->te (ee (enc x)) h=.ok (g x) h)) →
  cu tt te ee (xs.map enc) h=.ok ((xs.filter p).map g) h
 | [],_=>rfl
 | x::xs,st=>by
  obtain⟨e1,e2⟩:=st x XU
  have ih:=comp_map enc p g xs fun y hy=>st y (XM _ hy)
  rw[XT,cu,e1,gz]
  cases hp:p x with
  | false=>simp_all
  | true=>simp_all
def jP {X:Type} (enc) (g) (xs:List X) (st:∀x∈xs,te (ee (enc x)) h=.ok (g x) h):cu tt1 te ee (xs.map enc) h=.ok (xs.map g) h:=by
 have:=comp_map (tt:=tt1) enc (fun _=>θ) g xs fun x hx=>⟨rfl,fun _=>st x hx⟩
 rw[Z5.mpr fun _ _=>rfl] at this
 lia
def oy (n):bI 0 n=(XF n).map fun(i:Nat)=>D.int i:=by
 apply ZD
 simp
def nQ (p) (g) (st:∀i,i<n->tt (ee (.int (i:Nat))) h=.ok (p i) h/\(p i=θ->te (ee (.int (i:Nat))) h=.ok (g i) h)) :
  cu tt te ee (bI 0 n) h=.ok (((XF n).filter p).map g) h:=by
 rw[oy,comp_map (fun(i:Nat)=>D.int i) p g (XF n) fun i hi=>st i (X8.mp hi)]
def jK (g) (st:∀i,i<n->te (ee (.int (i:Nat))) h=.ok (g i) h) :
  cu tt1 te ee (bI 0 n) h=.ok ((XF n).map g) h:=by
 rw[oy,jP (fun(i:Nat)=>D.int i) g (XF n) fun i hi=>st i (X8.mp hi)]
def Ab {σ:Type} (enc) (n) (E:σ->En) (G:σ->Hh) (f) (I:Nat->σ->Prop) (s) (i0:I 0 s)
  (st:∀i s,i<n->I i s->I (i+1) (f s i)/\((tg (enc i) (E s) (G s)).bind body=.ok (.nx (E (f s i))) (G (f s i))\/(tg (enc i) (E s) (G s)).bind body=.ok (.ct (E (f s i))) (G (f s i)))) :
  eg tg body ((XF n).map enc) (E s) (G s)=.ok (.nx (E ((XF n).foldl f s))) (G ((XF n).foldl f s))/\I n ((XF n).foldl f s):=by
 have key:∀(k:Nat) (xs:List Nat) (s:σ),(∀j x,xs[j]?=ξ x->x=k+j/\x<n)->I k s->eg tg body (xs.map enc) (E s) (G s)=.ok (.nx (E (xs.foldl f s))) (G (xs.foldl f s))/\I (k+xs.length) (xs.foldl f s):=by
  intro k xs
  induction xs generalizing k with
  | nil=>intro s _ i;exact⟨rfl,i⟩
  | cons x xs ih=>
   intro s hx i
   obtain⟨h1,h2⟩:=hx 0 x rfl
   subst h1
   obtain⟨i1,e⟩:=st x s h2 i
   obtain⟨e2,i2⟩:=ih (x+1) (f s x) (fun j y hj=>by have:=hx (j+1) y hj;lia) i1
   refine⟨?_,by rw[YB];grind⟩
   rw[XT,eg,<- bX]
   rcases e with e | e<;>rw[e]<;>exact e2
 have hr:∀j x,(XF n)[j]?=ξ x->x=0+j/\x<n:=fun j x hj=>by
  grind
 have:=key 0 (XF n) s hr i0
 simp_all
def JS {σ:Type} (lo) (n) (E:σ->En) (G:σ->Hh) (f) (I:Nat->σ->Prop) (s) (i0:I 0 s)
  (st:∀i s,i<n->I i s->I (i+1) (f s i)/\((tg (.int (lo+(i:Nat))) (E s) (G s)).bind body=.ok (.nx (E (f s i))) (G (f s i))\/(tg (.int (lo+(i:Nat))) (E s) (G s)).bind body=.ok (.ct (E (f s i))) (G (f s i)))) :
  eg tg body (bI lo n) (E s) (G s)=.ok (.nx (E ((XF n).foldl f s))) (G ((XF n).foldl f s))/\I n ((XF n).foldl f s):=
 Ab (fun(i:Nat)=>D.int (lo+i)) n E G f I s i0 st
def xy {σ X:Type}{te:ME}{ee:D->En} (G:σ->Hh) (enc:X->D) (f:σ->X->σ) (g:σ->X->D) (I:List X->σ->Prop) (st:∀s x r,I (x::r) s->I r (f s x)/\te (ee (enc x)) (G s)=.ok (g s x) (G (f s x))) :
  ∀(xs:List X) (s:σ),I xs s->∃ys,cu tt1 te ee (xs.map enc) (G s)=.ok ys (G (xs.foldl f s))/\I [] (xs.foldl f s)/\ys=(xs.foldl (fun(a:σ × List D) x=>(f a.1 x,a.2++[g a.1 x])) (s,[])).2
 | [],s,i=>⟨[],rfl,i,rfl⟩
 | x::xs,s,i=>by
  obtain⟨i1,e⟩:=st s x xs i
  obtain⟨ys,e2,i2,e3⟩:=xy G enc f g I st xs (f s x) i1
  refine⟨g s x::ys,?_,i2,?_⟩
  ·rw[XT,cu,R_,gz,e,gz,e2];rfl
  ·rw[e3]
   have key:∀(xs:List X) (s:σ) (a b:List D),(xs.foldl (fun(a:σ × List D) x=>(f a.1 x,a.2++[g a.1 x])) (s,a++b)).2=a++(xs.foldl (fun(a:σ × List D) x=>(f a.1 x,a.2++[g a.1 x])) (s,b)).2:=by
    intro xs
    induction xs with
    | nil=>intro s a b;rfl
    | cons x xs ih=>intro s a b;rw[Y_,aap];exact ih _ _ _
   have:=key xs (f s x) [g s x] []
   simpa using this.symm
def tw {c:MT}{b:MS} (n:Nat) (E:Nat->En) (G:Nat->Hh) (hc:∀i,i<n->c (E i) (G i)=.ok θ (G i)) (hb:∀i,i<n->b (E i) (G i)=.ok (.nx (E (i+1))) (G (i+1))) (he:c (E n) (G n)=.ok ψ (G n)) :
  ∀(f:Nat),n<f->i_ c b f (E 0) (G 0)=.ok (.nx (E n)) (G n):=by
 have key:∀(k i f:Nat),i+k=n->k<f->i_ c b f (E i) (G i)=.ok (.nx (E n)) (G n):=by
  intro k
  induction k with
  | zero=>
   intro i f hi hf
   obtain⟨f,rfl⟩:∃g,f=g+1:=⟨f - 1,{}⟩
   have:i=n:={}
   subst this
   rw[i_,he];rfl
  | succ k ih=>
   intro i f hi hf
   obtain⟨f,rfl⟩:∃g,f=g+1:=⟨f - 1,{}⟩
   rw[i_,hc i {},gz,hb i {}]
   exact ih (i+1) f {} {}
 simp_all
abbrev Wf (h:Hh):Prop:=h.all (oW h.length)=θ
mutual
theorem G7 {j k:Nat} (h:j<=k):∀(d:D),i8 j d=θ->i8 k d=θ
 | .non,_=>rfl | .bl _,_=>rfl | .int _,_=>rfl | .str _,_=>rfl | .fn _,_=>rfl | .edic,_=>rfl | .exc _ _,_=>rfl
 | .clo _ ds,e=>by simp only[i8] at e ⊢;exact dP h ds e
 | .ref n,e=>by simp only[i8,decide_eq_true_eq] at e ⊢;lia
 | .tup ds,e=>by simp only[i8] at e ⊢;exact dP h ds e
 | .frl ds,e=>by simp only[i8] at e ⊢;exact dP h ds e
 | .scr ds,e=>by simp only[i8] at e ⊢;exact dP h ds e
theorem dP {j k:Nat} (h:j<=k):∀(ds:List D),bM j ds=θ->bM k ds=θ
 | [],_=>rfl
 | d::ds,e=>by
  simp only[bM,XX] at e ⊢
  exact⟨G7 h d e.1,dP h ds e.2⟩
end
def GK (h:j<=k) (o) (e:oW j o=θ):oW k o=true:=by
 cases o with
 | lst ds=>exact dP h ds e
 | set n=>rfl
 | dic kvs=>exact dP h _ e
 | dit kvs=>exact dP h _ e
 | ins c fs=>exact dP h _ e
def lO {k:Nat}:∀{ds:List D},(∀d∈ds,i8 k d=θ)->bM k ds=θ
 | [],_=>rfl
 | d::ds,h=>by simp only[bM,XX];exact⟨h d XU,lO fun e he=>h e (XM _ he)⟩
@[simp] def oQ {X:Type}{f:X->D}{xs:List X} (h:∀x,i8 k (f x)=θ):bM k (xs.map f)=true:=lO fun d hd=>by
 grind
@[simp] def QA {ns:List Int}:bM k (ns.map D.int)=true:=oQ fun _=>rfl
def Wf.nil:Wf []:=rfl
def Wf.app (w:Wf h) (l:oW (h.length+1) o=θ):Wf (h++[o]):=by
 unfold Wf at w ⊢
 rw[List.all_append,YU]
 simp only[aaS,List.all_nil,Bool.and_true,XX]
 refine⟨?_,l⟩
 rw[X_] at w ⊢
 exact fun x hx=>GK (ac2 _) x (w x hx)
abbrev deep:Nat->D->Bool
 | 0,_=>ψ
 | f+1,d=>match d with
  | .ref _=>ψ
  | .scr _=>ψ
  | .tup ds=>ds.all (deep f)
  | .frl ds=>ds.all (deep f)
  | .clo _ ds=>bM 0 ds
  | _=>θ
def qT {f:D->Option D}:∀{ds:List D},(∀d∈ds,f d=ξ d)->ph f ds=ξ ds
 | [],_=>rfl
 | d::ds,h=>by simp only[ph,h d XU,qT fun e he=>h e (XM _ he)]
def lR {k:Nat}{h:Hh}:∀(f:Nat) (d:D),deep f d=θ->kO k h f d=ξ d
 | 0,_,e=>by cases e
 | f+1,d,e=>by
  unfold deep at e
  cases d with
  | ref n=>cases e
  | scr n=>cases e
  | tup ds=>simp only[X_] at e;show acR D.tup (ph (kO k h f) ds)=_;rw[qT fun d hd=>lR f d (e d hd)];rfl
  | frl ds=>simp only[X_] at e;show acR D.frl (ph (kO k h f) ds)=_;rw[qT fun d hd=>lR f d (e d hd)];rfl
  | clo g ds=>show(if bM 0 ds=θ then ξ (D.clo g ds) else ζ)=_;simp_all
  | _=>rfl
def ja (w:Wf h) (e:deep 8 d=θ):dz h d (h++t)=.ok d h:=by
 unfold dz
 rw[List.take_left' rfl,if_pos (show h.all (oW h.length)=θ from w),lR 8 d e]
def oN {t:Hh} (w:Wf h) (e:ds.all (deep 7)=θ):dz h (.ref h.length) (h++.lst ds::t)=.ok (.frl ds) h:=by
 unfold dz
 rw[List.take_left' rfl,if_pos (show h.all (oW h.length)=θ from w)]
 have:kO h.length (h++.lst ds::t) 8 (.ref h.length)=ξ (.frl ds):=by
  unfold kO
  simp only[Y6,cT]
  rw[X_] at e
  rw[qT fun d hd=>lR 7 d (e d hd)];rfl
 rw[this]
@[simp] def Tj:deep (f+1) (.int i)=true:=rfl
@[simp] def UQ:deep (f+1) (.bl i)=true:=rfl
@[simp] def Up:deep (f+1) (.str i)=true:=rfl
@[simp] def Tf:deep (f+1) .non=true:=rfl
@[simp] def RK:deep (f+1) .edic=true:=rfl
@[simp] def So:deep (f+1) (.tup ds)=ds.all (deep f):=rfl
@[simp] def To:deep (f+1) (.frl ds)=ds.all (deep f):=rfl
end
abbrev Ok (r:R β) (Q:β->Hh->Prop):Prop:=∃b h,r=.ok b h/\Q b h
section
variable {β γ:Type}{Q:β->Hh->Prop}{h h1 h2:Hh}
def Ok.mono {r:R β}{Q':β->Hh->Prop} (o:Ok r Q) (q:∀b h,Q b h->Q' b h):Ok r Q':=let ⟨b,h,e,z⟩:=o;⟨b,h,e,q b h z⟩
end
def zW {X:Type}{tg:D->En->Hh->R En}{body:MS}{QS:Fl->Hh->Prop} (enc:X->D) (I:En->Hh->Prop) :
  ∀(xs:List X) (env:En) (h:Hh),I env h->(∀x e h,x∈xs->I e h->Ok ((tg (enc x) e h).bind body) fun fl h2=>match fl with
   | .nx e=>I e h2
   | .ct e=>I e h2
   | .bk e=>QS (.nx e) h2
   | .rt d=>QS (.rt d) h2)->(∀e h,I e h->QS (.nx e) h)->Ok (eg tg body (xs.map enc) env h) QS
 | [],env,h,i,_,q=>⟨_,_,rfl,q _ _ i⟩
 | x::xs,env,h,i,st,q=>by
  obtain⟨fl,h2,e,z⟩:=st x env h XU i
  rw[XT,eg,<- bX,e]
  cases fl with
  | nx e'=>exact zW enc I xs e' h2 z (fun y e h hy=>st y e h (XM _ hy)) q
  | ct e'=>exact zW enc I xs e' h2 z (fun y e h hy=>st y e h (XM _ hy)) q
  | bk e=>exact⟨_,_,rfl,z⟩
  | rt d=>exact⟨_,_,rfl,z⟩
end L2.FE
namespace L2.FE
open PySem PySem.Spec PyProof.Rows
abbrev OX (h:Hh) (n:Nat):Option (List (Key × D)):=match h[n]? with
 | some (.dic kvs)=>ξ kvs
 | _=>ζ
abbrev putD (kvs:List (Key × D)) (k:Key) (d:D):List (Key × D):=
 if (kvs.any fun kv=>decide (kv.1=k))=θ then kvs.map (fun kv=>if kv.1=k then (kv.1,d) else kv) else kvs++[(k,d)]
@[inline]abbrev PD (K:gV) (g:GG) (α:List XW) (H:Hp):List (Key × D)->List (Key × V)->Prop:=Paired (fun(a:Key × D) (b:Key × V)=>a.1=b.1/\aL K g α H a.2 b.2)
section
variable {K:gV}{g:GG}{α:List XW}{H:Hp}{h:Hh}
def bo.dic (r:bo K g α H h) (e:OX h n=ξ kvs) (hp:α[n]?=ξ p):∃kws,H p=ξ (.dK kws)/\PD K g α H kvs kws:=by
 unfold OX at e
 cases eo:h[n]? with
 | none=>simp_all
 | some o=>
  rw[eo] at e
  cases o with
  | dic k=>cases e;exact r.here n p _ hp eo
  | _=>cases e
def PD.any (k:Key):∀{kvs:List (Key × D)}{kws:List (Key × V)},PD K g α H kvs kws->(kvs.any fun kv=>decide (kv.1=k))=kws.any fun kv=>decide (kv.1=k)
 | _,_,.nil=>rfl
 | p::r,q::t,.cons c rr=>by rw[Zj,Zj,PD.any k rr,c.1]
def PD.JB (k:Key){d:D}{v:V} (rd:aL K g α H d v):∀{kvs:List (Key × D)}{kws:List (Key × V)},PD K g α H kvs kws →
  PD K g α H (kvs.map fun kv=>if kv.1=k then (kv.1,d) else kv) (kws.map fun kv=>if kv.1=k then (kv.1,v) else kv)
 | _,_,.nil=>.nil
 | p::r,q::t,.cons c rr=>by
  refine .cons ?_ (PD.JB k rd rr)
  grind
def PD.snoc {x:Key × D}{y:Key × V} (c:x.1=y.1/\aL K g α H x.2 y.2):∀{kvs:List (Key × D)}{kws:List (Key × V)},PD K g α H kvs kws->PD K g α H (kvs++[x]) (kws++[y])
 | _,_,.nil=>.cons c .nil
 | _::_,_::_,.cons b rr=>.cons b (PD.snoc c rr)
def PD.put (k) (rd:aL K g α H d v) (r:PD K g α H kvs kws):PD K g α H (putD kvs k d) (putK kws k v):=by
 unfold putD putK
 rw[PD.any k r]
 split
 ·exact PD.JB k rd r
 ·exact PD.snoc ⟨rfl,rd⟩ r
def PD.ext (e:Ext K α H α' H') (r:PD K g α H kvs kws):PD K g α' H' kvs kws:=Paired.T6 e.toEx0 r
def aJ.dic (w:aJ K g α H Q (.ref h.length) (h++[.dic kvs])) (r:bo K g α H h) (rs:PD K g α H kvs kws) (hp:H p=ζ):Q (.ref p) (upd H p (.dK kws)):=by
 have x:=Ext.push (K:=K) (α:=α) (o:=.dK kws) hp
 exact w _ _ _ x (r.push hp ⟨_,aR,rs.ext x⟩) (.ref (by rw[<- r.len];simp))
end
section
variable {X:Cx}{g:GG}{ε:EE}{o i e f:YL}{mo mi me mf:ME}{pos:Pos}
abbrev NP (ns:List Int):Int:=ns.getD (argBest (fun i j=>decide (ns.getD i 0 > ns.getD j 0)) (ns.length - 1)) 0
end
end L2.FE
namespace L2
open PySem PySem.Spec PyProof.Rows
def Ks (o) (f):(aaU f o).cls=o.cls:=Obj.cls_mapFields _ _
def G1 (o) (f):(aaU f o).dict=o.dict:=by
 unfold aaU
 grind
structure Gn (h h':Y2):Prop where
 up:h.UpToSlots h'
 there:∀b o,h.get? b=some o->∃o',h'.get? b=some o'
def Gn.trans {h h1 h2:Y2} (a:Gn h h1) (b:Gn h1 h2):Gn h h2:=⟨a.up.trans b.up,fun c o q=>let ⟨_,q'⟩:=a.there c o q;b.there c _ q'⟩
structure Fly (B:Y2) (l) (e) (C) (dc) (fl) (h):Prop where
 stays:B.StaysIn h
 new:B.get? e=none
 fr:h.FunFrames B l
 obj:∃oe ws T oT ts,h.get? e=some oe/\oe.cls=C/\oe.dict=dc/\oe.data=.fields ws/\ws[1]?=some (.ref T)/\B.get? T=none/\T≠e/\h.get? T=some oT/\oT.data=.fields ts/\ts[3]?=some fl
def Fly.pop (x:Fly B (env::l) e C dc fl h):Fly B l e C dc fl h:=
 ⟨x.stays,x.new,x.fr.2.2,x.obj⟩
def Fly.there (x:Fly B l e C dc fl h):∃oe ws,h.get? e=ξ oe/\oe.cls=C/\oe.dict=dc/\oe.data=.fields ws:=by
 obtain⟨oe,ws,T,oT,ts,a,b,c,d,_⟩:=x.obj
 simp_all
section
variable {M:Model}{A:YK}{E:XI->XO->Prop}{s:XO}{B:Y2}{env:Env}{l outer:List Env}{e L:XW}{C:XI}{dc:Option XW}{fl:XI}{Q:Unit->XO->Prop}
def yU (x:Fly B l e C dc fl s.heap) (k:∀h',Fly B l e C dc .none h'->Gn s.heap h'->Q () { s with heap:=h' }):wpAny M A (setFlight (.ref e) ζ) Q E s:=by
 obtain⟨st,nw,fr,oe,ws,T,oT,ts,q1,q2,q3,q4,q5,q6,q7,q8,q9,q10⟩:=x
 have hlt:=(ZL.mp q10).1
 have off:∀b,b≠T->(s.heap.update T (aaU (·.setIfInBounds 3 ((none:Option XW).elim ZN fun f=>rawInt f)))).get? b=s.heap.get? b:=fun b z=>YJ _ _ (aac z)
 have noF:∀b o,s.heap.get? b=ξ o->(∀vs,o.data≠.fields vs)->b≠T:=by
  grind
 refine td (Zi q1 q4 q5 ?_)
 refine aba q8 q9 hlt (k _ ⟨fun b o q=>(off b ?_).trans (st b o q),nw,fr.of_keeps fun b o q n=>⟨o,(off b (noF b o q n)).trans q,rfl⟩,oe,ws,T,_,_,(off e (aac q7)).trans q1,q2,q3,q4,q5,q6,q7,YM _ q8 (Zl (YT q9 _)),YT q9 _,by grind⟩
  ⟨fun b o q n=>⟨o.slots,(off b (noF b o q n)).trans q⟩,fun b o q=>?_⟩)
 ·grind
 ·by_cases z:b=T
  ·subst z;exact⟨_,YM _ q8 (Zl (YT q9 _))⟩
  simp_all
def xB (hA:A.frames=ξ (env::outer)) (fr:s.heap.FunFrames B (env::outer)) (hL:env.frame=ξ L) (q1:s.heap.get? e=ξ oe) (st:B.StaysIn s.heap) (nw:B.get? e=ζ) (q4:oe.data=.fields ws) (hlt:1<ws.size)
  (k:∀h',Fly B (env::outer) e oe.cls oe.dict (rawInt L) h'->Gn s.heap h'->Q () { s with heap:=h' }) :
  wpAny M A (do let fo ← frameOf env;let pl ← entryPlaceOf L had;let t ← EntryCells.newEntry head fo .none (rawInt L) .none pl;setField (.ref e) 1 t) Q E s:=by
 have hnf:e∉(env::outer).filterMap (·.frame):=fun z=>by
  obtain⟨_,o,ho,n⟩:=fr.mem z
  simp_all
 refine td (wpAny_frameOf_fun hA fr hL fun h1 so=>td (wpAny_entryPlaceOf fun pl hpl=>?_))
 obtain⟨z1,z2,z3⟩:=so
 refine td (Yo ?_ (hpl.sizeOk5 _ _ _ _ _))
 have e1:h1.get? e=ξ oe:=by simp_all
 have st1:B.StaysIn h1:=fun b o q=>by
  rw[z2 b fun z=>by rw[(fr.mem z).1] at q;cases q]
  exact st b o q
 generalize hT:({ cls:=.type "traceback", dict:=ζ,data:=.fields ([head,.ref L,.none,rawInt L,.none]++(if pl.isEmpty then X0 6 ZN else pl)).toArray }:Obj)=oT
 have e2:(h1.push oT).get? e=ξ oe:=XB _ e1
 have dT:oT.data=.fields ([head,.ref L,.none,rawInt L,.none]++(if pl.isEmpty then X0 6 ZN else pl)).toArray:=by grind
 have ne:=Z1 (XH e1)
 refine aba e2 q4 hlt (k _ ?_ ?_)
 ·have off:∀b o,b≠e->h1.get? b=ξ o->((h1.push oT).update e (aaU (·.setIfInBounds 1 (Yj h1.objs.size)))).get? b=ξ o:=fun b o n q=>by
   rw[YJ _ _ (aac n)]
   exact XB _ q
  have noF:∀b o,h1.get? b=ξ o->(∀vs,o.data≠.fields vs)->b≠e:=by
   grind
  refine⟨fun b o q=>off b o ?_ (st1 b o q),nw,?_,_,_,h1.objs.size,oT,_,YM _ e2 (Zl (YT q4 _)),Ks _ _,G1 _ _,YT q4 _,by grind,?_,ne,?_,dT,?_⟩
  ·grind
  ·exact fr.of_keeps fun b o q n=>by
    grind
  ·cases q:B.get? h1.objs.size with
   | none=>rfl
   | some o=>exact absurd (XH (st1 _ _ q)) (Y6 _)
  ·rw[YJ _ _ (aac ne)]
   rw[<- hT]
   exact XN h1 rfl
  rfl
 ·refine⟨fun b o q n=>?_,fun b o q=>?_⟩
  ·obtain⟨sl,q'⟩:=z3 b o q
   refine⟨sl,?_⟩
   rw[YJ _ _ ?_]
   ·exact XB _ q'
   grind
  ·obtain⟨sl,q'⟩:=z3 b o q
   by_cases z:b=e
   ·subst z;exact⟨_,YM _ e2 (Zl (YT q4 _))⟩
   ·exact⟨_,by rw[YJ _ _ (aac z)];exact XB _ q'⟩
def FA (hA:A.frames=ξ (env::outer)) (fr:s.heap.FunFrames B (env::outer)) (hL:env.frame=ξ L) (q1:s.heap.get? e=ξ oe) (st:B.StaysIn s.heap) (nw:B.get? e=ζ) (q4:oe.data=.fields ws) (q5:ws[1]?=ξ .none)
  (k:∀h',Fly B (env::outer) e oe.cls oe.dict (rawInt L) h'->Gn s.heap h'->Q () { s with heap:=h' }):wpAny M A (noteFrame (.ref e) env) Q E s:=by
 unfold noteFrame
 simp only[hL]
 refine td (Zi q1 q4 q5 ?_)
 exact xB hA fr hL q1 st nw q4 (ZL.mp q5).1 k
def J2 (hA:A.frames=ξ (env::outer)) (hL:env.frame=ξ L) (x:Fly B (env::outer) e C dc .none s.heap)
  (k:∀h',Fly B (env::outer) e C dc (rawInt L) h'->Gn s.heap h'->Q () { s with heap:=h' }):wpAny M A (noteFrame (.ref e) env) Q E s:=by
 obtain⟨st,nw,fr,oe,ws,T,oT,ts,q1,q2,q3,q4,q5,q6,q7,q8,q9,q10⟩:=x
 have off:∀b,b≠T->(s.heap.update T (aaU (·.setIfInBounds 3 ZN))).get? b=s.heap.get? b:=fun b z=>YJ _ _ (aac z)
 have noF:∀b o,s.heap.get? b=ξ o->(∀vs,o.data≠.fields vs)->b≠T:=by
  grind
 unfold noteFrame
 simp only[hL]
 refine td (Zi q1 q4 q5 ?_)
 refine td (Zi q8 q9 q10 ?_)
 refine td (aba q8 q9 (ZL.mp q10).1 ?_)
 refine xB hA (fr.of_keeps fun b o q n=>⟨o,(off b (noF b o q n)).trans q,rfl⟩) hL ((off e (aac q7)).trans q1) (fun b o q=>(off b ?_).trans (st b o q)) nw q4 (ZL.mp q5).1 fun h' y u=>?_
 ·grind
 ·subst q2 q3
  refine k h' y ⟨fun b o q n=>u.up b o ((off b (noF b o q n)).trans q) n,fun b o q=>?_⟩
  by_cases z:b=T
  ·subst z;exact u.there _ _ (YM _ q8 (Zl (YT q9 _)))
  ·exact u.there b o ((off b z).trans q)
end
def K5 (x:cz P w H h a o):∃u,h.get? a=ξ u:=by
 cases o with
 | lst xs=>obtain⟨_,_,_,_,e⟩:=x;simp_all
 | tup xs=>obtain⟨_,_,_,ob,e,_⟩:=x;simp_all
 | dK kvs=>obtain⟨_,_,_,_,o,_,_,e,_⟩:=x;simp_all
 | dT kvs=>obtain⟨_,_,_,_,o,_,_,e,_⟩:=x;simp_all
 | set S n=>obtain⟨o,_,_,_,e,_⟩:=x;simp_all
 | ins C dx fs=>obtain⟨_,_,_,e,_⟩:=x;simp_all
 | own y=>exact x
 | xd fs=>obtain⟨_,⟨_,_,_,e,_⟩,_⟩:=x;simp_all
 | rng lo hi=>obtain⟨_,_,_,e⟩:=x;simp_all
 | frz ob u=>obtain⟨e,_⟩:=x;simp_all
 | tbl ps=>exact⟨_,(show h.get? a=ξ _ from x)⟩
 | met f y=>exact⟨_,(show h.get? a=ξ _ from x)⟩
 | ext φ=>obtain⟨_,e,_⟩:=x;exact e
abbrev Arr (B:Y2) (l:List Env) (e:XW) (C:XI) (dc:Option XW) (h:Y2):Prop:=
 (B.StaysIn h/\B.get? e=ζ/\h.FunFrames B l/\∃oe ws,h.get? e=ξ oe/\oe.cls=C/\oe.dict=dc/\oe.data=.fields ws/\ws[1]?=ξ .none)\/Fly B l e C dc .none h
def Arr.stays (x:Arr B l e C dc h):B.StaysIn h:=x.elim (·.1) (·.stays)
def Arr.new (x:Arr B l e C dc h):B.get? e=none:=x.elim (·.2.1) (·.new)
def Arr.fr (x:Arr B l e C dc h):h.FunFrames B l:=x.elim (·.2.2.1) (·.fr)
section
variable {M:Model}{A:YK}{E:XI->XO->Prop}{s:XO}{B:Y2}{env:Env}{outer:List Env}{e L:XW}{C:XI}{dc:Option XW}{Q:Unit->XO->Prop}
def BX (hA:A.frames=ξ (env::outer)) (hL:env.frame=ξ L) (x:Arr B (env::outer) e C dc s.heap)
  (k:∀h',Fly B (env::outer) e C dc (rawInt L) h'->Gn s.heap h'->Q () { s with heap:=h' }):wpAny M A (noteFrame (.ref e) env) Q E s:=by
 rcases x with⟨st,nw,fr,oe,ws,q1,rfl,rfl,q4,q5⟩ | x
 ·exact FA hA fr hL q1 st nw q4 q5 k
 ·exact J2 hA hL x k
def Fo (hA:A.frames=ξ (env::outer)) (hL:env.frame=ξ L) (x:Arr B (env::outer) e C dc s.heap)
  (k:∀h',Fly B outer e C dc .none h'->Gn s.heap h'->Q () { s with heap:=h' }):wpAny M A (leaving env (.ref e)) Q E s:=by
 exact td (BX hA hL x fun h1 x1 u1=>yU x1 fun h2 x2 u2=>k h2 x2.pop (u1.trans u2))
end
structure Cov (B:Y2) (fs:List XW) (a_:Hp) (h₀:Y2) (H':Hp):Prop where
 trk:∀b o,H' b=some o->∃u,B.get? b=some u
 old:∀b o,h₀.get? b=some o->a_ b=none->b∉fs->B.get? b=some o
abbrev CXE (P:X5) (w:Yw):CXT:=fun outer H s E e s'=>∃H' B a C dc,e=.ref a/\s'.os=s.os/\ab0 s'.gens/\Un (frs outer) [] H H' s.heap s'.heap/\HOk P w H' s'.heap/\Fly B outer a C dc .none s'.heap/\Cov B (frs outer) H s.heap H'/\E C dc H'
abbrev XeB (X:Cx) (E:XK) (e:XI) (s':XO):Prop:=∃(σ:St) (H':Hp) (B:Y2) (a:XW) (C:XI) (dc:Option XW),e=.ref a/\Inv X [] σ H' s'/\Arr B X.stack a C dc s'.heap/\Cov B X.fs X.a_ X.aP.heap H'/\(∀p∈X.pn,B.get? p.1=ξ p.2)/\E C dc H'
abbrev gM (X:Cx) (E:XK):Prop:=∀e s',XeB X E e s'->X.xe e s'
structure Plain (X:Cx):Prop where
 ex:X.ex=[]
 stk:X.stack=X.env::X.outer/\X.env.frame=some X.env.locals
def HOk.flew {B h h':Y2} (x:HOk P w H' h) (tr:∀b o,H' b=ξ o->∃u,B.get? b=ξ u) (st:B.StaysIn h) (st':B.StaysIn h'):HOk P w H' h':=fun a o e=>
 (x a o e).lY (fun b u hb q=>by
  obtain⟨u',q'⟩:∃u,B.get? b=ξ u:=by
   grind
  have:=st _ _ q'
  rw[q] at this;cases this
  exact st' _ _ q') (fun _ q=>q) fun _ _ q=>q
def Inv.drop {σ:St} (I:Inv X pins σ H s):Inv X [] σ H s:=
 ⟨I.ok,I.os,I.bare,I.base,I.loc,I.cell,I.free,I.e8,fun p hp=>I.pin p (by simp_all),I.hok,I.len⟩
def Fi (u:Un fs [] a_ H' h₀ h) (c:Cov B fs a_ h₀ H') (st':B.StaysIn h') (g:Gn h h') (nf:∀b∈fs,∀o,h.get? b=ξ o->∀vs,o.data≠.fields vs):Un fs [] a_ H' h₀ h':=
 ⟨fun b o e n hb _=>st' b o (c.old b o e n hb),fun b o e n hb hx=>by
  obtain⟨sl,q⟩:=u.slot b o e n hb hx
  obtain⟨sl',q'⟩:=g.up b _ q (nf b hb _ q)
  simp_all,u.free,fun b o e hx=>by
  obtain⟨o',q⟩:=u.there b o e hx
  exact g.there b o' q,u.mZ,u.mE,u.ow⟩
def Inv.flew {X:Cx}{σ:St}{H':Hp}{s':XO}{B h':Y2}{t':Nat} (I:Inv X [] σ H' s') (p:Plain X) (c:Cov B X.fs X.a_ X.aP.heap H') (pn:∀p∈X.pn,B.get? p.1=ξ p.2) (st:B.StaysIn s'.heap) (fr:s'.heap.FunFrames B X.stack) (st':B.StaysIn h') (g:Gn s'.heap h'):Inv X [] σ H' { s' with heap:=h',toks:=t' }:=by
 have cellK:∀{c':XW} {v:Option XI},s'.heap.IsCell c' v->h'.IsCell c' v:=fun{c' v} ⟨o,ho,hd⟩=>by
  obtain⟨sl,q⟩:=g.up c' o ho fun vs z=>by simp_all
  exact⟨_,q,hd⟩
 refine⟨I.ok,I.os,I.bare,?_,?_,fun x c' e=>let ⟨v,q⟩:=I.cell x c' e;⟨v,cellK q⟩,I.free,I.e8,fun q hq=>?_,I.hok.flew c.trk st st',I.len⟩
 ·have u:=I.base
  rw[p.ex] at u ⊢
  refine Fi u c st' g fun b hb o q vs z=>?_
  have:b∈X.stack.filterMap (·.frame):=by
   rw[p.stk.1,ZC,p.stk.2]
   exact XM _ hb
  obtain⟨_,o',q',n⟩:=fr.mem this
  simp_all
 ·obtain⟨m,hn,k⟩:=I.loc
  refine⟨m,g.up.ns hn,fun i x v a b c=>?_⟩
  obtain⟨u,r,l⟩:=k i x v a b c
  refine⟨u,r,l.imp (fun z=>z) fun⟨z,c',e,q⟩=>⟨z,c',e,cellK q⟩⟩
 ·have:=I.pin q hq
  rw[YD] at hq
  exact⟨st' _ _ (pn q hq),this.2⟩
section
variable {P:X5}{w:Yw}{K:gV}{mg:Str->Option XI}{base:Y2}
def Gp:gM (gF (CXE P w) P w K mg base N qual scope f cd A outer s H E) E:=by
 rintro e s' ⟨σ,H',B,a,C,dc,rfl,I,ar,c,_,q⟩
 have fr:=ar.fr
 have hA:=I.ok.frames
 refine Fo hA rfl ar fun h' x g=>?_
 refine⟨H',B,a,C,dc,rfl,I.os,I.bare,Fi (show Un (frs outer) [] H H' s.heap s'.heap from I.base) c x.stays g fun b hb o q vs z=>?_,I.hok.flew c.trk ar.stays x.stays,x,c,q⟩
 have:b∈(envOfC qual scope s.heap.objs.size f cd::outer).filterMap (·.frame):=XM _ hb
 obtain⟨_,o',q',n⟩:=(show s'.heap.FunFrames B (envOfC qual scope s.heap.objs.size f cd::outer) from fr).mem this
 simp_all
end
def kq (p:Plain X) (fl:gM X E):Passes (CXE X.prog X.w) X E:=by
 rintro pins σ H s e s' I ⟨H',B,a,C,dc,rfl,os,bare,un,hok,x,c,q⟩
 refine fl _ _ ⟨σ,H',B,a,C,dc,rfl,(I.wO os un hok bare fun b z=>absurd z {..}).drop,.inr x,⟨c.trk,fun b o e n hb=>?_⟩,fun p' hp=>?_,q⟩
 rotate_left
 ·obtain⟨q1,q2,q3,q4,q5⟩:=I.pin p' (Zw _ hp)
  refine c.old _ _ q1 q2 fun z=>?_
  rcases X4.mp (I.gW _ z) with z | z
  ·grind
  simp_all
 have hx:b∉X.ex:=by rw[p.ex];simp
 refine c.old b o (I.base.keep b o e n hb hx) (I.base.free b o e n hx) fun z=>?_
 rcases X4.mp (I.gW b z) with rfl | z
 ·exact absurd (XH e) (Z8 I.ok.above)
 simp_all
def GO {σ:St} (p:Plain X) (fl:gM X E) (I:Inv X pins σ H s) (k:∀b o,s.heap.get? b=ξ o->h'.get? b=ξ o)
  (nw:s.heap.get? a=ζ) (q1:h'.get? a=ξ oe) (q2:oe.cls=C) (q3:oe.dict=dc) (q4:oe.data=.fields ws) (q5:ws[1]?=ξ .none) (q:E C dc H):X.xe (.ref a) { s with heap:=h',toks:=t' }:=by
 have fr:=I.stack
 have nfr:=I.nM
 refine fl _ _ ⟨σ,H,abq s.heap (frs X.stack),a,C,dc,rfl,(I.kept k).drop,.inl ⟨fun b o z=>k b o (aaP _ z),?_,?_,oe,ws,q1,q2,q3,q4,q5⟩,⟨fun b o z=>?_,fun b o e n hb=>?_⟩,fun p' hp=>?_,q⟩
 rotate_right
 ·obtain⟨q1,q2,q3,q4,q5⟩:=I.pin p' (Zw _ hp)
  refine Zh _ q1 fun z=>?_
  rcases X4.mp (I.gW _ z) with z | z
  ·grind
  simp_all
 ·cases z:(abq s.heap (frs X.stack)).get? a with
  | none=>rfl
  | some o=>have:=aaP _ z;simp_all
 ·exact(PySem.W.funFrames_hide fr fun env he b hb=>aaQ.mpr ⟨env,he,hb⟩).of_keeps fun b o z _=>⟨o,k b o z,rfl⟩
 ·obtain⟨u,hu⟩:=K5 (I.hok b o z)
  exact⟨u,Zh _ hu fun hm=>by simp_all⟩
 ·have hx:b∉X.ex:=by rw[p.ex];simp
  refine Zh _ (I.base.keep b o e n hb hx) fun z=>?_
  rcases X4.mp (I.gW b z) with rfl | z
  ·exact absurd (XH e) (Z8 I.ok.above)
  simp_all
@[inline]abbrev bmV:List XI:=[.type "ValueError", .type "Exception", .type "BaseException", .type "object"]
def L5 {K:gV} (X:K.In h) (q:ab4 K C bmB newId=θ) :
  ∃bm N nm q' bs hdct sn sub ab col dd k0 k1 k2 k3 k5 mN,h.get? C=ξ (excClassObj nm q' C N bs bm hdct sn sub ab col dd k0 k1 k2 k3 k5 newId)/\h.Ns N mN/\mN "__init__" = ζ/\adt h bmB bm:=by
 unfold ab4 at q
 split at q
 ·rename_i dd cd sl ho
  split at q
  ·rename_i C' bm k0 k1 k2 k3 n k5 hm hs
   simp only[XX,beq_iff_eq,abV] at q
   obtain⟨⟨⟨⟨⟨rfl,rfl⟩,hdel⟩,ht⟩,hok⟩,hni⟩:=q
   obtain⟨nm,bs,mro,ns,qn,hd,sn,sub,ab,col,del⟩:=cd
   subst hm hdel
   obtain rfl:sl = #[k0,k1,k2,k3,ξ (.builtin n),k5]:=by
    grind
   exact⟨bm,ns,nm,qn,bs,hd,sn,sub,ab,col,dd,k0,k1,k2,k3,k5,_,X _ _ ho,.of_isNs (PySem.W.isNs_of_in X hok),PySem.W.nsMap_none_of_in X hok hni,PySem.W.tail_of_in X ht⟩
  grind
 grind
def QZ {σ:St} (p:Plain X) (fl:gM X E) (hc:X.calm=θ) (I:Inv X pins σ H s) (hg:Gl X x) (hm:X.mg x=ξ (.ref C)) (hC:ab4 X.K C bmV "ValueError.__new__" = θ)
  (q:E (.ref C) ζ H) (hdb:(x == ("__debug__" : Str))=false:=by decide):wpAny (model X.prog X.w) X.A (exec (.Raise (ξ (.Call (.Name x np) [] [] cpos)) ζ pos) X.env) Q X.xe s:=by
 obtain⟨tl,N,nm,q',bs,hdct,sn,sub,ab,col,dd,k0,k1,k2,k3,k5,mN,hC',hN,hni,T⟩:=L5 I.kIn hC
 refine wpAny_Raise_call_subT (nm:=nm) (q:=q') (N:=N) (bs:=bs) (hdct:=hdct) (sn:=sn) (sub:=sub) (ab:=ab) (col:=col) (dd:=dd) (k0:=k0) (k1:=k1) (k2:=k2) (k3:=k3) (k5:=k5) ZM (T.hasType ZM.hasBase) (I.ok.hd hc) rfl hni (jj I hg hm ⟨rfl,?_⟩ hdb)
 refine evalArgs_empty ⟨rfl,aaF _,hC',hN,T,fun h' e me=>?_⟩
 obtain⟨t,he,_,_⟩:=me.there
 exact GO p fl I me.keeps me.new he rfl rfl rfl rfl q
end L2
namespace L2.FE
open PySem PySem.Spec PyProof.Rows
abbrev εX (g:GG) (E:XK):EE:=fun _ H' x=>∀C dc , g x.cls=ξ C->XFs H' dc x.fs->E (.ref C) dc H'
@[inline]abbrev spE (K:gV) (g:GG) (np:Nat) (m:MF):Sp:=spG K g (εX g) np m
abbrev RE (P:X5) (w:Yw) (K:gV) (mg:Str->Option XI) (base:Y2) (g:GG) (x:Str) (k:Nat) (ps:List Str) (m:MF):Prop:=
 ∃f fd,cJ P w K mg base (CXE P w) k f fd ps (spE K g ps.length m)/\X6 K (.ref f)=θ/\Binds K fd ps []/\mg x=ξ (.ref f)
abbrev mD (x:Str):MS:=fun _ h=>.err ⟨x,[]⟩ h
abbrev noR:R β->R β
 | .ok b h=>.ok b h
 | _=>.bad
@[simp] def Ww (b:β) (h):noR (.ok b h)=.ok b h:=rfl
abbrev up (m:En->Hh->R β):En->Hh->R β:=fun env h=>noR (m env h)
def pJ {K:gV}{k:β->Hh->Prop} (w:WQ K g ε α H (noR r) k):WQ K g E00 α H r k:=by
 cases r with
 | ok b h=>exact w
 | err x h=>exact w.elim
 | bad=>exact w.elim
section
variable {P:X5}{w:Yw}{K:gV}{mg:Str->Option XI}{base:Y2}{g:GG}
def sX {st:aaN} (F:Fun K x qual st f fd) (S:a9 N ps (aj st))
  (hb:∀cdv A outer s H E , b8 k (A.deeper (envOfC qual (aj st) s.heap.objs.size f cdv)) →
   gM (gF (CXE P w) P w K mg base N qual (aj st) f cdv A outer s H E) E->Plain (gF (CXE P w) P w K mg base N qual (aj st) f cdv A outer s H E) →
   abf (model P w) (A.deeper (envOfC qual (aj st) s.heap.objs.size f cdv)) (envOfC qual (aj st) s.heap.objs.size f cdv) (gF (CXE P w) P w K mg base N qual (aj st) f cdv A outer s H E).xe →
   PSs (gF (CXE P w) P w K mg base N qual (aj st) f cdv A outer s H E) (br st) (tMS K g (εX g E) mb)):cJ P w K mg base (CXE P w) (k+1) f fd ps (spE K g ps.length (ba N.length mb)):=by
 obtain⟨oc,od,kV,doc,pm,an,cdv,ct,osl,rfl,lk,hcd⟩:=F.ex
 refine Ox lk hcd S (fun vs H Q E h=>h.1) fun A outer s H vs Q E hr hsp=>⟨_,hb cdv A outer s H E hr Gp ⟨rfl,rfl,rfl⟩ abf.leaving,?_⟩
 obtain⟨hl,α,ds,h,rs,hh,w⟩:=hsp
 refine tMS.use ⟨hh,lM rs⟩ w.bind fun fl h' H' α' e r kk=>?_
 cases fl with
 | nx e'=>exact fun σ' s'=>(show aJ K g α H Q .non h' from kk) _ H' α' e r .non
 | bk e'=>exact kk.elim
 | ct e'=>exact kk.elim
 | rt d=>exact fun v rv=>(show aJ K g α H Q d h' from kk) _ H' α' e r rv
def lB {f:XW}{fd:Zy}{k np:Nat}{ps:List Str}{m:MF} (F:cJ P w K mg base CX0 k f fd ps (spM K g np m)):cJ P w K mg base (CXE P w) k f fd ps (spE K g np fun ds h=>noR (m ds h)):=by
 have cv:∀{vs:List V} {H:Hp} {Q:VK} {E:XK},spE K g np (fun ds h=>noR (m ds h)) vs H Q E->spM K g np m vs H Q E:=fun⟨hl,α,ds,h,rs,hh,w⟩=>⟨hl,α,ds,h,rs,hh,pJ w⟩
 refine⟨fun vs H Q E h=>F.len vs H Q E (cv h),fun A outer s H args us vs Q E hr e0 hb hv hsp=>Zc (F.run A outer s H args us vs Q E hr e0 hb hv (cv hsp)) fun r s' q=>?_⟩
 cases r with
 | error e=>exact q.elim
 | ok fl=>cases fl<;>exact q
end
section
variable {X:Cx}{g:GG}{E:XK}{ε:EE}
def m_ {x:Str}{C:XW}{np cpos pos:Pos} (fl:gM X E) (pl:Plain X) (hc:X.calm=θ) (hg:Gl X x) (hm:X.mg x=ξ (.ref C)) (hgx:g x=ξ C) (hC:ab4 X.K C bmV "ValueError.__new__" = θ) (hdb:(x == ("__debug__" : Str))=false:=by decide) :
  PS X (.Raise (ξ (.Call (.Name x np) [] [] cpos)) ζ pos) (tMS X.K g (εX g E) (mD x)):=fun pins s σ H D I ⟨α,env,h,sr,w⟩=>
 QZ pl fl hc I hg hm hC (w α H Ext.refl sr.heap C ζ hgx (.inl ⟨rfl,rfl⟩)) hdb
def bO {k:Nat}{f:XW}{fd:Zy}{ps:List Str}{m:MF}{np:Nat}{x:Str}{p pos:Pos}{e:YL}{es:List YL}{mr:MA} (fl:gM X E) (pl:Plain X) (F:cJ X.prog X.w X.K X.mg X.base (CXE X.prog X.w) k f fd ps (spE X.K g np m)) (hr:b8 k X.A) (hg:Gl X x) (hm:X.mg x=ξ (.ref f)) (hk:X6 X.K (.ref f)=θ) (hb:Binds X.K fd ps [])
  (ha:PA X (e::es) (tMA X.K g (εX g E) mr)) (hlen:∀env h ds h',mr env h=.ok ds h'->ds.length=np) (hdb:(x == ("__debug__" : Str))=false:=by decide) (he:starEach (e::es) X.env=(ψ,eval e X.env)::starEach es X.env:=by rfl) (hpl:(backTo pos (starEach es X.env)).any (·.1)=false:=by rfl) :
  PE X (.Call (.Name x p) (e::es) [] pos) (tM X.K g (εX g E) (af m mr)):=
 PE.imp (DV F hr hg hm hk hb .nil (kq pl fl) ha hdb he hpl) fun σ H Q ⟨α,env,h,s,w⟩=>⟨α,env,h,s,w.bind.mono fun d1 h1 eq w1 v1 H1 α1 e1 hr1 r1=>by
  show spE X.K g np m (v1++[]) H1 Q E
  rw[YD]
  refine⟨?_,α1,d1,h1,r1,hr1,w1.post e1⟩
  rw[<- r1.length]
  grind⟩
def _root_.L2.PS.nox (h:PS X.nox e t):PS X e t:=fun pins s σ H D I hw=>
 Yl (h pins s σ H D (I.oq _) hw) (fun _ _ q=>q.iN) fun _ _ z=>ZU z
def nq {e:YL}{m:ME} (h:PE X.nox e (tM X.K g E00 m)):PE X e (tM X.K g ε (up m)):=PE.imp h.nox fun σ H Q ⟨α,env,h,s,w⟩=>⟨α,env,h,s,pJ w⟩
def mq {e:YL}{m:MT} (h:PT X.nox e (tMT X.K g E00 m)):PT X e (tMT X.K g ε (up m)):=PT.imp h.nox fun σ H Q ⟨α,env,h,s,w⟩=>⟨α,env,h,s,pJ w⟩
def Wv {e:aaN}{m:MS} (h:PS X.nox e (tMS X.K g E00 m)):PS X e (tMS X.K g ε (up m)):=PS.imp h.nox fun σ H Q ⟨α,env,h,s,w⟩=>⟨α,env,h,s,pJ w⟩
end
end L2.FE
namespace L2
open PySem PySem.Spec PyProof.Rows
@[inline]abbrev unm (A:YK):YK:={ A with handled:=ζ }
section
variable {X:Cx}{pins:List (XW × Obj)}{σ:St}{H:Hp}{s:XO}
@[inline]abbrev Cx.hand (X:Cx) (A:YK) (pn:List (XW × Obj)) (E:XI->XO->Prop):Cx:={ X with A:=A,calm:=ψ,pn:=pn,xe:=E }
def Inv.hand (I:Inv X pins σ H s){A:YK} (hA:A.frames=X.A.frames){pn pins':List (XW × Obj)} (hp:∀p∈pn++pins',p∈X.pn++pins) (E:XI->XO->Prop):Inv (X.hand A pn E) pins' σ H s:=
 ⟨⟨I.ok.mod,I.ok.kind,I.ok.glob,I.ok.blt,I.ok.above,I.ok.inj,I.ok.has,I.ok.cab,fun z=>(nomatch z),hA.trans I.ok.frames,I.ok.stk,I.ok.exf,I.ok.bs,I.ok.bsz,I.ok.wt,I.ok.AU,I.ok.kM,I.ok.frf⟩,I.os,I.bare,I.base,I.loc,I.cell,I.free,I.e8,fun p h=>I.pin p (hp p h),I.hok,I.len⟩
@[inline]abbrev Cx.wpn (X:Cx) (pn:List (XW × Obj)) (E:XI->XO->Prop):Cx:={ X with pn:=pn,xe:=E }
def Inv.wpn (I:Inv X pins σ H s) (hp:∀p∈pn++pins',p∈X.pn++pins) (E):Inv (X.wpn pn E) pins' σ H s:=
 ⟨⟨I.ok.mod,I.ok.kind,I.ok.glob,I.ok.blt,I.ok.above,I.ok.inj,I.ok.has,I.ok.cab,I.ok.hd,I.ok.frames,I.ok.stk,I.ok.exf,I.ok.bs,I.ok.bsz,I.ok.wt,I.ok.AU,I.ok.kM,I.ok.frf⟩,I.os,I.bare,I.base,I.loc,I.cell,I.free,I.e8,fun p h=>I.pin p (hp p h),I.hok,I.len⟩
def Inv.back (J:Inv (X.hand A pn E) pins' σ H s) (ok:X.Ok) (hp:∀p∈X.pn++pins,p∈pn++pins'):Inv X pins σ H s:=
 ⟨ok,J.os,J.bare,J.base,J.loc,J.cell,J.free,J.e8,fun p h=>J.pin p (hp p h),J.hok,J.len⟩
def Inv.adopt (I:Inv X [] σ H s) (p:Plain X) (c:Cov B X.fs X.a_ X.aP.heap H) (pn:∀p∈X.pn,B.get? p.1=ξ p.2) (fr:s.heap.FunFrames B X.stack) (nw:B.get? a=ζ) (q1:s.heap.get? a=ξ oe) (q4:oe.data=.fields ws) :
  H a=ζ/\Inv X [] σ (upd H a (FE.AtO a oe)) s:=by
 have hn:H a=none:=by
  cases z:H a with
  | none=>rfl
  | some o=>obtain⟨u,hu⟩:=c.trk a o z;simp_all
 have nfr:∀b∈X.env.locals::X.fs,b≠a:=by
  rintro b hb rfl
  have:b∈X.stack.filterMap (·.frame):=by
   rw[p.stk.1,ZC,p.stk.2]
   exact hb
  obtain⟨_,o',q',n⟩:=fr.mem this
  simp_all
 refine⟨hn,I.ok,I.os,I.bare,?_,I.loc,I.cell,?_,fun x c' e=>?_,fun q hq=>?_,fun b o e=>?_,I.len⟩
 ·obtain⟨u1,u2,u3,u4,u5,u6,u7⟩:=I.base
  refine⟨u1,u2,fun b o e n hx=>?_,u4,fun b xs q=>?_,fun b o u q=>?_,fun b ps q=>?_⟩
  ·rw[aD ?_];exact u3 b o e n hx
   rintro rfl
   by_cases hb:b∈X.fs
   ·grind
   ·have:=c.old b o e n hb
    simp_all
  ·have:=u5 b xs q
   rw[aD (aO this hn)];lia
  ·have:=u6 b o u q
   rw[aD (aO this hn)];lia
  ·obtain⟨more,this⟩:=u7 b ps q
   exact⟨more,by rw[aD (aO this hn)];lia⟩
 ·rw[aD (nfr _ XU)];exact I.free
 ·rw[aD ?_];exact I.e8 x c' e
  rintro rfl
  obtain⟨v,o,ho,hd⟩:=I.cell x c' e
  simp_all
 ·have z:=I.pin q hq
  refine⟨z.1,?_,z.2.2⟩
  rw[aD ?_];exact z.2.1
  grind
 ·by_cases hb:b=a
  ·subst hb
   rw[aR] at e;cases e
   exact⟨q1,q1,⟨_,q1⟩,fun h1 h2 z k=>k _ z⟩
  ·rw[aD hb] at e
   exact(I.hok b o e).lY (fun _ _ _ z=>z) (fun c' z=>by rw[aD (aO z hn)];exact z) fun c' xs z=>by rw[aD (aO z hn)];exact z
def Inv.forget {i:Nat}{x:Str}{m m':Str->Option XI}{h':Y2}{t':Nat} (I:Inv X pins σ H s) (hN:X.N.Nodup) (hi:X.N[i]?=ξ x) (hn:s.heap.Ns X.env.locals m) (hn':h'.Ns X.env.locals m') (hm:∀y,y≠x->m' y=m y) (sb:Z0 X.env.locals s.heap h'):Inv X pins (σ.set i ζ) H { s with heap:=h',toks:=t' }:=by
 have kp:=fun b n=>sb.2 b n
 have cellK:∀y c v,X.env.cells.lookup y=ξ c->s.heap.IsCell c v->h'.IsCell c v:=fun y c v e ⟨o,ho,hd⟩=>⟨o,by rw[kp c (I.cne y c e)];exact ho,hd⟩
 refine⟨I.ok,I.os,I.bare,?_,⟨m',hn',fun j y v a b c=>?_⟩,fun y c e=>let ⟨v,q⟩:=I.cell y c e;⟨v,cellK y c v e q⟩,I.free,I.e8,fun q hq=>?_,fun b o e=>?_,by rw[Zn];exact I.len⟩
 ·obtain⟨u1,u2,u3,u4,u5,u6,u7⟩:=I.base
  have ne:∀b o,X.aP.heap.get? b=ξ o->b≠X.env.locals:=fun b o e=>XZ (Yb (XH e) I.ok.above)
  exact⟨fun b o e n h1 h2=>by rw[kp b (ne b o e)];exact u1 b o e n h1 h2,fun b o e n h1 h2=>by rw[kp b (ne b o e)];exact u2 b o e n h1 h2,u3,fun b o e h2=>by rw[kp b (ne b o e)];exact u4 b o e h2,u5,u6,u7⟩
 ·rw[ZX] at b
  by_cases hj:i=j
  ·rw[if_pos hj] at b
   split at b<;>cases b
  ·rw[if_neg hj] at b
   obtain⟨m0,hn0,k⟩:=I.loc
   obtain⟨u,r,l⟩:=k j y v a b c
   have hy:y≠x:=by
    rintro rfl
    exact hj ((List.getElem?_inj (X9.mp hi).1 hN).mp (hi.trans a.symm))
   have e0:m0=m:=by
    obtain⟨o1,es1,ep1,a1,a2,a3,a4⟩:=hn0
    obtain⟨o2,es2,ep2,b1,b2,b3,b4⟩:=hn
    rw[a1] at b1;cases b1
    rw[a2] at b2;cases b2
    funext y;rw[<- a4,<- b4]
   subst e0
   refine⟨u,r,l.imp (fun z=>⟨z.1,by rw[hm y hy];exact z.2⟩) fun⟨z,c',e,q⟩=>⟨z,c',e,cellK y c' _ e q⟩⟩
 ·have z:=I.pin q hq
  exact⟨by rw[kp _ z.2.2.1];exact z.1,z.2⟩
 ·exact(I.hok b o e).lY (fun c' u hc q=>by
   rw[kp c' ?_];exact q
   rintro rfl
   rcases hc with rfl | hc
   ·rw[I.free] at e;cases e
   ·rw[I.free] at hc;cases hc) (fun _ q=>q) fun _ _ q=>q
end
structure FnH (P) (w) (K) (mg) (base) (k) (f) (fd) (ps:List Str) (sp:Sp):Prop where
 len:∀vs H Q E,sp vs H Q E->vs.length=ps.length
 run:∀A outer s H args us vs Q E , b8 k (unm A)->vU P w K mg base A outer s H->acT s fd args (ps.zip us)->Vals vs us->sp vs H Q E →
  codeAny (model P w) A (.call (.ref f) args) (CR CX0 outer P w H s Q E) s
def FnH.mono {K:gV} (F:FnH P w K mg base j f fd ps sp) (h:j<=k):FnH P w K mg base k f fd ps sp:=
 ⟨F.len,fun A outer s H args us vs Q E hr=>F.run A outer s H args us vs Q E (hr.mono h)⟩
section
variable {P:X5}{w:Yw}{K:gV}{mg:Str->Option XI}{base:Y2}
@[inline]abbrev cxH (P:X5) (w:Yw) (K:gV) (mg:Str->Option XI) (base:Y2) (N:List Str) (qual:Str) (scope:abe) (f:XW) (cd:XI) (A:YK) (outer:List Env) (s:XO) (H:Hp) (E:XK):Cx:=
 (gF CX0 P w K mg base N qual scope f cd A outer s H E).hand (A.deeper (envOfC qual scope s.heap.objs.size f cd)) [] fun _ _=>False
def Pe {x qual:Str}{st:aaN}{f:XW}{fd:Zy}{N ps:List Str}{k:Nat}{sp:Sp} (F:Fun K x qual st f fd) (S:a9 N ps (aj st)) (len:∀vs H Q E,sp vs H Q E->vs.length=ps.length)
  (hbody:∀(cdv:XI) (A:YK) (outer:List Env) (s:XO) (H:Hp) (vs:List V) (Q:VK) (E:XK),b8 k (unm (A.deeper (envOfC qual (aj st) s.heap.objs.size f cdv)))->sp vs H Q E →
   ∃t,PSs (cxH P w K mg base N qual (aj st) f cdv A outer s H E) (br st) t/\t { nx:=fun _ H'=>Q .non H',rt:=Q } (start N vs) H):FnH P w K mg base (k+1) f fd ps sp:=by
 obtain⟨oc,od,kV,doc,pm,an,cdv,ct,osl,rfl,lk,hcd⟩:=F.ex
 refine⟨len,fun A outer s H args us vs Q E hr e0 hb r hsp=>?_⟩
 have hl:=len _ _ _ _ hsp
 have KX:=e0.mod.kin.keeps fun b o e=>(e0.bs b o e).1
 have lim:=e0.mod.nolimit.keeps fun b o e=>(e0.bs b o e).1
 have hkind:∀y∈ps.zip us,(aj st).names.lookup y.1=ξ .local\/((aj st).names.lookup y.1=ξ .cell/\((cellsFrom (s.heap.objs.size+1) (aj st).names []).lookup y.1).isSome=θ):=fun⟨n,v⟩ hy=>by
  rcases S.par n (aaj hy).1 with q | q
  ·exact .inl q
  ·exact .inr ⟨q,ZH _ _ _ (.inl q)⟩
 have hdp:=b8.depth hr
 refine aak hdp (KX _ _ lk) rfl S.co S.gen rfl (abC KX hcd) (hb _ _ _ _ ?_)
 refine ZI S.kind hkind fun env he s1 x=>?_
 subst he
 refine⟨lim.keeps x.toInCall.keep,ach ?_⟩
 obtain⟨t,ht,hq⟩:=hbody cdv A outer s H vs Q E (hr.deeper _) hsp
 have I0:Inv (gF CX0 P w K mg base N qual (aj st) f cdv (unm A) outer s H E) [] (start N vs) H s1:=oG S rfl ⟨e0.frames,e0.mod,e0.bs,e0.bsz,e0.kM,e0.frf,e0.hok,e0.bare⟩ hl r x
 have I:Inv (cxH P w K mg base N qual (aj st) f cdv A outer s H E) [] (start N vs) H s1:=
  ⟨⟨I0.ok.mod,I0.ok.kind,I0.ok.glob,I0.ok.blt,I0.ok.above,I0.ok.inj,I0.ok.has,I0.ok.cab,fun z=>(nomatch z),abj e0.frames,I0.ok.stk,I0.ok.exf,I0.ok.bs,I0.ok.bsz,I0.ok.wt,I0.ok.AU,I0.ok.kM,I0.ok.frf⟩,I0.os,I0.bare,I0.base,I0.loc,I0.cell,I0.free,I0.e8,I0.pin,I0.hok,I0.len⟩
 refine Yl (ht [] s1 (start N vs) H _ I hq) (fun fl s' hs=>?_) fun e s' hs=>hs.elim
 have fin:∀{σ':St} {H':Hp} {v:V} {u:XI},Inv (cxH P w K mg base N qual (aj st) f cdv A outer s H E) [] σ' H' s'->RelV v u->Q v H'->CE outer P w H s Q u s':=
  fun{σ' H' v u} J rv q=>⟨v,H',J.os,J.bare,J.base,J.hok,rv,q⟩
 cases fl with
 | ret u=>
  obtain⟨v,σ',H',J,rv,q⟩:=hs
  exact fin J rv q
 | next=>
  obtain⟨σ',H',J,q⟩:=hs
  exact fin (v:=V.non) J rfl q
 | brk=>
  obtain⟨_,_,_,q⟩:=hs
  exact q.elim
 | cont=>
  obtain⟨_,_,_,q⟩:=hs
  exact q.elim
end
section
variable {X:Cx}{k:Nat}{f:XW}{fd:Zy}{ps:List Str}{sp:Sp}{x:Str}{p pos:Pos}{e:YL}{es:List YL}{t:TA}
def Bs (F:FnH X.prog X.w X.K X.mg X.base k f fd ps sp) (hr:b8 k (unm X.A)) (hg:Gl X x) (hm:X.mg x=ξ (.ref f)) (hk:X6 X.K (.ref f)=θ) (hb:Binds X.K fd ps [])
  (ha:PA X (e::es) t) (hdb:(x == ("__debug__" : Str))=false:=by decide) (he:starEach (e::es) X.env=(ψ,eval e X.env)::starEach es X.env:=by rfl) (hpl:(backTo pos (starEach es X.env)).any (·.1)=false:=by rfl) :
  PE X (.Call (.Name x p) (e::es) [] pos) (Ot sp [] E0 t):=by
 intro pins s σ H Q I h
 refine Zr (jj I hg hm ?_ hdb)
 refine ZQ I.ok.mod.kin hk (thn (ha pos pins s σ H _ I h) fun us s1 ⟨vs,H1,I1,r,q⟩=>⟨I1.kIn,?_⟩) he hpl
 replace q:sp vs H1 Q E0:=by simp_all
 have hl:us.length=ps.length:=by rw[<- r.length];exact F.len _ _ _ _ q
 have hbb:=hb s1 us I1.kIn (by simp_all)
 rw[YD] at hbb
 refine Z_ (Zc (F.run X.A X.stack s1 H1 ⟨us,[]⟩ us vs Q E0 hr I1.Oo hbb r q) fun r s' hq=>?_)
 cases r with
 | error e=>exact hq.elim
 | ok fl=>
  cases fl with
  | ret u=>exact I1.after hq
  | next=>exact hq.elim
  | brk=>exact hq.elim
  | cont=>exact hq.elim
end
end L2
namespace L2
open PySem PySem.Spec PyProof.Rows PySem.W
def Gh:plainId "BaseException.__getattribute__" = true:={:_}
def JY:builtinKind "BaseException.__getattribute__" = ξ .slot:=by rfl
def F4:splitId "BaseException.__getattribute__" = ξ ("BaseException", "__getattribute__"):=by rfl
section
variable {prog:X5}{w:Yw}{A:YK}{E:XI->XO->Prop}{s:XO}{K:gV}{x D:XW}{ox:Obj}{odo:Option Obj}{name:Str}
def Nd (X:K.In s.heap) (I:InstAt s.heap x ox D odo) (hf:findObj K D odo name=ξ (.bind g0 a0)) (h:wpAny (model prog w) A (call g0 [a0,.ref x,.ref D]) (fun v s'=>Q (.done (.ret v)) s') E s) :
  wpAny (model prog w) A (ZJ.«object.__getattribute__» ⟨[.ref x,.str name tk],[]⟩) Q E s:=by
 have L0:=I.type (M:=model prog w)
 have L1:=looks_find (M:=model prog w) X I hf
 refine td (XG (td (XG (td (L0.at (td (L1.at ?_)))))))
 exact td (YA (Yl h (fun v s' z=>XG z) fun _ _ z=>z))
def KI (X:K.In s.heap) (I:InstAt s.heap x ox D odo) (hsub:mroIn K D (.type "BaseException")=ξ θ) (hf:findObj K D odo name=ξ (.bind g0 a0))
  (h:wpAny (model prog w) A.in1 (call g0 [a0,.ref x,.ref D]) (fun v s'=>R (.ok (.ret v)) s') (fun e s'=>R (.error e) s') s) :
  codeAny (model prog w) A (.call (.builtin "BaseException.__getattribute__") ⟨[.ref x,.str name tk],[]⟩) R s:=by
 have L0:=I.type (M:=model prog w)
 have L3:ab1 (model prog w) s.heap (isInstance (.ref x) (.type "BaseException")) true:=L0.andThen (ac4 X hsub)
 refine aaw Gh F.entry_bexc_ga ?_
 refine adb (i:="BaseException.__getattribute__") JY F4 L3 (F.args_bexc_ga (.ref x) (.str name tk)) ?_
 exact Nd X I hf h
def JH (X:K.In s.heap) (I:InstAt s.heap x ox D odo) (hga:findIn K (.ref D) "__getattribute__" = ξ (ξ (.builtin "BaseException.__getattribute__"))) (hhk:findIn K (.ref D) "__getattr__" = ξ ζ) (hsub:mroIn K D (.type "BaseException")=ξ θ)
  (hf:findObj K D odo name=ξ (.bind g0 a0)) (hv:handedIn v0=θ)
  (h:∀A E Q' , Q' v0 { s with toks:=s.toks+1 }->wpAny (model prog w) A (call g0 [a0,.ref x,.ref D]) Q' E { s with toks:=s.toks+1 })
  (q:Q (ξ v0) { s with toks:=s.toks+1 }):wpAny (model prog w) A (getAttr? (.ref x) name) Q E s:=by
 obtain⟨hh,gg,d,t,os⟩:=s
 have L0:=I.type (M:=model prog w)
 have L1:=abh (M:=model prog w) X hga
 have L2:=abh (M:=model prog w) X hhk
 refine td (wpAny_mkText (td (acN (YA (td (L0.at (td (L1.at ?_))))))))
 dsimp only
 unfold getAttrByItsOwn hookBefore
 refine td (L2.at (td (acN (YA ?_))))
 unfold callGetattribute
 unfold boundAndCalled
 refine td (XG ?_)
 refine Z_ (KI X I hsub hf (h _ _ _ ?_))
 exact handed_on hv (XG q)
end
def HH {K:gV} (hga:findIn K (.ref D) "__getattribute__" = ξ (ξ (.builtin "BaseException.__getattribute__"))) (hhk:findIn K (.ref D) "__getattr__" = ξ ζ) (hsub:mroIn K D (.type "BaseException")=ξ θ) (hdct:hasDictIn K D=θ) (ha:findIn K (.ref D) "__class__" = ξ (ξ (.builtin "object.__class__")))
  (hn:specialIn K (.builtin "object.__class__") "__get__" = ξ (ξ (.builtin "getset_descriptor.__get__"))) (htk:takesIn K (.builtin "object.__class__")=ξ θ) (hm:mroIn K D (.type "object")=ξ θ) :
  KitX K (.ref x) (.ref D) (fun h=>InstAt h x ox D odo):=by
 obtain⟨cdD,hcD,_⟩:=acO hdct
 have hlk:∃c' d' cd' sl',K.lookup D=ξ ⟨c',d',.cls cd',sl'⟩:=by
  unfold clsIn at hcD
  grind
 obtain⟨c',d',cd',sl',ho⟩:=hlk
 refine⟨fun _ _ _ I=>I.type,fun _ _ X _=>?_,fun h tp dd its n sl X htp=>?_,fun{prog w A E Q s} X I k=>?_⟩
 ·intro A' Q' E' s' k q
  exact td (aay (k _ _ (X _ _ ho)) (XG q))
 ·refine Bool.eq_false_iff.mpr fun q=>?_
  have e:=Yj.inj (beq_iff_eq.mp q)
  subst e
  have z:=(X _ _ ho).symm.trans htp
  cases z
 ·have hf:findObj K D odo "__class__" = ξ (.bind (.builtin "getset_descriptor.__get__") (.builtin "object.__class__")):=by
   unfold findObj
   simp_all
  exact JH X I hga hhk hsub hf rfl (fun A E Q' q'=>Z_ (class_get (s:={ s with toks:=s.toks+1 }) X I hm q')) k
@[inline]abbrev cI:List Str:=["FallError", "NoOrder", "NoNumber", "NoSet", "NoRow", "NoLine", "NoText", "TooGreat"]
abbrev Cd (c x:Str):Bool:=c == x || x == "FallError"
abbrev KS (c:Str):Bool:=!(c == "NoText" || c == "TooGreat")
abbrev CO (K:gV) (D:XW):Bool:=findIn K (.ref D) "__getattribute__" == ξ (ξ (.builtin "BaseException.__getattribute__"))&&findIn K (.ref D) "__getattr__" == ξ ζ&&mroIn K D (.type "BaseException") == ξ θ&&hasDictIn K D&&findIn K (.ref D) "__class__" == ξ (ξ (.builtin "object.__class__"))&&specialIn K (.builtin "object.__class__") "__get__" == ξ (ξ (.builtin "getset_descriptor.__get__"))&&takesIn K (.builtin "object.__class__") == ξ θ&&mroIn K D (.type "object") == ξ θ
abbrev Ow (K:gV) (l:List (Str × XW)):Bool:=l.all fun p=>CO K p.2&&kitOne K (.ref p.2) (.type "ValueError") == ξ θ&&(!KS p.1 || excIn K p.2 bmV "ValueError.__new__")&&l.all fun q=>kitOne K (.ref p.2) (.ref q.2) == ξ (Cd p.1 q.1)&&(!(q.1 == "FallError") || exmOne K (.ref p.2) (.ref q.2) == ξ θ)
abbrev K9 (K:gV):Prop:=∃l:List (Str × XW),l.map (·.1)=cI/\(∀p∈l,nsIn K mainGlobals p.1=ξ (ξ (.ref p.2)))/\Ow K l=θ
def P5 {K:gV} (e0:nsIn K mainGlobals "FallError" = ξ (ξ (.ref a0))) (e1:nsIn K mainGlobals "NoOrder" = ξ (ξ (.ref a1))) (e2:nsIn K mainGlobals "NoNumber" = ξ (ξ (.ref a2))) (e3:nsIn K mainGlobals "NoSet" = ξ (ξ (.ref a3)))
  (e4:nsIn K mainGlobals "NoRow" = ξ (ξ (.ref a4))) (e5:nsIn K mainGlobals "NoLine" = ξ (ξ (.ref a5))) (e6:nsIn K mainGlobals "NoText" = ξ (ξ (.ref a6))) (e7:nsIn K mainGlobals "TooGreat" = ξ (ξ (.ref a7)))
  (c:Ow K [("FallError", a0),("NoOrder", a1),("NoNumber", a2),("NoSet", a3),("NoRow", a4),("NoLine", a5),("NoText", a6),("TooGreat", a7)]=θ):K9 K:=
 ⟨_,rfl,by
  simp_all,c⟩
structure oX (K) (mg:Str->Option XI):Prop where
 at_:∀c∈cI,∃C,mg c=some (.ref C)
 one:∀c∈cI,∀C,mg c=some (.ref C)->CO K C=true/\kitOne K (.ref C) (.type "ValueError")=some true/\(KS c=true->excIn K C bmV "ValueError.__new__" = true)
 two:∀c∈cI,∀C,mg c=some (.ref C)->∀x∈cI,∀X,mg x=some (.ref X)->kitOne K (.ref C) (.ref X)=some (Cd c x)
 exm:∀c∈cI,∀C,mg c=some (.ref C)->∀X,mg "FallError" = some (.ref X)->exmOne K (.ref C) (.ref X)=some true
def oX.of {K:gV}{h:Y2}{mg:Str->Option XI} (X:K.In h) (G:h.Ns mainGlobals mg) (k:K9 K):oX K mg:=by
 obtain⟨l,h1,h2,h3⟩:=k
 have mem:∀c∈cI,∀C,mg c=ξ (.ref C)->(c,C)∈l:=fun c hc C e=>by
  rw[<- h1] at hc
  obtain⟨p,hp,rfl⟩:=X3.mp hc
  have:=Zq X G (h2 p hp)
  rw[e] at this;cases this
  exact hp
 have al:=X_.mp h3
 refine⟨fun c hc=>?_,fun c hc C e=>?_,fun c hc C e x hx D e'=>?_,fun c hc C e D e'=>?_⟩
 ·rw[<- h1] at hc
  obtain⟨p,hp,rfl⟩:=X3.mp hc
  exact⟨_,Zq X G (h2 p hp)⟩
 ·have:=al _ (mem c hc C e)
  simp only[XX,beq_iff_eq,Bool.or_eq_true] at this
  refine⟨this.1.1.1,this.1.1.2,fun z=>this.1.2.elim (fun y=>?_) fun y=>y⟩
  rw[z] at y;cases y
 ·have:=al _ (mem c hc C e)
  simp only[XX] at this
  have:=X_.mp this.2 _ (mem x hx D e')
  simp only[XX,beq_iff_eq] at this
  exact this.1
 ·have:=al _ (mem c hc C e)
  simp only[XX] at this
  have:=X_.mp this.2 _ (mem "FallError" (by decide) D e')
  simp only[XX,beq_iff_eq,Bool.or_eq_true] at this
  rcases this.2 with z | z
  ·exact absurd z (by decide)
  ·exact z
def GD (ok:HOk P w H h) (q:H p=ξ (FE.AtO p o)) (hc:o.cls=.ref C) (hd:∃vs,o.data=.fields vs) (xf:FE.XFs H o.dict fs):∃odo,InstAt h p o C odo:=by
 obtain⟨q1,_⟩:=ok p _ q
 obtain⟨vs,hd⟩:=hd
 have nc:notCls o=true:=by unfold notCls;rw[hd]
 rcases xf with⟨z,_⟩ | ⟨dx,od,z,q2⟩
 ·exact⟨ζ,q1,hc,nc,by simp_all⟩
 ·obtain⟨q3,_⟩:=ok dx _ q2
  exact⟨ξ od,q1,hc,nc,by simp_all⟩
end L2
namespace L2.FE
open PySem PySem.Spec PyProof.Rows
section
variable {X:Cx}{g:GG}{ε:EE}{K:gV}
abbrev B8 (x:Str):D->Hh->R D:=fun d h=>match d with
 | .exc c _=>if (cI.contains c&&cI.contains x)=θ then .ok (.bl (Cd c x)) h else .bad
 | _=>.bad
abbrev T4:D->Hh->R D:=fun d h=>match d with
 | .exc c _=>if cI.contains c=θ then .ok (.bl θ) h else .bad
 | _=>.bad
def m4 (h:gOf mg x=ξ f):mg x=ξ (.ref f):=by
 unfold gOf at h
 grind
def A8 (hc:oX X.K X.mg) (hgo:g=gOf X.mg):bU X (.builtin "isinstance") (fun vs H Q=>∃p D o c fs C b,vs=[.ref p,D]/\g c=ξ C/\H p=ξ (AtO p o)/\o.cls=.ref C/\(∃us,o.data=.fields us)/\XFs H o.dict fs/\cI.contains c=θ/\(∀u,RelV D u->Y3 X.K (.ref C) u=ξ b)/\Q (.bl b) H):=by
 intro pins s σ H xs us Q I r h
 obtain⟨p,D,o,c,fs,C,b,rfl,hg,hp,hcl,hd,xf,hcn,hk,q⟩:=h
 cases r with
 | @cons _ _ _ _ r1 r2=>
  cases r2 with
  | @cons _ u _ _ r3 r4=>
   cases r4
   cases r1
   obtain⟨odo,ia⟩:=GD I.hok hp hcl hd xf
   subst hgo
   have hC:=m4 hg
   have k1:=(hc.one c (by simp_all) C hC).1
   unfold CO at k1
   simp only[XX,beq_iff_eq] at k1
   obtain⟨⟨⟨⟨⟨⟨⟨a1,a1b⟩,a1c⟩,a2⟩,a3⟩,a4⟩,a5⟩,a6⟩:=k1
   refine YC (HH a1 a1b a1c a2 a3 a4 a5 a6) I.kIn ia (hk u r3) {..} fun tk=>?_
   exact⟨.bl b,H,I.kept fun _ _ z=>z,rfl,q⟩
def QF (hg:Gl X x) (hm:X.mg x=ξ (.ref C)) (hd:(x == ("__debug__" : Str))=false:=by decide):PE X (.Name x p) (tC (.ref C)):=fun pins s σ H Q I h=>jj I hg hm ⟨.ref C,H,I,rfl,h⟩ hd
def mF {e:YL}{me:ME}{x:Str}{p1 p2 pos:Pos} (hc:oX X.K X.mg) (hgo:g=gOf X.mg) (he:PE X e (tM X.K g ε me)) (hg:Gl X "isinstance") (hm:X.mg "isinstance" = ζ) (hg2:Gl X x) (hx:x∈cI) (hd:(x == ("__debug__" : Str))=false:=by decide)
  (hs1:starEach [e,.Name x p2] X.env=(ψ,eval e X.env)::starEach [.Name x p2] X.env:=by rfl) (hs2:starEach [.Name x p2] X.env=[(ψ,eval (.Name x p2) X.env)]:=by rfl) (hpl:(backTo pos (starEach [.Name x p2] X.env)).any (·.1)=false:=by rfl) :
  PE X (.Call (.Name "isinstance" p1) [e,.Name x p2] [] pos) (tM X.K g ε (cUn (B8 x) me)):=by
 obtain⟨C2,hC2⟩:=hc.at_ x hx
 refine PE.imp (mY (A8 hc hgo) hg hm aag (fw he (fw (QF hg2 hC2 hd) j0 hs2) hs1) (by decide) (by decide) hs1 hpl) fun σ H Q ⟨α,env,h,s,w⟩=>tM.use s w.bind fun d1 h1 v1 H1 α1 e1 s1 r1 w1=>?_
 cases r1 with
 | @exc c C p o fs hgc hp hcl hdd xf=>
  obtain⟨hh,w1⟩:=WQ.dj w1
  rw[XX] at hh
  refine⟨p,.ref C2,o,c,fs,C,_,rfl,hgc,hp,hcl,hdd,xf,hh.1,fun u ru=>?_,aJ.now (aJ.ext e1 w1) s1.heap (.bl _)⟩
  cases ru
  subst hgo
  exact hc.two c (by simp_all) C (m4 hgc) x hx C2 hC2
 | _=>exact w1.elim
def Rj {e:YL}{me:ME}{p1 p2 pos:Pos} (hc:oX X.K X.mg) (hgo:g=gOf X.mg) (he:PE X e (tM X.K g ε me)) (hg:Gl X "isinstance") (hm:X.mg "isinstance" = ζ) (hg2:Gl X "ValueError") (hm2:X.mg "ValueError" = ζ)
  (hs1:starEach [e,.Name "ValueError" p2] X.env=(ψ,eval e X.env)::starEach [.Name "ValueError" p2] X.env:=by rfl) (hs2:starEach [.Name "ValueError" p2] X.env=[(ψ,eval (.Name "ValueError" p2) X.env)]:=by rfl) (hpl:(backTo pos (starEach [.Name "ValueError" p2] X.env)).any (·.1)=false:=by rfl) :
  PE X (.Call (.Name "isinstance" p1) [e,.Name "ValueError" p2] [] pos) (tM X.K g ε (cUn T4 me)):=by
 refine PE.imp (mY (A8 hc hgo) hg hm aag (fw he (fw (DX (v:=.ty "ValueError") hg2 hm2 PyProof.Rows.Boot.«ValueError» rfl (by decide) (by decide)) j0 hs2) hs1) (by decide) (by decide) hs1 hpl) fun σ H Q ⟨α,env,h,s,w⟩=>tM.use s w.bind fun d1 h1 v1 H1 α1 e1 s1 r1 w1=>?_
 cases r1 with
 | @exc c C p o fs hgc hp hcl hdd xf=>
  obtain⟨hh,w1⟩:=WQ.dj w1
  refine⟨p,.ty "ValueError", o,c,fs,C,_,rfl,hgc,hp,hcl,hdd,xf,hh,fun u ru=>?_,aJ.now (aJ.ext e1 w1) s1.heap (.bl _)⟩
  cases ru
  subst hgo
  exact(hc.one c (by simp_all) C (m4 hgc)).2.1
 | _=>exact w1.elim
def AD {h:Y2} (x:h.IsList l its):∃dd n sl,h.get? l=ξ { cls:=.type "list", dict:=dd,data:=.seq its n,slots:=sl }:=by
 obtain⟨⟨c,d,da,sl⟩,h1,h2,n,h3⟩:=x
 simp_all
abbrev eqB (b:Bool):XI->Bool
 | .bool c=>c == b
 | _=>ψ
def t8:∀{bs:List Bool}{us:List XI},Vals (bs.map V.bl) us->us=bs.map abo
 | [],_,.nil=>rfl
 | b::bs,_,.cons r t=>by
  have e:=r
  rw[e,t8 t];rfl
abbrev Fb (K:gV):V->List V->Hp->VK->Prop:=fun x vs H Q=>∃(l:XW) (bs:List Bool) (b:Bool),x=.ref l/\vs=[.bl b]/\SqL K H l (bs.map V.bl)/\Q (.int (bs.countP (· == b):Nat)) H
def GV:MtM X "list.count" (Fb X.K):=by
 intro pins s σ H x vs v us Q I rx rv h
 obtain⟨l,bs,b,rfl,rfl,hq,q⟩:=h
 cases rx
 obtain⟨u,rfl,ru⟩:=rv.one
 have e0:=ru
 subst e0
 obtain⟨its,rs,pl,hz⟩:=I.list hq
 have ei:=t8 rs
 subst ei
 obtain⟨dd,n,sl,ho⟩:=AD pl.isList
 refine aab F.slot_list_count ⟨_,ho,rfl⟩ F.entry_list_count (F.args_list_count_2 _ _) (SeqAt.list_countAt l _ n dd sl (.bool b) (eqB b)) ⟨ho,fun y hy=>?_,?_⟩
 ·obtain⟨c,_,rfl⟩:=X3.mp (by simp_all:y∈bs.map abo)
  exact abk c b
 ·refine⟨.int (bs.countP (· == b):Nat),H,I.kept fun _ _ z=>z,⟨s.toks,?_⟩,q⟩
  rw[List.countP_map]
  rfl
abbrev El (K:gV):V->List V->Hp->VK->Prop:=fun x vs H Q=>∃(l:XW) (bs:List Bool) (b:Bool) (j:Nat),x=.ref l/\vs=[.bl b]/\SqL K H l (bs.map V.bl)/\bs.findIdx? (· == b)=ξ j/\bs.length<1000000/\Q (.int (j:Nat)) H
def F7:MtM X "list.index" (El X.K):=by
 intro pins s σ H x vs v us Q I rx rv h
 obtain⟨l,bs,b,j,rfl,rfl,hq,hj,hlen,q⟩:=h
 cases rx
 obtain⟨u,rfl,ru⟩:=rv.one
 have e0:=ru
 subst e0
 obtain⟨its,rs,pl,hz⟩:=I.list hq
 have ei:=t8 rs
 subst ei
 obtain⟨dd,n,sl,ho⟩:=AD pl.isList
 obtain⟨hlt,hit,hno⟩:=List.findIdx?_eq_some_iff_getElem.mp hj
 refine aab F.slot_list_index ⟨_,ho,rfl⟩ F.entry_list_index (F.args_list_index_2 _ _) (SeqAt.list_indexAt l _ n dd sl (.bool b) (eqB b) j (by simp_all) {} ?_ ?_) ⟨ho,fun y hy=>?_,?_⟩
 ·simpa [eqB] using hit
 ·intro m hm h2
  have:=hno m h2
  simpa [eqB] using this
 ·obtain⟨c,_,rfl⟩:=X3.mp (by simp_all:y∈bs.map abo)
  exact abk c b
 ·exact⟨.int (j:Nat),H,I.kept fun _ _ z=>z,⟨s.toks,rfl⟩,q⟩
abbrev yO:D->List D->Hh->R D:=fun o ds h=>match o,ds with
 | .frl xs,[.bl b]=>match pS xs with
  | some bs=>.ok (.int (bs.countP (· == b):Nat)) h
  | none=>.bad
 | _,_=>.bad
abbrev xP:D->List D->Hh->R D:=fun o ds h=>match o,ds with
 | .frl xs,[.bl b]=>match pS xs with
  | some bs=>match bs.findIdx? (· == b) with
   | some j=>if bs.length<1000000 then .ok (.int (j:Nat)) h else .bad
   | none=>.bad
  | none=>.bad
 | _,_=>.bad
def FR:mH K g ε yO (Fb K):=by
 intro α H h o a y x Q r ro ra w
 unfold yO at w
 cases ro with
 | @frl ds p vs hq rs=>
  cases ra with
  | nil=>exact w.elim
  | cons rd rr=>
   cases rr with
   | cons _ _=>cases rd<;>exact w.elim
   | nil=>
    cases rd with
    | bl b=>
     simp only at w
     cases e2:pS ds with
     | none=>rw[e2] at w;exact w.elim
     | some bs=>
      rw[e2] at w
      have e3:=mK e2
      subst e3
      have e4:=rs.Rr
      subst e4
      exact⟨p,bs,b,rfl,rfl,hq.sq,aJ.now w r (.int _)⟩
    | _=>exact w.elim
 | _=>exact w.elim
def G9:mH K g ε xP (El K):=by
 intro α H h o a y x Q r ro ra w
 unfold xP at w
 cases ro with
 | @frl ds p vs hq rs=>
  cases ra with
  | nil=>exact w.elim
  | cons rd rr=>
   cases rr with
   | cons _ _=>cases rd<;>exact w.elim
   | nil=>
    cases rd with
    | bl b=>
     simp only at w
     cases e2:pS ds with
     | none=>rw[e2] at w;exact w.elim
     | some bs=>
      rw[e2] at w
      simp only at w
      cases e5:bs.findIdx? (· == b) with
      | none=>rw[e5] at w;exact w.elim
      | some j=>
       rw[e5] at w
       obtain⟨hl,w⟩:=WQ.dj w
       have e3:=mK e2
       subst e3
       have e4:=rs.Rr
       subst e4
       exact⟨p,bs,b,j,rfl,rfl,hq.sq,e5,hl,aJ.now w r (.int _)⟩
    | _=>exact w.elim
 | _=>exact w.elim
end
end L2.FE
namespace L2
open PySem PySem.Spec PyProof.Rows
def Inv.T8 {σ:St} (J:Inv (X.wpn pn E) pins' σ H s) (hp:∀p∈X.pn++pins,p∈pn++pins'):Inv X pins σ H s:=
 ⟨⟨J.ok.mod,J.ok.kind,J.ok.glob,J.ok.blt,J.ok.above,J.ok.inj,J.ok.has,J.ok.cab,J.ok.hd,J.ok.frames,J.ok.stk,J.ok.exf,J.ok.bs,J.ok.bsz,J.ok.wt,J.ok.AU,J.ok.kM,J.ok.frf⟩,J.os,J.bare,J.base,J.loc,J.cell,J.free,J.e8,fun p h=>J.pin p (hp p h),J.hok,J.len⟩
end L2
namespace L2.FE
open PySem PySem.Spec PyProof.Rows
abbrev M3 (P:X5) (w:Yw) (K:gV) (mg:Str->Option XI) (base:Y2) (g:GG) (x:Str) (k:Nat) (ps:List Str) (m:MF):Prop:=
 ∃f fd,FnH P w K mg base k f fd ps (spM K g ps.length m)/\X6 K (.ref f)=θ/\Binds K fd ps []/\mg x=ξ (.ref f)
section
variable {P:X5}{w:Yw}{K:gV}{mg:Str->Option XI}{base:Y2}{g:GG}
def OZ {st:aaN} (F:Fun K x qual st f fd) (S:a9 N ps (aj st))
  (hb:∀cdv A outer s H E , b8 k (unm (A.deeper (envOfC qual (aj st) s.heap.objs.size f cdv))) →
   PSs (cxH P w K mg base N qual (aj st) f cdv A outer s H E) (br st) (tMS K g E00 mb)):FnH P w K mg base (k+1) f fd ps (spM K g ps.length (ba N.length mb)):=by
 refine Pe F S (fun vs H Q E h=>h.1) fun cdv A outer s H vs Q E hr h=>⟨_,hb cdv A outer s H E hr,?_⟩
 obtain⟨hl,α,ds,h,rs,hh,w⟩:=h
 refine tMS.use ⟨hh,lM rs⟩ w.bind fun fl h' H' α' e r kk=>?_
 cases fl with
 | nx e'=>exact fun σ' s'=>(show aJ K g α H Q .non h' from kk) _ H' α' e r .non
 | bk e'=>exact kk.elim
 | ct e'=>exact kk.elim
 | rt d=>exact fun v rv=>(show aJ K g α H Q d h' from kk) _ H' α' e r rv
end
section
variable {X:Cx}{g:GG}{ε:EE}
def Jf {k:Nat}{f:XW}{fd:Zy}{ps:List Str}{m:MF}{np:Nat}{x:Str}{p pos:Pos}{e:YL}{es:List YL}{mr:MA} (F:FnH X.prog X.w X.K X.mg X.base k f fd ps (spM X.K g np m)) (hr:b8 k (unm X.A)) (hg:Gl X x) (hm:X.mg x=ξ (.ref f)) (hk:X6 X.K (.ref f)=θ) (hb:Binds X.K fd ps [])
  (ha:PA X (e::es) (tMA X.K g E00 mr)) (hlen:∀env h ds h',mr env h=.ok ds h'->ds.length=np) (hdb:(x == ("__debug__" : Str))=false:=by decide) (he:starEach (e::es) X.env=(ψ,eval e X.env)::starEach es X.env:=by rfl) (hpl:(backTo pos (starEach es X.env)).any (·.1)=false:=by rfl) :
  PE X (.Call (.Name x p) (e::es) [] pos) (tM X.K g E00 (af m mr)):=
 PE.imp (Bs F hr hg hm hk hb ha hdb he hpl) fun σ H Q ⟨α,env,h,s,w⟩=>⟨α,env,h,s,w.bind.mono fun d1 h1 eq w1 v1 H1 α1 e1 hr1 r1=>by
  show spM X.K g np m (v1++[]) H1 Q E0
  rw[YD]
  refine⟨?_,α1,d1,h1,r1,hr1,w1.post e1⟩
  rw[<- r1.length]
  grind⟩
abbrev Cq (mb:MS) (mr:MF):MS:=fun env h=>match mb env h with
 | .ok fl h'=>.ok fl h'
 | .err x h'=>if (cI.contains x.cls&&(h'.take h.length).all (oW h.length))=θ then (noR (mr [.exc x.cls x.fs] (h'.take h.length))).bind fun d h2=>.ok (.rt d) h2 else .bad
 | .bad=>.bad
def Sw {body:List aaN}{mb:MS}{mr:MF}{k:Nat}{f:XW}{fd:Zy}{ps:List Str}{i:Nat}{n y:Str}{np p1 p2 cpos rpos hpos pos:Pos}
  (hcl:oX X.K X.mg) (hgo:g=gOf X.mg) (pl:Plain X) (hN:X.N.Nodup) (hi:X.N[i]?=ξ n) (hl:X.env.scope.names.lookup n=ξ .local) (hgF:Gl X "FallError") (hgR:Gl X y)
  (F:FnH X.prog X.w X.K X.mg X.base k f fd ps (spM X.K g 1 mr)) (hr:b8 k (unm X.A)) (hm:X.mg y=ξ (.ref f)) (hk:X6 X.K (.ref f)=θ) (hb:Binds X.K fd ps [])
  (hbd:∀(pn:List (XW × Obj)) (xe:XI->XO->Prop) (E:XK),gM (X.wpn pn xe) E->Plain (X.wpn pn xe)->abf (model X.prog X.w) X.A X.env xe->PSs (X.wpn pn xe) body (tMS X.K g (εX g E) mb))
  (hdn:(n == ("__debug__" : Str))=false:=by decide) (hdc:(n == ("__classdict__" : Str))=false:=by decide) (hdb:(y == ("__debug__" : Str))=false:=by decide)
  (hst:starEach [.Name n p2] X.env=(ψ,eval (.Name n p2) X.env)::starEach [] X.env:=by rfl) (hpl:(backTo cpos (starEach [] X.env)).any (·.1)=false:=by rfl) :
  PS X (.Try body [.ExceptHandler (ξ (.Name "FallError" np)) (ξ n) [.Return (ξ (.Call (.Name y p1) [.Name n p2] [] cpos)) rpos] hpos] [] [] pos) (tMS X.K g ε (Cq mb mr)):=by
 intro pins s σ H D I ⟨α,env,h,sr,w⟩
 obtain⟨CF,hmF⟩:=hcl.at_ "FallError" (by decide)
 refine wpAny_Try_except ?_
 let K1:XI->XO->Prop:=fun e s₁=>wpAny (model X.prog X.w) X.A (noteFrame e X.env) (fun _ s₂=>wpAny (model X.prog X.w) X.A (setFlight e ζ) (fun _ s₃=>wpAny (model X.prog X.w) X.A (handleBy e X.env [.ExceptHandler (ξ (.Name "FallError" np)) (ξ n) [.Return (ξ (.Call (.Name y p1) [.Name n p2] [] cpos)) rpos] hpos]) (SP X pins D) X.xe s₃) X.xe s₂) X.xe s₁
 let E1:XK:=fun C dc H'=>∃α' x h',mb env h=.err x h'/\Ext X.K α H α' H'/\bo X.K g α' H' h'/\(∃C0,C=.ref C0/\g x.cls=ξ C0)/\XFs H' dc x.fs
 have un:∀{σ:St} {H:Hp} {s:XO},Inv (X.wpn (X.pn++pins) K1) [] σ H s->Inv X pins σ H s:=fun J=>J.T8 fun p hp=>by simpa using hp
 have fl:gM (X.wpn (X.pn++pins) K1) E1:=by
  rintro e s1 ⟨σ1,H1,B,a,C,dc,rfl,J,ar,cv,pn,α',x,h',eq,ext,hr',⟨C0,rfl,hgC⟩,xf⟩
  have ar':Arr B (X.env::X.outer) a (.ref C0) dc s1.heap:=by rw[<- pl.stk.1];exact ar
  have hA:X.A.frames=ξ (X.env::X.outer):=by rw[<- pl.stk.1];exact J.ok.frames
  have pl1:Plain (X.wpn (X.pn++pins) K1):=⟨pl.ex,pl.stk⟩
  unfold Cq at w
  rw[eq] at w
  obtain⟨low,w⟩:=WQ.dj w
  rw[XX] at low
  obtain⟨hcn,low⟩:=low
  refine BX hA pl.stk.2 ar' fun h2 y2 g2=>yU y2 fun h3 y3 g3=>?_
  have J3:=J.flew (t':=s1.toks) pl1 cv pn ar.stays ar.fr y3.stays (g2.trans g3)
  refine wpAny_handleBy_cons (codeAny_handlers_test ?_) (by intro q;cases q)
  have J3h:Inv ((X.wpn (X.pn++pins) K1).hand (X.A.mark (ξ (.ref a))) (X.pn++pins) fun _ _=>False) [] σ1 H1 { s1 with heap:=h3 }:=Inv.hand (A:=X.A.mark (ξ (.ref a))) J3 rfl (fun p hp=>hp) _
  refine jj J3h hgF hmF ?_
  obtain⟨ob,ws0,hob,hoc,_,_⟩:=y3.there
  have LT:ab1 (model X.prog X.w) h3 (typeOf (.ref a)) (.ref C0):=hoc ▸ (ab1.ld hob).andThen .now
  have hx:PySem.W.exmOne X.K (.ref C0) (.ref CF)=ξ true:=by
   subst hgo
   exact hcl.exm x.cls (by simpa using hcn) C0 (m4 hgC) CF hmF
  refine(PySem.W.exm_one J3.kIn LT hx).here ?_
  refine codeAny_handlers_suite_as ?_
  refine yU y3 fun h4 y4 g4=>?_
  have J4:=J.flew (t':=s1.toks) pl1 cv pn ar.stays ar.fr y4.stays (g2.trans (g3.trans g4))
  obtain⟨oe,ws,q1,q2,q3,q4⟩:=y4.there
  have fr4:h4.FunFrames B X.stack:=by rw[pl.stk.1];exact y4.fr
  obtain⟨hn,J5⟩:=J4.adopt pl1 cv pn fr4 y4.new q1 q4
  refine gG (X:=X.wpn (X.pn++pins) K1) J5 hN hi (.inl hl) (v:=.ref a) (u:=.ref a) rfl (fun s6 J6=>?_) (.inr hl)
  have J7:Inv ((X.wpn (X.pn++pins) K1).hand (X.A.mark (ξ (.ref a))) (X.pn++pins) fun _ _=>False) [] (σ1.set i (ξ (.ref a))) (upd H1 a (AtO a oe)) s6:=Inv.hand (A:=X.A.mark (ξ (.ref a))) (pn:=X.pn++pins) J6 rfl (fun p hp=>hp) _
  have T:=D8 (Lk (pos:=rpos) (Bs (X:=(X.wpn (X.pn++pins) K1).hand (X.A.mark (ξ (.ref a))) (X.pn++pins) fun _ _=>False) (p:=p1) (pos:=cpos) F hr hgR hm hk hb (fw (Lm (pos:=p2) hi (.inl hl) hdn hdc) j0 hst) hdb hst hpl))
  have lenσ:i<σ1.length:=by rw[J.len];exact(X9.mp hi).1
  refine Yl (T [] s6 _ _ { nx:=fun _ _=>False,rt:=D.rt } J7 ⟨.ref a,by simp[lenσ],?_⟩) (fun fl s7 q=>?_) fun _ _ z=>z.elim
  ·show spM X.K g 1 mr ([.ref a]++[]) (upd H1 a (AtO a oe)) D.rt E0
   have k0:α.length=h.length:=sr.heap.len
   have fz:∀p o u,H1 p=ξ (.frz o u)->upd H1 a (AtO a oe) p=ξ (.frz o u):=fun p o u z=>by rw[aD (aO z hn)];exact z
   have Lw:wJ X.K α α' H1 (upd H1 a (AtO a oe)) h.length:=⟨fun m hm=>qR ext.pre {},fun p xs z=>by rw[aD (aO z hn)];exact z,fz⟩
   have kp:∀m p u,m<h.length->α'[m]?=ξ p->H1 p=ξ u->upd H1 a (AtO a oe) p=ξ u:=fun m p u _ _ z=>by rw[aD (aO z hn)];exact z
   have ex2:Ext X.K α H α (upd H1 a (AtO a oe)):=⟨⟨Z7 _,fun p xs z=>Lw.tup p xs (ext.tup p xs z),fun p o u z=>fz p o u (ext.frz p o u z),fun p ps z=>by
    obtain⟨m,q⟩:=ext.tbl p ps z
    exact⟨m,by rw[aD (aO q hn)];exact q⟩⟩,fun p u z m nt=>by
    have:=ext.kept p u z m nt
    rw[aD (aO this hn)];exact this,fun _ z m=>absurd z m⟩
   refine⟨rfl,α,[.exc x.cls x.fs],h'.take h.length,.cons (.exc hgC aR q2 ⟨ws,q4⟩ ?_) .nil,⟨?_,sr.heap.inj,fun m p ob h1 h2=>?_,hr'.tab.upd (.inl hn)⟩,?_⟩
   ·rw[q3]
    exact xf.elim .inl fun⟨dx,od,z1,z2⟩=>.inr ⟨dx,od,z1,fz _ _ _ z2⟩
   ·rw[Z6,<- hr'.len,k0]
    have:=ext.pre.length_le
    lia
   ·have hm:m<h.length:=(ub h2).1
    rw[qR ext.pre {}] at h1
    exact BD k0 ext hr' low Lw kp m p ob hm h1 h2
   ·refine((pJ w.bind).ext ex2).mono fun d h2 _ kk v H2 α2 e2 r2 rd=>?_
    exact(show di X.K g α H D (.rt d) h2 from kk) H2 α2 (ex2.trans e2) r2 v rd
  ·cases fl with
   | ret u=>
    obtain⟨v,σ7,H7,J8,rv,q⟩:=q
    obtain⟨m,hm7,_⟩:=J8.loc
    have J9:Inv X pins σ7 H7 s7:=un (Inv.back (pins:=[]) J8 J.ok fun p hp=>hp)
    refine wpAny_nameGoes_keeps hl hm7 (by rw[I.ok.kind];rfl) fun h8 v8 hn8 sb=>?_
    exact⟨v,σ7.set i ζ,H7,J9.forget hN hi hm7 hn8 (fun z hz=>if_neg hz) sb,rv,q⟩
   | next=>obtain⟨_,_,_,q⟩:=q;exact q.elim
   | brk=>obtain⟨_,_,_,q⟩:=q;exact q.elim
   | cont=>obtain⟨_,_,_,q⟩:=q;exact q.elim
 have I1:Inv (X.wpn (X.pn++pins) K1) [] σ H s:=I.wpn (fun p hp=>by simpa using hp) _
 refine Yl (hbd (X.pn++pins) K1 E1 fl ⟨pl.ex,pl.stk⟩ abf.looking [] s σ H D I1 ⟨α,env,h,sr,?_⟩) (fun f s1 q=>?_) fun _ _ z=>z
 ·unfold Cq at w
  cases eq:mb env h with
  | ok fl h'=>rw[eq] at w;exact w
  | err x h'=>exact fun α' H' e r C dc hg xf=>⟨α',x,h',eq,e,r,⟨C,rfl,hg⟩,xf⟩
  | bad=>rw[eq] at w;exact w.elim
 ·cases f with
  | next=>obtain⟨σ',H',J,q⟩:=q;exact aai ⟨σ',H',un J,q⟩
  | brk=>obtain⟨σ',H',J,q⟩:=q;exact⟨σ',H',un J,q⟩
  | cont=>obtain⟨σ',H',J,q⟩:=q;exact⟨σ',H',un J,q⟩
  | ret u=>obtain⟨v,σ',H',J,r,q⟩:=q;exact⟨v,σ',H',un J,r,q⟩
end
end L2.FE
namespace L2
open PySem PySem.Spec PyProof.Rows
def Kr (h:b8 k A):b8 k (unm A):=⟨rfl,h.dp,h.un,h.gd⟩
end L2
namespace PySem.SeqAt
open PySem PySem.Spec PyProof.Rows PySem.MeetsSeq PySem.MeetsSeq2 PySem.MeetsSeq3
open PySem.AutoSeq1 (wpAny_loadPart')
def Cm {items:Array XI}{e:XI->Bool} (hj)
  (hit:e items[j]=θ) (hno:∀m hm , m<j->e items[m]=ψ) (he:∀y,y∈items->YH A s y x (e y)) (q:Q (ξ (.done (.ret (.int j s.toks))),()) { s with toks:=s.toks+1 }) :
  ∀k i:Nat,i+k=items.size->i<=j->wpAny (model prog w) A (forIn (ab3 i k) ((none:Option Fin),()) fun(i:Nat) (_:Option Fin × Unit)=>
      match items[i]? with
      | some y=>do
       let b ← eqBool y x
       if b=θ then do
         let r ← retInt (i:Int)
         pure (ForInStep.done (ξ r,()))
        else pure (Za ((none:Option Fin),()))
      | _=>pure (Za ((none:Option Fin),()))) Q E s:=by
 intro k
 induction k with
 | zero=>lia
 | succ k ih=>
  intro i h1 h2
  have hlt:i<items.size:={}
  rw[ab9,acj,Array.getElem?_eq_getElem hlt]
  refine td (td (he _ (Array.getElem_mem hlt) prog w _ _ ?_))
  by_cases hij:i=j
  ·subst hij
   wp_walk
   exact q
  ·rw[hno i hlt {}]
   exact XG (ih (i+1) {} {})
def u9 (l) (items) (n) (dd) (sl) (x) (e:XI->Bool) (j:Nat) (hj)
  (hit:e items[j]=θ) (hno:∀m hm , m<j->e items[m]=ψ) :
  Meets (ZJ.«tuple.index» ⟨[.ref l,x],[]⟩)
   (fun A R s=>s.heap.get? l=ξ { cls:=.type "tuple", dict:=dd,data:=.seq items n,slots:=sl }/\(∀y,y∈items->YH A.in1 s y x (e y))/\R (.ok (.ret (.int j s.toks))) { s with toks:=s.toks+1 }):=by
 intro prog w A R s h
 obtain⟨hp,g,d,tk,os⟩:=s;obtain⟨hl,he,h⟩:=h
 unfold ZJ.«tuple.index»
 simp only[Std.Legacy.Range.forIn_eq_forIn_range']
 wp_walk using abw hl
 have hsz:([:min items.size items.size]:Std.Legacy.Range).size=items.size:={..}
 refine Cm hj hit hno he ?_ _ 0 {} (aaF _)
 refine XG ?_
 exact h
end PySem.SeqAt
namespace L2.FE
open PySem PySem.Spec PyProof.Rows
section
variable {X:Cx}{g:GG}{ε:EE}{K:gV}
abbrev eqI (i:Int):XI->Bool
 | .int c _=>c == i
 | _=>ψ
abbrev Ey (K:gV):V->List V->Hp->VK->Prop:=fun x vs H Q=>∃(l:XW) (ns:List Int) (i:Int) (j:Nat),x=.ref l/\vs=[.int i]/\SqT K H l (ns.map V.int)/\ns.findIdx? (· == i)=ξ j/\Q (.int (j:Nat)) H
def nS:∀{ns:List Int}{us:List XI}{m:Nat} (h:m<us.length),Vals (ns.map V.int) us->∃(h':m<ns.length) (t:Tok),us[m]=aah ns[m] t
 | [],_,m,h,.nil=>absurd h (abA _)
 | n::ns,_,0,h,.cons r t=>by obtain⟨t,e⟩:=r;simp_all
 | n::ns,_::us,m+1,h,.cons r t=>by
  obtain⟨h',t',e⟩:=nS (by simpa using h) t
  simp_all
def jY:MtM X "tuple.index" (Ey X.K):=by
 intro pins s σ H x vs v us Q I rx rv h
 obtain⟨l,ns,i,j,rfl,rfl,hq,hj,q⟩:=h
 cases rx
 obtain⟨u,rfl,ru⟩:=rv.one
 obtain⟨t0,rfl⟩:=ru
 obtain⟨its,rs,pt,hz⟩:=I.tuple hq
 obtain⟨⟨c,d,da,sl⟩,ho,hc,n,hd⟩:=pt
 subst hc hd
 obtain⟨hlt,hit,hno⟩:=List.findIdx?_eq_some_iff_getElem.mp hj
 have hlen:its.length=ns.length:=by have:=rs.length;simp_all
 refine aab F.slot_tuple_index ⟨_,ho,rfl⟩ F.entry_tuple_index (F.args_tuple_index_2 _ _) (SeqAt.u9 l _ n d sl (.int i t0) (eqI i) j (by simp_all) ?_ ?_) ⟨ho,fun y hy=>?_,?_⟩
 ·obtain⟨h',t',e⟩:=nS (m:=j) (by omega) rs
  show eqI i its[j]=θ
  rw[e];exact hit
 ·intro m hm h2
  obtain⟨h',t',e⟩:=nS (by omega) rs
  show eqI i its[m]=ψ
  rw[e]
  have:=hno m h2
  simpa [eqI] using this
 ·obtain⟨m,hm,e⟩:=abx (by simp_all:y∈its)
  obtain⟨h',t',e'⟩:=nS hm rs
  rw[<- e,e']
  exact YH.int_int _ _ _ _
 ·exact⟨.int (j:Nat),H,I.kept fun _ _ z=>z,⟨s.toks,rfl⟩,q⟩
abbrev d9:D->List D->Hh->R D:=fun o ds h=>match o,ds with
 | .tup xs,[.int i]=>match intsOf xs with
  | some ns=>match ns.findIdx? (· == i) with
   | some j=>.ok (.int (j:Nat)) h
   | none=>.bad
  | none=>.bad
 | _,_=>.bad
def jV:mH K g ε d9 (Ey K):=by
 intro α H h o a y x Q r ro ra w
 unfold d9 at w
 cases ro with
 | @tup ds p vs hq rs=>
  cases ra with
  | nil=>exact w.elim
  | cons rd rr=>
   cases rr with
   | cons _ _=>cases rd<;>exact w.elim
   | nil=>
    cases rd with
    | int i=>
     simp only at w
     cases e2:intsOf ds with
     | none=>rw[e2] at w;exact w.elim
     | some ns=>
      rw[e2] at w
      simp only at w
      cases e5:ns.findIdx? (· == i) with
      | none=>rw[e5] at w;exact w.elim
      | some j=>
       rw[e5] at w
       have e3:=fN e2
       subst e3
       have e4:=rs.EZ
       subst e4
       exact⟨p,ns,i,j,rfl,rfl,SqT.of hq,e5,aJ.now w r (.int _)⟩
    | _=>exact w.elim
 | _=>exact w.elim
abbrev isT:D->Bool
 | .tup _=>θ
 | _=>ψ
abbrev g7 (f:D->List D->Hh->R D) (o:ME) (a:MA):ME:=fun env h=>(o env h).bind fun x h1=>if isT x=θ then (a env h1).bind fun xs h2=>f x xs h2 else .bad
def tT {o e:YL}{es:List YL}{mo:ME}{mr:MA}{name:Str}{apos cpos:Pos}{id:String}{r:V->List V->Hp->VK->Prop}{f:D->List D->Hh->R D} (slot:Slot "tuple" name id) (hty:typeOf (.builtin id)=pure (.type "method_descriptor")) (hm:MtM X id r) (im:mH X.K g ε f r) (ho:PE X o (tM X.K g ε mo)) (ha:PA X (e::es) (tMA X.K g ε mr))
  (hbase:attributeBase o name X.env (eval o X.env)=eval o X.env:=by rfl)
  (hfew:((backTo cpos (starEach (e::es) X.env)).all (fun x=>!x.1)&&(backToKw cpos (keywordEach [] X.env)).all (fun x=>x.1.isSome)
   && decide ((e::es).length+([]:List aa8).length+(if ([]:List aa8).isEmpty then 0 else 1)<30))=true:=by rfl)
  (hline:(apos.endLine == cpos.line)=true:=by rfl) (hs:starEach (e::es) X.env=(ψ,eval e X.env)::starEach es X.env:=by rfl) (hplain:(backTo cpos (starEach es X.env)).any (·.1)=false:=by rfl) :
  PE X (.Call (.Attribute o name apos) (e::es) [] cpos) (tM X.K g ε (g7 f mo mr)):=
 PE.imp (Bt PySem.F.plainAttrs_tuple slot hty hm ho ha hbase hfew hline hs hplain) fun σ H Q ⟨α,env,h,s,w⟩=>tM.use s w.bind fun d1 h1 v1 H1 α1 e1 s1 r1 w1=>by
  obtain⟨hl,w1⟩:=WQ.dj w1
  refine⟨?_,tMA.use s1 (w1.ext e1).bind fun d2 h2 v2 H2 α2 e2 s2 r2 w2=>?_⟩
  ·cases r1 with
   | @tup ds p vs hq rs=>exact .inr (.inr (.inr (.inr ⟨rfl,vs,hq⟩)))
   | _=>cases hl
  exact im α2 H2 h2 d1 d2 v1 v2 Q s2.heap (r1.ext e2) r2 ((w2.ext e2).mono fun _ _ _ p=>aJ.ext (e1.trans e2) p)
abbrev Dz (P:X5) (w:Yw) (K:gV) (mg:Str->Option XI) (base:Y2) (g:GG) (k np:Nat) (tab:Str->Option MF):Prop:=
 ∀x m,tab x=ξ m->∃f fd ps,g x=ξ f/\cJ P w K mg base (CXE P w) k f fd ps (spE K g np m)/\X6 K (.ref f)=θ/\Binds K fd ps []
def wW {E:XK}{k np:Nat}{tab:Str->Option MF}{fe e:YL}{es:List YL}{pos:Pos}{mf:ME}{mr:MA} (fl:gM X E) (pl:Plain X) (T:Dz X.prog X.w X.K X.mg X.base g k np tab) (hr:b8 k X.A) (hf:PE X fe (tM X.K g (εX g E) mf)) (ha:PA X (e::es) (tMA X.K g (εX g E) mr)) (hlen:∀env h ds h',mr env h=.ok ds h'->ds.length=np)
  (hc:eval (.Call fe (e::es) [] pos) X.env=(do callWith pos (← eval fe X.env) [] (backTo pos (starEach (e::es) X.env)) (backToKw pos (keywordEach [] X.env))):=by rfl)
  (he:starEach (e::es) X.env=(ψ,eval e X.env)::starEach es X.env:=by rfl) (hpl:(backTo pos (starEach es X.env)).any (·.1)=false:=by rfl) :
  PE X (.Call fe (e::es) [] pos) (tM X.K g (εX g E) (tK tab mf mr)):=by
 intro pins s σ H Q I ⟨α,env,h,s0,w⟩
 refine Call_ (thn (hf pins s σ H (fun v H1=>∃α1 h1 f fd ps m,v=.ref f/\cJ X.prog X.w X.K X.mg X.base (CXE X.prog X.w) k f fd ps (spE X.K g np m)/\X6 X.K (.ref f)=θ/\Binds X.K fd ps []/\eJ X.K g α1 H1 env σ h1/\WQ X.K g (εX g E) α1 H1 ((mr env h1).bind m) (aJ X.K g α1 H1 Q)) I ?_) fun v s1 ⟨x,H1,I1,r1,q1⟩=>?_) hc
 ·refine tM.use s0 w.bind fun d1 h1 v1 H1 α1 e1 s1 r1 w1=>?_
  cases r1 with
  | @fn x f hx=>
   simp only at w1
   cases et:tab x with
   | none=>rw[et] at w1;exact w1.elim
   | some m=>
    rw[et] at w1
    obtain⟨f',fd,ps,h1',h2',h3',h4'⟩:=T x m et
    rw[hx] at h1'
    cases h1'
    exact⟨α1,h1,f,fd,ps,m,rfl,h2',h3',h4',s1,WQ.post e1 w1⟩
  | _=>exact w1.elim
 ·obtain⟨α1,h1,f,fd,ps,m,rfl,F,hk,hb,s2,w2⟩:=q1
  cases r1
  refine ZQ I.ok.mod.kin hk (thn (ha pos pins s1 σ H1 (fun vs H2=>spE X.K g np m vs H2 Q E) I1 ?_) fun us s3 ⟨vs,H2,I2,r,q⟩=>⟨I2.kIn,?_⟩) he hpl
  ·exact⟨α1,env,h1,s2,w2.bind.mono fun d3 h3 eq w3 v3 H3 α3 e3 hr3 r3=>⟨by rw[<- r3.length];grind,α3,d3,h3,r3,hr3,w3.post e3⟩⟩
  ·exact yF F hr hb .nil (kq pl fl) I2 r (by simp_all)
end
def us1 {P:List XI->Prop} (hl:us.length=1) (h:∀a,P [a]):P us:=by cases us with | nil=>cases hl | cons a us=>simp_all
def us2 {P:List XI->Prop} (hl:us.length=2) (h:∀a b,P [a,b]):P us:=by cases us with | nil=>cases hl | cons a us=>exact us1 (P:=fun us=>P (a::us)) (Nat.succ.inj hl) (h a)
def us3 {P:List XI->Prop} (hl:us.length=3) (h:∀a b c,P [a,b,c]):P us:=by cases us with | nil=>cases hl | cons a us=>exact us2 (P:=fun us=>P (a::us)) (Nat.succ.inj hl) (h a)
def tm {ps:List Str} (hl:us.length=1) (h:∀a:XI,bindArgs fd ⟨[a],[]⟩=pure (ps.zip [a])):bindArgs fd ⟨us,[]⟩=pure (ps.zip us):=us1 (P:=fun us=>bindArgs fd ⟨us,[]⟩=pure (ps.zip us)) hl h
def Ao {ps:List Str} (hl:us.length=2) (h:∀a b:XI,bindArgs fd ⟨[a,b],[]⟩=pure (ps.zip [a,b])):bindArgs fd ⟨us,[]⟩=pure (ps.zip us):=us2 (P:=fun us=>bindArgs fd ⟨us,[]⟩=pure (ps.zip us)) hl h
def Mr {ps:List Str} (hl:us.length=3) (h:∀a b c:XI,bindArgs fd ⟨[a,b,c],[]⟩=pure (ps.zip [a,b,c])):bindArgs fd ⟨us,[]⟩=pure (ps.zip us):=us3 (P:=fun us=>bindArgs fd ⟨us,[]⟩=pure (ps.zip us)) hl h
section
variable {X:Cx}{g:GG}{ε:EE}{K:gV}
abbrev R8 (sc o:abe):abe:={ sc with names:=sc.names.map fun(n,k)=>if (k == .free&&o.kind == .function&&o.names.lookup n == ξ .cell) then (n,.cell) else (n,k) }
end
end L2.FE
namespace PySem
open Sem (wp)
section
variable {prog:X5}{w:Yw}{A:YK}{E:XI->XO->Prop}{h:Y2}{g:Array GenState}{d:Drawn}{t:Nat}{os:aa5}
variable {nm q:Str}{C N:XW}{bs bm bmB:List XI}{hdct:Bool}{sn:List Str}{sub:List XI}{ab:Bool}{col:Option Bool}{dd:Option XW}{k0 k1 k2 k3 k5:Option XI}{B newId initId:String}
def qL (F:ExcBaseFacts B newId initId bmB) (T:adt h bmB bm)
  (hC:h.get? C=ξ (excClassObj nm q C N bs bm hdct sn sub ab col dd k0 k1 k2 k3 k5 newId)) (hn:h.Ns N mN) (hi:mN "__init__" = ξ (.ref fI)) (hfI:h.get? fI=ξ oI) (hfc:oI.cls=.type "function")
  (hq:∀h' e,Y2.MadeExcOf h h' e (.ref C) rest->e=h.objs.size+1->h'.objs.size=h.objs.size+2->wpAny (model prog w) A (call (.ref fI) (.ref e::rest)) (fun r s'=>r=.none/\Q (.done (.ret (.ref e))) s') E ⟨h',g,d,t,os⟩) (hrest:rest.length<=sizeLine) :
  wpAny (model prog w) A (ZJ.«type.__call__» ⟨.ref C::rest,[]⟩) Q E ⟨h,g,d,t,os⟩:=by
 repeat (first | with_reducible refine aaq hC ?_ | with_reducible refine wpAny_madeBy_exc hC ?_ | wp_step)
 refine codeAny_call_builtin_code (abG _ F.quiet) (wpAny_check_new_subT F T hC ?_)
 refine codeAny_exc_new_subT F T hC ?_ hrest
 have up:∀b o,h.get? b=ξ o->((h.push { cls:=.type "tuple", data:=.seq rest.toArray }).push { cls:=.ref C,data:=.fields #[.ref h.objs.size,.none,.none,.none,.bool ψ,.none] }).get? b=ξ o:=fun b o z=>XB _ (XB _ z)
 have hC1:=up _ _ hC
 have hfI1:=up _ _ hfI
 have hn1:=hn.keeps up
 have hget:((h.push { cls:=.type "tuple", data:=.seq rest.toArray }).push { cls:=.ref C,data:=.fields #[.ref h.objs.size,.none,.none,.none,.bool ψ,.none] }).get? (h.objs.size+1)=ξ { cls:=.ref C,data:=.fields #[.ref h.objs.size,.none,.none,.none,.bool ψ,.none] }:=by heap_get
 have hcC:(Yj C::bm).contains (.ref C)=true:={..}
 have T1:=T.keeps up
 repeat (first | with_reducible refine aaq hget ?_ | (with_reducible refine wpAny_isSubtype_exc hC1 ?_;rw[hcC]) | wp_step)
 refine wpAny_typeLookup_tail hC1 hn1 T1 F.mroIs F.init.lookup ?_
 rw[hi]
 refine YA (td ?_)
 refine td (abg (T:="function") ⟨_,hfI1,hfc⟩ ?_)
 rw[if_pos (by decide)]
 refine XG (td (Yl (hq _ (h.objs.size+1) ⟨up,aau (ac2 _),h.objs.size,hget,aau (XJ _),?_⟩ rfl {..}) (fun r s' hr=>?_) fun _ _ x=>x))
 ·exact XB _ (Y2.get?_push_at rfl rfl)
 ·obtain⟨rfl,hQ⟩:=hr
  wp_walk
  exact hQ
def DN (F:ExcBaseFacts B newId initId bmB) (T:adt h bmB bm)
  (hC:h.get? C=ξ (excClassObj nm q C N bs bm hdct sn sub ab col dd k0 k1 k2 k3 k5 newId)) (hn:h.Ns N mN) (hi:mN "__init__" = ξ (.ref fI)) (hfI:h.get? fI=ξ oI) (hfc:oI.cls=.type "function")
  (hq:∀h' e,Y2.MadeExcOf h h' e (.ref C) rest->e=h.objs.size+1->h'.objs.size=h.objs.size+2->wpAny (model prog w) (A.under (.builtin "type.__call__" ⟨.ref C::rest,[]⟩)) (call (.ref fI) (.ref e::rest)) (fun r s'=>r=.none/\Q (.ref e) s') E ⟨h',g,d,t,os⟩) (hrest:rest.length<=sizeLine) :
  wpAny (model prog w) A (call (.ref C) rest) Q E ⟨h,g,d,t,os⟩:=by
 have f1:=tc_lookup
 have f2:=tc_bind (.ref C)
 refine Z_ (ack ?_)
 repeat (any_goals (first | assumption | with_reducible refine aaq hC ?_ | wp_step))
 refine⟨rfl,?_⟩
 refine codeAny_call_builtin_at (abG _ {..}) entry_typeCall (wpAny_check_type_call_sub hC (qL (hrest:=hrest) F T hC hn hi hfI hfc fun h' e hm he hs=>?_))
 exact hq h' e hm he hs
end
end PySem
namespace PySem.W
open PySem PySem.Calls PyProof.Rows PySem.Spec Builtin Builtin.ObjectAttr
@[inline]abbrev R9:List XI:=[.type "ValueError", .type "Exception", .type "BaseException", .type "object"]
abbrev ID:XI->Bool
 | .ref _=>θ
 | _=>ψ
abbrev t4 (l:List XI):Bool:=l.dropWhile ID == R9
def lu (e:t4 l=θ):l=R9\/∃c r,l=.ref c::r/\t4 r=true:=by
 cases l with
 | nil=>cases e
 | cons a r=>
  by_cases h:ID a=θ
  ·cases a with
   | ref c=>exact .inr ⟨c,r,rfl,by assumption⟩
   | _=>cases h
  ·unfold t4 at e
   simp_all
def ng (self:XI):∀(n:Nat){l:List XI},l.length<=n->t4 l=θ->refuseLoop self "__setattr__" l=pure ()
 | 0,l,hl,e=>by
  have:l=[]:=Ys (by omega)
  subst this;cases e
 | n+1,l,hl,e=>by
  rcases lu e with rfl | ⟨c,r,rfl,e'⟩
  ·exact PySem.F.store_ValueError.passes self
  ·rw[refuseLoop_ref];exact ng self n (by simp_all) e'
def wI:∀n {l:List XI},l.length<=n->t4 l=θ->l.contains (.type "object")=θ
 | 0,l,hl,e=>by
  have:l=[]:=Ys (by omega)
  subst this;cases e
 | n+1,l,hl,e=>by
  rcases lu e with rfl | ⟨c,r,rfl,e'⟩
  ·simp
  ·rw[List.contains_cons,wI n (by simp_all) e',Bool.or_true]
abbrev jm (K:gV) (C:XW):Bool:=(clsIn K C).any fun cd=>t4 cd.mro
section
variable {K:gV}{prog:X5}{w:Yw}{A:YK}{R:Result->XO->Prop}{s:XO}{x C:XW}
def xD (X:K.In s.heap) (I:InstAt s.heap x ox C od) (hp:jm K C=θ) (ht:takerIn K C name=ξ ζ)
  (h:∀b,wpAny (model prog w) A.in1 (storeInOwnDict (.ref x) (.ref C) (.str name tk) name v b)
   (fun fin s'=>match fin with | .done f=>R (.ok f) s' | .again c'=>c'.quiet=θ/\codeAny (model prog w) A c' R s') (fun e s'=>R (.error e) s') s) :
  codeAny (model prog w) A (.call (.builtin "object.__setattr__") ⟨[.ref x,.str name tk,v],[]⟩) R s:=by
 have SF:=PySem.F.store_object
 obtain⟨cd,hc,ho⟩:=acO hp
 have ne:cd.mro.isEmpty=false:=by cases q:cd.mro with | nil=>rw[q] at ho;cases ho | cons _ _=>rfl
 have sub:ab1 (model prog w) s.heap (isInstance (.ref x) (.type "object")) true:=I.type.andThen (ac4 X (by unfold mroIn;rw[hc,Option.bind_some,if_neg (by simp_all),wI _ (XJ _) ho]))
 refine aaw SF.slot.plain SF.entry (@adb (model prog w) _ _ s "object.__setattr__" "object" "__setattr__" (.ref x) [.str name tk,v] [] _ SF.kind SF.split sub (SF.args (.ref x) (.str name tk) v) ?_)
 obtain⟨attr,ha,hr⟩:=aaO.mp ht
 have hm:ab1 (model prog w) s.heap (mroOf (.ref C)) cd.mro:=(acE X hc).andThen .now
 have L3:ab1 (model prog w) s.heap (storeTaker? attr) none:=by
  cases attr with
  | none=>exact .now
  | some a=>
   obtain⟨b,hb,hz⟩:=ZF.mp hr
   refine(looks_takesIn X hb).andThen ?_
   cases b with
   | true=>cases hz
   | false=>exact .now
 rw[osa_eq,refuse_eq]
 refine td (td (I.type.here (td (hm.here ?_))))
 rw[ng _ _ (XJ _) ho]
 refine XG (td (I.type.here (td ((abh X ha).here (td (L3.here ?_))))))
 exact h _
def K2 (X:K.In s.heap) (hx:s.heap.get? x=ξ { cls:=.ref C,data:=.fields ws })
  (hs:findIn K (.ref C) "__setattr__" = ξ (ξ (.builtin "object.__setattr__"))) (hp:jm K C=θ) (ht:takerIn K C name=ξ ζ) (hh:hasDictIn K C=θ)
  (h:∀h',h'.get? x=ξ { cls:=.ref C,dict:=ξ s.heap.objs.size,data:=.fields ws }->h'.Ns1 s.heap.objs.size (fun y=>if y=name then ξ v else ζ) →
   (∀b o,b≠x->s.heap.get? b=ξ o->h'.get? b=ξ o)->∀t',Q () { s with heap:=h',toks:=t' }) :
  wpAny (model prog w) A (setAttr (.ref x) name v) Q E s:=by
 have I:InstAt s.heap x { cls:=.ref C,data:=.fields ws } C none:=⟨hx,rfl,rfl,Z9⟩
 refine set_plain X I hs (xD (s:={ s with toks:=s.toks+1 }) X I hp ht fun b=>?_)
 obtain⟨cd,hc,hd'⟩:=acO hh
 refine td (XG (td (td (aay hx (td (acw (s:={ s with toks:=s.toks+1 }) (acE X hc) ?_))))))
 rw[hd']
 have hx1:(s.heap.push { cls:=.type "dict", data:=.dict #[] }).get? x=ξ { cls:=.ref C,data:=.fields ws }:=XB _ hx
 have hxs:=XZ (XH hx)
 refine td (wpAny_alloc' ?_)
 refine td (wpAny_update' hx1 ?_)
 refine XG ?_
 have hgd:((s.heap.push { cls:=.type "dict", data:=.dict #[] }).update x fun o=>{ cls:=o.cls,dict:=ξ s.heap.objs.size,data:=o.data,slots:=o.slots }).get? s.heap.objs.size=ξ { cls:=.type "dict", data:=.dict #[] }:=
  (Y2.get?_update_ne _ _ _ _ hxs.symm).trans (Y2.get?_push_at rfl rfl)
 have hnd:((s.heap.push { cls:=.type "dict", data:=.dict #[] }).update x fun o=>{ cls:=o.cls,dict:=ξ s.heap.objs.size,data:=o.data,slots:=o.slots }).Ns s.heap.objs.size (fun _=>ζ):=
  ⟨_,#[],_,hgd,rfl,fun e he=>absurd he {..},fun _=>rfl⟩
 refine td (XG (td (acV (Y2.Ns1.of_empty hnd) fun h' hn' hs'=>?_)))
 obtain⟨oD,esD,epD,hoD,hdD,hcD⟩:=hn'.count (aan name v aaJ.nil)
 refine td (ab5 hoD (by rw[hdD];exact ab6 (XR hcD {..})) ?_)
 refine XG (h h' ?_ ?_ (fun b o hb z=>?_) _)
 ·refine(hs'.2 x hxs).trans ?_
  exact YM _ hx1 rfl
 ·omega
 ·exact(hs'.2 b (XZ (XH z))).trans ((Y2.get?_update_ne _ _ _ _ hb).trans (XB _ z))
def HP (X:K.In s.heap) (hx:s.heap.get? x=ξ { cls:=.ref C,dict:=ξ dx,data:=.fields ws }) (hne:dx≠x) (hn:s.heap.Ns1 dx mA) (hw:aaJ mA ns) (hsz:ns.length<=1000)
  (hs:findIn K (.ref C) "__setattr__" = ξ (ξ (.builtin "object.__setattr__"))) (hp:jm K C=θ) (ht:takerIn K C name=ξ ζ) (hh:hasDictIn K C=θ)
  (h:∀h',h'.get? x=ξ { cls:=.ref C,dict:=ξ dx,data:=.fields ws }->h'.Ns1 dx (fun y=>if y=name then ξ v else mA y) →
   (∀b o,b≠dx->s.heap.get? b=ξ o->h'.get? b=ξ o)->∀t',Q () { s with heap:=h',toks:=t' }) :
  wpAny (model prog w) A (setAttr (.ref x) name v) Q E s:=by
 obtain⟨od,_,_,hod,_⟩:=id hn
 have I:InstAt s.heap x { cls:=.ref C,dict:=ξ dx,data:=.fields ws } C (ξ od):=⟨hx,rfl,rfl,hod⟩
 refine set_plain X I hs (xD (s:={ s with toks:=s.toks+1 }) X I hp ht fun b=>?_)
 obtain⟨cd,hc,hd'⟩:=acO hh
 refine td (XG (td (td (aay hx (td (acw (s:={ s with toks:=s.toks+1 }) (acE X hc) ?_))))))
 rw[hd']
 refine XG (td (XG (td ?_)))
 refine acV (s:={ s with toks:=s.toks+1 }) hn fun h' hn' hs'=>?_
 obtain⟨oD,esD,epD,hoD,hdD,hcD⟩:=hn'.count (aan name v hw)
 refine td (ab5 hoD (by rw[hdD];exact ab6 (XR hcD (by rw[YB,YI];omega))) ?_)
 exact XG (h h' ((hs'.2 x hne.symm).trans hx) hn' (fun b o hb z=>(hs'.2 b hb).trans z) _)
end
end PySem.W
namespace PySem
open Sem (wp)
section
variable {M:Model}{A:YK}{E:XI->XO->Prop}{env:Env}
variable {nm q:Str}{C N:XW}{bs bm:List XI}{hdct:Bool}{sn:List Str}{sub:List XI}{ab:Bool}{col:Option Bool}{dd:Option XW}{k0 k1 k2 k3 k5:Option XI}{newId:String}
def kZ (hbase:bm.contains (.type "BaseException")=θ) (hh:A.handled=ζ)
  (h:wpAny M A x (fun v s₁=>∃e oe,v=.ref e/\s₁.heap.get? C=ξ (excClassObj nm q C N bs bm hdct sn sub ab col dd k0 k1 k2 k3 k5 newId)/\s₁.heap.get? e=ξ oe/\oe.cls=.ref C/\(∃ws,oe.data=.fields ws/\ws[1]?=ξ .none)/\E (.ref e) s₁) E s) :
  wpAny M A (raiseStmt env (ξ x) ζ) Q E s:=by
 have hcB:(Yj C::bm).contains (.type "BaseException")=true:=by simp_all
 refine td (Yl h (fun v s₁ h₁=>?_) fun _ _ x=>x)
 obtain⟨e,⟨ec,ed,eda,esl⟩,rfl,hC,he,hcl,⟨ws,hda,hw1⟩,hE⟩:=h₁
 subst hcl hda
 repeat (first | with_reducible refine aaq he ?_ | with_reducible refine aaq hC ?_ | (with_reducible refine wpAny_isSubtype_exc hC ?_;rw[hcB]) | wp_step)
 rw[hw1]
 refine XG ?_
 refine XG ?_
 exact wpAny_raiseNew_none hh hE
end
section
variable {prog:X5}{w:Yw}{A:YK}{E:XI->XO->Prop}{s:XO}{env:Env}
variable {nm q:Str}{C N:XW}{bs bm bmB:List XI}{hdct:Bool}{sn:List Str}{sub:List XI}{ab:Bool}{col:Option Bool}{dd:Option XW}{k0 k1 k2 k3 k5:Option XI}{newId:String}
def CI
  (hbase:bm.contains (.type "BaseException")=θ) (hh:A.handled=ζ) (hplain:(backTo cpos (starEach args env)).any (·.1)=ψ)
  (h:wpAny (model prog w) A (eval (.Name x np) env) (fun f s₁=>f=.ref C/\wpAny (model prog w) A (evalArgs (.ref C) θ (backTo cpos (starEach args env)) [])
   (fun a s₂=>a.kw=[]/\s₂.heap.get? C=ξ (excClassObj nm q C N bs bm hdct sn sub ab col dd k0 k1 k2 k3 k5 newId) ∧
    wpAny (model prog w) A (call (.ref C) a.pos) (fun v s₃=>s₃.heap.get? C=ξ (excClassObj nm q C N bs bm hdct sn sub ab col dd k0 k1 k2 k3 k5 newId)/\∃e oe,v=.ref e/\s₃.heap.get? e=ξ oe/\oe.cls=.ref C/\(∃ws,oe.data=.fields ws/\ws[1]?=ξ .none)/\E (.ref e) s₃) E s₂) E s₁) E s) :
  wpAny (model prog w) A (exec (.Raise (ξ (.Call (.Name x np) args [] cpos)) ζ pos) env) Q E s:=by
 first
  | refine td (ZP (kZ (C:=C) (nm:=nm) (q:=q) (N:=N) (bs:=bs) (hdct:=hdct) (sn:=sn) (sub:=sub) (ab:=ab) (col:=col) (dd:=dd) (k0:=k0) (k1:=k1) (k2:=k2) (k3:=k3) (k5:=k5) (newId:=newId) hbase hh (td (Yl (wpAny_Call_ofName (Yl h (fun f s₁ h₁=>?_) fun _ _ x=>x)) (fun v s₃ h₃=>td (ZP (XG h₃))) fun _ _ x=>x))))
  | (simp only[acR];refine td (ZP (kZ hbase hh (td (Yl (wpAny_Call_ofName (Yl h (fun f s₁ h₁=>?_) fun _ _ x=>x)) (fun v s₃ h₃=>td (ZP (XG h₃))) fun _ _ x=>x)))))
 obtain⟨rfl,h₁⟩:=h₁
 refine td (YA (Yl h₁ (fun a s₂ h₂=>td (ZP ?_)) fun _ _ x=>x))
 obtain⟨apos,akw⟩:=a
 obtain⟨hkw,hC,h₂⟩:=h₂
 obtain rfl:akw=[]:=hkw
 simp only[hplain]
 refine td (wpAny_keeperOf_exc hC ?_)
 refine td (Yl h₂ (fun v s₃ h₃=>td (YA (wpAny_point (XG ?_)))) fun _ _ x=>x)
 simp_all
end
end PySem
namespace L2
open PySem PySem.Spec PyProof.Rows PySem.W
def Dg {K:gV} (X:K.In h) (G:h.Ns N mg) (e:nsIn K N n=ξ (ξ v)):mg n=ξ v:=by
 obtain⟨o,es,ep,ho,hd,_,hf⟩:=G
 unfold nsIn at e
 split at e
 ·rename_i c d es' n' sl q
  have:=X _ _ q
  rw[ho] at this
  cases this
  cases hd
  split at e
  ·rename_i en he
   cases e
   rw[<- hf]
   unfold nsFind findBy
   simp_all
  simp_all
 grind
abbrev uB (K:gV) (C fI:XW):Bool:=match K.lookup C with
 | some ⟨.type "type", _,.cls cd,sl⟩=>(match cd.mro,sl.toList with
  | .ref C'::bm,[_,_,_,_,ξ (.builtin n),_]=>C' == C&&n == "ValueError.__new__" && !cd.hasDel&&tailIn K bmV bm&&nsOkIn K cd.ns&&nsIn K cd.ns "__init__" == ξ (ξ (.ref fI))
  | _,_=>ψ)
 | _=>ψ
def BJ {K:gV} (X:K.In h) (q:uB K C fI=θ) :
  ∃bm N nm q' bs hdct sn sub ab col dd k0 k1 k2 k3 k5 mN,h.get? C=ξ (excClassObj nm q' C N bs bm hdct sn sub ab col dd k0 k1 k2 k3 k5 "ValueError.__new__")/\h.Ns N mN/\mN "__init__" = ξ (.ref fI)/\adt h bmV bm:=by
 unfold uB at q
 split at q
 ·rename_i dd cd sl ho
  split at q
  ·rename_i C' bm k0 k1 k2 k3 n k5 hm hs
   simp only[XX,beq_iff_eq,abV] at q
   obtain⟨⟨⟨⟨⟨rfl,rfl⟩,hdel⟩,ht⟩,hok⟩,hni⟩:=q
   obtain⟨nm,bs,mro,ns,qn,hd,sn,sub,ab,col,del⟩:=cd
   subst hm hdel
   obtain rfl:sl = #[k0,k1,k2,k3,ξ (.builtin "ValueError.__new__"),k5]:=by
    grind
   exact⟨bm,ns,nm,qn,bs,hd,sn,sub,ab,col,dd,k0,k1,k2,k3,k5,_,X _ _ ho,.of_isNs (isNs_of_in X hok),Dg X (.of_isNs (isNs_of_in X hok)) hni,tail_of_in X ht⟩
  grind
 grind
inductive kQ:List aaN->List Str->Prop
 | nil:kQ [] []
 | cons {r:List aaN} {fs:List Str}:(f == ("__debug__" : Str))=false->kQ r fs->kQ (.Assign [.Attribute (.Name "self" p1) f p2] (.Name f p3) p4::r) (f::fs)
abbrev cp:aaN->aaN
 | .ClassDef _ _ _ (st::_) ..=>st
 | st=>st
structure MN (K) (x:Str) (cst) (C) (fs):Prop where
 ex:∃fI fd qual,uB K C fI=true/\Fun K "__init__" qual (cp cst) fI fd/\Binds K fd ("self" :: fs) []/\typeIn K (.ref fI)=some (.type "function")
 sc:a9 ("self" :: fs) ("self" :: fs) (aj (cp cst))
 loc:∀y∈("self" : Str)::fs,(aj (cp cst)).names.lookup y=some .local
 body:kQ (br (cp cst)) fs
 sa:findIn K (.ref C) "__setattr__" = some (some (.builtin "object.__setattr__"))
 ov:jm K C=true
 tk:∀f∈fs,takerIn K C f=some none
 hd:hasDictIn K C=true
 ne:fs≠[]
section
variable {K:gV}{prog:X5}{w:Yw}{A:YK}{E:XI->XO->Prop}{C:XW}{env:Env}{m:Str->Option XI}{e:XW}{ws:Array XI}
def nG (hk:env.scope.kind=.function) (hl:env.kindOf y=ξ .local) (hn:s.heap.Ns env.locals m) (hv:m y=ξ v) (hd:(y == ("__debug__" : Str))=ψ) (h:Q v s):wpAny (model prog w) A (eval (.Name y p) env) Q E s:=
 abN (aav hk hl hn hv h) hd
def EL {h h':Y2}{a:XW}{m:Str->Option XI} (n:h.Ns a m) (k:∀o,h.get? a=ξ o->h'.get? a=ξ o):h'.Ns a m:=let ⟨o,es,ep,q,r⟩:=n;⟨o,es,ep,k o q,r⟩
def Ge (hk:env.scope.kind=.function) (hls:env.kindOf "self" = ξ .local) (sa:findIn K (.ref C) "__setattr__" = ξ (ξ (.builtin "object.__setattr__"))) (ov:jm K C=θ) (hd:hasDictIn K C=θ){dx:XW} (hms:m "self" = ξ (.ref e)) (hne:dx≠e) (hLe:env.locals≠e) (hLd:env.locals≠dx) :
  ∀{body:List aaN} {fs:List Str} (_:kQ body fs) (_:∀f∈fs,takerIn K C f=ξ ζ/\env.kindOf f=ξ .local) {us:List XI} (_:us.length=fs.length) (_:∀(i:Nat) (f:Str) (u:XI),fs[i]?=ξ f->us[i]?=ξ u->m f=ξ u) {mA:Str->Option XI} {ns:List Str} (_:aaJ mA ns) (_:ns.length+fs.length<=1000) {s:XO} {Q:Flow->XO->Prop}
   (_:K.In s.heap) (_:∀a o,K.lookup a=ξ o->a≠dx) (_:s.heap.get? e=ξ { cls:=.ref C,dict:=ξ dx,data:=.fields ws }) (_:s.heap.Ns1 dx mA) (_:s.heap.Ns env.locals m)
   (_:∀h',h'.get? e=ξ { cls:=.ref C,dict:=ξ dx,data:=.fields ws }->h'.Ns1 dx ((fs.zip us).foldl (fun mA (p:Str × XI) y=>if y=p.1 then ξ p.2 else mA y) mA)->(∀b o,b≠dx->s.heap.get? b=ξ o->h'.get? b=ξ o)->∀t',Q .next { s with heap:=h',toks:=t' }),
   wpAny (model prog w) A (execs body env) Q E s:=by
 intro body fs ib
 induction ib with
 | nil=>
  intro _ us _ _ mA ns _ _ s Q X _ hx hn _ h
  exact aai (h s.heap hx hn (fun _ _ _ z=>z) s.toks)
 | cons hdb ib ih=>
  rename_i f _ _ _ _ r fs
  intro hf us hl hm mA ns hw hz s Q X hK hx hn hL h
  cases us with
  | nil=>cases hl
  | cons u us=>
  refine abi (ZW ?_ rfl)
  refine nG hk (hf f {..}).2 hL (hm 0 f u rfl rfl) hdb (nG hk hls hL hms (by decide) ?_)
  refine HP X hx hne hn hw {} sa ov (hf f {..}).1 hd fun h1 q1 q2 q3 t1=>?_
  refine ih (fun y hy=>hf y (by simp[hy])) (by simp_all) (fun i y v a b=>hm (i+1) y v a b) (aan f u hw) (by grind)
   (fun a o z=>q3 a o (hK a o z) (X a o z)) hK q1 q2 (EL hL fun o z=>q3 _ o hLd z) fun h' r1 r2 r3 t'=>?_
  exact h h' r1 r2 (fun b o hb z=>r3 b o hb (q3 b o hb z)) t'
end
@[inline]abbrev mkM (ps:List (Str × XI)):Str->Option XI:=ps.foldl (fun mA (p:Str × XI) y=>if y=p.1 then ξ p.2 else mA y) fun _=>ζ
@[inline]abbrev ws0 (t:XW):Array XI:=#[.ref t,.none,.none,.none,.bool ψ,.none]
def Iq {K:gV}{prog:X5}{w:Yw}{A:YK}{E:XI->XO->Prop}{x:Str}{cst:aaN}{C:XW}{fs:List Str}{s:XO}{us:List XI}{Q:XI->XO->Prop}{k:Nat} (ci:MN K x cst C fs) (X:K.In s.heap) (lim:s.heap.NoLimit) (hr:b8 (k+2) A) (hl:us.length=fs.length) (hz:fs.length<=1000)
  (h:∀h' e dx t t',(∀b o,s.heap.get? b=ξ o->h'.get? b=ξ o)->s.heap.objs.size<=e->s.heap.objs.size<=dx->dx≠e->h'.get? e=ξ { cls:=.ref C,dict:=ξ dx,data:=.fields (ws0 t) }->h'.Ns1 dx (mkM (fs.zip us))->Q (.ref e) { s with heap:=h',toks:=t' }) :
  wpAny (model prog w) A (call (.ref C) us) Q E s:=by
 obtain⟨fI,fd,qual,hex,F,hb,hty⟩:=ci.ex
 obtain⟨bm,N,nm,q',bs,hdct,sn,sub,ab,col,dd,k0,k1,k2,k3,k5,mN,hC,hN,hi,T⟩:=BJ X hex
 obtain⟨oc,od,kV,doc,pm,an,cdv,ct,osl,rfl,lk,hcd⟩:=F.ex
 have hfc:oc=.type "function" := by
  have z:(K.lookup fI).map (·.cls)=ξ (.type "function"):=hty
  simp_all
 obtain⟨h0,g,d,t,os⟩:=s
 have S:=ci.sc
 have lim2:us.length<=sizeLine:=by rw[YI];omega
 refine DN (F:=ZM) T hC hN hi (X _ _ lk) hfc (fun h1 e me hee hsz=>?_) lim2
 have X1:=X.keeps me.keeps
 obtain⟨t0,he,htn,_⟩:=me.there
 have hkind:∀y∈(("self" : Str)::fs).zip (Yj e::us),(aj (cp cst)).names.lookup y.1=ξ .local\/((aj (cp cst)).names.lookup y.1=ξ .cell/\((cellsFrom (h1.objs.size+1) (aj (cp cst)).names []).lookup y.1).isSome=θ):=fun⟨n,v⟩ hy=>.inl (ci.loc n (aaj hy).1)
 have hbb:=hb ⟨h1,g,d,t,os⟩ (Yj e::us) X1 (by simp[hl])
 rw[YD] at hbb
 refine Z_ (aak (hr.make C us []).depth (X1 _ _ lk) rfl S.co S.gen rfl (codeRec_of X1 hcd) (hbb _ _ _ _ ?_))
 refine ZI S.kind hkind fun env henv s1 x1=>?_
 subst henv
 refine⟨(lim.keeps me.keeps).keeps x1.toInCall.keep,ach ?_⟩
 have ks:=x1.toInCall.keep
 have X2:=X1.keeps ks
 have he1:=ks _ _ he
 have hL:s1.heap.Ns h1.objs.size (bindL (envOfC qual (aj (cp cst)) h1.objs.size fI cdv).kindOf ((("self" : Str)::fs).zip (Yj e::us)) (fun _=>ζ)):=x1.toInCall.ns
 obtain⟨hp1,tk1,rfl⟩:=x1.toInCall.same
 have kindL:∀y∈("self" : Str)::fs,(envOfC qual (aj (cp cst)) h1.objs.size fI cdv).kindOf y=ξ .local:=ci.loc
 have hms:bindL (envOfC qual (aj (cp cst)) h1.objs.size fI cdv).kindOf ((("self" : Str)::fs).zip (Yj e::us)) (fun _=>ζ) "self" = ξ (.ref e):=lL (i:=0) S.nd rfl rfl (kindL _ {..})
 have hmf:∀(i:Nat) (f:Str) (u:XI),fs[i]?=ξ f->us[i]?=ξ u->bindL (envOfC qual (aj (cp cst)) h1.objs.size fI cdv).kindOf ((("self" : Str)::fs).zip (Yj e::us)) (fun _=>ζ) f=ξ u:=fun i f u a b=>
  lL (i:=i+1) S.nd (by simp_all) (by simp_all) (kindL f (by grind))
 have hLe:=Z1 (XH he)
 have hse:h0.objs.size<=e:=by simp_all
 have ib:=ci.body
 have tkf:=ci.tk
 obtain⟨f,fs,rfl⟩:∃f fs',fs=f::fs':=by
  cases fs with
  | nil=>exact absurd rfl ci.ne
  | cons f r=>simp
 obtain⟨u,us,rfl⟩:∃u us',us=u::us':=by
  cases us with
  | nil=>cases hl
  | cons u r=>simp
 generalize br (cp cst)=body at ib ⊢
 cases ib with
 | cons hdb ib=>
  refine abi (ZW ?_ rfl)
  refine nG S.kind (kindL f {..}) hL (hmf 0 f u rfl rfl) hdb (nG S.kind (kindL _ {..}) hL hms (by decide) ?_)
  refine K2 X2 he1 ci.sa ci.ov (tkf f {..}) ci.hd fun h2 q1 q2 q3 t2=>?_
  have hLk:=fun o z=>q3 _ o hLe z
  have lt1:h1.objs.size<hp1.objs.size:=let ⟨o,_,_,q,_⟩:=hL;XH q
  refine Ge (e:=e) S.kind (kindL _ {..}) ci.sa ci.ov ci.hd (dx:=hp1.objs.size) hms (Z1 (XH he1)) hLe (XZ lt1) ib (fun y hy=>⟨tkf y (by simp[hy]),kindL y (by simp[hy])⟩) (us:=us) (by simp_all) (fun i y v a b=>hmf (i+1) y v a b) (ns:=[f]) (aan f u aaJ.nil) (by grind) (s:={ heap:=h2,gens:=g,drawn:=d,toks:=t2,os:=os })
   (fun a o z=>q3 a o (fun z2=>?_) (X2 a o z)) (fun a o z=>XZ (XH (X2 a o z))) q1 q2 (EL hL hLk) fun h3 r1 r2 r3 t3=>?_
  ·exact absurd (z2 ▸ XH (X a o z):e<h0.objs.size) (Z8 hse)
  ·refine⟨rfl,h h3 e hp1.objs.size t0 t3 (fun b o z=>r3 b o (XZ (XH (ks _ _ (me.keeps _ _ z)))) (q3 b o ?_ (ks _ _ (me.keeps _ _ z)))) hse ?_ (Z1 (XH he1)) r1 r2⟩
   ·rintro rfl;have:=me.new;rw[this] at z;cases z
   grind
def KJ (y:Str):∀(ps:List (Str × XI)) (mA:Str->Option XI),(ps.map (·.1)).Nodup->(ps.foldl (fun mA (p:Str × XI) y=>if y=p.1 then ξ p.2 else mA y) mA) y=(match ps.lookup y with | some v=>ξ v | none=>mA y)
 | [],mA,_=>rfl
 | (f,v)::r,mA,nd=>by
  rw[Y_,KJ y r _ (Yt.mp nd).2]
  grind
def uG:∀{fs:List Str}{is:List Int}{us:List XI},Vals (is.map V.int) us->∀y,rN (((fs.zip is).map fun x=>(x.1,V.int x.2)).lookup y) ((fs.zip us).lookup y)
 | [],_,_,_,y=>Z9
 | f::fs,[],us,r,y=>by cases r;exact Z9
 | f::fs,i::is,_,.cons a r,y=>by
  simp only[List.zip_cons_cons,XT,ab2]
  cases h:y == f with
  | true=>exact a
  | false=>exact uG r y
def De {σ:St}{e dx:XW} (p:Plain X) (fl:gM X E) (I:Inv X pins σ H s) (k:∀b o,s.heap.get? b=ξ o->h'.get? b=ξ o)
  (he:s.heap.objs.size<=e) (hdx:s.heap.objs.size<=dx) (ne:dx≠e) (q1:h'.get? e=ξ oe) (q2:oe.cls=C) (q3:oe.dict=ξ dx) (q4:oe.data=.fields ws) (q5:ws[1]?=ξ .none) (new:cz X.prog X.w (upd H dx (.frz od (.xd fs))) h' dx (.frz od (.xd fs)))
  (q:E C (ξ dx) (upd H dx (.frz od (.xd fs)))):X.xe (.ref e) { s with heap:=h',toks:=t' }:=by
 have I1:Inv X pins σ (upd H dx (.frz od (.xd fs))) { s with heap:=h',toks:=t' }:=I.laid k hdx new
 have fr:=I1.stack
 have nfr:=I1.nM
 have hHe:upd H dx (.frz od (.xd fs)) e=none:=by rw[aD (aac ne)];exact I.hok.fresh he
 refine fl _ _ ⟨σ,_,abq h' (e::frs X.stack),e,C,ξ dx,rfl,I1.drop,.inl ⟨fun b o z=>aaP _ z,PySem.W.hideAll_none _ XU,?_,oe,ws,q1,q2,q3,q4,q5⟩,⟨fun b o z=>?_,fun b o e' n hb=>?_⟩,fun p' hp=>?_,q⟩
 ·exact PySem.W.funFrames_hide fr fun env he' b hb=>XM _ (aaQ.mpr ⟨env,he',hb⟩)
 ·obtain⟨u,hu⟩:=K5 (I1.hok b o z)
  refine⟨u,Zh _ hu fun hm=>?_⟩
  grind
 ·have hx:b∉X.ex:=by rw[p.ex];simp
  refine Zh _ (I1.base.keep b o e' n hb hx) fun z=>?_
  rcases X4.mp z with rfl | z
  ·exact absurd (XH (I.base.keep b o e' n hb hx)) (Z8 he)
  ·rcases X4.mp (I.gW b z) with rfl | z
   ·exact absurd (XH e') (Z8 I.ok.above)
   simp_all
 ·obtain⟨r1,r2,r3,r4,r5⟩:=I.pin p' (Zw _ hp)
  refine Zh _ (k _ _ r1) fun z=>?_
  rcases X4.mp z with z | z
  ·rw[<- z] at he;exact absurd (XH r1) (Z8 he)
  ·rcases X4.mp (I.gW _ z) with z | z
   ·grind
   simp_all
end L2
namespace L2.FE
open PySem PySem.Spec PyProof.Rows
abbrev nu (x:Str) (fs:List Str) (mr:MA):MS:=fun env h=>(mr env h).bind fun ds h1=>match intsOf ds with
 | some is=>if is.length=fs.length then .err ⟨x,fs.zip is⟩ h1 else .bad
 | none=>.bad
section
variable {X:Cx}{g:GG}{E:XK}
def AZ:∀{fs:List Str}{us:List XI},us.length=fs.length->(fs.zip us).map (·.1)=fs
 | [],_,_=>rfl
 | f::fs,[],h=>by cases h
 | f::fs,u::us,h=>by rw[List.zip_cons_cons,XT,AZ (by simp_all)]
def Jj {x:Str}{cst:aaN}{C:XW}{fs:List Str}{np cpos pos:Pos}{e:YL}{es:List YL}{mr:MA}{k:Nat} (fl:gM X E) (pl:Plain X) (hc:X.calm=θ) (hg:Gl X x) (hm:X.mg x=ξ (.ref C)) (hgx:g x=ξ C) (ci:MN X.K x cst C fs) (hr:b8 (k+2) X.A) (hz:fs.length<=1000)
  (ha:PA X (e::es) (tMA X.K g (εX g E) mr)) (hdb:(x == ("__debug__" : Str))=false:=by decide) (he:starEach (e::es) X.env=(ψ,eval e X.env)::starEach es X.env:=by rfl) (hpl:(backTo cpos (starEach es X.env)).any (·.1)=false:=by rfl) :
  PS X (.Raise (ξ (.Call (.Name x np) (e::es) [] cpos)) ζ pos) (tMS X.K g (εX g E) (nu x fs mr)):=by
 intro pins s σ H D I ⟨α,env,h,sr,w⟩
 obtain⟨fI,fd,qual,hex,_⟩:=ci.ex
 obtain⟨tl,N,nm,q',bs,hdct,sn,sub,ab,col,dd,k0,k1,k2,k3,k5,mN,hC',hN,hni,T⟩:=BJ I.kIn hex
 refine PySem.CI (nm:=nm) (q:=q') (N:=N) (bs:=bs) (hdct:=hdct) (sn:=sn) (sub:=sub) (ab:=ab) (col:=col) (dd:=dd) (k0:=k0) (k1:=k1) (k2:=k2) (k3:=k3) (k5:=k5) (newId:="ValueError.__new__") (T.hasType ZM.hasBase) (I.ok.hd hc) (by rw[he];assumption) (jj I hg hm ⟨rfl,?_⟩ hdb)
 have A0:=ha cpos pins s σ H (fun vs H1=>∃is:List Int,vs=is.map V.int/\is.length=fs.length/\∀dx od,H1 dx=ζ->E (.ref C) (ξ dx) (upd H1 dx (.frz od (.xd ((fs.zip is).map fun x=>(x.1,V.int x.2)))))) I ⟨α,env,h,sr,w.bind.mono fun ds h1 eq w1 vs H1 α1 e1 hr1 r1=>by
  cases ei:intsOf ds with
  | none=>simp only[ei] at w1;exact w1.elim
  | some is=>
   simp only[ei] at w1
   by_cases hl:is.length=fs.length
   ·rw[if_pos hl] at w1
    have:=fN ei
    subst this
    refine⟨is,r1.EZ,hl,fun dx od hn=>?_⟩
    exact w1 α1 _ (e1.trans (Ext.fresh hn)) (hr1.grow hn) C (ξ dx) hgx (.inr ⟨dx,od,rfl,aR⟩)
   ·rw[if_neg hl] at w1;exact w1.elim⟩
 rw[he] at A0 ⊢
 refine PySem.Calls.evalArgs_plain (Yl A0 (fun us s1 ⟨vs,H1,I1,rv,is,ev,hl,fin⟩=>?_) fun _ _ z=>z)
 subst ev
 have hul:us.length=fs.length:=by rw[<- rv.length,XE];exact hl
 have hCC:s1.heap.get? C=ξ (excClassObj nm q' C N bs tl hdct sn sub ab col dd k0 k1 k2 k3 k5 "ValueError.__new__"):=by
  have a:=I.kIn
  have b:=I1.kIn
  unfold uB at hex
  split at hex
  ·rename_i dd2 cd2 sl2 ho
   have x1:=a _ _ ho
   have x2:=b _ _ ho
   simp_all
  grind
 refine⟨rfl,hCC,?_⟩
 have limS:=I1.nolimit
 refine Iq ci I1.kIn limS hr hul hz fun h' e' dx t t' kp he' hdx' ne' q1 q2=>?_
 refine⟨kp _ _ hCC,e',_,rfl,q1,rfl,⟨_,rfl,rfl⟩,?_⟩
 obtain⟨od,es',ep',ho',_⟩:=id q2
 refine De pl fl I1 kp he' hdx' ne' q1 rfl rfl rfl rfl ⟨ho',_,q2,fun y=>?_⟩ (fin dx od (I1.hok.fresh hdx'))
 have nd:((fs.zip us).map (·.1)).Nodup:=by rw[AZ hul];exact(Yt.mp ci.sc.nd).2
 rw[show mkM (fs.zip us) y=_ from KJ y _ _ nd]
 have:=uG (fs:=fs) rv y
 grind
end
end L2.FE
namespace PySem.W
open PySem PySem.Calls PyProof.Rows PySem.Spec Builtin Builtin.ObjectAttr
def wQ:∀n {l:List XI},l.length<=n->t4 l=θ->l.contains (.type "BaseException")=θ
 | 0,l,hl,e=>by
  have:l=[]:=Ys (by omega)
  subst this;cases e
 | n+1,l,hl,e=>by
  rcases lu e with rfl | ⟨c,r,rfl,e'⟩
  ·simp
  ·rw[List.contains_cons,wQ n (by simp_all) e',Bool.or_true]
section
variable {K:gV}{prog:X5}{w:Yw}{A:YK}{E:XI->XO->Prop}{s:XO}{x C dx:XW}{ox:Obj}{mA:Str->Option XI}{name:Str}{v:XI}
def GF {tk:Tok}{Q:Fin->XO->Prop} (X:K.In s.heap) (hx:s.heap.get? x=ξ ox) (hc:ox.cls=.ref C) (hf:∃ws,ox.data=.fields ws) (hd:ox.dict=ξ dx) (hn:s.heap.Ns dx mA) (hv:mA name=ξ v)
  (hna:findIn K (.ref C) name=ξ ζ) (hh:hasDictIn K C=θ) (h:Q (.done (.ret v)) s):wpAny (model prog w) A (ZJ.«object.__getattribute__» ⟨[.ref x,.str name tk],[]⟩) Q E s:=by
 obtain⟨cd,hcd,hd'⟩:=acO hh
 obtain⟨oc,od,oda,osl⟩:=ox
 obtain⟨ws,hf⟩:=hf
 subst hc hd hf
 have I:InstAt s.heap x ⟨.ref C,ξ dx,.fields ws,osl⟩ C (ξ hn.choose):=⟨hx,rfl,rfl,hn.choose_spec.choose_spec.choose_spec.1⟩
 have e:ZJ.«object.__getattribute__» ⟨[.ref x,.str name tk],[]⟩=(typeOf (.ref x) >>= fun tp=>find (.ref x) tp name >>= fun f=>match f with
   | .value v=>(ret v:Sem Fin)
   | .bind g a=>bindTo g a (.ref x) tp
   | .missing=>do
    if tp == .type "module" then
     if ← isOpaqueModuleObj (.ref x) then
      let byTheModulesOwnEntry:=match (← stack).drop 1 with
       | (.builtin "module.__getattribute__" ⟨m::_,_⟩,_)::_=>m == .ref x
       | _=>ψ
      if !byTheModulesOwnEntry then unsupported "thirdparty:object.__getattribute__:a-miss-on-an-opaque-module"
    if tp == .type "type" then
     if let ξ key ← opaqueClassAbove (.ref x) then unsupported s!"thirdparty:{key.toString}.{name.toString}:object.__getattribute__-misses-on-an-opaque-class"
    noSuchAttribute (.ref x) name):=by rfl
 rw[e]
 refine td (I.type.here ?_)
 refine td ?_
 refine td ((abh X hna).here ?_)
 show wpAny _ _ (ownThenClass (.ref x) name ζ ζ) _ _ _
 refine td (td ?_)
 refine td (aay hx ?_)
 refine td (aay hx ?_)
 refine td ?_
 refine(acE X hcd).here ?_
 rw[hd']
 refine XG ?_
 refine wpAny_nsGet hn ?_
 rw[hv]
 refine td (acS (XG ?_))
 exact XG h
def Oi (X:K.In s.heap) (hx:s.heap.get? x=ξ ox) (hc:ox.cls=.ref C) (hf:∃ws,ox.data=.fields ws) (hd:ox.dict=ξ dx) (hn:s.heap.Ns dx mA) (hv:mA name=ξ v)
  (hga:findIn K (.ref C) "__getattribute__" = ξ (ξ (.builtin "BaseException.__getattribute__"))) (hgh:findIn K (.ref C) "__getattr__" = ξ ζ) (hna:findIn K (.ref C) name=ξ ζ) (ov:jm K C=θ) (hh:hasDictIn K C=θ) (hv2:handedOut v=pure v)
  (h:Q v { s with toks:=s.toks+1 }):wpAny (model prog w) A (getAttr (.ref x) name b) Q E s:=by
 have FB:=PySem.F.attrBase_ValueError
 have I:InstAt s.heap x ox C (ξ hn.choose):=⟨hx,hc,by obtain⟨ws,e⟩:=hf;unfold notCls;rw[e],by grind⟩
 obtain⟨cd,hcd,ho⟩:=acO ov
 have ne:cd.mro.isEmpty=false:=by cases q:cd.mro with | nil=>rw[q] at ho;cases ho | cons _ _=>rfl
 have sub:ab1 (model prog w) s.heap (isInstance (.ref x) (.type "BaseException")) true:=I.type.andThen (ac4 X (by unfold mroIn;rw[hcd,Option.bind_some,if_neg (by simp_all),wQ _ (XJ _) ho]))
 refine td (wpAny_mkText (YA (td (acw (s:={ s with toks:=s.toks+1 }) I.type (td (acw (s:={ s with toks:=s.toks+1 }) (abh X hga) ?_))))))
 dsimp only
 have hx2:(acP "BaseException.__getattribute__" == acP "object.__getattribute__")=false:=by rfl
 refine td ?_
 refine acw (s:={ s with toks:=s.toks+1 }) (abh X hgh) ?_
 refine td (acN (YA ?_))
 have hcall:callGetattribute (.ref x) (.str name s.toks) (.builtin "BaseException.__getattribute__") b=boundAndCalled (.builtin "BaseException.__getattribute__") (.ref x) (.str name s.toks):=by cases b<;>rfl
 rw[hcall]
 refine td ?_
 rw[FB.ga.bind (.ref x)]
 refine XG ?_
 have hk:builtinKind "BaseException.__getattribute__" = ξ .slot:=by rfl
 have hsplit:splitId "BaseException.__getattribute__" = ξ ("BaseException", "__getattribute__"):=by rfl
 refine Z_ (aaw FB.ga.plain PySem.F.entry_bexc_ga (@adb (model prog w) _ _ { s with toks:=s.toks+1 } "BaseException.__getattribute__" "BaseException" "__getattribute__" (.ref x) [.str name s.toks] [] _ hk hsplit sub (PySem.F.args_bexc_ga (.ref x) (.str name s.toks)) ?_))
 refine GF (s:={ s with toks:=s.toks+1 }) X hx hc hf hd hn hv hna hh ?_
 show wpAny _ _ (handedOut v) _ _ _
 rw[hv2]
 exact XG h
end
end PySem.W
namespace L2
open PySem PySem.Spec PyProof.Rows PySem.W
structure Q7 (K) (C) (f):Prop where
 ga:findIn K (.ref C) "__getattribute__" = some (some (.builtin "BaseException.__getattribute__"))
 gh:findIn K (.ref C) "__getattr__" = some none
 na:findIn K (.ref C) f=some none
 ov:jm K C=true
 hd:hasDictIn K C=true
end L2
namespace L2.FE
open PySem PySem.Spec PyProof.Rows
abbrev FN (c f:Str):D->Hh->R D:=fun d h=>match d with
 | .exc c' fs=>if c'=c then (match fs.lookup f with | some i=>.ok (.int i) h | none=>.bad) else .bad
 | _=>.bad
def pQ:∀{fs:List (Str × Int)}{f:Str}{i:Int},fs.lookup f=ξ i->(fs.map fun x=>(x.1,V.int x.2)).lookup f=ξ (.int i)
 | [],f,i,h=>by cases h
 | (y,j)::fs,f,i,h=>by
  simp only[XT,ab2] at h ⊢
  cases q:f == y with
  | true=>simp_all
  | false=>rw[q] at h;exact pQ h
section
variable {X:Cx}{g:GG}{ε:EE}
def Rg {e:YL}{c f:Str}{C:XW}{pos:Pos}{m:ME} (he:PE X e (tM X.K g ε m)) (hgc:g c=ξ C) (cr:Q7 X.K C f) (hb:attributeBase e f X.env (eval e X.env)=eval e X.env:=by rfl):PE X (.Attribute e f pos) (tM X.K g ε (cUn (FN c f) m)):=by
 intro pins s σ H Q I ⟨α,env,h,sr,w⟩
 have A0:=he pins s σ H (fun v H1=>∃(p dx:XW) (o od:Obj) (i:Int) (fs:List (Str × Int)),v=.ref p/\H1 p=ξ (AtO p o)/\o.cls=.ref C/\(∃vs,o.data=.fields vs)/\o.dict=ξ dx/\H1 dx=ξ (.frz od (.xd (fs.map fun x=>(x.1,V.int x.2))))/\fs.lookup f=ξ i/\Q (.int i) H1) I ⟨α,env,h,sr,w.bind.mono fun d h1 eq w1 v H1 α1 e1 hr1 r1=>by
  unfold FN at w1
  cases r1 with
  | exc hg hp hcl hda hfs=>
   rename_i c' C' p o fs
   dsimp only at w1
   by_cases hc:c'=c
   ·rw[if_pos hc] at w1
    subst hc
    rw[hgc] at hg;cases hg
    cases el:fs.lookup f with
    | none=>rw[el] at w1;exact w1.elim
    | some i=>
     rw[el] at w1
     rcases hfs with⟨_,rfl⟩ | ⟨dx,od,hd1,hd2⟩
     ·cases el
     ·exact⟨p,dx,o,od,i,fs,rfl,hp,hcl,hda,hd1,hd2,el,w1 (.int i) H1 α1 e1 hr1 (.int i)⟩
   ·rw[if_neg hc] at w1;exact w1.elim
  | _=>exact w1.elim⟩
 refine Eg hb (thn A0 fun u s1 zq1=>?_)
 obtain⟨v,H1,I1,rv,p,dx,o,od,i,fs,ev,hp,hcl,hda,hd1,hd2,el,q⟩:=zq1
 subst ev
 obtain rfl:u=Yj p:=rv
 obtain⟨ho,_⟩:=I1.hok p _ hp
 obtain⟨hod,mA,hns,rel⟩:=I1.hok dx _ hd2
 have rl:=rel f
 rw[pQ el] at rl
 cases em:mA f with
 | none=>rw[em] at rl;exact rl.elim
 | some u=>
  rw[em] at rl
  obtain⟨t,rfl⟩:=rl
  exact PySem.W.Oi I1.kIn ho hcl hda hd1 hns.ns em cr.ga cr.gh cr.na cr.ov cr.hd rfl ⟨.int i,H1,I1.tok _,⟨t,rfl⟩,q⟩
end
end L2.FE
namespace L2
open PySem PySem.Spec PyProof.Rows PySem.W
abbrev CIs (K:gV) (x:Str) (cst:aaN) (fs:List Str):Prop:=∃C,nsIn K mainGlobals x=ξ (ξ (.ref C))/\MN K x cst C fs/\∀f∈fs,Q7 K C f
abbrev R6 (K:gV) (C fI:XW) (fs:List Str):Bool:=uB K C fI&&typeIn K (.ref fI) == ξ (.type "function")&&findIn K (.ref C) "__setattr__" == ξ (ξ (.builtin "object.__setattr__"))&&jm K C&&hasDictIn K C&&
 findIn K (.ref C) "__getattribute__" == ξ (ξ (.builtin "BaseException.__getattribute__"))&&findIn K (.ref C) "__getattr__" == ξ ζ&&fs.all fun f=>takerIn K C f == ξ ζ&&findIn K (.ref C) f == ξ ζ
abbrev CIm (K:gV) (mg:Str->Option XI) (x:Str) (cst:aaN) (fs:List Str):Prop:=∃C,mg x=ξ (.ref C)/\MN K x cst C fs/\∀f∈fs,Q7 K C f
def CIm.of {K:gV}{h:Y2}{mg:Str->Option XI}{x:Str}{cst:aaN}{fs:List Str} (X:K.In h) (G:h.Ns mainGlobals mg) (c:CIs K x cst fs):CIm K mg x cst fs:=
 let ⟨C,a,b,d⟩:=c;⟨C,Zq X G a,b,d⟩
end L2
namespace L2.FE
open PySem PySem.Spec PyProof.Rows
section
variable {X:Cx}{g:GG}{E:XK}
def Bl {np cpos pos:Pos} (fl:gM X E) (pl:Plain X) (hc:X.calm=θ) (hg:Gl X x) (cm:CIm X.K X.mg x cst fs) (hgo:g=gOf X.mg) (hr:b8 (k+2) X.A) (hz:fs.length<=1000)
  (ha:PA X (e::es) (tMA X.K g (εX g E) mr)) (hdb:(x == ("__debug__" : Str))=false:=by decide) (he:starEach (e::es) X.env=(ψ,eval e X.env)::starEach es X.env:=by rfl) (hpl:(backTo cpos (starEach es X.env)).any (·.1)=false:=by rfl) :
  PS X (.Raise (ξ (.Call (.Name x np) (e::es) [] cpos)) ζ pos) (tMS X.K g (εX g E) (nu x fs mr)):=by
 obtain⟨C,hm,ci,_⟩:=cm
 exact Jj fl pl hc hg hm (by rw[hgo];unfold gOf;rw[hm]) ci hr hz ha hdb he hpl
def yq (he:PE X e (tM X.K g ε m)) (cm:CIm X.K X.mg c cst fs) (hgo:g=gOf X.mg) (hf:f∈fs) (hb:attributeBase e f X.env (eval e X.env)=eval e X.env:=by rfl):PE X (.Attribute e f pos) (tM X.K g ε (cUn (FN c f) m)):=by
 obtain⟨C,hm,_,cr⟩:=cm
 exact Rg he (by rw[hgo];unfold gOf;rw[hm]) (cr f hf) hb
end
end L2.FE
namespace L2
open PySem PySem.Spec PyProof.Rows
def K6 {X:Cx}{elt iter:YL}{x:Str}{px:Pos}{ifs:List YL}{scope osc:abe}{pos:Pos}{wi:TI}{tt:TT}{te:TE} (ix:List Nat) (N':List Str)
  (hc:X.calm=θ) (ho:X.env.scope=osc) (hN:N'=x::ix.map fun i=>(X.N[i]?).getD x) (hnd:N'.Nodup)
  (hall:(∀y∈scope.names,y.2=.free->osc.names.lookup y.1=ξ .cell)/\(∀y∈scope.names,y.2≠.cell)/\scope.kind=.function/\(∀y∈scope.names,y.2=.local->scope.names.lookup y.1=ξ .local)/\scope.names.lookup x=ξ .local/\(∀y∈N'.tail,scope.names.lookup y=ξ .free))
  (hi:PI X (.Name x px) iter wi)
  (ht:∀cl C aP a_ fp,PTs (cb X.nox scope cl C aP a_ fp N') ifs tt)
  (he:∀cl C aP a_ fp,PE (cb X.nox scope cl C aP a_ fp N') elt te)
  (hs:∀x,foldedSetIterable iter X.env x=pure x:=by intro _;rfl) :
  PE X (.ListComp elt [⟨.Name x px,iter,ifs,0⟩] scope pos) (Fj wi ix tt te):=by
 intro pins s σ H Q I h
 obtain⟨hfr,hcell,hkind,hnames,hx,hcap⟩:=hall
 subst ho
 have outc:=fun y hy q=>hfr y hy q
 obtain⟨cl,hclos,hcl1,hcl2⟩:=mx fun y hy q=>I.ok.has y.1 (.inl (outc y hy q))
 refine wpAny_comprehension_free rfl hs hclos hkind hnames (thn (hi pins s σ H _ I h) fun v s1 h1=>thn h1 fun itv s2 h2=>?_)
 obtain⟨it,fp,tn,J,H2,e,I2,T,st2,f2,rest⟩:=h2
 subst e
 have hf2:=I2.hok.fresh (XJ _)
 obtain⟨W,⟨m0,w0⟩,turn⟩:=rest s2.heap.objs.size hf2
 refine Yo ?_
 have I3:=I2.DC (t':=s2.toks) .nil (aaF _)
 have keep3:∀b o,s2.heap.get? b=ξ o->(s2.heap.push { cls:=.type "list", dict:=ζ,data:=.seq ([]:List XI).toArray }).get? b=ξ o:=fun b o q=>XB _ q
 have fp3:=T.obj _ _ st2
 have st3:=T.keep _ _ _ st2 fun b _ o q=>keep3 b o q
 have fpn:∀b∈fp,(upd H2 s2.heap.objs.size (HO.lst [])) b=none:=fun b hb=>by
  obtain⟨o,q,_⟩:=fp3 b hb
  rw[aD (XZ (XH q))]
  exact(f2 b hb).1
 revert I3 keep3 st3 fpn w0
 generalize hS3:({ s2 with heap:=s2.heap.push { cls:=.type "list", dict:=ζ,data:=.seq ([]:List XI).toArray } }:XO)=s3
 generalize hH3:upd H2 s2.heap.objs.size (HO.lst [])=H3
 intro w0 I3 keep3 st3 fpn
 generalize s2.heap.objs.size=acc at *
 have e3:s2.heap.push { cls:=.type "list", dict:=ζ,data:=.seq ([]:List XI).toArray }=s3.heap:=by rw[<- hS3]
 have keep3':∀b o,s2.heap.get? b=ξ o->s3.heap.get? b=ξ o:=fun b o q=>by rw[<- e3];exact keep3 b o q
 have st3':tn 0 s3.heap:=by rw[<- e3];exact st3
 refine abn hcell (by intro y hy;simp at hy) (fun h₁ hns₁ hsb₁=>?_) hkind
 have hC:s3.heap.objs.size=s3.heap.objs.size:=rfl
 have keep4:∀b o,s3.heap.get? b=ξ o->h₁.get? b=ξ o:=fun b o q=>hsb₁.extBut b o (XZ (XH q)) (XB _ q)
 have fpC:∀b∈fp,b≠s3.heap.objs.size:=fun b hb=>by
  obtain⟨o,q,_⟩:=fp3 b hb
  exact XZ (XH (keep3' b o q))
 -- the block's context
 generalize hX':cb X.nox scope cl s3.heap.objs.size s3 H3 fp N'=X'
 have hXp:X'.prog=X.prog:=by rw[<- hX'];rfl
 have hXw:X'.w=X.w:=by rw[<- hX'];rfl
 have hXK:X'.K=X.K:=by rw[<- hX'];rfl
 have hXA:X'.A=X.A:=by rw[<- hX'];rfl
 have hXe:X'.env=compEnvC scope cl s3.heap.objs.size X.env:=by rw[<- hX'];rfl
 have hXc:X'.calm=true:=by rw[<- hX'];exact hc
 have hXx:X'.xe=fun _ _=>False:=by rw[<- hX'];rfl
 have hXf:X'.fs=frs X.stack:=by rw[<- hX'];rfl
 have hXex:X'.ex=fp:=by rw[<- hX'];rfl
 have hXN:X'.N=N':=by rw[<- hX'];rfl
 have hXs:X'.aP=s3:=by rw[<- hX'];rfl
 have hXH:X'.a_=H3:=by rw[<- hX'];rfl
 have hXpn:X'.pn=[]:=by rw[<- hX'];rfl
 have okX:X'.Ok:=by
  rw[<- hX']
  refine⟨I3.ok.mod,hkind,I3.ok.glob,I3.ok.blt,XJ _,fun a b c p q=>I3.ok.inj a b c (hcl1 a c p) (hcl1 b c q),fun y hy=>?_,fun _ _ z=>(by cases z),I3.ok.hd,I3.ok.frames,.inl rfl,fun b hb=>⟨fpC b hb,fun y c p=>(f2 b hb).2.2.2.2.1 y c (hcl1 y c p)⟩,
   I3.bs,XR I3.ok.bsz I3.sz,fun b o p hb=>?_,fun b hb z=>?_,I3.stack,I3.nM⟩
  ·have hy':(relabel scope X.env).names.lookup y=ξ .cell\/(relabel scope X.env).names.lookup y=ξ .free:=hy
   have free:scope.names.lookup y=ξ .free->∃c,cl.lookup y=ξ c:=fun q=>hcl2 y (lookup_mem q)
   rcases hy' with q | q
   ·rcases fU q with z | ⟨z,_⟩
    ·exact absurd rfl (hcell _ (lookup_mem z))
    ·exact free z
   ·rcases fU q with z | ⟨_,z⟩
    ·exact free z
    ·cases z
  ·rcases(f2 b hb).2.2.2.1 with z | z
   ·exact I3.ok.wt b o p z
   ·exact absurd (Yb (XH p) (XR I3.ok.bsz z)) (Y6 _)
  ·rcases X4.mp (I3.gW b z) with q | q
   ·exact(f2 b hb).2.1 q
   ·exact(f2 b hb).2.2.1 q
 have I4:∀tk,Inv X' [] (ik ix σ) H3 { s3 with heap:=h₁,toks:=tk }:=fun tk=>by
  have hloc:=I3.loc
  refine⟨okX,by rw[hXs],I3.bare,?_,⟨fun y=>([]:List (Str × XI)).reverse.lookup y,by rw[hXe];exact hns₁,fun i y v e1 e2 e3=>?_⟩,fun y c p=>?_,?_,fun y c p=>?_,fun p hp=>?_,?_,?_⟩
  ·rw[hXf,hXex,hXH,hXs];exact Un.kept keep4
  ·rw[hXN,hN] at e1
   cases i with
   | zero=>simp[ik] at e2
   | succ j=>
    have e1':(ix.map fun i=>(X.N[i]?).getD x)[j]?=ξ y:=by simpa using e1
    have e2':(ix.map fun i=>(σ[i]?).join)[j]?=ξ (ξ v):=by simpa [ik] using e2
    rw[Yi] at e1' e2'
    cases hj:ix[j]? with
    | none=>rw[hj] at e1';cases e1'
    | some i0=>
     rw[hj] at e1' e2'
     have e1'':(X.N[i0]?).getD x=y:=by simpa using e1'
     have e2'':(σ[i0]?).join=ξ v:=by simpa using e2'
     have hsv:σ[i0]?=ξ (ξ v):=by
      cases q:σ[i0]? with
      | none=>rw[q] at e2'';cases e2''
      | some z=>rw[q] at e2'';have:z=ξ v:=by simpa using e2''
                rw[this]
     have hlt:i0<X.N.length:=by
      have:=(X9.mp hsv).1
      rw[I3.len] at this;exact this
     have hNy:X.N[i0]?=ξ y:=by
      rw[XS hlt] at e1'' ⊢
      simpa using e1''
     have hyt:y∈N'.tail:=by
      rw[hN]
      exact Yn (by simpa using e1)
     have hyf:=hcap y hyt
     have hyc:=outc (y,.free) (lookup_mem hyf) rfl
     obtain⟨m,hn,hl⟩:=hloc
     obtain⟨u,r,l⟩:=hl i0 y v hNy hsv (.inr (.inl hyc))
     refine⟨u,r,?_⟩
     rcases l with⟨k1,_⟩ | ⟨_,c,p,z⟩
     ·have hyc':X.env.kindOf y=ξ .cell:=hyc
      rw[k1] at hyc';cases hyc'
     ·obtain⟨c',p'⟩:=hcl2 y (lookup_mem hyf)
      have pc:c'=c:=by
       have:=hcl1 y c' p'
       rw[p] at this;cases this;rfl
      subst pc
      refine .inr ⟨.inl ?_,c',by rw[hXe];exact p',?_⟩
      ·rw[hXe];exact e_ I3.ok.kind hyf hyc
      ·obtain⟨o,q1,q2⟩:=z
       exact⟨o,keep4 c' o q1,q2⟩
  ·rw[hXe] at p
   obtain⟨v,o,q1,q2⟩:=I3.cell y c (hcl1 y c p)
   exact⟨v,o,keep4 c o q1,q2⟩
  ·rw[hXe];exact I3.hok.fresh (XJ _)
  ·rw[hXe] at p;exact I3.e8 y c (hcl1 y c p)
  ·rw[hXpn] at hp;cases hp
  ·rw[hXp,hXw];exact I3.hok.kept keep4
  ·rw[hXN,hN];simp[ik]
 -- the loop
 have stat:∀{H':Hp},(∀b∈fp,H' b=ζ)->∀b∈fp,qu X' [] H' b:=fun hn b hb=>by
  refine⟨hn b hb,by rw[hXe];exact fpC b hb,?_,.inl (by rw[hXex];exact hb),fun y c p=>?_,fun p hp=>by rw[hXpn] at hp;cases hp⟩
  ·rw[hXf];intro z
   rcases X4.mp (I3.gW b z) with q | q
   ·exact(f2 b hb).2.1 q
   ·exact(f2 b hb).2.2.1 q
  ·rw[hXe] at p;exact(f2 b hb).2.2.2.2.1 y c (hcl1 y c p)
 have fin:∀{H5:Hp} {s5:XO} {σ5:St},Inv X' [] σ5 H5 s5->Q (.ref acc) H5->compPost (model X.prog X.w) X.A X.xe ζ (EP X pins σ Q) (.ref acc) s3.heap.objs.size (.ok .next) s5:=fun{H5 s5 σ5} I5 q=>by
  obtain⟨m,hn,_⟩:=I5.loc
  rw[hXe] at hn
  refine⟨m,hn,fun h' sb=>?_⟩
  have kb:∀b o,b≠s3.heap.objs.size->s5.heap.get? b=ξ o->h'.get? b=ξ o:=fun b o hb z=>sb.extBut b o hb z
  have u5:=I5.base
  rw[hXf,hXex,hXH,hXs] at u5
  have nC:∀b o,s3.heap.get? b=ξ o->b≠s3.heap.objs.size:=fun b o z=>XZ (XH z)
  have un:Un (frs X.stack) fp H3 H5 s3.heap h':=⟨fun b o z n a c=>kb b o (nC b o z) (u5.keep b o z n a c),fun b o z n a c=>by
   obtain⟨sl,y⟩:=u5.slot b o z n a c
   exact⟨sl,kb b _ (nC b o z) y⟩,u5.free,fun b o z c=>by
   obtain⟨o',y⟩:=u5.there b o z c
   exact⟨o',kb b _ (nC b o z) y⟩,u5.mZ,u5.mE,u5.ow⟩
  have fr:H5 s3.heap.objs.size=none:=by have:=I5.free;rw[hXe] at this;exact this
  have hok5:=I5.hok
  rw[hXp,hXw] at hok5
  have hos:s5.os=s3.os:=by have:=I5.os;rw[hXs] at this;exact this
  refine⟨.ref acc,H5,I3.wO (s':={ s5 with heap:=h' }) (ch:=fp) hos un (hok5.sameBut fr kb) I5.bare (fun b hb=>?_),rfl,q⟩
  obtain⟨g0,g1,g2,g3,g4,g5⟩:=f2 b hb
  exact⟨g3,g1,g4,g5⟩
 have loop:∀tk,codeAny (model X.prog X.w) X.A (.compLoop (.ListComp elt [⟨.Name x px,iter,ifs,0⟩] scope pos) 0 (.ref it) (.ref acc) (compEnvC scope cl s3.heap.objs.size X.env))
   (compPost (model X.prog X.w) X.A X.xe ζ (EP X pins σ Q) (.ref acc) s3.heap.objs.size) { s3 with heap:=h₁,toks:=tk }:=fun tk=>by
  refine pV (fun n s'=>∃i ys σ' H',Inv X' [] σ' H' s'/\(∃v,σ'=(ik ix σ).set 0 v)/\tn i s'.heap/\(∀b∈fp,H' b=ζ)/\W i n ys H') (fun n s5 h5=>?_) m0
   ⟨0,[],ik ix σ,H3,I4 tk,⟨ζ,rfl⟩,T.keep _ _ _ st3' fun b _ o q=>keep4 b o q,fpn,w0⟩
  obtain⟨i,ys,σ5,H5,I5,⟨v5,hσ⟩,st5,fr5,w5⟩:=h5
  rcases turn i n ys H5 w5 with⟨stop,q⟩ | ⟨go,step⟩
  ·have d:=T.done X' hXp hXw hXK hXc i [] s5 σ5 H5 (fun _ _=>False) I5 (stat fr5) st5 stop
   rw[hXA] at d
   refine thn d fun r s6 ⟨hr,I6⟩=>?_
   subst hr
   exact fin I6 q
  ·have d:=T.item X' hXp hXw hXK hXc i [] s5 σ5 H5 (fun _ _=>False) I5 (stat fr5) st5 go
   rw[hXA] at d
   refine thn d fun r s6 ⟨u,hr,h6⟩=>?_
   subst hr
   refine thn h6 fun _ s7 ⟨z,H7,I7,r7,y7,st7,fr7⟩=>?_
   have I7':=I7.pinned (stat fr7) (T.obj _ _ st7)
   have again:∀{H9:Hp} {s9:XO} {ys9:List V} {v9:Option V},Inv X' ([]++pe fp s7.heap) ((ik ix σ).set 0 v9) H9 s9->(∃m',m'<n/\W (i+1) m' ys9 H9)->∃m',m'<n/\∃i ys σ' H',Inv X' [] σ' H' s9/\(∃v,σ'=(ik ix σ).set 0 v)/\tn i s9.heap/\(∀b∈fp,H' b=ζ)/\W i m' ys H':=fun{H9 s9 ys9 v9} I9 ⟨m',hm,w9⟩=>by
    refine⟨m',hm,i+1,ys9,_,H9,I9.k4,⟨v9,rfl⟩,T.keep _ _ _ st7 fun b hb o e=>(I9.pin (b,o) (XQ _ (XQ _ (gy hb e)))).1,fun b hb=>?_,w9⟩
    obtain⟨o,e,_⟩:=T.obj _ _ st7 b hb
    exact(I9.pin (b,o) (XQ _ (XQ _ (gy hb e)))).2.1
   have es:σ5.set 0 (ξ z)=(ik ix σ).set 0 (ξ z):=by rw[hσ];simp[List.set_set]
   have ht':=ht cl s3.heap.objs.size s3 H3 fp
   have he':=he cl s3.heap.objs.size s3 H3 fp
   rw[hX'] at ht' he'
   rw[<- hXe]
   refine abO (gG (X:=X') (i:=0) I7' (by rw[hXN];exact hnd) (by rw[hXN,hN];rfl) (.inl ?_) r7 (fun s8 I8=>?_) (.inr ?_))
   ·rw[hXe];exact Zx hx
   ·rw[es] at I8
    have a1:=ht' _ s8 _ H7 _ I8 (step z H7 y7)
    rw[hXp,hXw,hXA,hXx] at a1
    refine thn a1 fun b s9 ⟨H9,I9,q9⟩=>?_
    cases b with
    | false=>exact again I9 q9
    | true=>
     have a2:=he' _ s9 _ H9 _ I9 q9
     rw[hXp,hXw,hXA,hXx] at a2
     refine thn a2 fun yv s10 ⟨y,H10,I10,r10,q1,q2,q3⟩=>?_
     have a3:=fM (X:=X') _ s10 _ H10 (.ref acc) [y] (.ref acc) [yv] (fun _ Hq=>∃m',m'<n/\W (i+1) m' (ys++[y]) Hq) I10 rfl (.cons r10 .nil) ⟨acc,ys,y,rfl,rfl,q1,q2,q3⟩
     rw[hXp,hXw,hXA,hXx] at a3
     exact thn a3 fun _ s11 ⟨_,H11,I11,_,q11⟩=>again I11 q11
   ·rw[hXe];exact Zx hx
 refine codeAny_compStart_list (loop _) ?_
 exact T.self _ 0 _ _ _ (T.keep _ _ _ st3' fun b _ o q=>keep4 b o q) (loop _)
end L2
namespace L2.FE
open PySem PySem.Spec PyProof.Rows
abbrev yX (nl:NL) (mi:MI) (ix:List Nat) (tt:MT) (te:ME):ME:=fun env h=>(mi env h).bind fun sr h1=>noR (bZ nl (fun _ h=>.ok sr h) ix tt te env h1)
section
variable {X:Cx}{g:GG}
def Gs {K:gV}{ε:EE}{nl:NL} [ji nl]{mi:MI}{tt:MT}{te:ME}{ix:List Nat}{σ:St}{H:Hp}{Q R:VK} (hR:∀v H,kI Q v H->R v H) (t:tM K g ε (yX nl mi ix tt te) σ H Q):Fj (tMI K g ε mi) ix (tMT K g E00 tt) (tM K g E00 te) σ H R:=by
 obtain⟨α,env,h,s,w⟩:=t
 refine⟨α,env,h,s,w.bind.mono fun sr h1 _ w1 J H1 α1 e1 hr1 rd=>fun acc hacc=>?_⟩
 have w1:=pJ w1
 rw[ur] at w1
 obtain⟨hf,w1⟩:=WQ.dj w1
 have s1:=s.ext e1 hr1
 refine⟨fun i m ys H=>∃α h as,Ext K α1 H1 α H/\bo K g α H h/\ay K g α H as ys/\H acc=ξ (.lst ys)/\acc∉α/\as.length+m<=1000000 ∧
  WQ K g E00 α1 H1 ((iq sr.rdr tt te (ky ix env) m i as h).bind nl) (aJ K g α1 H1 Q),
  ⟨sr.fuel h1,α1,h1,[],Ext.fresh hacc,hr1.grow hacc,.nil,aR,hr1.free hacc,by simp_all,w1.post e1⟩,?_⟩
 rintro i m ys H2 ⟨α2,h2,as,x2,hr2,ra,ha,hna,hm,w2⟩
 have q:=rd α2 H2 h2 x2 hr2 i
 unfold iq at w2
 cases e:sr.rdr h2 i with
 | none=>rw[e] at w2;exact w2.elim
 | some od=>
  rw[e] at w2 q
  cases od with
  | none=>
   refine .inl ⟨q,?_⟩
   exact hR _ _ <| ji.at' (show WQ K g E00 α1 H1 (nl as h2) _ from w2) (fun _ _ z=>z) x2 hr2 ra ha hna hacc
  | some d=>
   cases m with
   | zero=>exact w2.elim
   | succ m=>
    rw[bX] at w2
    have w3:=WQ.bind (show WQ K g E00 α1 H1 ((tt (ky ix env d) h2).bind _) _ from w2)
    refine .inr ⟨q.1,fun x H3 y=>?_⟩
    obtain⟨α3,x3,hr3,rx⟩:=q.2 x H3 y
    have ha3:=x3.keep _ _ ha hna
    have hna3:acc∉α3:=fun z=>by have:=x3.new _ z hna;simp_all
    have s3:eJ K g α3 H3 (ky ix env d) ((ik ix σ).set 0 (ξ x)) h2:=⟨hr3,yV (s1.vs.ext (x2.trans x3)) rx⟩
    refine tMT.use s3 ((w3.ext x2).ext x3) fun b h4 H4 α4 x4 s4 w4=>?_
    have ha4:=x4.keep _ _ ha3 hna3
    have hna4:acc∉α4:=fun z=>by have:=x4.new _ z hna3;simp_all
    cases b with
    | false=>
     exact⟨m,YQ _,α4,h4,as,x2.trans (x3.trans x4),s4.heap,ra.ext (x3.trans x4),ha4,hna4,{},w4⟩
    | true=>
     rw[if_pos rfl] at w4 ⊢
     rw[bX] at w4
     refine tM.use s4 (((WQ.bind w4).ext x2).ext (x3.trans x4)) fun y h5 v5 H5 α5 x5 s5 r5 w5=>?_
     have ha5:=x5.keep _ _ ha4 hna4
     have hna5:acc∉α5:=fun z=>by have:=x5.new _ z hna4;simp_all
     have soft:Hb H5 acc:=.inr ⟨_,ha5,fun _ z=>(nomatch z),fun _ _ z=>(nomatch z),fun _ z=>nomatch z⟩
     have x6:Ex0 K α5 H5 α5 (upd H5 acc (.lst (ys++[v5]))):=Ex0.upd soft
     have tr:=x2.trans (x3.trans (x4.trans x5))
     refine⟨ha5,?_,m,YQ _,α5,h5,as++[y],⟨tr.toEx0.trans x6,fun p o z n nt=>?_,tr.new⟩,s5.heap.off soft hna5,((ra.ext (x3.trans (x4.trans x5))).append (.cons r5 .nil)).ex0 x6,aR,hna5,by grind,w5⟩
     ·rw[<- ra.length,YI];lia
     ·rw[aD (aO z hacc)];exact tr.kept p o z n nt
def IT {nl:NL} [ji nl]{elt iter:YL}{x:Str}{px:Pos}{ifs:List YL}{scope osc:abe}{pos:Pos}{mi:MI}{tt:MT}{te:ME} (ix) (N')
  (hc:X.calm=θ) (ho:X.env.scope=osc) (hN:N'=x::ix.map fun i=>(X.N[i]?).getD x) (hnd:N'.Nodup)
  (hall:(∀y∈scope.names,y.2=.free->osc.names.lookup y.1=ξ .cell)/\(∀y∈scope.names,y.2≠.cell)/\scope.kind=.function/\(∀y∈scope.names,y.2=.local->scope.names.lookup y.1=ξ .local)/\scope.names.lookup x=ξ .local/\(∀y∈N'.tail,scope.names.lookup y=ξ .free))
  (hi:PI X (.Name x px) iter (tMI X.K g ε mi))
  (ht:∀cl C aP a_ fp,PTs (cb X.nox scope cl C aP a_ fp N') ifs (tMT X.K g E00 tt))
  (he:∀cl C aP a_ fp,PE (cb X.nox scope cl C aP a_ fp N') elt (tM X.K g E00 te))
  (hs:∀x,foldedSetIterable iter X.env x=pure x:=by intro _;rfl) :
  PE X (.ListComp elt [⟨.Name x px,iter,ifs,0⟩] scope pos) (tM X.K g ε (yX nl mi ix tt te)):=by
 exact PE.imp (PE.frz (K6 ix N' hc ho hN hnd hall hi ht he hs)) fun σ H Q t=>Gs (fun _ _ z=>z) t
end
end L2.FE
namespace L2
open PySem PySem.Spec PyProof.Rows PySem.W
def Ei {K:gV}{kV doc pm cdv ct:XI} (a:nsIn K mainGlobals x=ξ (ξ (.ref C))) (_b:findIn K (.ref C) "__init__" = ξ (ξ (.ref fI)))
  (l:K.lookup fI=ξ ⟨oc,od,.func (fnOf "__init__" qual (dq (cp cst)) (br (cp cst)) (aj (cp cst)) .none kV doc pm an cdv ct),osl⟩) (c:codeIn K cdv qual=θ) (k:keepIn K (.ref fI)=θ) (o:R6 K C fI fs=θ)
  (sc:a9 ("self" :: fs) ("self" :: fs) (aj (cp cst))) (loc:∀y∈("self" : Str)::fs,(aj (cp cst)).names.lookup y=ξ .local) (body:kQ (br (cp cst)) fs)
  (bd:∀kV doc pm an cdv ct us , us.length=(("self" : Str)::fs).length->bindArgs (fnOf "__init__" qual (dq (cp cst)) (br (cp cst)) (aj (cp cst)) .none kV doc pm an cdv ct) ⟨us,[]⟩=pure ((("self" : Str)::fs).zip us)) (ne:fs≠[]):CIs K x cst fs:=by
 unfold R6 at o
 simp only[XX,beq_iff_eq,X_] at o
 obtain⟨⟨⟨⟨⟨⟨⟨o1,o2⟩,o3⟩,o4⟩,o5⟩,o6⟩,o7⟩,o8⟩:=o
 have F:=xS l c k
 exact⟨C,a,⟨⟨fI,_,qual,o1,F,F.binds bd,o2⟩,sc,loc,body,o3,o4,fun f hf=>(o8 f hf).1,o5,ne⟩,fun f hf=>⟨o6,o7,(o8 f hf).2,o4,o5⟩⟩
end L2
namespace L2.FE
open PySem PySem.Spec PyProof.Rows
section
variable {P:X5}{w:Yw}{K:gV}{mg:Str->Option XI}{base:Y2}{g:GG}{k n:Nat}{f:XW}{fd:Zy}{ps:List Str}
def Mq (e:n=ps.length):cJ P w K mg base (CXE P w) k f fd ps (spE K g n fun _ _=>.bad):=⟨fun vs H Q E h=>h.1.trans e,fun A outer s H args us vs Q E _ _ _ _ ⟨_,α,ds,h,_,_,w⟩=>w.elim⟩
end
end L2.FE
namespace L2.Srt
open PySem PySem.W PyProof.Rows
inductive Ev (lt:Nat->Nat->Bool) (n):KasT α->α->Prop
 | ret (a):Ev lt n (.ret a) a
 | ask {a:α}:i<n->j<n->Ev lt n (k (lt i j)) a->Ev lt n (.ask i j k) a
def Ev.wp {s:XO} (h:Ev lt n t a) (hc:∀i j,i<n->j<n->∀C:Bool->XO->Prop,C (lt i j) s->cmp i j C s) (q:Q a s):t.kasWp cmp Q s:=by
 induction h with
 | ret a=>exact q
 | ask hi hj _ ih=>exact hc _ _ hi hj _ (ih q)
section
variable {n:Nat}{key:Nat->Int}
structure Pm (n) (p:Array Nat):Prop where
 size:p.size=n
 perm:p.Perm (XF n).toArray
def Pm.lt (h:Pm n p) (hi:i<n):p.getD i 0<n:=by
 have hi':i<p.size:=by rw[h.size];exact hi
 have e:p.getD i 0=p[i]:=by simp[hi']
 rw[e]
 have:=h.perm.mem_iff.mp (Array.getElem_mem hi')
 simp_all
variable (inj:∀i j,i<n->j<n->key i=key j->i=j)
include inj
omit inj in
omit inj in
omit inj in
omit inj in
omit inj in
omit inj in
end
end L2.Srt
namespace L2.Srt
open PySem PySem.W PyProof.Rows PySem.Calls
section
variable {prog:X5}{w:Yw}{A:YK}{E:XI->XO->Prop}{s:XO}{vs:List XI}
inductive Prs (h:Y2):List XI->List (Int × Int)->Prop
 | nil:Prs h [] []
 | cons {t u:Tok} {x y:Int} {vs:List XI} {ps:List (Int × Int)}:h.get? a=some o->o.cls=.type "tuple" -> o.data=.seq #[.int x t,.int y u] k->Prs h vs ps->Prs h (.ref a::vs) ((x,y)::ps)
def Prs.len (r:Prs h vs ps):vs.length=ps.length:=by
 induction r with
 | nil=>rfl
 | cons _ _ _ _ ih=>simp[ih]
def Prs.at_ {h:Y2}{vs:List XI}{ps:List (Int × Int)} (r:Prs h vs ps):∀{i:Nat},i<ps.length->∃a o k t u,vs.getD i ZN=.ref a/\h.get? a=ξ o/\o.data=.seq #[.int (ps.getD i (0,0)).1 t,.int (ps.getD i (0,0)).2 u] k:=by
 induction r with
 | nil=>intro i hi;simp at hi
 | @cons a o k t u x y vs ps ha hc hd r ih=>
  intro i hi
  cases i with
  | zero=>exact⟨a,o,k,t,u,rfl,ha,hd⟩
  | succ i=>
   obtain⟨a',o',k',t',u',e1,e2,e3⟩:=ih (by simpa using hi)
   exact⟨a',o',k',t',u',by simpa using e1,e2,by simpa using e3⟩
end
end L2.Srt
namespace L2
open PySem PySem.Spec PyProof.Rows L2.Srt
inductive PrV (K) (H):List V->List (Int × Int)->Prop
 | nil:PrV K H [] []
 | cons:SqT K H a [.int x,.int y]->PrV K H xs ps->PrV K H (.ref a::xs) ((x,y)::ps)
section
variable {X:Cx}
def PrV.len {K:gV} (r:PrV K H xs ps):xs.length=ps.length:=by
 induction r with
 | nil=>rfl
 | cons _ _ ih=>simp[ih]
end
end L2
namespace L2
open PySem PySem.Spec PyProof.Rows
section
variable {X:Cx}
def isInt_self (i) (t):ac0 i (aah i t)=true:=by simp[ac0]
def Fv:bU X (.type "set") (fun vs H Q=>vs=[]/\∀l,H l=ζ->Q (.ref l) (upd H l (.set (fun _=>ψ) 0))):=by
 intro pins s σ H xs us Q I r h
 obtain⟨rfl,q⟩:=h
 cases r
 refine call_set_0 fun led=>?_
 exact⟨.ref s.heap.objs.size,_,I.laid (fun b o e=>XB _ e) (XJ _) (show cz X.prog X.w _ _ _ (.set _ _) from(setObjOf_fresh led).setOf (XN _ rfl) (by unfold scanBound;lia)),rfl,q _ (I.hok.fresh (XJ _))⟩
@[inline]abbrev Sq (neg:Bool):R2:=fun x y H Q=>∃i p S n,x=.int i/\y=.ref p/\H p=ξ (.set S n)/\Q (.bl (if neg then !S i else S i)) H
def FK:OpR X (compareOp .NotIn) (Sq θ):=by
 intro pins s σ H x y v u Q I rx ry ⟨i,p,S,n,e1,e2,hp,q⟩
 subst e1 e2
 obtain⟨t,rfl⟩:=rx
 cases ry
 exact wpAny_notInSet_of (isInt_self i t) rfl (I.hok p _ hp) ⟨.bl (!S i),H,I.tok _,rfl,q⟩
abbrev Oy:V->List V->Hp->VK->Prop:=fun x vs H Q=>∃p S n i,x=.ref p/\vs=[.int i]/\H p=ξ (.set S n)/\n+1<scanBound/\Q .non (upd H p (.set (fun k'=>S k' || decide (k'=i)) (if S i then n else n+1)))
def PU:MtM X "set.add" Oy:=by
 intro pins s σ H x vs v us Q I rx rv h
 obtain⟨p,S,n,i,rfl,rfl,hp,hb,q⟩:=h
 cases rx
 obtain⟨u,rfl,t,rfl⟩:=rv.one
 refine call_set_add (isInt_self i t) rfl (I.hok p _ hp) hb fun h' hs hS=>⟨.non,_,NS (ob:=.set (fun k'=>S k' || decide (k'=i)) (if S i then n else n+1)) I (by rw[hp];exact Z9) hs ?_ hS,rfl,q⟩
 obtain⟨o,_,_,_,e,_⟩:=hS
 simp_all
end
end L2
namespace L2.FE
open PySem PySem.Spec PyProof.Rows
abbrev setOf (h:Hh) (n:Nat):Option (List Int):=match h[n]? with
 | some (.set ns)=>ξ ns
 | _=>ζ
abbrev jO (ns:List Int) (i:Int):List Int:=if ns.any (· == i)=θ then ns else ns++[i]
abbrev Bx:List D->Hh->R D:=fun ds h=>match ds with
 | []=>.ok (.ref h.length) (h++[.set []])
 | _=>.bad
abbrev CG (neg:Bool):D->D->Hh->R D:=fun a b h=>match a,b with
 | .int i,.ref n=>match setOf h n with
  | some ns=>.ok (.bl (if neg then !ns.any (· == i) else ns.any (· == i))) h
  | none=>.bad
 | _,_=>.bad
abbrev ny:D->List D->Hh->R D:=fun o ds h=>match o,ds with
 | .ref n,[.int i]=>match setOf h n with
  | some ns=>if ns.length<4000 then .ok .non (h.set n (.set (jO ns i))) else .bad
  | none=>.bad
 | _,_=>.bad
abbrev isS (d:D) (h:Hh):Bool:=match d with
 | .ref n=>(setOf h n).isSome
 | _=>ψ
abbrev sP (f:D->List D->Hh->R D) (o:ME) (a:MA):ME:=fun env h=>(o env h).bind fun x h1=>if isS x h1=θ then (a env h1).bind fun xs h2=>f x xs h2 else .bad
section
variable {X:Cx}{g:GG}{ε:EE}{K:gV}
def bo.set (r:bo K g α H h) (e:setOf h n=ξ ns) (hp:α[n]?=ξ p):H p=ξ (.set (fun k=>ns.any (· == k)) ns.length):=by
 unfold setOf at e
 cases eo:h[n]? with
 | none=>simp_all
 | some o=>
  rw[eo] at e
  cases o with
  | set k=>cases e;exact r.here n p _ hp eo
  | _=>cases e
def Ob:nN K g ε Bx (fun vs H Q=>vs=[]/\∀l,H l=ζ->Q (.ref l) (upd H l (.set (fun _=>ψ) 0))):=by
 intro α H h a x Q r ra w
 cases ra with
 | cons _ _=>exact w.elim
 | nil=>
  refine⟨rfl,fun l hn=>?_⟩
  refine(show aJ K g α H Q _ _ from w) _ _ (α++[l]) (Ext.push hn) (r.push hn (show OAt K g _ _ l (.set []) from aR)) (.ref ?_)
  rw[<- r.len];simp
def QM:fB K g ε (CG neg) (Sq neg):=by
 intro α H h a b x y Q r ra rb w
 unfold CG at w
 cases ra with
 | int i=>
  cases rb with
  | @ref n p hp=>
   simp only at w
   cases e:setOf h n with
   | none=>rw[e] at w;exact w.elim
   | some ns=>
    rw[e] at w
    exact⟨i,p,_,_,rfl,rfl,r.set e hp,aJ.now w r (.bl _)⟩
  | _=>exact w.elim
 | _=>exact w.elim
def add_eq (ns:List Int) (i:Int):(HO.set (fun k'=>(ns.any (· == k')) || decide (k'=i)) (if (ns.any (· == i))=θ then ns.length else ns.length+1))=.set (fun k=>(jO ns i).any (· == k)) (jO ns i).length:=by
 unfold jO
 by_cases c:ns.any (· == i)=θ
 ·rw[if_pos c,if_pos c]
  congr 1
  funext k
  by_cases e:k=i
  ·subst e;rw[c];rfl
  ·simp[e]
 ·rw[if_neg c,if_neg c]
  congr 1
  ·funext k
   rw[List.any_append]
   by_cases e:k=i
   ·subst e;simp
   ·have e':¬ i=k:=fun z=>e z.symm
    simp[e,e']
  ·simp
def M_:mH K g ε ny Oy:=by
 intro α H h o a y x Q r ro ra w
 unfold ny at w
 cases ro with
 | @ref n p hp=>
  cases ra with
  | nil=>exact w.elim
  | @cons d v _ _ rd rr=>
   cases rr with
   | cons _ _=>cases rd<;>exact w.elim
   | nil=>
    cases rd with
    | int i=>
     simp only at w
     cases e:setOf h n with
     | none=>rw[e] at w;exact w.elim
     | some ns=>
      rw[e] at w
      obtain⟨hl,w⟩:=WQ.dj w
      refine⟨p,_,_,i,rfl,rfl,r.set e hp,by show ns.length+1<4096;lia,?_⟩
      rw[add_eq]
      have x:=Ext.write (o:=.set (fun k=>(jO ns i).any (· == k)) (jO ns i).length) r hp
      exact(show aJ K g α H Q _ _ from w) _ _ α x (r.write hp (show OAt K g _ _ p (.set (jO ns i)) from aR)) .non
    | _=>exact w.elim
 | _=>exact w.elim
def ND (r:bo K g α H h) (rd:aL K g α H d x) (e:isS d h=θ):tyV K "set" x H:=by
 unfold isS at e
 cases rd with
 | @ref n p hp=>
  obtain⟨ns,e⟩:=Zs.mp e
  exact .inr (.inr (.inr (.inl ⟨rfl,_,_,r.set e hp⟩)))
 | _=>cases e
def Qp {o e:YL}{es:List YL}{mo:ME}{mr:MA}{name:Str}{apos cpos:Pos}{id:String}{r:V->List V->Hp->VK->Prop}{f:D->List D->Hh->R D} (slot:Slot "set" name id) (hty:typeOf (.builtin id)=pure (.type "method_descriptor")) (hm:MtM X id r) (im:mH X.K g ε f r) (ho:PE X o (tM X.K g ε mo)) (ha:PA X (e::es) (tMA X.K g ε mr))
  (hbase:attributeBase o name X.env (eval o X.env)=eval o X.env:=by rfl)
  (hfew:((backTo cpos (starEach (e::es) X.env)).all (fun x=>!x.1)&&(backToKw cpos (keywordEach [] X.env)).all (fun x=>x.1.isSome)
   && decide ((e::es).length+([]:List aa8).length+(if ([]:List aa8).isEmpty then 0 else 1)<30))=true:=by rfl)
  (hline:(apos.endLine == cpos.line)=true:=by rfl) (hs:starEach (e::es) X.env=(ψ,eval e X.env)::starEach es X.env:=by rfl) (hplain:(backTo cpos (starEach es X.env)).any (·.1)=false:=by rfl) :
  PE X (.Call (.Attribute o name apos) (e::es) [] cpos) (tM X.K g ε (sP f mo mr)):=
 PE.imp (Bt PySem.F.plainAttrs_set slot hty hm ho ha hbase hfew hline hs hplain) fun σ H Q ⟨α,env,h,s,w⟩=>tM.use s w.bind fun d1 h1 v1 H1 α1 e1 s1 r1 w1=>by
  obtain⟨hl,w1⟩:=WQ.dj w1
  refine⟨ND s1.heap r1 hl,tMA.use s1 (w1.ext e1).bind fun d2 h2 v2 H2 α2 e2 s2 r2 w2=>?_⟩
  exact im α2 H2 h2 d1 d2 v1 v2 Q s2.heap (r1.ext e2) r2 ((w2.ext e2).mono fun _ _ _ p=>aJ.ext (e1.trans e2) p)
def MQ {p pos:Pos} (hg:Gl X "set") (hm:X.mg "set" = ζ):PE X (.Call (.Name "set" p) [] [] pos) (tM X.K g ε (af Bx ah)):=
 PE.imp (CV Fv hg hm PyProof.Rows.boot_set (by decide) (by decide)) fun σ H Q ⟨α,env,h,s,w⟩=>by
  exact Ob α H h [] [] Q s.heap .nil (by
   assumption)
end
section
variable {h:Hh}{env:En}
@[simp] def Qv:Bx [] h=.ok (.ref h.length) (h++[.set []]):=aaB rfl rfl
@[simp] def Fh:sP f o a env h=(o env h).bind fun x h1=>if isS x h1=θ then (a env h1).bind fun xs h2=>f x xs h2 else .bad:=aaB rfl rfl
def T5 (e:setOf h n=ξ ns):CG neg (.int i) (.ref n) h=.ok (.bl (if neg then !ns.any (· == i) else ns.any (· == i))) h:=by delta CG;simp_all
def BL (e:setOf h n=ξ ns):ny (.ref n) [.int i] h=if ns.length<4000 then .ok .non (h.set n (.set (jO ns i))) else .bad:=by delta ny;simp_all
def IA (e:setOf h n=ξ ns):isS (.ref n) h=true:=by delta isS;simp_all
end
abbrev O4 (h:Hh) (n:Nat):Option (List (List Key × D)):=match h[n]? with
 | some (.dit kvs)=>ξ kvs
 | _=>ζ
abbrev Sf (kvs:List (List Key × D)) (k:List Key) (d:D):List (List Key × D):=
 if (kvs.any fun kv=>decide (kv.1=k))=θ then kvs.map (fun kv=>if kv.1=k then (kv.1,d) else kv) else kvs++[(k,d)]
@[inline]abbrev PDT (K:gV) (g:GG) (α:List XW) (H:Hp):List (List Key × D)->List (List Key × V)->Prop:=Paired (fun(a:List Key × D) (b:List Key × V)=>a.1=b.1/\aL K g α H a.2 b.2)
section
variable {K:gV}{g:GG}{α:List XW}{H:Hp}{h:Hh}
def bo.dit (r:bo K g α H h) (e:O4 h n=ξ kvs) (hp:α[n]?=ξ p):∃kws,H p=ξ (.dT kws)/\PDT K g α H kvs kws:=by
 unfold O4 at e
 cases eo:h[n]? with
 | none=>simp_all
 | some o=>
  rw[eo] at e
  cases o with
  | dit k=>cases e;exact r.here n p _ hp eo
  | _=>cases e
def PDT.any (k:List Key):∀{kvs:List (List Key × D)}{kws:List (List Key × V)},PDT K g α H kvs kws->(kvs.any fun kv=>decide (kv.1=k))=kws.any fun kv=>decide (kv.1=k)
 | _,_,.nil=>rfl
 | p::r,q::t,.cons c rr=>by rw[Zj,Zj,PDT.any k rr,c.1]
def PDT.JB (k:List Key){d:D}{v:V} (rd:aL K g α H d v):∀{kvs:List (List Key × D)}{kws:List (List Key × V)},PDT K g α H kvs kws →
  PDT K g α H (kvs.map fun kv=>if kv.1=k then (kv.1,d) else kv) (kws.map fun kv=>if kv.1=k then (kv.1,v) else kv)
 | _,_,.nil=>.nil
 | p::r,q::t,.cons c rr=>by
  refine .cons ?_ (PDT.JB k rd rr)
  grind
def PDT.snoc {x:List Key × D}{y:List Key × V} (c:x.1=y.1/\aL K g α H x.2 y.2):∀{kvs:List (List Key × D)}{kws:List (List Key × V)},PDT K g α H kvs kws->PDT K g α H (kvs++[x]) (kws++[y])
 | _,_,.nil=>.cons c .nil
 | _::_,_::_,.cons b rr=>.cons b (PDT.snoc c rr)
def PDT.put (k) (rd:aL K g α H d v) (r:PDT K g α H kvs kws):PDT K g α H (Sf kvs k d) (putK kws k v):=by
 unfold Sf putK
 rw[PDT.any k r]
 split
 ·exact PDT.JB k rd r
 ·exact PDT.snoc ⟨rfl,rd⟩ r
def PDT.ext (e:Ext K α H α' H') (r:PDT K g α H kvs kws):PDT K g α' H' kvs kws:=Paired.Ul e.toEx0 r
def aJ.dit (w:aJ K g α H Q (.ref h.length) (h++[.dit kvs])) (r:bo K g α H h) (rs:PDT K g α H kvs kws) (hp:H p=ζ):Q (.ref p) (upd H p (.dT kws)):=by
 have x:=Ext.push (K:=K) (α:=α) (o:=.dT kws) hp
 exact w _ _ _ x (r.push hp ⟨_,aR,rs.ext x⟩) (.ref (by rw[<- r.len];simp))
end
end L2.FE
namespace L2
open PySem PySem.Spec PyProof.Rows
section
variable {prog:X5}{w:Yw}{A:YK}{R:Result->XO->Prop}{s:XO}{elt tg iter tg2 iter2:YL}{scope:abe}{pos:Pos}{it acc:XI}{env:Env}
@[inline]abbrev e2 (elt tg iter tg2 iter2:YL) (scope:abe) (pos:Pos):YL:=.ListComp elt [⟨tg,iter,[],0⟩,⟨tg2,iter2,[],0⟩] scope pos
end
end L2
namespace L2.FE
open PySem PySem.Spec PyProof.Rows
abbrev cN:List D->Hh->R D:=fun ds h=>match ds with
 | [.int i]=>if sml i=θ then .ok (.str (toString i)) h else .bad
 | _=>.bad
section
variable {X:Cx}{g:GG}{ε:EE}{K:gV}
def cD:bU X (.type "str") (fun vs H Q=>∃i,vs=[.int i]/\i.natAbs.log2<1920/\Q (.str (toString i)) H):=by
 intro pins s σ H xs us Q I r h
 obtain⟨i,rfl,hi,q⟩:=h
 obtain⟨u,rfl,t,rfl⟩:=vals1 r
 exact PySem.P.str_of_int hi ⟨.str (toString i),H,I.tok _,⟨_,rfl⟩,q⟩
def d_:nN K g ε cN (fun vs H Q=>∃i,vs=[.int i]/\i.natAbs.log2<1920/\Q (.str (toString i)) H):=by
 intro α H h a x Q r ra w
 cases ra with
 | nil=>exact w.elim
 | cons rd rr=>
  cases rr with
  | cons _ _=>cases rd<;>exact w.elim
  | nil=>
   cases rd with
   | int i=>
    obtain⟨hl,w⟩:=WQ.dj w
    exact⟨i,rfl,aco (Ep hl) (by decide),aJ.now w r (.str _)⟩
   | _=>exact w.elim
end
section
variable {h:Hh}
@[simp] def eK:cN [.int i] h=if sml i=θ then .ok (.str (toString i)) h else .bad:=aaB rfl rfl
end
abbrev Bd (x:Str) (st:aaN) (ps:List Str):Prop:=∀(kV doc pm:XI) (an:Option XW) (cdv ct:XI) (us:List XI),us.length=ps.length->bindArgs (Yz x x (dq st) (br st) (aj st) .none kV doc pm an cdv ct) ⟨us,[]⟩=pure (ps.zip us)
section
variable {P:X5}{w:Yw}{K:gV}{mg:Str->Option XI}{base:Y2}{g:GG}{x:Str}{st:aaN}{k:Nat}{N ps:List Str}{mb:MS}{m:MF}
def fsc {sc:abe} (a:sc.kind=.function/\sc.isCoroutine=ψ/\sc.isGenerator=ψ) (b:(N.Nodup/\N.take ps.length=ps)/\(∀x∈ps,sc.names.lookup x=ξ .local\/sc.names.lookup x=ξ .cell)/\∀y∈sc.names,y.2≠.free):a9 N ps sc:=⟨a.1,a.2.1,a.2.2,b.1.1,b.1.2,b.2.1,b.2.2⟩
def Ql (D:aK K mg x st) (S:a9 N ps (aj st)) (B:Bd x st ps)
  (hb:N.Nodup->∀(f:XW) (cdv:XI) (A:YK) (outer:List Env) (s:XO) (H:Hp) (E:XK),b8 k (A.deeper (envOfC x (aj st) s.heap.objs.size f cdv)) →
   PSs (gF CX0 P w K mg base N x (aj st) f cdv A outer s H E).nox (br st) (tMS K g E00 mb)):Has P w K mg base g x (k+1) ps (ba N.length mb):=
 let ⟨f,fd,hm,F⟩:=D
 ⟨f,fd,yu F S (hb S.nd f),F.kp,F.binds B,hm,f_ F⟩
def U2 (D:aK K mg x st) (S:a9 N ps (aj st)) (B:Bd x st ps)
  (hb:N.Nodup->∀(f:XW) (cdv:XI) (A:YK) (outer:List Env) (s:XO) (H:Hp) (E:XK),b8 k (A.deeper (envOfC x (aj st) s.heap.objs.size f cdv)) →
   gM (gF (CXE P w) P w K mg base N x (aj st) f cdv A outer s H E) E->Plain (gF (CXE P w) P w K mg base N x (aj st) f cdv A outer s H E) →
   abf (model P w) (A.deeper (envOfC x (aj st) s.heap.objs.size f cdv)) (envOfC x (aj st) s.heap.objs.size f cdv) (gF (CXE P w) P w K mg base N x (aj st) f cdv A outer s H E).xe →
   PSs (gF (CXE P w) P w K mg base N x (aj st) f cdv A outer s H E) (br st) (tMS K g (εX g E) mb)):RE P w K mg base g x (k+1) ps (ba N.length mb):=
 let ⟨f,fd,hm,F⟩:=D
 ⟨f,fd,sX F S (hb S.nd f),F.kp,F.binds B,hm⟩
def Sk (h:Has P w K mg base g x k ps m):Has P w K mg base g x k ps fun ds h=>(m ds h).bind (dz h):=let ⟨f,fd,a,b⟩:=h;⟨f,fd,kj a,b⟩
def bd1 {p:Str} (h:∀kV doc pm an cdv ct a,bindArgs (Yz x x (dq st) (br st) (aj st) .none kV doc pm an cdv ct) ⟨[a],[]⟩=pure ([p].zip [a])):Bd x st [p]:=fun _ _ _ _ _ _ us hl=>tm hl (h _ _ _ _ _ _)
def bd2 {p q:Str} (h:∀kV doc pm an cdv ct a b,bindArgs (Yz x x (dq st) (br st) (aj st) .none kV doc pm an cdv ct) ⟨[a,b],[]⟩=pure ([p,q].zip [a,b])):Bd x st [p,q]:=fun _ _ _ _ _ _ us hl=>Ao hl (h _ _ _ _ _ _)
def bd3 {p q r:Str} (h:∀kV doc pm an cdv ct a b c,bindArgs (Yz x x (dq st) (br st) (aj st) .none kV doc pm an cdv ct) ⟨[a,b,c],[]⟩=pure ([p,q,r].zip [a,b,c])):Bd x st [p,q,r]:=fun _ _ _ _ _ _ us hl=>Mr hl (h _ _ _ _ _ _)
end
section
variable {X:Cx}{g:GG}{E:XK}{k j:Nat}{ps:List Str}{m:MF}{x:Str}{p pos:Pos}{e:YL}{es:List YL}{mr:MA}
def Vz (F:Has X.prog X.w X.K X.mg X.base g x j ps m) (hr:b8 k X.A) (ha:PA X (e::es) (tMA X.K g E00 mr)) (hlen:∀env h ds h',mr env h=.ok ds h'->ds.length=ps.length) (hj:j<=k:=by decide) (hg:Gl X x:=by rfl) (hdb:(x == ("__debug__" : Str))=false:=by decide) (he:starEach (e::es) X.env=(ψ,eval e X.env)::starEach es X.env:=by rfl) (hpl:(backTo pos (starEach es X.env)).any (·.1)=false:=by rfl) :
  PE X (.Call (.Name x p) (e::es) [] pos) (tM X.K g E00 (af m mr)):=
 let ⟨_,_,G,hk,B,hm,_⟩:=F
 cM (G.mono hj) hr hg hm hk B ha hlen hdb he hpl
def SE (fl:gM X E) (pl:Plain X) (F:RE X.prog X.w X.K X.mg X.base g x j ps m) (hr:b8 k X.A) (ha:PA X (e::es) (tMA X.K g (εX g E) mr)) (hlen:∀env h ds h',mr env h=.ok ds h'->ds.length=ps.length) (hj:j<=k:=by decide) (hg:Gl X x:=by rfl) (hdb:(x == ("__debug__" : Str))=false:=by decide) (he:starEach (e::es) X.env=(ψ,eval e X.env)::starEach es X.env:=by rfl) (hpl:(backTo pos (starEach es X.env)).any (·.1)=false:=by rfl) :
  PE X (.Call (.Name x p) (e::es) [] pos) (tM X.K g (εX g E) (af m mr)):=
 let ⟨_,_,G,hk,B,hm⟩:=F
 bO fl pl (G.mono hj) hr hg hm hk B ha hlen hdb he hpl
end
variable {X:Cx}{g:GG}
def D9 {K:gV}{ε:EE}{mi:MI}{ix:List Nat}{tt:TT}{te:TE}{σ:St}{H:Hp}{Q:VK} (t:Fj (tMI K g ε mi) ix tt te σ H Q):r8 (tMI K g ε mi) 1 ix (jW 0) tt te σ H Q:=by
 obtain⟨α,env,h,s,w⟩:=t
 refine⟨α,env,h,s,w.mono fun sr h1 _ z J H' α' e hr rd acc ha=>?_⟩
 obtain⟨W,w0,st⟩:=z J H' α' e hr rd acc ha
 refine⟨W,w0,fun i m ys H1 hw=>(st i m ys H1 hw).imp id fun⟨a,b⟩=>⟨a,fun σ0 x H2 hc hy=>?_⟩⟩
 obtain⟨ts,tl,rfl⟩:=hc
 match ts,tl with
 | [t0],_=>exact⟨⟨[ξ x],rfl,rfl⟩,b x H2 hy⟩
def ni [ji nl]{elt iter:YL}{x:Str}{px:Pos}{ifs:List YL}{scope osc:abe}{pos:Pos}{mi:MI}{tt:MT}{te:ME} (ix) (N')
  (hxe:X.xe=fun _ _=>False) (hc:X.calm=θ) (ho:X.env.scope=osc) (hN:N'=x::ix.map fun i=>(X.N[i]?).getD ("" : Str)) (hnd:N'.Nodup)
  (hall:(∀y∈scope.names,y.2=.free->osc.names.lookup y.1=ξ .cell)/\(∀y∈scope.names,y.2≠.cell)/\scope.kind=.function/\(∀y∈scope.names,y.2=.local->scope.names.lookup y.1=ξ .local)/\scope.names.lookup x=ξ .local/\(∀y∈N'.tail,scope.names.lookup y=ξ .free))
  (hi:PI X (.Name x px) iter (tMI X.K g E00 mi))
  (ht:∀cl C aP a_ fp,PTs (cb X scope cl C aP a_ fp N') ifs (tMT X.K g E00 tt))
  (he:∀cl C aP a_ fp,PE (cb X scope cl C aP a_ fp N') elt (tM X.K g E00 te))
  (hs:∀x,foldedSetIterable iter X.env x=pure x:=by intro _;rfl) :
  PE X (.ListComp elt [⟨.Name x px,iter,ifs,0⟩] scope pos) (tM X.K g E00 (bZ nl mi ix tt te)):=by
 refine PE.imp (PE.frz (Bg ix [x] N' hxe hc ho hN hnd ⟨hall.1,hall.2.1,hall.2.2.1,hall.2.2.2.1,fun y hy=>hall.2.2.2.2.2 y (by simp_all)⟩ hi (fun cl C aP a_ fp=>kf hnd (show N'[0]?=ξ x by grind) (.inl (Zx hall.2.2.2.2.1)) (.inr (Zx hall.2.2.2.2.1))) ht he hs)) fun σ H Q t=>?_
 exact D9 (A5 (fun _ _ z=>z) t)
def tU {nl:NL} [ji nl]{elt iter:YL}{x z:Str}{px pz:Pos}{ifs:List YL}{scope osc:abe}{pos spos:Pos}{mi:MI}{tt:MT}{te:ME}{i:Nat} (ix:List Nat) (N':List Str)
  (hxe:X.xe=fun _ _=>False) (hc:X.calm=θ) (ho:X.env.scope=osc) (hN:N'=x::ix.map fun i=>(X.N[i]?).getD ("" : Str)) (hnd:N'.Nodup)
  (hall:(∀y∈scope.names,y.2=.free->osc.names.lookup y.1=ξ .cell)/\(∀y∈scope.names,y.2≠.cell)/\scope.kind=.function/\(∀y∈scope.names,y.2=.local->scope.names.lookup y.1=ξ .local)/\scope.names.lookup x=ξ .local/\(∀y∈N'.tail,scope.names.lookup y=ξ .free))
  (hi:PI X (.Name x px) iter (tMI X.K g E00 mi))
  (ht:∀cl C aP a_ fp,PTs (cb X scope cl C aP a_ fp N') ifs (tMT X.K g E00 tt))
  (he:∀cl C aP a_ fp,PE (cb X scope cl C aP a_ fp N') elt (tM X.K g E00 te))
  (hNN:X.N.Nodup) (hz:X.N[i]?=ξ z) (hl:X.env.scope.names.lookup z=ξ .local:=by rfl)
  (hsw:swapsWith (.ListComp elt [⟨.Name x px,iter,ifs,0⟩] scope pos) (ξ (.Name z pz)) spos.line X.env=pure true:=by rfl)
  (hs:∀x,foldedSetIterable iter X.env x=pure x:=by intro _;rfl) :
  PS X (.Assign [.Name z pz] (.ListComp elt [⟨.Name x px,iter,ifs,0⟩] scope pos) spos) (tMS X.K g E00 (aZ i (bZ nl mi ix tt te))):=by
 refine PS.imp (PS.frz (Au ix [x] N' hxe hc ho hN hnd ⟨hall.1,hall.2.1,hall.2.2.1,hall.2.2.2.1,fun y hy=>hall.2.2.2.2.2 y (by simp_all)⟩ hi (fun cl C aP a_ fp=>kf hnd (show N'[0]?=ξ x by grind) (.inl (Zx hall.2.2.2.2.1)) (.inr (Zx hall.2.2.2.2.1))) ht he hNN hz hl hsw hs)) fun E σ H ⟨α,env,h,s,w⟩=>D9 (A5 (fun v H1 z=>NU z) (tM.use s w.bind fun d1 h1 v1 H1 α1 e1 s1 r1 w1=>(show di X.K g α H E (.nx (env.set i (ξ d1))) h1 from w1) H1 α1 e1 s1.heap _ (s1.vs.set r1)))
end L2.FE
namespace L2.FE
open PySem PySem.Spec PyProof.Rows
abbrev isStr:D->Bool
 | .str _=>θ
 | _=>ψ
abbrev i7 (f:D->List D->Hh->R D) (o:ME) (a:MA):ME:=fun env h=>(o env h).bind fun x h1=>if isStr x=θ then (a env h1).bind fun xs h2=>f x xs h2 else .bad
abbrev zj (f:D->List D->Hh->R D) (o:ME):ME:=fun env h=>(o env h).bind fun x h1=>if isStr x=θ then f x [] h1 else .bad
section
variable {X:Cx}{g:GG}{ε:EE}{K:gV}
def nV {α:List XW}{H:Hp}{d:D}{x:V} (rd:aL K g α H d x) (e:isStr d=θ):tyV K "str" x H:=by
 cases rd<;>first | rfl | cases e
def oH {o e:YL}{es:List YL}{mo:ME}{mr:MA}{name:Str}{apos cpos:Pos}{id:String}{r:V->List V->Hp->VK->Prop}{f:D->List D->Hh->R D} (slot:Slot "str" name id) (hty:typeOf (.builtin id)=pure (.type "method_descriptor")) (hm:MtM X id r) (im:mH X.K g ε f r) (ho:PE X o (tM X.K g ε mo)) (ha:PA X (e::es) (tMA X.K g ε mr))
  (hbase:attributeBase o name X.env (eval o X.env)=eval o X.env:=by rfl)
  (hfew:((backTo cpos (starEach (e::es) X.env)).all (fun x=>!x.1)&&(backToKw cpos (keywordEach [] X.env)).all (fun x=>x.1.isSome)
   && decide ((e::es).length+([]:List aa8).length+(if ([]:List aa8).isEmpty then 0 else 1)<30))=true:=by rfl)
  (hline:(apos.endLine == cpos.line)=true:=by rfl) (hs:starEach (e::es) X.env=(ψ,eval e X.env)::starEach es X.env:=by rfl) (hplain:(backTo cpos (starEach es X.env)).any (·.1)=false:=by rfl) :
  PE X (.Call (.Attribute o name apos) (e::es) [] cpos) (tM X.K g ε (i7 f mo mr)):=
 PE.imp (Bt aa2 slot hty hm ho ha hbase hfew hline hs hplain) fun σ H Q ⟨α,env,h,s,w⟩=>tM.use s w.bind fun d1 h1 v1 H1 α1 e1 s1 r1 w1=>by
  obtain⟨hl,w1⟩:=WQ.dj w1
  refine⟨nV r1 hl,tMA.use s1 (w1.ext e1).bind fun d2 h2 v2 H2 α2 e2 s2 r2 w2=>?_⟩
  exact im α2 H2 h2 d1 d2 v1 v2 Q s2.heap (r1.ext e2) r2 ((w2.ext e2).mono fun _ _ _ p=>aJ.ext (e1.trans e2) p)
def Eo {o:YL}{mo:ME}{name:Str}{apos cpos:Pos}{id:String}{r:V->List V->Hp->VK->Prop}{f:D->List D->Hh->R D} (slot:Slot "str" name id) (hty:typeOf (.builtin id)=pure (.type "method_descriptor")) (hm:MtM X id r) (im:mH X.K g ε f r) (ho:PE X o (tM X.K g ε mo))
  (hbase:attributeBase o name X.env (eval o X.env)=eval o X.env:=by rfl) (hline:(apos.endLine == cpos.line)=true:=by rfl) :
  PE X (.Call (.Attribute o name apos) [] [] cpos) (tM X.K g ε (zj f mo)):=
 PE.imp (Jg aa2 slot hty hm ho hbase hline) fun σ H Q ⟨α,env,h,s,w⟩=>tM.use s w.bind fun d1 h1 v1 H1 α1 e1 s1 r1 w1=>by
  obtain⟨hl,w1⟩:=WQ.dj w1
  exact⟨nV r1 hl,im α1 H1 h1 d1 [] v1 [] Q s1.heap r1 .nil ((w1.ext e1).mono fun _ _ _ p=>aJ.ext e1 p)⟩
abbrev QJ (t:Str->Bool):V->List V->Hp->VK->Prop:=fun x vs H Q=>∃z,x=.str z/\vs=[]/\Q (.bl (t z)) H
abbrev M8 (t:Str->Bool):D->List D->Hh->R D:=fun o ds h=>match o,ds with
 | .str z,[]=>.ok (.bl (t z)) h
 | _,_=>.bad
def IG {t:Str->Bool}:mH K g ε (M8 t) (QJ t):=by
 intro α H h o a y x Q r ro ra w
 unfold M8 at w
 split at w
 ·cases ro
  cases ra
  exact⟨_,rfl,rfl,aJ.now w r (.bl _)⟩
 ·exact w.elim
def C6:MtM X "str.isascii" (QJ Txt.isascii):=by
 intro pins s σ H x vs v us Q I rx rv h
 obtain⟨z,rfl,rfl,q⟩:=h
 obtain⟨t,rfl⟩:=rx
 cases rv
 exact SC.isascii ⟨.bl _,H,I,rfl,q⟩
def C7:MtM X "str.isdigit" (QJ Txt.isdigit):=by
 intro pins s σ H x vs v us Q I rx rv h
 obtain⟨z,rfl,rfl,q⟩:=h
 obtain⟨t,rfl⟩:=rx
 cases rv
 exact SC.isdigit ⟨.bl _,H,I,rfl,q⟩
def wG:∀{zs:List Str}{us:List XI},Vals (zs.map V.str) us->StrsAre us zs
 | [],_,.nil=>.nil
 | z::zs,_,.cons ⟨t,e⟩ r=>by subst e;exact .cons z t (wG r)
abbrev wgt (zs:List Str):Nat:=(zs.map (·.length)).sum+zs.length
abbrev rJoin (K:gV):V->List V->Hp->VK->Prop:=fun x vs H Q=>∃(sep:Str) (p:XW) (zs:List Str),x=.str sep/\vs=[.ref p]/\SqL K H p (zs.map V.str)/\sep.length<=16/\wgt zs<=1048576/\Q (.str (aaV sep zs)) H
def lV:MtM X "str.join" (rJoin X.K):=by
 intro pins s σ H x vs v us Q I rx rv h
 obtain⟨sep,p,zs,rfl,rfl,hq,h1,h2,q⟩:=h
 obtain⟨t,rfl⟩:=rx
 obtain⟨u,rfl,ru⟩:=rv.one
 cases ru
 obtain⟨its,rs,pl,hz⟩:=I.list hq
 exact join_listW pl.isList (by simpa using wG rs) h1 h2 fun t' k=>⟨.str _,H,I.tok _,⟨_,rfl⟩,q⟩
abbrev strsOf:List D->Option (List Str)
 | []=>ξ []
 | .str z::r=>(strsOf r).map (z::·)
 | _::_=>ζ
def p_:∀{ds:List D}{zs:List Str},strsOf ds=ξ zs->ds=zs.map D.str
 | [],zs,e=>by cases e;rfl
 | d::r,zs,e=>by
  cases d with
  | str z=>
   cases h:strsOf r with
   | none=>simp[strsOf,h] at e
   | some ys=>
    simp[strsOf,h] at e
    subst e
    rw[XT,<- p_ h]
  | _=>simp[strsOf] at e
def DH (zs:List Str):strsOf (zs.map D.str)=ξ zs:=by
 induction zs with
 | nil=>rfl
 | cons z zs ih=>rw[XT];unfold strsOf;rw[ih];rfl
def sQ {α:List XW}{H:Hp}:∀{zs:List Str}{vs:List V},ay K g α H (zs.map D.str) vs->vs=zs.map V.str
 | [],_,.nil=>rfl
 | z::zs,_,.cons r rs=>by cases r;rw[sQ rs];rfl
abbrev k6:D->List D->Hh->R D:=fun o ds h=>match o,ds with
 | .str sep,[.frl xs]=>match strsOf xs with
  | some zs=>if sep.length<=16/\wgt zs<=1048576 then .ok (.str (aaV sep zs)) h else .bad
  | none=>.bad
 | _,_=>.bad
def lQ:mH K g ε k6 (rJoin K):=by
 intro α H h o a y x Q r ro ra w
 unfold k6 at w
 split at w
 ·split at w
  ·rename_i zs e2
   obtain⟨hl,w⟩:=WQ.dj w
   have e3:=p_ e2
   subst e3
   cases ro
   cases ra with
   | cons rd rr=>
    cases rr
    cases rd with
    | @frl _ p vs hq rs=>
     have e4:=sQ rs
     subst e4
     exact⟨_,p,zs,rfl,rfl,hq.sq,hl.1,hl.2,aJ.now w r (.str _)⟩
  ·exact w.elim
 ·exact w.elim
abbrev Rl:V->List V->Hp->VK->Prop:=fun x vs H Q=>∃(z y:Str),x=.str z/\vs=[.str y]/\(y.length == 0)=ψ/\z.length<=1000000/\∀l,H l=ζ->Q (.ref l) (upd H l (.lst ((acQ z y).map V.str)))
def Cb:∀(zs:List Str) (k:Nat),Vals (zs.map V.str) (strsFrom k zs)
 | [],_=>.nil
 | z::zs,k=>.cons ⟨k,rfl⟩ (Cb zs (k+1))
def Lc:MtM X "str.split" Rl:=by
 intro pins s σ H x vs v us Q I rx rv h
 obtain⟨z,y,rfl,rfl,hy,hz,q⟩:=h
 obtain⟨t,rfl⟩:=rx
 obtain⟨u,rfl,ru⟩:=rv.one
 obtain⟨u,rfl⟩:=ru
 have hsz:z.length<=sizeLine:=by rw[YI];omega
 have hw:=split_weight z y (by have:=hy;simp at this;omega)
 cases h1:(decide (z.length<y.length) || decide (ZJ.Str.strKind z<ZJ.Str.strKind y))
 ·cases hf:(ZJ.Str.occurrences z y 0 z.length (z.length+1)).isEmpty
  ·have e:acQ z y=ZJ.Str.partsBetween z (ZJ.Str.occurrences z y 0 z.length (z.length+1)) y.length:=(if_neg (ne_true_of_eq_false h1)).trans (if_neg (ne_true_of_eq_false hf))
   rw[e] at hw q
   refine aab ab_ (acu _ _ _) abW (abH _ _) (meets_str_split_sep z y t u h1 hy hf hsz (by rw[YI];omega)) ?_
   exact⟨.ref _,_,I.DC (Cb _ _) (by rw[XE,YI];omega),rfl,q _ I.fresh⟩
  ·have e:acQ z y=[z]:=(if_neg (ne_true_of_eq_false h1)).trans (if_pos hf)
   rw[e] at q
   refine aab ab_ (acu _ _ _) abW (abH _ _) (meets_str_split_not_found z y t u h1 hy hf) ?_
   exact⟨.ref _,_,I.DC (ys:=[V.str z]) (its:=[.str z t]) (.cons ⟨t,rfl⟩ .nil) (by rw[YI];simp),rfl,q _ I.fresh⟩
 ·have e:acQ z y=[z]:=if_pos h1
  rw[e] at q
  refine aab ab_ (acu _ _ _) abW (abH _ _) (meets_str_split_cannot_occur z y t u h1) ?_
  exact⟨.ref _,_,I.DC (ys:=[V.str z]) (its:=[.str z t]) (.cons ⟨t,rfl⟩ .nil) (by rw[YI];simp),rfl,q _ I.fresh⟩
abbrev Cj (nl:NL):D->List D->Hh->R D:=fun o ds h=>match o,ds with
 | .str z,[.str y]=>if (y.length == 0)=ψ/\z.length<=1000000 then nl ((acQ z y).map D.str) h else .bad
 | _,_=>.bad
def mB {α:List XW}{H:Hp}:∀(zs:List Str),ay K g α H (zs.map D.str) (zs.map V.str)
 | []=>.nil
 | z::zs=>.cons (.str z) (mB zs)
def Hz {nl:NL} [ji nl]{o e:YL}{mo:ME}{mr:MA}{apos cpos:Pos} (ho:PE X o (tM X.K g ε mo)) (ha:PA X [e] (tMA X.K g ε mr))
  (hbase:attributeBase o "split" X.env (eval o X.env)=eval o X.env:=by rfl)
  (hfew:((backTo cpos (starEach [e] X.env)).all (fun x=>!x.1)&&(backToKw cpos (keywordEach [] X.env)).all (fun x=>x.1.isSome)
   && decide (([e]:List YL).length+([]:List aa8).length+(if ([]:List aa8).isEmpty then 0 else 1)<30))=true:=by rfl)
  (hline:(apos.endLine == cpos.line)=true:=by rfl) (hs:starEach [e] X.env=(ψ,eval e X.env)::starEach [] X.env:=by rfl) (hplain:(backTo cpos (starEach [] X.env)).any (·.1)=false:=by rfl) :
  PE X (.Call (.Attribute o "split" apos) [e] [] cpos) (tM X.K g ε (i7 (Cj nl) mo mr)):=
 PE.imp (PE.frz (Bt aa2 PySem.F.slot_str_split PySem.F.type_str_split Lc ho ha hbase hfew hline hs hplain)) fun σ H Q ⟨α,env,h,s,w⟩=>tM.use s w.bind fun d1 h1 v1 H1 α1 e1 s1 r1 w1=>by
  obtain⟨hl,w1⟩:=WQ.dj w1
  refine⟨nV r1 hl,tMA.use s1 (w1.ext e1).bind fun d2 h2 v2 H2 α2 e2 s2 r2 w2=>?_⟩
  have w2:=(w2.ext e2).mono fun _ _ _ p=>aJ.ext (e1.trans e2) p
  unfold Cj at w2
  split at w2
  ·obtain⟨hb,w2⟩:=WQ.dj w2
   cases r1
   cases r2 with
   | cons rd rr=>
    cases rr
    cases rd
    exact⟨_,_,rfl,rfl,hb.1,hb.2,fun l hl=>NL.post w2 s2.heap (mB _) hl⟩
  ·exact w2.elim
end
section
variable {X:Cx}{g:GG}{ε:EE}{K:gV}
abbrev Rh:D->D->Hh->R D:=fun a b h=>match a,b with
 | .str z,.int i=>if z.length<=1000000 then (match atI z.cps.toList i with
  | some c=>.ok (.str ⟨#[c]⟩) h
  | none=>.bad) else .bad
 | _,_=>.bad
def QK:fB K g ε Rh (rIx K):=by
 intro α H h a b x y Q r ra rb w
 unfold Rh at w
 split at w
 ·obtain⟨hl,w⟩:=WQ.dj w
  split at w
  ·rename_i c e
   cases ra
   cases rb
   exact .inr (.inr ⟨_,_,c,rfl,rfl,by rw[YI];omega,e,aJ.now w r (.str _)⟩)
  ·exact w.elim
 ·exact w.elim
abbrev Jt:List D->Hh->R D:=fun ds h=>match ds with
 | [.str z]=>if z.length<=640 then (match acy z with
  | some n=>.ok (.int n) h
  | none=>.bad) else .bad
 | _=>.bad
def GC:bU X (.type "int") (fun vs H Q=>∃z n,vs=[.str z]/\z.length<=640/\acy z=ξ n/\Q (.int n) H):=by
 intro pins s σ H xs us Q I r h
 obtain⟨z,n,rfl,hz,hn,q⟩:=h
 obtain⟨u,rfl,t,rfl⟩:=vals1 r
 exact PySem.W.KIN.call_text hn hz ⟨.int n,H,I.tok _,⟨_,rfl⟩,q⟩
def Nv:nN K g ε Jt (fun vs H Q=>∃z n,vs=[.str z]/\z.length<=640/\acy z=ξ n/\Q (.int n) H):=by
 intro α H h a x Q r ra w
 unfold Jt at w
 split at w
 ·obtain⟨hl,w⟩:=WQ.dj w
  split at w
  ·rename_i n e
   cases ra with
   | cons rd rr=>
    cases rr
    cases rd
    exact⟨_,n,rfl,hl,e,aJ.now w r (.int _)⟩
  ·exact w.elim
 ·exact w.elim
end
abbrev gi (c:Str) (h:Hh):D->Option (Nat × List (Str × D))
 | .ref n=>match h[n]? with
  | some (.ins c' fs)=>if c'=c then ξ (n,fs) else ζ
  | _=>ζ
 | _=>ζ
@[inline]abbrev PF (K:gV) (g:GG) (α:List XW) (H:Hp):List (Str × D)->List (Str × V)->Prop:=Paired fun a b=>a.1=b.1/\aL K g α H a.2 b.2
section
variable {K:gV}{g:GG}{α:List XW}{H:Hp}{h:Hh}{fs:List (Str × D)}{kws:List (Str × V)}{f c:Str}{C:XW}
def PF.len (r:PF K g α H fs kws):fs.length=kws.length:=by
 induction r with
 | nil=>rfl
 | cons _ _ ih=>simp[ih]
def PF.some (r:PF K g α H fs kws) (e:fs.lookup f=ξ d):∃v,kws.lookup f=ξ v/\aL K g α H d v:=by
 induction r with
 | nil=>cases e
 | @cons a b _ _ q _ ih=>
  obtain⟨x,d'⟩:=a
  obtain⟨y,v⟩:=b
  obtain⟨rfl,q⟩:=q
  simp only[ab2] at e ⊢
  cases z:f == x with
  | true=>rw[z] at e;cases e;exact⟨_,rfl,q⟩
  | false=>rw[z] at e;exact ih e
def PF.none (r:PF K g α H fs kws) (e:fs.lookup f=ζ):kws.lookup f=none:=by
 induction r with
 | nil=>rfl
 | @cons a b _ _ q _ ih=>
  obtain⟨x,d'⟩:=a
  obtain⟨y,v⟩:=b
  obtain⟨rfl,q⟩:=q
  simp only[ab2] at e ⊢
  cases z:f == x with
  | true=>rw[z] at e;cases e
  | false=>rw[z] at e;exact ih e
abbrev yd (f:Str) (d:D):List (Str × D)->List (Str × D)
 | []=>[(f,d)]
 | (x,y)::r=>if x=f then (x,d)::r else (x,y)::yd f d r
def PF.put {α':List XW}{H':Hp} (e:Ext K α H α' H') (r:PF K g α H fs kws) (q:aL K g α H d v):PF K g α' H' (yd f d fs) (j3 f v kws):=by
 induction r with
 | nil=>exact .cons ⟨rfl,q.ext e⟩ .nil
 | @cons a b _ _ z t ih=>
  obtain⟨x,d'⟩:=a
  obtain⟨y,v'⟩:=b
  obtain⟨rfl,z⟩:=z
  unfold yd j3
  by_cases y:x=f
  ·rw[if_pos y,if_pos y];exact .cons ⟨rfl,q.ext e⟩ (L2.Paired.vT t fun _ _ w=>⟨w.1,w.2.ext e⟩)
  ·rw[if_neg y,if_neg y];exact .cons ⟨rfl,z.ext e⟩ ih
def n4 {d:D}{v:V}{n:Nat} (r:bo K g α H h) (rd:aL K g α H d v) (e:gi c h d=ξ (n,fs)) (hc:g c=ξ C):∃p dx kws,d=.ref n/\v=.ref p/\α[n]?=ξ p/\H p=ξ (.ins C dx kws)/\PF K g α H fs kws:=by
 cases rd with
 | @ref n' p hp=>
  unfold gi at e
  dsimp only at e
  cases eo:h[n']? with
  | none=>rw[eo] at e;cases e
  | some o=>
   rw[eo] at e
   cases o with
   | ins c' fs'=>
    dsimp only at e
    by_cases q:c'=c
    ·rw[if_pos q] at e
     cases e
     obtain⟨C',dx,kws,hc',a,b⟩:=r.here n p (.ins c' fs) hp eo
     rw[q,hc] at hc'
     cases hc'
     exact⟨p,dx,kws,rfl,rfl,hp,a,b⟩
    ·rw[if_neg q] at e;cases e
   | _=>cases e
 | _=>cases e
end
abbrev lZ (c f:Str):D->Hh->R D:=fun o h=>match gi c h o with
 | some (_,fs)=>match fs.lookup f with
  | some d=>.ok d h
  | none=>.bad
 | none=>.bad
abbrev ko (c f:Str) (mo mv:ME):MS:=fun env h=>(mv env h).bind fun y h1=>(mo env h1).bind fun x h2=>match gi c h2 x with
 | some (n,fs)=>if fs.length<1000 then .ok (.nx env) (h2.set n (.ins c (yd f y fs))) else .bad
 | none=>.bad
abbrev js (c m:Str) (mf:MF) (mo:ME) (mr:MA):ME:=fun env h=>(mo env h).bind fun x h1=>match gi c h1 x with
 | some (_,fs)=>match fs.lookup m with
  | none=>(mr env h1).bind fun ds h2=>mf (x::ds) h2
  | some _=>.bad
 | none=>.bad
abbrev oR (c:Str) (mf:MF):ME:=fun _ h=>(mf [.ref h.length] (h++[.ins c []])).bind fun d h1=>match d with
 | .non=>.ok (.ref h.length) h1
 | _=>.bad
section
variable {X:Cx}{g:GG}{ε:EE}{E:XK}{o e value:YL}{c f m:Str}{C:XW}{pos pos' apos:Pos}{mo mv:ME}{mr:MA}{mf:MF}
def oA (hc:g c=ξ C) (cl:Cls X.K C) (na:ki X.K C f) (he:PE X e (tM X.K g ε mo)) (hb:attributeBase e f X.env (eval e X.env)=eval e X.env:=by rfl):PE X (.Attribute e f pos) (tM X.K g ε (cUn (lZ c f) mo)):=
 PE.imp (Q5 he hb) fun σ H Q ⟨α,env,h,s,w⟩=>⟨α,env,h,s,w.bind.mono fun d h1 eq w1 v H1 α1 e1 hr1 r1=>by
  unfold lZ at w1
  cases ei:gi c h1 d with
  | none=>rw[ei] at w1;exact w1.elim
  | some z=>
   obtain⟨n,fs⟩:=z
   rw[ei] at w1
   dsimp only at w1
   cases el:fs.lookup f with
   | none=>rw[el] at w1;exact w1.elim
   | some y=>
    rw[el] at w1
    obtain⟨p,dx,kws,rfl,rfl,hp,hH,r⟩:=n4 hr1 r1 ei hc
    obtain⟨u,l,ru⟩:=r.some el
    exact⟨p,C,dx,kws,u,rfl,hH,cl,na,l,w1 u H1 α1 e1 hr1 ru⟩⟩
def Eh (hc:g c=ξ C) (cl:Cls X.K C) (na:ki X.K C f) (ho:PE X o (tM X.K g ε mo)) (hv:PE X value (tM X.K g ε mv)) (hs:swapsWith value (ξ (.Attribute o f pos')) pos.line X.env=pure false:=by rfl) :
  PS X (.Assign [.Attribute o f pos'] value pos) (tMS X.K g ε (ko c f mo mv)):=
 PS.imp (Qh ho hv hs) fun D σ H ⟨α,env,h,s,w⟩=>tM.use s w.bind fun y h1 v H1 α1 e1 s1 ry w1=>by
  refine⟨α1,env,h1,s1,(w1.ext e1).bind.mono fun x h2 eq w2 u H2 α2 e2 hr2 rx=>?_⟩
  cases ei:gi c h2 x with
  | none=>rw[ei] at w2;exact w2.elim
  | some z=>
   obtain⟨n,fs⟩:=z
   rw[ei] at w2
   obtain⟨hl,w2⟩:=WQ.dj w2
   obtain⟨p,dx,kws,rfl,rfl,hp,hH,r⟩:=n4 hr2 rx ei hc
   have ex:=Ext.write (o:=.ins C dx (j3 f v kws)) hr2 hp
   refine⟨p,C,dx,kws,rfl,hH,cl,na,by rw[<- r.len];exact hl,?_⟩
   exact(show di X.K g α H D (.nx env) (h2.set n (.ins c (yd f y fs))) from w2) _ _ ((e1.trans e2).trans ex) (hr2.write (u':=.ins c (yd f y fs)) hp ⟨C,dx,_,hc,aR,r.put ex (ry.ext e2)⟩) σ ((s1.vs.ext e2).ext ex)
abbrev rA (P:X5) (w:Yw) (K:gV) (mg:Str->Option XI) (base:Y2) (g:GG) (C:XW) (m:Str) (k:Nat) (ps:List Str) (mf:MF):Prop:=
 ∃f fd,cJ P w K mg base CX0 k f fd ps (spM K g ps.length mf)/\Meth K C m f/\Binds K fd ps []
abbrev l9 (P:X5) (w:Yw) (K:gV) (mg:Str->Option XI) (base:Y2) (g:GG) (C:XW) (m:Str) (k:Nat) (ps:List Str) (mf:MF):Prop:=
 ∃f fd,cJ P w K mg base (CXE P w) k f fd ps (spE K g ps.length mf)/\Meth K C m f/\Binds K fd ps []
def HG {K:gV}{ε':XK->EE}{np:Nat}{σ:St}{H:Hp}{Q:VK} (hc:g c=ξ C) (t:tM K g (ε' E) (js c m mf mo mr) σ H Q) (hlen:∀env h ds h',mr env h=.ok ds h'->ds.length+1=np){ta:TA} (i:∀H Q,tMA K g (ε' E) mr σ H Q->ta σ H Q):JA C m (spG K g ε' np mf) [] E (tM K g (ε' E) mo) ta σ H Q:=by
 obtain⟨α,env,h,s,w⟩:=t
 refine tM.use s w.bind fun x h1 v H1 α1 e1 s1 rx w1=>?_
 cases ei:gi c h1 x with
 | none=>rw[ei] at w1;exact w1.elim
 | some z=>
  obtain⟨n,fs⟩:=z
  rw[ei] at w1
  dsimp only at w1
  cases el:fs.lookup m with
  | some y=>rw[el] at w1;exact w1.elim
  | none=>
   rw[el] at w1
   obtain⟨p,dx,kws,rfl,rfl,hp,hH,r⟩:=n4 s1.heap rx ei hc
   refine⟨p,dx,kws,rfl,hH,r.none el,i _ _ ⟨α1,env,h1,s1,(w1.ext e1).bind.mono fun ds h2 eq w2 vs H2 α2 e2 hr2 rds=>?_⟩⟩
   show spG K g ε' np mf (.ref p::(vs++[])) H2 Q E
   rw[YD]
   refine⟨?_,α2,.ref n::ds,h2,.cons (rx.ext e2) rds,hr2,(w2.ext e2).mono fun _ _ _ z=>aJ.ext (e1.trans e2) z⟩
   rw[YB,<- rds.length]
   exact hlen _ _ _ _ eq
def B7 {k:Nat}{ps:List Str}{es:List YL}{pl:Sem Bool} (fl:gM X E) (pn:Plain X) (hc:g c=ξ C) (cl:Cls X.K C) (M:l9 X.prog X.w X.K X.mg X.base g C m k ps mf) (hr:b8 k X.A) (ho:PE X o (tM X.K g (εX g E) mo)) (ha:PA X (e::es) (tMA X.K g (εX g E) mr)) (hlen:∀env h ds h',mr env h=.ok ds h'->ds.length+1=ps.length)
  (hst:starEach (e::es) X.env=(ψ,eval e X.env)::starEach es X.env:=by rfl) (hpl:(backTo pos (starEach es X.env)).any (·.1)=false:=by rfl)
  (ht:eval (.Call (.Attribute o m apos) (e::es) [] pos) X.env=(do
   let ov ← eval o X.env
   standAt apos.atName
   let (f,first) ← holding [ov] (getMethod ov m pl)
   callWith pos f first (backTo pos (starEach (e::es) X.env)) (backToKw pos (keywordEach [] X.env))):=by rfl) :
  PE X (.Call (.Attribute o m apos) (e::es) [] pos) (tM X.K g (εX g E) (js c m mf mo mr)):=
 let ⟨_,_,F,hm,hb⟩:=M
 PE.imp (NN ho cl hm F hr hb .nil (kq pn fl) ha hst hpl ht) fun _ _ _ t=>HG (ε':=εX g) hc t hlen fun _ _ z=>z
def Gz {k:Nat}{ps:List Str}{pl:Sem Bool} (fl:gM X E) (pn:Plain X) (hc:g c=ξ C) (cl:Cls X.K C) (M:l9 X.prog X.w X.K X.mg X.base g C m k ps mf) (hr:b8 k X.A) (ho:PE X o (tM X.K g (εX g E) mo)) (hlen:ps.length=1:=by rfl)
  (ht:eval (.Call (.Attribute o m apos) [] [] pos) X.env=(do
   let ov ← eval o X.env
   standAt apos.atName
   let (f,first) ← holding [ov] (getMethod ov m pl)
   callWith pos f first (backTo pos (starEach [] X.env)) (backToKw pos (keywordEach [] X.env))):=by rfl) :
  PE X (.Call (.Attribute o m apos) [] [] pos) (tM X.K g (εX g E) (js c m mf mo ah)):=
 let ⟨_,_,F,hm,hb⟩:=M
 PE.imp (Lh ho cl hm F hr hb .nil (kq pn fl) ht) fun _ _ _ t=>HG (ε':=εX g) hc t (fun _ _ _ _ z=>by cases z;rw[hlen];rfl) fun _ _ ⟨_,_,_,s,w⟩=>w [] _ _ .refl s.heap .nil
def HI {x:Str}{p pos:Pos}{k:Nat}{f:XW}{fd:Zy} (hc:g c=ξ C) (M:Mk X.K C f) (F:cJ X.prog X.w X.K X.mg X.base CX0 k f fd ["self"] (spM X.K g 1 mf)) (hr:b8 (k+1) X.A) (hg:Gl X x) (hm:X.mg x=ξ (.ref C)) (hb:Binds X.K fd ["self"] []) (hdb:(x == ("__debug__" : Str))=false:=by decide) :
  PE X (.Call (.Name x p) [] [] pos) (tM X.K g E00 (oR c mf)):=
 PE.imp (K0 M F hr hg hm hb .nil Oz hdb) fun σ H Q ⟨α,env,h,s,w⟩=>by
  intro x dx hx hdx hne
  have ex:Ext X.K α H (α++[x]) (upd (upd H dx (.own x)) x (.ins C dx [])):=(Ext.fresh hdx).trans (Ext.push (by rw[aD (aac hne)];exact hx))
  have hr2:bo X.K g (α++[x]) (upd (upd H dx (.own x)) x (.ins C dx [])) (h++[.ins c []]):=(s.heap.grow hdx).push (by rw[aD (aac hne)];exact hx) ⟨C,dx,[],hc,aR,.nil⟩
  refine⟨rfl,α++[x],[.ref h.length],h++[.ins c []],.cons (.ref (by rw[<- s.heap.len];simp)) .nil,hr2,(w.ext ex).bind.mono fun d h1 eq w1 v H1 α1 e1 hr1 rd=>?_⟩
  cases rd with
  | non=>exact⟨rfl,(show aJ X.K g α H Q _ _ from w1) _ _ _ (ex.trans e1) hr1 (.ref (e1.toEx0.get (by rw[<- s.heap.len];simp)))⟩
  | _=>exact w1.elim
end
end L2.FE
namespace L2.FE
open PySem PySem.Spec PyProof.Rows PyProof.Rows.KTD
section
variable {prog:X5}{w:Yw}{A:YK}{E:XI->XO->Prop}{s:XO}{a:XW}{δ:Type}{T:List (Str × δ)}{R:δ->XI->Prop}{k:Str}{tk:Tok}
def nK (t:TabOf R s.heap a T):s.TypeIs (.ref a) "dict" := let ⟨_,o,_,_,ho,hc,_⟩:=t;⟨o,ho,hc.1⟩
def Cu {Q:Option XI->XO->Prop} (t:TabOf R s.heap a T) (h1:∀d v,datumAt k T=ξ d->R d v->Q (ξ v) { s with toks:=s.toks+1 }) (h2:datumAt k T=ζ->Q ζ { s with toks:=s.toks+1 }) :
  wpAny (model prog w) A (dictGet a (.str k tk)) Q E s:=by
 obtain⟨_,o,es,ep,ho,hc,hd,hr⟩:=t
 unfold dictGet
 try with_reducible refine YA ?_
 refine td (wpAny_pyHash_str (td (kt_dictFind_strs (s:={ s with toks:=s.toks+1 }) ho hd (by obtain⟨l⟩:=es;simpa using hr.exact) ?_)))
 have hq:Q (findBy (fun k v=>v.isStr k) es k) { s with toks:=s.toks+1 }:=by
  have hf:findBy (fun k v=>v.isStr k) es k=(es.toList.find? fun e=>e.key.isStr k).map (·.val):=by
   obtain⟨l⟩:=es
   simp[findBy]
  rw[hf]
  cases hat:datumAt k T with
  | some d=>obtain⟨v,hv,hfl⟩:=hr.find_some hat;rw[hv];exact h1 d v hat hfl
  | none=>rw[hr.find_none hat];exact h2 hat
 rw[findBy_of_findIdx?] at hq
 cases hi:es.findIdx? fun e=>e.key.isStr k with
 | none=>rw[hi] at hq;exact XG hq
 | some i=>rw[hi] at hq;exact td (wpAny_dictEntries (s:={ s with toks:=s.toks+1 }) ho hd (XG hq))
def Mx {Q:XI->XO->Prop}{d:δ} (t:TabOf R s.heap a T) (e:datumAt k T=ξ d) (h:∀v,R d v->Q v { s with toks:=s.toks+1 }):wpAny (model prog w) A (getItem (.ref a) (.str k tk)) Q E s:=by
 unfold getItem
 try with_reducible refine YA ?_
 refine td (aa7 (nK t) (by decide) ?_)
 refine td (Y9 (name:=acb "__getitem__") (nK t) slot_dict_getitem
  (ZO slot_dict_getitem (nK t) entry_dict_getitem ?_ (args_dict_getitem _ _)))
 show wpAny _ _ (dictGet a (.str k tk) >>= _) _ _ s
 exact td (Cu t (fun d' v ha hv=>by rw[e] at ha;cases ha;exact XG ⟨v,rfl,XG (h v hv)⟩) fun hn=>by rw[e] at hn;cases hn)
def SI {Q:XI->XO->Prop} (t:TabOf R s.heap a T) (h:Q (.bool (datumAt k T).isSome) { s with toks:=s.toks+1 }):wpAny (model prog w) A (compareOp .In (.str k tk) (.ref a)) Q E s:=by
 show wpAny _ _ (do return .bool (← contains (.ref a) (.str k tk))) Q E s
 refine td ?_
 unfold contains
 try with_reducible refine YA ?_
 refine td (wpAny_specialOf (nK t) abI.lookup ?_)
 show wpAny _ _ (if (ξ (acP "dict.__contains__") == ξ ZN)=θ then _ else _) _ E s
 rw[if_neg (by rw[beq_builtin_none];exact Yc)]
 refine td (wpAny_callSpecialUnlessNone?_slot (name:=acb "__contains__") (nK t) abI
  (ZO abI (nK t) entry_dict_contains ?_ (args_dict_contains _ _)))
 show wpAny _ _ (dictGet a (.str k tk) >>= _) _ _ s
 refine td (Cu t (fun d v ha _=>?_) fun hn=>?_)
 ·rw[ha] at h
  show wpAny _ _ (ret (.bool θ)) _ _ _
  exact XG ⟨_,rfl,YR (XG h)⟩
 ·rw[hn] at h
  show wpAny _ _ (ZJ.Dict.pendingKey? a (.str k tk) >>= _) _ _ _
  exact td (wpAny_pendingKey_other t.1 (XG ⟨_,rfl,YR (XG h)⟩))
def gt_meets {dflt:XI}:MeetsIn prog w (ZJ.«dict.get» ⟨[.ref a,.str k tk,dflt],[]⟩) (fun _ Q s=>TabOf R s.heap a T/\(∀d v,datumAt k T=ξ d->R d v->Q (.ok (.ret v)) { s with toks:=s.toks+1 })/\(datumAt k T=ζ->Q (.ok (.ret dflt)) { s with toks:=s.toks+1 })):=
 .of_wp fun A Q s ⟨t,h1,h2⟩=>by
  show wpAny _ _ (dictGet a (.str k tk) >>= _) _ _ s
  refine td (Cu t (fun d v ha hv=>XG ⟨v,rfl,h1 d v ha hv⟩) fun hn=>?_)
  show wpAny _ _ (ZJ.Dict.missed a (.str k tk) >>= _) _ _ _
  exact td (wpAny_missed_other t.1 (XG ⟨dflt,rfl,h2 hn⟩))
def LV {dflt:XI}{Q:XI->XO->Prop} (t:TabOf R s.heap a T) (h1:∀d v,datumAt k T=ξ d->R d v->Q v { s with toks:=s.toks+1 }) (h2:datumAt k T=ζ->Q dflt { s with toks:=s.toks+1 }) :
  wpAny (model prog w) A (call (.builtin "dict.get") [.ref a,.str k tk,dflt]) Q E s:=
 call_meetsIn PySem.F.slot_dict_get (nK t) PySem.F.entry_dict_get (PySem.F.args_dict_get_3 _ _ _) (gt_meets (T:=T) (R:=R)) ⟨t,h1,h2⟩
end
abbrev RV (g:GG):D->XI->Prop
 | .fn f,v=>∃p,g f=ξ p/\v=.ref p
 | .int i,v=>∃t,v=.int i t
 | _,_=>False
def RV.rel {K:gV}{g:GG}{α:List XW}{H:Hp}{d:D}{v:XI} (r:RV g d v):∃y,aL K g α H d y/\RelV y v:=by
 cases d with
 | fn f=>obtain⟨p,e,rfl⟩:=r;exact⟨_,.fn e,rfl⟩
 | int i=>obtain⟨t,rfl⟩:=r;exact⟨_,.int i,t,rfl⟩
 | _=>exact r.elim
structure j6 (K:gV) (g:GG) (x:Str) (T:List (Str × D)):Prop where
 ex:∃a,g x=some a/\(a == sysModules)=false/\∃o es ep,K.lookup a=some o/\o.ExactDict/\o.data=.dict es ep/\Rows (RV g) es.toList T
def j6.at {K:gV}{g:GG}{x:Str}{T:List (Str × D)}{h:Y2}{a:XW} (G:j6 K g x T) (X:K.In h) (e:g x=ξ a):TabOf (RV g) h a T:=by
 obtain⟨a',e',n,o,es,ep,l,c,d,r⟩:=G
 rw[e] at e'
 cases e'
 exact⟨n,o,es,ep,X _ _ l,c,d,r⟩
abbrev om (n:Str) (T:List (Str × D)):D->D->Hh->R D
 | .str k,.fn n',h=>if n'=n then .ok (.bl (datumAt k T).isSome) h else .bad
 | _,_,_=>.bad
abbrev vm (T:List (Str × D)):D->Hh->R D
 | .str k,h=>match datumAt k T with
  | some d=>.ok d h
  | none=>.bad
 | _,_=>.bad
abbrev JQ (T:List (Str × D)) (mk md:ME):ME:=fun env h=>(mk env h).bind fun x h1=>match x with
 | .str k=>(md env h1).bind fun y h2=>.ok ((datumAt k T).getD y) h2
 | _=>.bad
abbrev Th (K:gV) (g:GG) (n:Str) (T:List (Str × D)):R2:=fun x y H Q=>j6 K g n T/\∃k a,x=.str k/\y=.ref a/\g n=ξ a/\Q (.bl (datumAt k T).isSome) H
section
variable {X:Cx}{g:GG}{ε:EE}{n:Str}{T:List (Str × D)}{e i f:YL}{pos np apos:Pos}{mi mk md:ME}
def uA:OpR X (compareOp .In) (Th X.K g n T):=by
 rintro pins s σ H x y v u Q I rx ry ⟨G,k,a,rfl,rfl,ga,q⟩
 obtain⟨t,rfl⟩:=(show ∃t,v=abd k t from rx)
 obtain rfl:u=Yj a:=ry
 exact SI (G.at I.kIn ga) ⟨.bl (datumAt k T).isSome,H,I.tok _,rfl,q⟩
def t7 {K:gV} (G:j6 K g n T):fB K g ε (om n T) (Th K g n T):=by
 intro α H h a b x y Q r ra rb w
 cases ra with
 | str k=>
  cases rb with
  | @fn n' p hp=>
   unfold om at w
   dsimp only at w
   by_cases e:n'=n
   ·rw[if_pos e] at w
    subst e
    exact⟨G,k,p,rfl,rfl,hp,(show aJ K g α H Q (.bl (datumAt k T).isSome) h from w).now r (.bl _)⟩
   ·rw[if_neg e] at w;exact w.elim
  | _=>exact w.elim
 | _=>exact w.elim
def Cw (G:j6 X.K g n T) (hg:Gl X n) (hm:∃a,X.mg n=ξ (.ref a)/\g n=ξ a) (hi:PE X i (tM X.K g ε mi)) (hs:Ug i) (hd:(n == ("__debug__" : Str))=false:=by decide):PE X (.Subscript (.Name n np) i pos) (tM X.K g ε (cUn (vm T) mi)):=by
 intro pins s σ H Q I ⟨α,env,h,sr,w⟩
 obtain⟨a,hm,ga⟩:=hm
 refine Nj PySem.F.slot_dict_getitem.lookup hs (thn (nF (v:=.ref a) hg hm rfl hd pins s σ H (fun x H1=>x=.ref a/\H=H1) I ⟨rfl,rfl⟩) fun u s1 ⟨x,H1,I1,rx,ex,eH⟩=>?_)
 subst ex eH
 obtain rfl:u=Yj a:=rx
 refine thn (hi pins s1 σ H (fun y H2=>∃k d,y=.str k/\datumAt k T=ξ d/\∀v,RV g d v->∃y',RelV y' v/\Q y' H2) I1 (tM.use sr w.bind fun d h1 v H1 α1 e1 s1 r1 w1=>?_)) fun iv s2 ⟨y,H2,I2,ry,k,d,ey,el,q2⟩=>?_
 ·cases r1 with
  | str k=>
   unfold vm at w1
   dsimp only at w1
   cases el:datumAt k T with
   | none=>rw[el] at w1;exact w1.elim
   | some d=>
    rw[el] at w1
    refine⟨k,d,rfl,el,fun v rv=>?_⟩
    obtain⟨y,ry,rv'⟩:=rv.rel (K:=X.K) (α:=α1) (H:=H1)
    exact⟨y,rv',(show aJ X.K g α H Q d h1 from w1) y H1 α1 e1 s1.heap ry⟩
  | _=>exact w1.elim
 ·subst ey
  obtain⟨t,rfl⟩:=(show ∃t,iv=abd k t from ry)
  have tb:=G.at I2.kIn ga
  exact⟨nK tb,Mx tb el fun v rv=>let ⟨y,r,q⟩:=q2 v rv;⟨y,H2,I2.tok _,r,q⟩⟩
def IM (G:j6 X.K g n T) (hg:Gl X n) (hm:∃a,X.mg n=ξ (.ref a)/\g n=ξ a) (he:PE X e (tM X.K g ε mk)) (hf:PE X f (tM X.K g ε md)) (m:M2 X (.Name n np) "get" apos e f pos) (hd:(n == ("__debug__" : Str))=false:=by decide):PE X (.Call (.Attribute (.Name n np) "get" apos) [e,f] [] pos) (tM X.K g ε (JQ T mk md)):=by
 intro pins s σ H Q I ⟨α,env,h,sr,w⟩
 obtain⟨a,hm,ga⟩:=hm
 refine wpAny_Call_method m.base m.few m.line PySem.F.plainAttrs_dict PySem.F.slot_dict_get PySem.F.type_dict_get (thn (nF (v:=.ref a) hg hm rfl hd pins s σ H (fun x H1=>x=.ref a/\H=H1) I ⟨rfl,rfl⟩) fun u s1 ⟨x,H1,I1,rx,ex,eH⟩=>?_)
 subst ex eH
 obtain rfl:u=Yj a:=rx
 have tb1:=G.at I1.kIn ga
 refine⟨nK tb1,fun b e=>by injection e with e;subst e;exact let ⟨_,o,_,_,ho,hc,_⟩:=tb1;⟨o,ho,hc.2.1⟩,?_⟩
 rw[m.trees]
 refine aa0 rfl (Calls.evalArgs_plain (aae (thn (he pins s1 σ H (fun y H2=>∃k,y=.str k/\tM X.K g ε md σ H2 fun z H3=>∀v,RelV z v->(datumAt k T=ζ->∃z',RelV z' v/\Q z' H3)/\∀d v,datumAt k T=ξ d->RV g d v->∃z',RelV z' v/\Q z' H3) I1 (tM.use sr w.bind fun d h1 v H1 α1 e1 s1 r1 w1=>?_)) fun iv s2 ⟨y,H2,I2,ry,k,ey,q2⟩=>
  aae (thn (hf pins s2 σ H2 _ I2 q2) fun fv s3 ⟨z,H3,I3,rz,q3⟩=>abR ?_))))
 ·cases r1 with
  | str k=>
   replace w1:=WQ.bind w1
   refine⟨k,rfl,tM.use s1 (w1.ext e1) fun z h2 v2 H2 α2 e2 s2 r2 w2=>fun v rv=>?_⟩
   have w2:=(show aJ X.K g α H Q ((datumAt k T).getD z) h2 from w2)
   refine⟨fun en=>?_,fun d v ed rv=>?_⟩
   ·rw[en] at w2
    exact⟨v2,rv,w2 v2 H2 α2 (e1.trans e2) s2.heap r2⟩
   ·rw[ed] at w2
    obtain⟨y,ry,rv'⟩:=rv.rel (K:=X.K) (α:=α2) (H:=H2)
    exact⟨y,rv',w2 y H2 α2 (e1.trans e2) s2.heap ry⟩
  | _=>exact w1.elim
 ·subst ey
  obtain⟨t,rfl⟩:=(show ∃t,iv=abd k t from ry)
  exact LV (G.at I3.kIn ga) (fun d v ed rv=>let ⟨y,r,q⟩:=(q3 fv rz).2 d v ed rv;⟨y,H3,I3.tok _,r,q⟩) fun en=>let ⟨y,r,q⟩:=(q3 fv rz).1 en;⟨y,H3,I3.tok _,r,q⟩
end
structure qp (K:gV) (mg:Str->Option XI) (c:Str) (C:XW) (fs:List Str):Prop where
 at_:mg c=some (.ref C)
 cl:Cls K C
 na:∀f∈fs,ki K C f
 makes:abt K C=true
 kp:X6 K (.ref C)=true
def qp.g {K:gV}{mg:Str->Option XI}{g:GG}{c:Str}{C:XW}{fs:List Str} (k:qp K mg c C fs) (hgo:g=gOf mg):g c=ξ C:=by rw[hgo];unfold gOf;rw[k.at_]
abbrev K7 (K:gV) (C:XW) (fs:List Str):Bool:=aaA K C Str.empty&&aa6 K C&&abP K C&&YO K (.ref C) "__setattr__" == ξ (ξ (.builtin "object.__setattr__"))&&abt K C&&X6 K (.ref C)&&fs.all fun f=>YO K (.ref C) f == ξ ζ
def qp.of {K:gV}{h:Y2}{mg:Str->Option XI}{c:Str}{C:XW}{fs:List Str} (X:K.In h) (G:h.Ns mainGlobals mg) (a:X7 K mainGlobals c=ξ (ξ (.ref C))/\K7 K C fs=θ):qp K mg c C fs:=by
 obtain⟨a,o⟩:=a
 unfold K7 at o
 simp only[XX,beq_iff_eq,X_] at o
 obtain⟨⟨⟨⟨⟨⟨o1,o2⟩,o3⟩,o4⟩,o5⟩,o6⟩,o7⟩:=o
 exact⟨Zq X G a,⟨o1,o2,o3,o4⟩,o7,o5,o6⟩
abbrev kD:aaN->Nat->aaN
 | .ClassDef _ _ _ b ..,j=>b.getD j (.Pass ⟨0,0,0,0⟩)
 | st,_=>st
abbrev MethAt (K:gV) (C:XW) (m qual:Str) (st:aaN):Prop:=∃f fd,Meth K C m f/\Fun K m qual st f fd
def qS {K:gV}{C f:XW}{m qual:Str}{st:aaN}{kV doc pm cdv ct:XI} (a:YO K (.ref C) m=ξ (ξ (.ref f))) (l:K.lookup f=ξ ⟨oc,od,.func (Yz m qual (dq st) (br st) (aj st) .none kV doc pm an cdv ct),osl⟩) (c:aaa K cdv qual=θ) (k:X6 K (.ref f)=θ) (i:acf K (.ref f)=θ):MethAt K C m qual st:=⟨f,_,⟨a,i,k⟩,xS l c k⟩
def rA.up {P:X5}{w:Yw}{K:gV}{mg:Str->Option XI}{base:Y2}{g:GG}{C:XW}{m:Str}{k:Nat}{ps:List Str}{mf:MF} (h:rA P w K mg base g C m k ps mf):l9 P w K mg base g C m k ps fun ds h=>noR (mf ds h):=let ⟨f,fd,F,r⟩:=h;⟨f,fd,lB F,r⟩
def rA.mono {P:X5}{w:Yw}{K:gV}{mg:Str->Option XI}{base:Y2}{g:GG}{C:XW}{m:Str}{j k:Nat}{ps:List Str}{mf:MF} (h:rA P w K mg base g C m j ps mf) (hj:j<=k):rA P w K mg base g C m k ps mf:=let ⟨f,fd,F,r⟩:=h;⟨f,fd,F.mono hj,r⟩
def l9.mono {P:X5}{w:Yw}{K:gV}{mg:Str->Option XI}{base:Y2}{g:GG}{C:XW}{m:Str}{j k:Nat}{ps:List Str}{mf:MF} (h:l9 P w K mg base g C m j ps mf) (hj:j<=k):l9 P w K mg base g C m k ps mf:=let ⟨f,fd,F,r⟩:=h;⟨f,fd,F.mono hj,r⟩
def IC {X:Cx}{g:GG}{c:Str}{C:XW}{mf:MF}{fs:List Str}{p pos:Pos}{k:Nat} (kl:qp X.K X.mg c C fs) (hgo:g=gOf X.mg) (M:rA X.prog X.w X.K X.mg X.base g C "__init__" k ["self"] mf) (hr:b8 (k+1) X.A) (hg:Gl X c) (hdb:(c == ("__debug__" : Str))=false:=by decide):PE X (.Call (.Name c p) [] [] pos) (tM X.K g E00 (oR c mf)):=
 let ⟨_,_,F,hm,hb⟩:=M
 HI (kl.g hgo) ⟨kl.makes,hm.at_,hm.fn,kl.kp⟩ F hr hg kl.at_ hb hdb
abbrev E4 (K:gV) (d:D) (v:XI):Bool:=match d with
 | .fn f=>(match v with | .ref p=>X7 K mainGlobals f == ξ (ξ (.ref p)) | _=>ψ)
 | .int i=>(match v with | .int j _=>i == j | _=>ψ)
 | _=>ψ
def Kn {K:gV}{h:Y2}{mg:Str->Option XI} (X:K.In h) (G:h.Ns mainGlobals mg){d:D}{v:XI} (q:E4 K d v=θ):RV (gOf mg) d v:=by
 cases d with
 | fn f=>
  cases v with
  | ref p=>exact⟨p,by unfold gOf;rw[Zq X G (by simpa [E4] using q)],rfl⟩
  | _=>cases q
 | int i=>
  cases v with
  | int j t=>
   obtain rfl:i=j:=by simpa [E4] using q
   exact⟨t,rfl⟩
  | _=>cases q
 | _=>cases q
abbrev Fg (K:gV):List adm->List (Str × D)->Bool
 | [],[]=>θ
 | e::es,(k,d)::T=>(match e.key with | .str x _=>x == k | _=>ψ)&&E4 K d e.val&&Fg K es T
 | _,_=>ψ
abbrev F9 (K:gV) (a:XW) (T:List (Str × D)):Bool:=!(a == sysModules)&&match K.lookup a with
 | some o=>o.cls == .type "dict" && o.dict.isNone&&o.slots.isEmpty&&(match o.data with | .dict es _=>Fg K es.toList T | _=>ψ)
 | none=>ψ
def Ja {K:gV}{h:Y2}{mg:Str->Option XI} (X:K.In h) (G:h.Ns mainGlobals mg):∀{es:List adm}{T:List (Str × D)},Fg K es T=θ->Rows (RV (gOf mg)) es T:=by
 intro es
 induction es with
 | nil=>intro T q;cases T with
  | nil=>exact .nil
  | cons=>cases q
 | cons e es ih=>
  intro T q
  cases T with
  | nil=>cases q
  | cons z T=>
   obtain⟨k,d⟩:=z
   simp only[Fg,XX] at q
   obtain⟨⟨q1,q2⟩,q3⟩:=q
   cases ek:e.key with
   | str x t=>
    rw[ek] at q1
    obtain rfl:x=k:=by simpa using q1
    exact .cons ek (Kn X G q2) (ih q3)
   | _=>rw[ek] at q1;cases q1
def j6.of {K:gV}{h:Y2}{mg:Str->Option XI}{x:Str}{a:XW}{T:List (Str × D)} (X:K.In h) (G:h.Ns mainGlobals mg) (q:X7 K mainGlobals x=ξ (ξ (.ref a))/\F9 K a T=θ):j6 K (gOf mg) x T/\∃a,mg x=ξ (.ref a)/\gOf mg x=ξ a:=by
 obtain⟨e,q⟩:=q
 have hm:=Zq X G e
 have hg:gOf mg x=ξ a:=by unfold gOf;rw[hm]
 unfold F9 at q
 cases lk:K.lookup a with
 | none=>simp[lk] at q
 | some o=>
  simp only[lk,XX,abV] at q
  obtain⟨q0,⟨⟨q1,q2⟩,q3⟩,q4⟩:=q
  cases hd:o.data with
  | dict es ep=>
   rw[hd] at q4
   exact⟨⟨a,hg,q0,o,es,ep,lk,⟨by simpa using q1,by simpa using q2,by simpa using q3⟩,hd,Ja X G q4⟩,a,hm,hg⟩
  | _=>rw[hd] at q4;cases q4
section
variable {X:Cx}{g:GG}{ε:EE}{x k:Str}{t:Tok}{a b:YL}{rest:List YL}{pos apos cpos:Pos}{ma mb mo:ME}{o:YL}
def AA (hg:Gl X x) (hm:X.mg x=ξ (.str k t)) (hd:(x == ("__debug__" : Str))=false:=by decide):PE X (.Name x pos) (tM X.K g ε (cC (.str k))):=
 PE.imp (nF (v:=.str k) hg hm ⟨t,rfl⟩ hd) fun σ H Q ⟨α,env,h,s,w⟩=>(show aJ X.K g α H Q (.str k) h from w).now s.heap (.str k)
abbrev Kk:D->List D->Hh->R D:=fun o ds h=>match o,ds with
 | .ref n,[]=>match aE h n with
  | some xs=>match xs[xs.length - 1]? with
   | some d=>.ok d (h.set n (.lst xs.dropLast))
   | none=>.bad
  | none=>.bad
 | _,_=>.bad
def H_ {K:gV}{α:List XW}{H:Hp}{ds:List D}{vs:List V}{i:Nat}{d:D} (r:ay K g α H ds vs) (e:ds[i]?=ξ d):∃v,vs[i]?=ξ v/\aL K g α H d v:=ay.get r e
def G3 {K:gV}{α:List XW}{H:Hp}:∀{ds:List D}{vs:List V},ay K g α H ds vs->ay K g α H ds.dropLast vs.dropLast:=by
 intro ds
 induction ds with
 | nil=>intro vs r;cases r;exact .nil
 | cons d ds ih=>
  intro vs r
  cases r with | cons a t=>
  cases t with
  | nil=>exact .nil
  | cons b t=>exact .cons a (ih (.cons b t))
def Mg {K:gV}:mH K g ε Kk RW:=by
 intro α H h o a y x Q r ro ra w
 unfold Kk at w
 cases ro with
 | @ref n p hp=>
  cases ra with
  | cons=>exact w.elim
  | nil=>
   dsimp only at w
   cases e:aE h n with
   | none=>rw[e] at w;exact w.elim
   | some xs=>
    rw[e] at w
    dsimp only at w
    cases el:xs[xs.length - 1]? with
    | none=>rw[el] at w;exact w.elim
    | some d=>
     rw[el] at w
     obtain⟨vs,hv,rs⟩:=r.lst e hp
     obtain⟨v,ev,rv⟩:=H_ rs el
     rw[rs.length] at ev
     have ex:=Ext.write (o:=.lst vs.dropLast) r hp
     exact⟨p,vs,v,rfl,rfl,hv,ev,(show aJ K g α H Q d (h.set n (.lst xs.dropLast)) from w) v _ α ex (r.write hp ⟨_,aR,(G3 rs).ext ex⟩) (rv.ext ex)⟩
 | _=>cases ra<;>exact w.elim
def NJ {name:Str}{id:String}{r:V->List V->Hp->VK->Prop}{f:D->List D->Hh->R D} (slot:Slot "list" name id) (hty:typeOf (.builtin id)=pure (.type "method_descriptor")) (hm:MtM X id r) (im:mH X.K g ε f r) (ho:PE X o (tM X.K g ε mo))
  (hbase:attributeBase o name X.env (eval o X.env)=eval o X.env:=by rfl) (hline:(apos.endLine == cpos.line)=true:=by rfl) :
  PE X (.Call (.Attribute o name apos) [] [] cpos) (tM X.K g ε (cG f mo ah)):=
 PE.imp (Jg PySem.F.plainAttrs_list slot hty hm ho hbase hline) fun σ H Q ⟨α,env,h,s,w⟩=>tM.use s w.bind fun d1 h1 v1 H1 α1 e1 s1 r1 w1=>by
  obtain⟨hl,w1⟩:=WQ.dj w1
  exact⟨Fm s1.heap r1 hl,im α1 H1 h1 d1 [] v1 [] Q s1.heap r1 .nil ((w1.ext e1).mono fun _ _ _ p=>aJ.ext e1 p)⟩
abbrev QL (a b:ME):ME:=fun env h=>(a env h).bind fun x h1=>match x with
 | .str z=>if z.length<=1000000 then if z.length=0 then b env h1 else .ok (.str z) h1 else .bad
 | _=>.bad
def PL (ha:PE X a (tM X.K g ε ma)) (hb:PE X (.BoolOp .Or [b] pos) (tM X.K g ε mb)):PE X (.BoolOp .Or [a,b] pos) (tM X.K g ε (QL ma mb)):=by
 intro pins s σ H Q I ⟨α,env,h,sr,w⟩
 refine BoolOp_or (thn (ha pins s σ H (fun x H1=>∃z:Str,x=.str z/\z.length<=1000000/\if z.length=0 then tM X.K g ε mb σ H1 Q else Q (.str z) H1) I (tM.use sr w.bind fun d1 h1 v1 H1 α1 e1 s1 r1 w1=>?_)) fun v s1 ⟨x,H1,I1,r1,z,ex,hz,q1⟩=>?_)
 ·cases r1 with
  | str z=>
   obtain⟨hz,w1⟩:=WQ.dj w1
   refine⟨z,rfl,hz,?_⟩
   by_cases e:z.length=0
   ·rw[if_pos e] at w1 ⊢
    exact⟨α1,env,h1,s1,(w1.ext e1).mono fun _ _ _ p=>aJ.ext e1 p⟩
   ·rw[if_neg e] at w1 ⊢
    exact(show aJ X.K g α H Q (.str z) h1 from w1) _ H1 α1 e1 s1.heap (.str z)
  | _=>exact w1.elim
 ·subst ex
  obtain⟨t,rfl⟩:=(show ∃t,v=abd z t from r1)
  refine PySem.P.truthy_str {} ?_
  by_cases e:z.length=0
  ·rw[if_pos e] at q1
   rw[show((z.length:Int) != 0)=ψ by simp[e]]
   exact hb pins _ σ H1 Q (I1.tok _) q1
  ·rw[if_neg e] at q1
   rw[show((z.length:Int) != 0)=θ by simpa using e]
   exact⟨.str z,H1,I1.tok _,⟨t,rfl⟩,q1⟩
end
end L2.FE
namespace L2.FE
def ln1 {mr:MA}{n:Nat} (q:∀env h ds h',mr env h=.ok ds h'->ds.length=n):∀env h ds h',mr env h=.ok ds h'->ds.length+1=n+1:=fun env h ds h' e=>by rw[q env h ds h' e]
end L2.FE
namespace L2.FE
open PySem PySem.Spec PyProof.Rows
def MC {β:Type}{K:gV}{g:GG}{ε ε':EE}{α:List XW}{H:Hp}{r:R β}{k:β->Hh->Prop} (w:WQ K g ε α H (noR r) k):WQ K g ε' α H r k:=by
 cases r with
 | ok b h=>exact w
 | err x h=>exact w.elim
 | bad=>exact w.elim
def dm {P:X5}{w:Yw}{K:gV}{mg:Str->Option XI}{base:Y2}{g:GG}{f:XW}{fd:Zy}{k np:Nat}{ps:List Str}{m:MF} (F:cJ P w K mg base (CXE P w) k f fd ps (spE K g np m)):cJ P w K mg base CX0 k f fd ps (spM K g np fun ds h=>noR (m ds h)):=by
 have cv:∀{vs:List V} {H:Hp} {Q:VK} {E E':XK},spM K g np (fun ds h=>noR (m ds h)) vs H Q E->spE K g np m vs H Q E':=fun⟨hl,α,ds,h,rs,hh,w⟩=>⟨hl,α,ds,h,rs,hh,MC w⟩
 refine⟨fun vs H Q E h=>F.len vs H Q (fun _ _ _=>False) (cv (E:=E) h),fun A outer s H args us vs Q E hr e0 hb hv hsp=>Zc (F.run A outer s H args us vs Q (fun _ _ _=>False) hr e0 hb hv (cv (E:=E) hsp)) fun r s' q=>?_⟩
 cases r with
 | error e=>obtain⟨_,_,_,_,_,_,_,_,_,_,_,_,z⟩:=q;exact z.elim
 | ok fl=>cases fl<;>exact q
abbrev oO:List D->Hh->R D:=fun ds h=>match ds with
 | [.int i]=>if sml i=θ then .ok (.str (toString i)) h else .bad
 | [.str x]=>.ok (.str x) h
 | _=>.bad
abbrev KR:List V->Hp->VK->Prop:=fun vs H Q=>(∃i:Int,vs=[.int i]/\i.natAbs.log2<1920/\Q (.str (toString i)) H)\/∃x,vs=[.str x]/\Q (.str x) H
def CA {X:Cx}:bU X (.type "str") KR:=by
 intro pins s σ H xs us Q I r h
 rcases h with⟨i,rfl,hi,q⟩ | ⟨x,rfl,q⟩
 ·obtain⟨u,rfl,t,rfl⟩:=vals1 r
  exact PySem.P.str_of_int hi ⟨.str (toString i),H,I.tok _,⟨_,rfl⟩,q⟩
 ·obtain⟨u,rfl,t,rfl⟩:=vals1 r
  exact PySem.P.str_of_str ⟨.str x,H,I,⟨_,rfl⟩,q⟩
def HU {K:gV}{g:GG}{ε:EE}:nN K g ε oO KR:=by
 intro α H h a x Q r ra w
 cases ra with
 | nil=>exact w.elim
 | cons rd t=>
  cases t with
  | cons _ _=>cases rd<;>exact w.elim
  | nil=>
   cases rd with
   | int i=>
    have q:=d_ (K:=K) (g:=g) (ε:=ε) α H h [.int i] _ Q r (.cons (.int i) .nil) w
    exact .inl q
   | str x=>exact .inr ⟨x,rfl,(show aJ K g α H Q (.str x) h from w).now r (.str x)⟩
   | _=>exact w.elim
end L2.FE
namespace FC
open PySem L2 L2.FE
abbrev iJ:List (Str × D):=[("fresh", .int 1),("put", .int 1),("swap", .int 2)]
abbrev cQ:List (Str × D):=[("fresh", .fn "fresh_deed"),("put", .fn "put_deed"),("swap", .fn "swap_deed")]
abbrev cF:List (Str × D):=[("turn", .fn "turn_deed"),("contrary", .fn "contrary_deed"),("back", .fn "back_deed"),("lay", .fn "lay_deed"),("next", .fn "next_deed")]
abbrev bc:List (Str × D):=[("shown", .fn "shown_told"),("falls", .fn "falls_told"),("rises", .fn "rises_told"),("lifts", .fn "lifts_told"),("drops", .fn "drops_told"),("still", .fn "still_told"),("new", .fn "new_told"),("runs", .fn "runs_told"),("rounds", .fn "rounds_told"),("code", .fn "code_told"),("path", .fn "path_told"),("many", .fn "many_told"),("count", .fn "count_told"),("number", .fn "number_told"),("drawn", .fn "drawn_told"),("zigzag", .fn "zigzag_told")]
abbrev cH:MF:=ba 2 (av (dI (aF asB (ak dLt (ag 1) (af bA (aa (ag 0) ah)))) (aQ (ak dIx (ag 0) (ag 1))) bT)
  (aQ (cC (.int 0))))
abbrev c_:MF:=ba 2 (av (aZ 1 (af Im (aa (ag 0) (aa (ak gm (cC (.int 0)) (ag 0)) ah))))
  (aQ (af (bV dy) (aa (ag 1) (aa (af Bn (aa (ak dGe (ag 1) (ak PJ (cC (.int 10)) (cC (.int 18)))) ah)) (aa (ak xM (ag 1) (cC (.int 1000003))) ah))))))
abbrev fL:MF:=ba 1 (av (aZ 0 (ak xM (ak (bg aA) (ag 0) (cC (.int 7919))) (cC (.int 2147483647))))
  (aQ (ak xM (ak (bg aA) (ak (bg aA) (ak (kN aA) (ag 0) (ag 0)) (ak (kN aA) (cC (.int 48271)) (ag 0))) (cC (.int 12345))) (cC (.int 2147483629)))))
abbrev bD:MF:=ba 3 (av (dI (pW (aF asB (ak dEq (ak dIx (ag 0) (cC (.int 1))) (cC (.int 1)))) (aF asB (ak dGt (ak dIx (ag 0) (cC (.int 0))) (cC (.int 0))))) (av (aZ 2 (ak xM (ak dIx (ag 0) (cC (.int 0))) (ag 1)))
  (av (zR j8 (ag 0) (cC (.int 0)) (ak AM (ak dIx (ag 0) (cC (.int 0))) (ag 1)))
  (aQ (ag 2)))) bT)
  (av (zR j8 (ag 0) (cC (.int 2)) (af fL (aa (ak (bg aA) (af fL (aa (ak dIx (ag 0) (cC (.int 2))) ah)) (cC (.int 7))) ah)))
  (aQ (ak xM (ak AM (ak dIx (ag 0) (cC (.int 2))) (cC (.int 64))) (ag 1)))))
abbrev f7:MF:=fun ds h=>((ba 3 (av (aZ 2 (af (oM dy) (aa (ag 1) ah)))
  (aQ (af dv (aa (bZ aA (fE jh (aa (ag 1) ah)) [2,0] tt1 (cG A6 (ag 1) (aa (af bD (aa (ag 2) (aa (af bA (aa (ag 1) ah)) ah))) ah))) ah))))) ds h).bind (dz h)
abbrev b9:MF:=ba 3 (av (LP 1 2 (af bz (aa (af bD (aa (ag 0) (aa (cC (.int 6)) ah))) (aa (ak (bg aA) (cC (.int 1)) (af bD (aa (ag 0) (aa (cC (.int 20)) ah)))) ah))))
  (av (dI (aF asB (ak dEq (ag 1) (cC (.int 0)))) (aQ (af sf (aa (ag 2) ah))) bT)
  (av (dI (aF asB (ak dEq (ag 1) (cC (.int 1)))) (aQ (cUn (m8 aA) (af sf (aa (ag 2) ah)))) bT)
  (av (dI (aF asB (ak dEq (ag 1) (cC (.int 2)))) (aQ (af dv (aa (bZ aA (fE jh (aa (ag 2) ah)) [2] tt1 (cIf (aF asB (ak dEq (ak xM (ag 0) (cC (.int 2))) (cC (.int 0)))) (ak AM (ag 0) (cC (.int 2))) (ak gm (ak gm (ag 1) (cC (.int 1))) (ak AM (ag 0) (cC (.int 2)))))) ah))) bT)
  (aQ (af f7 (aa (ag 0) (aa (ag 2) ah))))))))
abbrev cX:MF:=ba 1 (av (ko "Desk" "order" (ag 0) (af bz (aa (cC (.int 0)) ah)))
  (ko "Desk" "past" (ag 0) (af (bV dy) ah)))
abbrev i5:MF:=ba 2 (av (aZ 1 (af (bV aA) (aa (cUn (B8 "NoOrder") (ag 0)) (aa (cUn (B8 "NoNumber") (ag 0)) (aa (cUn (B8 "NoSet") (ag 0)) (aa (cUn (B8 "NoRow") (ag 0)) ah))))))
  (av (aZ 1 (ak (bg aA) (ag 1) (af (bV aA) (aa (cUn (B8 "NoLine") (ag 0)) (aa (cUn (B8 "NoText") (ag 0)) (aa (cUn (B8 "TooGreat") (ag 0)) ah))))))
  (av (dI (vf (jL (aF kW (cUn T4 (ag 0)))) (aF asB (ak dNe (cG yO (ag 1) (aa (cC (.bl θ)) ah)) (cC (.int 1))))) (aQ (cC (.str "other"))) bT)
  (aQ (ak dIx (af (bV aA) (aa (cC (.str "order")) (aa (cC (.str "number")) (aa (cC (.str "set")) (aa (cC (.str "row")) (aa (cC (.str "line")) (aa (cC (.str "text")) (aa (cC (.str "great")) ah)))))))) (cG xP (ag 1) (aa (cC (.bl θ)) ah)))))))
abbrev eB:MF:=ba 2 (av (aZ 1 (af i5 (aa (ag 0) ah)))
  (av (dI (aF asB (ak dEq (ag 1) (cC (.str "text")))) (aQ (af bz (aa (ag 1) (aa (cUn (FN "NoText" "row") (ag 0)) ah)))) bT)
  (aQ (cIf (aF asB (ak dEq (ag 1) (cC (.str "great")))) (af bz (aa (ag 1) (aa (cUn (FN "TooGreat" "many") (ag 0)) (aa (cUn (FN "TooGreat" "most") (ag 0)) ah)))) (af bz (aa (ag 1) ah))))))
abbrev jF:MF:=ba 1 (av (dI (vf (jL (aF kW (zj (M8 Txt.isascii) (ag 0)))) (vf (jL (aF kW (zj (M8 Txt.isdigit) (ag 0)))) (aF asB (ak dGt (af bA (aa (ag 0) ah)) (cC (.int 20)))))) (aQ (cC .non)) bT)
  (av (dI (pW (aF asB (ak dEq (ak Rh (ag 0) (cC (.int 0))) (cC (.str "0")))) (aF asB (ak dGt (af bA (aa (ag 0) ah)) (cC (.int 1))))) (aQ (cC .non)) bT)
  (aQ (af Jt (aa (ag 0) ah)))))
abbrev j2:MF:=ba 1 (aQ (JI (ak dEq (ag 0) (cC (.str "undo"))) (JI (ak (om "PLAIN_DEEDS" cF) (ag 0) (cC (.fn "PLAIN_DEEDS"))) (JI (ak (om "NUMBER_DEEDS" cQ) (ag 0) (cC (.fn "NUMBER_DEEDS"))) (ak (om "QUESTIONS" bc) (ag 0) (cC (.fn "QUESTIONS")))))))
abbrev fQ:MF:=ba 3 (av (dI (up (jL (aF kW (cUn (m9 "str") (ag 0))))) (mD "NoLine") bT)
  (av (up (aZ 1 (i7 (Cj aA) (ag 0) (aa (cC (.str " ")) ah))))
  (av (up (aZ 2 (bZ aA (du (e9 aA (ag 1) (ft (cC (.int 1))) fZ)) [] tt1 (af jF (aa (ag 0) ah)))))
  (av (dI (up (vf (jL (aF kW (af j2 (aa (ak dIx (ag 1) (cC (.int 0))) ah)))) (vf (aF asB (ak (dIn ψ) (cC .non) (ag 2))) (aF asB (ak dNe (af bA (aa (ag 2) ah)) (JQ iJ (ak dIx (ag 1) (cC (.int 0))) (cC (.int 0)))))))) (mD "NoLine") bT)
  (up (aQ (af bz (aa (ak dIx (ag 1) (cC (.int 0))) (aa (ag 2) ah)))))))))
abbrev kx:MF:=ba 1 (aQ (Et (cUn (m9 "int") (ag 0)) (JC (cUn (m9 "bool") (ag 0)))))
abbrev dA:MF:=ba 3 (aQ (Et (af kx (aa (ag 0) ah)) (mC dLe dLe (ag 1) (ag 0) (ag 2))))
abbrev fV:MF:=fun ds h=>((ba 2 (av (dI (vf (jL (aF kW (cUn (m9 "tuple") (ag 0)))) (jL (aF asB (mC dLe dLe (cC (.int 1)) (af bA (aa (ag 0) ah)) (cC (.int 20)))))) (aQ (cC (.bl ψ))) bT)
  (av (fh (du (ag 0)) (gN 1) (dI (jL (aF kW (af dA (aa (ag 1) (aa (cC (.int 0)) (aa (ak gm (af bA (aa (ag 0) ah)) (cC (.int 1))) ah)))))) (aQ (cC (.bl ψ))) bT))
  (aQ (ak dEq (af bA (aa (af Ih (aa (ag 0) ah)) ah)) (af bA (aa (ag 0) ah))))))) ds h).bind (dz h)
abbrev ax:MF:=ba 1 (dI (up (jL (aF kW (af fV (aa (ag 0) ah))))) (mD "NoOrder") bT)
abbrev gC:MF:=ba 1 (av (bR (af ax (aa (up (ag 0)) ah)))
  (up (aQ (i7 k6 (cC (.str " ")) (aa (bZ aA (du (ag 0)) [] tt1 (af cN (aa (ag 0) ah))) ah)))))
abbrev dQ:MF:=ba 1 (aQ (af gC (aa (up (ag 0)) ah)))
abbrev aG:MF:=ba 1 (aQ (cIf (aF asB (ak dGt (af bA (aa (ag 0) ah)) (cC (.int 0)))) (i7 k6 (cC (.str " ")) (aa (bZ aA (du (ag 0)) [] tt1 (af oO (aa (ag 0) ah))) ah)) (cC (.str "none"))))
abbrev bp:MF:=ba 1 (aQ (af dv (aa (bZ aA (fE jh (aa (ak gm (af bA (aa (ag 0) ah)) (cC (.int 1))) ah)) [0] (aF asB (ak dGt (ak dIx (ag 1) (ag 0)) (ak dIx (ag 1) (ak (bg aA) (ag 0) (cC (.int 1)))))) (ag 0)) ah)))
abbrev bu:MF:=ba 1 (av (bR (af ax (aa (up (ag 0)) ah)))
  (up (aQ (af bp (aa (ag 0) ah)))))
abbrev dC:MF:=ba 1 (aQ (af (fun ds h=>noR (aG ds h)) (aa (af bu (aa (up (ag 0)) ah)) ah)))
abbrev dG:MF:=ba 1 (av (bR (af ax (aa (up (ag 0)) ah)))
  (up (aQ (af dv (aa (bZ aA (fE jh (aa (ak gm (af bA (aa (ag 0) ah)) (cC (.int 1))) ah)) [0] (aF asB (ak dLt (ak dIx (ag 1) (ag 0)) (ak dIx (ag 1) (ak (bg aA) (ag 0) (cC (.int 1)))))) (ag 0)) ah)))))
abbrev dH:MF:=ba 1 (aQ (af (fun ds h=>noR (aG ds h)) (aa (af dG (aa (up (ag 0)) ah)) ah)))
abbrev dB:MF:=ba 1 (av (bR (af ax (aa (up (ag 0)) ah)))
  (up (aQ (af dv (aa (bZ aA (kX (ag 0)) [] (unp (aF asB (ak dGt (ag 1) (ag 0)))) (unp (ag 0))) ah)))))
abbrev dE:MF:=ba 1 (aQ (af (fun ds h=>noR (aG ds h)) (aa (af dB (aa (up (ag 0)) ah)) ah)))
abbrev dO:MF:=ba 1 (av (bR (af ax (aa (up (ag 0)) ah)))
  (up (aQ (af dv (aa (bZ aA (kX (ag 0)) [] (unp (aF asB (ak dLt (ag 1) (ag 0)))) (unp (ag 0))) ah)))))
abbrev dN:MF:=ba 1 (aQ (af (fun ds h=>noR (aG ds h)) (aa (af dO (aa (up (ag 0)) ah)) ah)))
abbrev bh:MF:=ba 1 (aQ (ak (bg aA) (af dv (aa (yX aA (du (af bu (aa (up (ag 0)) ah))) [] tt1 (ak (bg aA) (ag 0) (cC (.int 1)))) ah)) (up (af bz (aa (af bA (aa (ag 0) ah)) ah)))))
abbrev dJ:MF:=ba 1 (aQ (af (fun ds h=>noR (aG ds h)) (aa (af bh (aa (up (ag 0)) ah)) ah)))
abbrev bJ:MF:=ba 2 (av (aZ 1 (af bh (aa (up (ag 0)) ah)))
  (up (aQ (af dv (aa (bZ aA (fE jh (aa (af bA (aa (ag 0) ah)) ah)) [1] (aF asB (ak (dIn θ) (ag 0) (ag 1))) (ag 0)) ah)))))
abbrev fG:MF:=ba 1 (aQ (af (fun ds h=>noR (aG ds h)) (aa (af bJ (aa (up (ag 0)) ah)) ah)))
abbrev dh:MF:=ba 1 (aQ (af aG (aa (bZ aA (du (ag 0)) [] tt1 (i7 k6 (cC (.str "-")) (aa (bZ aA (du (ag 0)) [] tt1 (af cN (aa (ag 0) ah))) ah))) ah)))
abbrev eW:MF:=fun ds h=>((ba 5 (av (aZ 1 (ak (bg aA) (af (dList aA) (aa (af bu (aa (up (ag 0)) ah)) ah)) (up (af (bV aA) (aa (ak gm (af bA (aa (ag 0) ah)) (cC (.int 1))) ah)))))
  (av (up (aZ 2 (af (bV dy) ah)))
  (av (up (aZ 3 (cC (.int 0))))
  (av (up (fh (du (ag 1)) (gN 4) (av (bR (cG bP (ag 2) (aa (e9 aA (ag 0) (ft (ag 3)) (ft (ak (bg aA) (ag 4) (cC (.int 1))))) ah)))
  (aZ 3 (ak (bg aA) (ag 4) (cC (.int 1)))))))
  (up (aQ (ag 2)))))))) ds h).bind (dz h)
abbrev eM:MF:=ba 1 (aQ (af (fun ds h=>noR (dh ds h)) (aa (af eW (aa (up (ag 0)) ah)) ah)))
abbrev eR:MF:=FZ (fun ds h=>((ba 3 (av (aZ 2 (af (bV dy) (aa (ag 1) ah)))
  (av (sM 64 (aF asB (ak dNe (ak dIx (ag 0) (ak dIx (ag 2) (cUn kL (cC (.int 1))))) (ag 1))) (bR (cG bP (ag 2) (aa (ak dIx (ag 0) (ak dIx (ag 2) (cUn kL (cC (.int 1))))) ah))))
  (aQ (af dv (aa (ag 2) ah)))))) ds h).bind (dz h))
abbrev cY:MF:=fun ds h=>((ba 6 (av (bR (af ax (aa (up (ag 0)) ah)))
  (av (up (aZ 1 (af (bV dy) ah)))
  (av (up (aZ 2 (af Bx ah)))
  (av (up (fh (fE p9 (aa (ak gm (af bA (aa (ag 0) ah)) (cC (.int 1))) (aa (cUn kL (cC (.int 1))) (aa (cUn kL (cC (.int 1))) ah)))) (gN 3) (dI (aF asB (ak (CG θ) (ag 3) (ag 2))) (av (aZ 4 (af eR (aa (ag 0) (aa (ag 3) ah))))
  (av (bR (cG bP (ag 1) (aa (ag 4) ah)))
  (fh (du (ag 4)) (gN 5) (bR (sP ny (ag 2) (aa (ag 5) ah)))))) bT)))
  (up (aQ (cUn (m8 aA) (ag 1))))))))) ds h).bind (dz h)
abbrev de:MF:=ba 1 (aQ (af (fun ds h=>noR (dh ds h)) (aa (af cY (aa (up (ag 0)) ah)) ah)))
abbrev bN:MF:=ba 2 (aQ (af dv (aa (bZ aA (du (ag 0)) [1] (aF asB (ak dLe (ag 0) (ag 1))) (ag 0)) ah)))
abbrev eP:MF:=ba 1 (av (bR (af ax (aa (up (ag 0)) ah)))
  (up (aQ (af dv (aa (bZ aA (fE jh (aa (af bA (aa (ag 0) ah)) ah)) [0] tt1 (g7 d9 (af bN (aa (ag 1) (aa (ag 0) ah))) (aa (ag 0) ah))) ah)))))
abbrev eA:MF:=ba 1 (aQ (af (fun ds h=>noR (aG ds h)) (aa (af eP (aa (up (ag 0)) ah)) ah)))
abbrev eQ:MF:=ba 1 (av (bR (af ax (aa (up (ag 0)) ah)))
  (up (aQ (af dv (aa (bZ aA (fE jh (aa (af bA (aa (ag 0) ah)) ah)) [0] tt1 (af bA (aa (af bp (aa (af bN (aa (ag 1) (aa (ag 0) ah))) ah)) ah))) ah)))))
abbrev eD:MF:=ba 1 (aQ (af (fun ds h=>noR (aG ds h)) (aa (af eQ (aa (up (ag 0)) ah)) ah)))
abbrev bj:MF:=ba 1 (aQ (af bA (aa (af bu (aa (up (ag 0)) ah)) ah)))
abbrev eN:MF:=ba 1 (aQ (af cN (aa (af bj (aa (up (ag 0)) ah)) ah)))
abbrev bC:MF:=ba 3 (dI (up (jL (aF kW (af dA (aa (ag 0) (aa (ag 1) (aa (ag 2) ah))))))) (mD "NoNumber") bT)
abbrev eO:MF:=ba 2 (av (bR (af bC (aa (up (ag 0)) (aa (up (cC (.int 1))) (aa (up (cC (.int 30))) ah)))))
  (bR (af bC (aa (up (ag 1)) (aa (up (cC (.int 0))) (aa (up (cC (.int 30))) ah))))))
abbrev eU:MF:=ba 3 (av (aZ 1 (ak (bg aA) (af bA (aa (ag 0) ah)) (cC (.int 1))))
  (av (aZ 2 (ak (bg aA) (ak (bg aA) (af (bV aA) (aa (cC (.int 0)) ah)) (ag 0)) (af (bV aA) (aa (cC (.int 0)) ah))))
  (aQ (bZ aA (fE jh (aa (ag 1) ah)) [2,1] tt1 (ak (bg aA) (ak (kN aA) (ak (bg aA) (ag 0) (cC (.int 1))) (ak dIx (ag 1) (ak (bg aA) (ag 0) (cC (.int 1))))) (ak (kN aA) (ak gm (ag 2) (ag 0)) (ak dIx (ag 1) (ag 0))))))))
abbrev k_:MF:=ba 2 (av (bR (af bC (aa (up (ag 0)) (aa (up (cC (.int 1))) (aa (up (cC (.int 30))) ah)))))
  (av (up (aZ 1 (af (bV aA) (aa (cC (.int 1)) ah))))
  (av (up (sM 64 (aF asB (ak dLt (af bA (aa (ag 1) ah)) (ag 0))) (aZ 1 (af eU (aa (ag 1) ah)))))
  (up (aQ (ag 1))))))
abbrev bQ:MF:=ba 2 (av (bR (af eO (aa (up (ag 0)) (aa (up (ag 1)) ah))))
  (aQ (af K_ (aa (e9 aA (af k_ (aa (up (ag 0)) ah)) (ft (up (ag 1))) (ft (up (ak (bg aA) (ag 1) (cC (.int 1)))))) ah))))
abbrev cU:MF:=ba 1 (aQ (af cN (aa (af bQ (aa (up (af bA (aa (ag 0) ah))) (aa (af bj (aa (up (ag 0)) ah)) ah))) ah)))
abbrev ck:MF:=ba 1 (av (bR (af ax (aa (up (ag 0)) ah)))
  (dI (up (aF asB (ak dGt (af bA (aa (ag 0) ah)) (cC (.int 12))))) (nu "TooGreat" ["many", "most"] (aa (up (af bA (aa (ag 0) ah))) (aa (up (cC (.int 12))) ah))) bT))
abbrev gf:MF:=ba 1 (av (dI (aF asB (ak dEq (af bA (aa (ag 0) ah)) (cC (.int 0)))) (aQ (cC (.int 0))) bT)
  (aQ (ak gm (ak dIx (ag 0) (cUn kL (cC (.int 1)))) (af bA (aa (bZ aA (du (ag 0)) [0] (aF asB (ak dLt (ag 0) (ak dIx (ag 1) (cUn kL (cC (.int 1)))))) (ag 0)) ah)))))
abbrev bE:MF:=ba 5 (av (aZ 3 (ak dIx (ak dIx (ag 0) (ak gm (ak gm (af bA (aa (ag 0) ah)) (cC (.int 1))) (af bA (aa (ag 2) ah)))) (af gf (aa (ag 2) ah))))
  (av (aZ 4 (ak gm (ag 1) (af bA (aa (af bp (aa (ag 2) ah)) ah))))
  (aQ (cIf (aF asB (mC dLe dLt (cC (.int 0)) (ag 4) (af bA (aa (ag 3) ah)))) (ak dIx (ag 3) (ag 4)) (cC (.int 0))))))
abbrev mP:Str->Option (Nat × MF):=fun x=>if x="begun_count" then ξ (3,bE) else ζ
@[simp] def pK:mP "begun_count" = ξ (3,bE):=by kernel_rfl
abbrev dY:MF:=ba 4 (av (aZ 3 (bZ aA (fE jh (aa (ag 0) ah)) [1] (aF asB (ak (dIn θ) (ag 0) (ag 1))) (ak (bg aA) (ag 1) (af bz (aa (ag 0) ah)))))
  (aQ (bZ aA (du (ag 3)) [2] (aF asB (ak dGt (kS mP (ag 1) (aa (ag 0) ah)) (cC (.int 0)))) (ag 0))))
abbrev eC:MF:=ba 5 (av (aZ 2 (cC (.int 0)))
  (av (fh (fE jh (aa (af bA (aa (ag 0) ah)) ah)) (gN 3) (fh (du (af dY (aa (af bA (aa (ag 0) ah)) (aa (e9 aA (ag 0) fZ (ft (ag 3))) (aa (ag 1) ah))))) (gN 4) (dI (aF asB (ak dLt (ak dIx (ag 4) (cUn kL (cC (.int 1)))) (ak dIx (ag 0) (ag 3)))) (MU 2 xn (kS mP (ag 1) (aa (ag 4) ah))) bT)))
  (aQ (ag 2))))
abbrev cZ:MF:=fun ds h=>((ba 8 (av (aZ 2 (ak (kN dy) (af (bV aA) (aa (cC (.int 0)) ah)) (ak (bg aA) (af bA (aa (ag 0) ah)) (cC (.int 1)))))
  (av (fh (kX (ag 0)) (gT2 3 4) (av (aZ 5 (cIf (aF asB (ak dLt (ag 3) (ag 1))) (cC (.int 1)) (cC (.int 0))))
  (fh (kX (ag 4)) (gT2 6 7) (xT (ag 2) (ak (bg aA) (ag 6) (ag 5)) (ag 7)))))
  (aQ (ag 2))))) ds h).bind (dz h)
abbrev iV:MF:=fun ds h=>((ba 3 (av (aZ 1 (af (bV dy) (aa (af (bV aA) (aa (af (bV aA) (aa (cC (.int 1)) ah)) ah)) ah)))
  (av (fh (fE wb (aa (cC (.int 1)) (aa (ak (bg aA) (ag 0) (cC (.int 1))) ah))) (gN 2) (bR (cG bP (ag 1) (aa (bZ aA (fE jh (aa (ak (bg aA) (ag 2) (cC (.int 1))) ah)) [1] tt1 (af cZ (aa (ak dIx (ag 1) (cUn kL (cC (.int 1)))) (aa (ag 0) ah)))) ah))))
  (aQ (ag 1))))) ds h).bind (dz h)
abbrev dD:MF:=Nz 3 (aZ 2 (af iV (aa (ag 0) ah))) "begun_count" [2,1]
abbrev cB:MF:=ba 1 (av (bR (af ck (aa (up (ag 0)) ah)))
  (up (aQ (af eC (aa (ag 0) (aa (af dD (aa (af bA (aa (ag 0) ah)) (aa (af bA (aa (af bp (aa (ag 0) ah)) ah)) ah))) ah))))))
abbrev b7:MF:=ba 1 (aQ (af cN (aa (af cB (aa (up (ag 0)) ah)) ah)))
abbrev eL:MF:=ba 2 (aQ (ak (kN aA) (up (ak (bg aA) (ag 1) (cC (.int 1)))) (af bQ (aa (up (ak gm (ag 0) (cC (.int 1)))) (aa (up (ag 1)) ah)))))
abbrev aI:Nat->MF
 | 0=>fun _ _=>.bad
 | d+1=>ba 6 (av (bR (af ax (aa (up (ag 0)) ah)))
  (av (up (HJ 1 2 (aa (af bA (aa (ag 0) ah)) (aa (af bA (aa (af bp (aa (ag 0) ah)) ah)) ah))))
  (av (up (dI (aF asB (ak dEq (ag 1) (cC (.int 1)))) (aQ (cC (.int 0))) bT))
  (av (up (aZ 3 (g7 d9 (ag 0) (aa (ak gm (ag 1) (cC (.int 1))) ah))))
  (av (up (aZ 4 (ak (bg aA) (e9 aA (ag 0) fZ (ft (ag 3))) (e9 aA (ag 0) (ft (ak (bg aA) (ag 3) (cC (.int 1)))) fZ))))
  (av (aZ 5 (af bh (aa (up (ag 4)) ah)))
  (av (dI (up (aF asB (ak (dIn ψ) (ag 3) (ag 5)))) (aQ (ak (bg aA) (ak (kN aA) (af (aI d) (aa (up (ag 4)) ah)) (up (ak (bg aA) (ag 2) (cC (.int 1))))) (up (g7 d9 (ag 5) (aa (ag 3) ah))))) bT)
  (aQ (ak (bg aA) (ak (bg aA) (af eL (aa (up (ag 1)) (aa (up (ag 2)) ah))) (ak (kN aA) (af (aI d) (aa (up (ag 4)) ah)) (up (ak gm (ag 1) (ag 2))))) (g7 d9 (af bJ (aa (up (ag 4)) ah)) (aa (up (ag 3)) ah)))))))))))
def eX (d:Nat):aI (d+1)=ba 6 (av (bR (af ax (aa (up (ag 0)) ah)))
  (av (up (HJ 1 2 (aa (af bA (aa (ag 0) ah)) (aa (af bA (aa (af bp (aa (ag 0) ah)) ah)) ah))))
  (av (up (dI (aF asB (ak dEq (ag 1) (cC (.int 1)))) (aQ (cC (.int 0))) bT))
  (av (up (aZ 3 (g7 d9 (ag 0) (aa (ak gm (ag 1) (cC (.int 1))) ah))))
  (av (up (aZ 4 (ak (bg aA) (e9 aA (ag 0) fZ (ft (ag 3))) (e9 aA (ag 0) (ft (ak (bg aA) (ag 3) (cC (.int 1)))) fZ))))
  (av (aZ 5 (af bh (aa (up (ag 4)) ah)))
  (av (dI (up (aF asB (ak (dIn ψ) (ag 3) (ag 5)))) (aQ (ak (bg aA) (ak (kN aA) (af (aI d) (aa (up (ag 4)) ah)) (up (ak (bg aA) (ag 2) (cC (.int 1))))) (up (g7 d9 (ag 5) (aa (ag 3) ah))))) bT)
  (aQ (ak (bg aA) (ak (bg aA) (af eL (aa (up (ag 1)) (aa (up (ag 2)) ah))) (ak (kN aA) (af (aI d) (aa (up (ag 4)) ah)) (up (ak gm (ag 1) (ag 2))))) (g7 d9 (af bJ (aa (up (ag 4)) ah)) (aa (up (ag 3)) ah))))))))))):=rfl
abbrev cS:MF:=ba 1 (aQ (af cN (aa (af (aI 20) (aa (up (ag 0)) ah)) ah)))
abbrev ir:MF:=ba 1 (aQ (af DA (aa (cC (.int 1)) (aa (ak gm (ag 0) (cC (.int 1))) (aa (cC (.int 2)) ah)))))
abbrev cA:MF:=ba 1 (aQ (ak dEq (af bu (aa (up (ag 0)) ah)) (up (af ir (aa (af bA (aa (ag 0) ah)) ah)))))
abbrev cx:MF:=ba 1 (aQ (cIf (aF kW (af cA (aa (up (ag 0)) ah))) (up (cC (.str "yes"))) (up (cC (.str "no")))))
abbrev gw:MF:=ba 1 (av (dI (up (aF asB (ak dEq (af bA (aa (cUn (lZ "Desk" "past") (ag 0)) ah)) (cC (.int 0))))) (mD "NoLine") bT)
  (up (ko "Desk" "order" (ag 0) (cG Kk (cUn (lZ "Desk" "past") (ag 0)) ah))))
abbrev dg:MF:=ba 2 (av (bR (cG bP (cUn (lZ "Desk" "past") (ag 0)) (aa (cUn (lZ "Desk" "order") (ag 0)) ah)))
  (ko "Desk" "order" (ag 0) (ag 1)))
abbrev k8:MF:=ba 2 (av (bR (af ax (aa (up (ag 0)) ah)))
  (av (bR (af bC (aa (up (ag 1)) (aa (up (cC (.int 0))) (aa (up (af bA (aa (ag 0) ah))) ah)))))
  (av (dI (up (aF asB (ak dEq (af bA (aa (ag 0) ah)) (cC (.int 20))))) (nu "TooGreat" ["many", "most"] (aa (up (ak (bg aA) (af bA (aa (ag 0) ah)) (cC (.int 1)))) (aa (up (cC (.int 20))) ah))) bT)
  (up (aQ (ak (bg aA) (ak (bg aA) (e9 aA (ag 0) fZ (ft (ag 1))) (af bz (aa (af bA (aa (ag 0) ah)) ah))) (e9 aA (ag 0) (ft (ag 1)) fZ)))))))
abbrev fC:MF:=ba 2 (aQ (af k8 (aa (up (ag 0)) (aa (up (ak dIx (ag 1) (cC (.int 0)))) ah))))
abbrev Ah:Str->Option MF:=fun x=>if x="put_deed" then ξ fC else ζ
@[simp] def IF:Ah "put_deed" = ξ fC:=by kernel_rfl
abbrev gb:MF:=ba 5 (av (up (dI (aF asB (ak (om "PLAIN_DEEDS" cF) (ag 1) (cC (.fn "PLAIN_DEEDS")))) (av (aZ 3 (cUn (vm cF) (ag 1)))
  (aQ (kS mP (ag 3) (aa (ag 0) ah)))) bT))
  (av (up (aZ 4 (cUn (vm cQ) (ag 1))))
  (aQ (tK Ah (up (ag 4)) (aa (up (ag 0)) (aa (up (ag 2)) ah))))))
abbrev eF:Str->Option MF:=fun x=>if x="shown_told" then ξ dQ else if x="falls_told" then ξ dC else if x="rises_told" then ξ dH else if x="lifts_told" then ξ dE else if x="drops_told" then ξ dN else if x="still_told" then ξ dJ else if x="new_told" then ξ fG else if x="runs_told" then ξ eM else if x="rounds_told" then ξ de else if x="code_told" then ξ eA else if x="path_told" then ξ eD else if x="many_told" then ξ eN else if x="count_told" then ξ cU else if x="number_told" then ξ b7 else if x="drawn_told" then ξ cS else if x="zigzag_told" then ξ cx else ζ
@[simp] def GS:eF "shown_told" = ξ dQ:=by kernel_rfl
@[simp] def GW:eF "falls_told" = ξ dC:=by kernel_rfl
@[simp] def F6:eF "rises_told" = ξ dH:=by kernel_rfl
@[simp] def Ha:eF "lifts_told" = ξ dE:=by kernel_rfl
@[simp] def FP:eF "drops_told" = ξ dN:=by kernel_rfl
@[simp] def Fn:eF "still_told" = ξ dJ:=by kernel_rfl
@[simp] def Ky:eF "new_told" = ξ fG:=by kernel_rfl
@[simp] def Hj:eF "runs_told" = ξ eM:=by kernel_rfl
@[simp] def EC:eF "rounds_told" = ξ de:=by kernel_rfl
@[simp] def Hl:eF "code_told" = ξ eA:=by kernel_rfl
@[simp] def Hx:eF "path_told" = ξ eD:=by kernel_rfl
@[simp] def He:eF "many_told" = ξ eN:=by kernel_rfl
@[simp] def Gq:eF "count_told" = ξ cU:=by kernel_rfl
@[simp] def E3:eF "number_told" = ξ b7:=by kernel_rfl
@[simp] def Ft:eF "drawn_told" = ξ cS:=by kernel_rfl
@[simp] def Ef:eF "zigzag_told" = ξ cx:=by kernel_rfl
abbrev cL:MF:=ba 5 (av (LP 2 3 (af fQ (aa (up (ag 1)) ah)))
  (av (dI (up (aF asB (ak (om "QUESTIONS" bc) (ag 2) (cC (.fn "QUESTIONS"))))) (av (up (aZ 4 (cUn (vm bc) (ag 2))))
  (aQ (tK eF (up (ag 4)) (aa (up (cUn (lZ "Desk" "order") (ag 0))) ah)))) bT)
  (av (dI (up (aF asB (ak dEq (ag 2) (cC (.str "undo"))))) (bR (js "Desk" "take_back" gw (up (ag 0)) ah)) (bR (js "Desk" "follow" (fun ds h=>noR (dg ds h)) (up (ag 0)) (aa (af gb (aa (up (cUn (lZ "Desk" "order") (ag 0))) (aa (up (ag 2)) (aa (up (ag 3)) ah)))) ah))))
  (up (aQ (cC (.str "ok")))))))
abbrev bK:MF:=ba 3 (Cq (aQ (af bz (aa (up (cC (.str "told"))) (aa (js "Desk" "say" cL (up (ag 0)) (aa (up (ag 1)) ah)) ah)))) eB)
abbrev aB:MF:=ba 1 (aQ (QL (i7 k6 (cC (.str " ")) (aa (bZ aA (du (ag 0)) [] tt1 (af cN (aa (ag 0) ah))) ah)) (cC (.str "none"))))
abbrev cj:MF:=ba 1 (aQ (i7 k6 (cC (.str " ")) (aa (bZ aA (du (ag 0)) [] tt1 (i7 k6 (cC (.str "-")) (aa (bZ aA (du (ag 0)) [] tt1 (af cN (aa (ag 0) ah))) ah))) ah)))
abbrev tu:MF:=fun ds h=>((ba 13 (av (fh (du (ak (bg aA) (af (bV aA) (aa (af cH (aa (ag 0) (aa (cC (.int 0)) ah))) ah)) (e9 aA (ag 0) (ft (cC (.int 1))) (ft (cC (.int 4)))))) (gN 1) (av (aZ 2 (af c_ (aa (ag 1) ah)))
  (av (aZ 3 (af b9 (aa (ag 2) ah)))
  (av (aZ 4 (af bA (aa (ag 3) ah)))
  (av (aZ 5 (oR "Desk" cX))
  (av (fh (fE wb (aa (cC (.int 1)) (aa (ag 4) ah))) (gN 6) (av (aZ 7 (af bA (aa (bZ aA (fE jh (aa (g7 d9 (ag 3) (aa (ag 6) ah)) ah)) [3,6] (aF asB (ak dLt (ak dIx (ag 1) (ag 0)) (ag 2))) (ag 0)) ah)))
  (dI (aF asB (ak dNe (af bK (aa (ag 5) (aa (ak (bg aA) (cC (.str "put ")) (af cN (aa (ag 7) ah))) ah))) (af bz (aa (cC (.str "told")) (aa (cC (.str "ok")) ah))))) (aQ (cC (.bl ψ))) bT)))
  (av (aZ 8 (af (bV dy) (aa (af bz (aa (cC (.str "shown")) (aa (af aB (aa (ag 3) ah)) ah))) (aa (af bz (aa (cC (.str "falls")) (aa (af aB (aa (af (fun ds h=>noR (bu ds h)) (aa (ag 3) ah)) ah)) ah))) ah))))
  (av (bR (cG bP (ag 8) (aa (af bz (aa (cC (.str "rises")) (aa (af aB (aa (af (fun ds h=>noR (dG ds h)) (aa (ag 3) ah)) ah)) ah))) ah)))
  (av (aZ 8 (ak (bg dy) (ag 8) (af (bV aA) (aa (af bz (aa (cC (.str "lifts")) (aa (af aB (aa (af (fun ds h=>noR (dB ds h)) (aa (ag 3) ah)) ah)) ah))) (aa (af bz (aa (cC (.str "drops")) (aa (af aB (aa (af (fun ds h=>noR (dO ds h)) (aa (ag 3) ah)) ah)) ah))) ah)))))
  (av (aZ 8 (ak (bg dy) (ag 8) (af (bV aA) (aa (af bz (aa (cC (.str "still")) (aa (af aB (aa (af (fun ds h=>noR (bh ds h)) (aa (ag 3) ah)) ah)) ah))) (aa (af bz (aa (cC (.str "new")) (aa (af aB (aa (af (fun ds h=>noR (bJ ds h)) (aa (ag 3) ah)) ah)) ah))) ah)))))
  (av (aZ 8 (ak (bg dy) (ag 8) (af (bV aA) (aa (af bz (aa (cC (.str "code")) (aa (af aB (aa (af (fun ds h=>noR (eP ds h)) (aa (ag 3) ah)) ah)) ah))) (aa (af bz (aa (cC (.str "path")) (aa (af aB (aa (af (fun ds h=>noR (eQ ds h)) (aa (ag 3) ah)) ah)) ah))) ah)))))
  (av (aZ 8 (ak (bg dy) (ag 8) (af (bV aA) (aa (af bz (aa (cC (.str "runs")) (aa (af cj (aa (af (fun ds h=>noR (eW ds h)) (aa (ag 3) ah)) ah)) ah))) (aa (af bz (aa (cC (.str "rounds")) (aa (af cj (aa (af (fun ds h=>noR (cY ds h)) (aa (ag 3) ah)) ah)) ah))) ah)))))
  (av (aZ 8 (ak (bg dy) (ag 8) (af (bV aA) (aa (af bz (aa (cC (.str "many")) (aa (af cN (aa (af (fun ds h=>noR (bj ds h)) (aa (ag 3) ah)) ah)) ah))) (aa (af bz (aa (cC (.str "count")) (aa (af cN (aa (af (fun ds h=>noR (bQ ds h)) (aa (ag 4) (aa (af (fun ds h=>noR (bj ds h)) (aa (ag 3) ah)) ah))) ah)) ah))) ah)))))
  (av (aZ 8 (ak (bg dy) (ag 8) (af (bV aA) (aa (af bz (aa (cC (.str "drawn")) (aa (af cN (aa (af (fun ds h=>noR ((aI 20) ds h)) (aa (ag 3) ah)) ah)) ah))) (aa (af bz (aa (cC (.str "zigzag")) (aa (ak dIx (af (bV aA) (aa (cC (.str "no")) (aa (cC (.str "yes")) ah))) (af Bn (aa (af (fun ds h=>noR (cA ds h)) (aa (ag 3) ah)) ah))) ah))) ah)))))
  (fh (fE jh (aa (cC (.int 2)) ah)) (gN 9) (av (fh (du (ag 8)) (gT2 10 11) (dI (aF asB (ak dNe (af bK (aa (ag 5) (aa (ag 10) ah))) (af bz (aa (cC (.str "told")) (aa (ag 11) ah))))) (aQ (cC (.bl ψ))) bT))
  (av (aZ 12 (af bK (aa (ag 5) (aa (cC (.str "number")) ah))))
  (dI (vf (pW (aF asB (ak dGt (ag 4) (cC (.int 12)))) (aF asB (ak dNe (ag 12) (af bz (aa (cC (.str "great")) (aa (ag 4) (aa (cC (.int 12)) ah))))))) (pW (aF asB (ak dLt (ag 4) (cC (.int 13)))) (aF asB (ak dNe (ag 12) (af bz (aa (cC (.str "told")) (aa (af cN (aa (af (fun ds h=>noR (cB ds h)) (aa (ag 3) ah)) ah)) ah))))))) (aQ (cC (.bl ψ))) bT))))))))))))))))))
  (aQ (cC (.bl θ))))) ds h).bind (dz h)
abbrev au (i:Nat):aaN:=XC.main.body.getD i (.Pass ⟨0,0,0,0⟩)
structure Blt (mg:Str->Option XI):Prop where
 ValueError:mg "ValueError" = none
 bool:mg "bool" = none
 enumerate:mg "enumerate" = none
 int:mg "int" = none
 isinstance:mg "isinstance" = none
 len:mg "len" = none
 list:mg "list" = none
 max:mg "max" = none
 range:mg "range" = none
 set:mg "set" = none
 str:mg "str" = none
 sum:mg "sum" = none
 tuple:mg "tuple" = none
section
variable {P:X5}{w:Yw}{K:gV}{mg:Str->Option XI}{base:Y2}{g:GG}{dM:XW}
local macro_rules | `($a :: $b) => `(@fu _ _ _ _ _ _ _ $a $b rfl) | `($a \/ $b) => `(@jo _ _ _ _ _ _ _ $a $b) | `(!$a) => `(@km _ _ _ _ _ $a) | `(-$a) => `(@JD _ _ _ _ _ _ $a) | `($a ++ $b) => `(@oF _ _ _ _ _ _ _ _ _ _ _ Pl P6 $a $b) | `($a - $b) => `(@oF _ _ _ _ _ _ _ _ _ _ _ Ra Qi $a $b) | `($a * $b) => `(@oF _ _ _ _ _ _ _ _ _ _ _ Qj PY $a $b) | `($a / $b) => `(@oF _ _ _ _ _ _ _ _ _ _ _ HE P8 $a $b) | `($a % $b) => `(@oF _ _ _ _ _ _ _ _ _ _ _ Qu O7 $a $b) | `($a < $b) => `(@h_ _ _ _ _ _ _ _ _ _ _ _ OI OM $a $b (j7 _)) | `($a <= $b) => `(@h_ _ _ _ _ _ _ _ _ _ _ _ xl xC $a $b (j7 _)) | `($a > $b) => `(@h_ _ _ _ _ _ _ _ _ _ _ _ R0 S0 $a $b (j7 _)) | `($a ^ $b) => `(@OY _ _ _ _ _ _ _ _ _ _ Kj Sg $a $b (fun _ _ => rfl)) | `($a >>= $b) => `(@Ov _ _ _ _ _ _ $a _ _ (by assumption) rfl (by first | exact Or.inl rfl | exact Or.inr rfl) $b rfl (.inl rfl)) | `(~~~$a) => `(@Lb _ _ _ _ _ _ _ $a) | `(#[$a]) => `(@IV _ _ _ _ _ _ _ _ $a) | `(↑$a) => `(@nq _ _ _ _ _ $a) | `(¬$a) => `(kf (i := $a) (by assumption) rfl (by first | exact Or.inl rfl | exact Or.inr rfl)) | `($a || $b) => `(@Sv _ _ _ _ _ _ _ _ _ $a $b) | `($a && $b) => `(@Rv _ _ _ _ _ _ _ _ _ $a $b) | `(⇑$a) => `(@HS _ _ _ _ _ _ (@Ca _ _ _ _ _ _ Ki $a (fun _ => rfl))) | `(↥$a) => `(@Wv _ _ _ _ _ $a)
local macro_rules (kind := «term{_}») | `({$a, $b, $c}) => `(@SM _ _ _ _ _ _ _ _ _ _ $a $b $c) | `({$a, $b}) => `(@SM _ _ _ _ _ _ _ _ _ _ $a $b Ng)
set_option hygiene false in
local macro_rules | `($a == $b)=>`(@h_ _ _ _ _ _ _ _ _ _ _ _ (zI hr.units) E5 $a $b (j7 _)) | `($a != $b)=>`(@h_ _ _ _ _ _ _ _ _ _ _ _ (PZ hr.units) TR $a $b (j7 _)) | `(‹$a›)=>`(bB vK Ie rfl T.tuple PyProof.Rows.boot_tuple (@fu _ _ _ _ _ _ _ $a ai rfl)) | `($a⁻¹)=>`(m3 JK Kd rfl T.len PySem.boot_len (@fu _ _ _ _ _ _ _ $a ai rfl)) | `($a ∘ $b)=>`(Vz $a hr $b (by repeat (first | exact aM | apply aC))) | `($a ∣ $b)=>`(SE fl pl $a hr $b (by repeat (first | exact aM | apply aC))) | `(#[$a,$b,$c,$d])=>`(Has P w K mg base g $a $b $c $d) | `(%[$a,$b,$c | $d])=>`(RE P w K mg base g $a $b $c $d) | `(tactic| exists $d,$n)=>`(tactic| refine Ql $d (N:=$n) (fsc ⟨rfl,rfl,rfl⟩ (by decide +kernel)) (by first | exact bd1 fun _ _ _ _ _ _ _=>rfl | exact bd2 fun _ _ _ _ _ _ _ _=>rfl | exact bd3 fun _ _ _ _ _ _ _ _ _=>rfl) fun nd f cdv A outer s H E hr=>?_) | `(tactic| exists $d,$n,$x)=>`(tactic| refine U2 $d (N:=$n) (fsc ⟨rfl,rfl,rfl⟩ (by decide +kernel)) (by first | exact bd1 fun _ _ _ _ _ _ _=>rfl | exact bd2 fun _ _ _ _ _ _ _ _=>rfl | exact bd3 fun _ _ _ _ _ _ _ _ _=>rfl) fun nd f cdv A outer s H E hr fl pl po=>?_) | `(#[$n,$i,$x,$s,$c,$e])=>`(ni (osc:=aj (au $n)) $i $x rfl rfl rfl rfl (by decide +kernel) ⟨by decide +kernel,by decide +kernel,rfl,by decide +kernel,rfl,by decide +kernel⟩ $s (fun cl C aP a_ fp=>$c) (fun cl C aP a_ fp=>$e)) | `(#[$n,$i,$x,$s,$e])=>`(ni (osc:=aj (au $n)) $i $x rfl rfl rfl rfl (by decide +kernel) ⟨by decide +kernel,by decide +kernel,rfl,by decide +kernel,rfl,by decide +kernel⟩ $s (fun cl C aP a_ fp=>uD) (fun cl C aP a_ fp=>$e))
def pD (D:aK K mg "_law_cell_at" (au 103)) (T:Blt mg) : #["_law_cell_at", 1,["_law_script", "_law_k"],cH]:=by
 exists D,["_law_script", "_law_k"]
 exact{ae 1<(ae 0)⁻¹,!-(ae 0 ^ ae 1)}\/!-aq
def qH (D:aK K mg "_law_pen_of" (au 105)) (T:Blt mg) : #["_law_pen_of", 1,["_law_cell"],c_]:=by
 exists D,["_law_cell", "_law_left"]
 exact 1 >>= m3 (G5 rfl) LR rfl T.max PyProof.Rows.boot_max (ae 0::(aq - ae 0)::ai)\/!-#[ae 1::bB xu Ig rfl T.int aam (@mI _ _ _ _ _ _ _ _ _ _ _ TB Uo (ae 1) (@oF _ _ _ _ _ _ _ _ _ _ _ Nw Qy aq aq) (j7 _)::ai)::ae 1 % aq::ai]
def vP (D:aK K mg "_law_next" (au 104)) (T:Blt mg) : #["_law_next", 1,["_law_seed"],fL]:=by
 exists D,["_law_seed"]
 exact 0 >>= (ae 0++aq) % aq\/!-((ae 0*ae 0++aq*ae 0++aq) % aq)
def wB (D:aK K mg "_law_draw" (au 106)) (T:Blt mg) (gB : #["_law_next", 1,["_law_seed"],fL]) : #["_law_draw", 2,["_law_pen", "_law_many"],bD]:=by
 exists D,["_law_pen", "_law_many", "_law_found"]
 exact{PW.pt (((((ae 0 ^ aq) == aq))&&(@rq _ _ _ _ _ _ (ae 0 ^ aq > aq)))),2 >>= ae 0 ^ aq % ae 1\/EJ (ae 0 ^ aq / ae 1) (ae 0) aq set_list s_\/!-ae 2}\/EJ ((gB ∘ (((gB ∘ (ae 0 ^ aq::ai))++aq)::ai))) (ae 0) aq set_list s_\/!-(ae 0 ^ aq / aq % ae 1)
def my:a9 ["_law_pen", "_law_n", "_law_left"] ["_law_pen", "_law_n"] (aj (au 109)):=fsc ⟨rfl,rfl,rfl⟩ {:_}
def tL (D:aK K mg "_law_order" (au 109)) (T:Blt mg) (df : #["_law_draw", 2,["_law_pen", "_law_many"],bD]) : #["_law_order", 3,["_law_pen", "_law_n"],f7]:=by
 obtain⟨f,fd,hm,F⟩:=D
 refine⟨f,fd,kj (yu F my (fun cdv A outer s H E hr=>?_)),F.kp,F.binds (fun _ _ _ _ _ _ us hl=>Ao hl fun _ _=>rfl),hm,f_ F⟩
 have nd:=my.nd
 exact 2 >>= Ia rfl rfl T.list rfl T.range (ae 1::ai)\/!-‹#[109,[2,0],["_law_place", "_law_left", "_law_pen"],eY rfl T.range (ae 1::ai),kn PySem.F.slot_list_pop PySem.F.type_list_pop Jh QB (ae 1) ((df ∘ (ae 2::(ae 1)⁻¹::ai))::ai)]›
def uo (D:aK K mg "_law_shape" (au 111)) (T:Blt mg) (df : #["_law_draw", 2,["_law_pen", "_law_many"],bD]) (iR : #["_law_order", 3,["_law_pen", "_law_n"],f7]) : #["_law_shape", 4,["_law_pen"],b9]:=by
 exists D,["_law_pen", "_law_way", "_law_n"]
 exact OS (i:=1) (j:=2) rfl nd rfl rfl (~~~((df ∘ (ae 0::aq::ai))::(aq++(df ∘ (ae 0::aq::ai)))::ai))\/{((ae 1) == aq),!-E7 rfl rfl T.tuple rfl T.range (ae 2::ai)}\/{((ae 1) == aq),!-E6 (E7 rfl rfl T.tuple rfl T.range (ae 2::ai))}\/{((ae 1) == aq),!-‹#[111,[2],["_law_place", "_law_n"],eY rfl T.range (ae 2::ai),@jU _ _ _ _ _ _ _ _ _ _ (((ae 0 % aq) == aq)) (ae 0 / aq) (ae 1 - aq - ae 0 / aq)]›}\/!-(iR ∘ (ae 0::ae 2::ai))
def yo:a9 ["self"] ["self"] (aj (kD (au 101) 0)):=fsc ⟨rfl,rfl,rfl⟩ {:_}
def vB (D:MethAt K dM "__init__" "Desk.__init__" (kD (au 101) 0)) (T:Blt mg) (hgo:g=gOf mg) (KL_Desk:qp K mg "Desk" dM ["order", "past"]):rA P w K mg base g dM "__init__" 1 ["self"] cX:=by
 obtain⟨f,fd,hm,F⟩:=D
 refine⟨f,fd,yu F yo (fun cdv A outer s H E hr=>?_),hm,F.binds (fun _ _ _ _ _ _ us hl=>tm hl fun _=>rfl)⟩
 exact(@jo _ _ _ _ _ _ _ (Eh (KL_Desk.g hgo) KL_Desk.cl (KL_Desk.na _ (by decide)) (ae 0) (@Lb _ _ _ _ _ _ _ (@fu _ _ _ _ _ _ _ aq ai rfl)))
   (@km _ _ _ _ _ (Eh (KL_Desk.g hgo) KL_Desk.cl (KL_Desk.na _ (by decide)) (ae 0) (@IV _ _ _ _ _ _ _ _ ai))))
def kG:a9 ["_law_e", "_law_marks"] ["_law_e"] (aj (au 107)):=fsc ⟨rfl,rfl,rfl⟩ {:_}
def n6 (D:aK K mg "_law_kind_of" (au 107)) (T:Blt mg) (hgo:g=gOf mg) (CL:oX K mg):M3 P w K mg base g "_law_kind_of" 1 ["_law_e"] i5:=by
 obtain⟨f,fd,hm,F⟩:=D
 refine⟨f,fd,OZ F kG (fun cdv A outer s H E hr=>?_),F.kp,F.binds (fun _ _ _ _ _ _ us hl=>tm hl fun _=>rfl),hm⟩
 have nd:=kG.nd
 exact 1 >>= #[mF CL hgo (ae 0) rfl T.isinstance rfl (by decide)::mF CL hgo (ae 0) rfl T.isinstance rfl (by decide)::mF CL hgo (ae 0) rfl T.isinstance rfl (by decide)::mF CL hgo (ae 0) rfl T.isinstance rfl (by decide)::ai]\/1 >>= ae 1++#[mF CL hgo (ae 0) rfl T.isinstance rfl (by decide)::mF CL hgo (ae 0) rfl T.isinstance rfl (by decide)::mF CL hgo (ae 0) rfl T.isinstance rfl (by decide)::ai]\/{PW.pt (((⇑(Rj CL hgo (ae 0) rfl T.isinstance rfl T.ValueError)) || (@ua _ _ _ _ _ _ (((kn PySem.F.slot_list_count PySem.F.type_list_count GV FR (ae 1) (p8::ai)) != aq))))),!-aX}\/!-(#[aX::aX::aX::aX::aX::aX::aX::ai] ^ kn PySem.F.slot_list_index PySem.F.type_list_index F7 G9 (ae 1) (p8::ai))
def kE:a9 ["_law_e", "_law_kind"] ["_law_e"] (aj (au 108)):=fsc ⟨rfl,rfl,rfl⟩ {:_}
def nW (D:aK K mg "_law_refused" (au 108)) (T:Blt mg) (hgo:g=gOf mg) (n9:CIm K mg "NoText" (au 7) ["row"]) (cw:CIm K mg "TooGreat" (au 8) ["many", "most"]) (gu:M3 P w K mg base g "_law_kind_of" 1 ["_law_e"] i5):M3 P w K mg base g "_law_refused" 2 ["_law_e"] eB:=by
 obtain⟨f,fd,hm,F⟩:=D
 obtain⟨Gw,Ex,pf,oj,nZ,oh⟩:=gu
 refine⟨f,fd,OZ F kE (fun cdv A outer s H E hr=>?_),F.kp,F.binds (fun _ _ _ _ _ _ us hl=>tm hl fun _=>rfl),hm⟩
 have nd:=kE.nd
 exact 1 >>= Jf (pf.mono (by decide)) hr rfl oh oj nZ (ae 0::ai) (aC aM)\/{((ae 1) == aX),!-~~~(ae 1::yq (ae 0) n9 hgo (by decide)::ai)}\/!-@jU _ _ _ _ _ _ _ _ _ _ (((ae 1) == aX)) (~~~(ae 1::yq (ae 0) cw hgo (by decide)::yq (ae 0) cw hgo (by decide)::ai)) (~~~(ae 1::ai))
def qP (D:aK K mg "number_read" (au 65)) (T:Blt mg){lz:Tok} (iU:mg "MOST_FIGURES" = ξ (.int 20 lz)) : #["number_read", 1,["word"],jF]:=by
 exists D,["word"]
 exact{PW.pt (((⇑(Eo PySem.F.slot_str_isascii PySem.F.type_str_isascii C6 IG (ae 0))) || (((⇑(Eo PySem.F.slot_str_isdigit PySem.F.type_str_isdigit C7 IG (ae 0))) || (@ua _ _ _ _ _ _ ((ae 0)⁻¹ > f9 rfl iU)))))),!-Cs}\/{PW.pt (((((@OY _ _ _ _ _ _ _ _ _ _ Kj QK (ae 0) aq (fun _ _=>rfl)) == aX))&&(@rq _ _ _ _ _ _ ((ae 0)⁻¹ > aq)))),!-Cs}\/!-bB GC Nv rfl T.int aam (ae 0::ai)
def sG (D:aK K mg "word_known" (au 98)) (T:Blt mg) (hgo:g=gOf mg){zi:Tok} (n8:mg "UNDO" = ξ (.str "undo" zi)){a_NUMBER_DEEDS:XW} (GT_NUMBER_DEEDS:j6 K g "NUMBER_DEEDS" cQ) (gm_NUMBER_DEEDS:mg "NUMBER_DEEDS" = ξ (.ref a_NUMBER_DEEDS)) (gg_NUMBER_DEEDS:g "NUMBER_DEEDS" = ξ a_NUMBER_DEEDS){a_PLAIN_DEEDS:XW} (GT_PLAIN_DEEDS:j6 K g "PLAIN_DEEDS" cF) (gm_PLAIN_DEEDS:mg "PLAIN_DEEDS" = ξ (.ref a_PLAIN_DEEDS)) (gg_PLAIN_DEEDS:g "PLAIN_DEEDS" = ξ a_PLAIN_DEEDS){a_QUESTIONS:XW} (GT_QUESTIONS:j6 K g "QUESTIONS" bc) (gm_QUESTIONS:mg "QUESTIONS" = ξ (.ref a_QUESTIONS)) (gg_QUESTIONS:g "QUESTIONS" = ξ a_QUESTIONS) : #["word_known", 1,["word"],j2]:=by
 exists D,["word"]
 exact !-@Lp _ _ _ _ _ _ _ _ _ (@mI _ _ _ _ _ _ _ _ _ _ _ (zI hr.units) E5 (ae 0) (AA rfl n8) (j7 _)) (@Lp _ _ _ _ _ _ _ _ _ (@mI _ _ _ _ _ _ _ _ _ _ _ uA (t7 GT_PLAIN_DEEDS) (ae 0) (Bf rfl gm_PLAIN_DEEDS gg_PLAIN_DEEDS) (by rfl)) (@Lp _ _ _ _ _ _ _ _ _ (@mI _ _ _ _ _ _ _ _ _ _ _ uA (t7 GT_NUMBER_DEEDS) (ae 0) (Bf rfl gm_NUMBER_DEEDS gg_NUMBER_DEEDS) (by rfl)) (@zN _ _ _ _ _ _ _ (@mI _ _ _ _ _ _ _ _ _ _ _ uA (t7 GT_QUESTIONS) (ae 0) (Bf rfl gm_QUESTIONS gg_QUESTIONS) (by rfl)))))
def v7 (D:aK K mg "line_read" (au 99)) (T:Blt mg) (hgo:g=gOf mg) (CL:oX K mg){a_NUMBERS_DUE:XW} (GT_NUMBERS_DUE:j6 K g "NUMBERS_DUE" iJ) (gm_NUMBERS_DUE:mg "NUMBERS_DUE" = ξ (.ref a_NUMBERS_DUE)) (gg_NUMBERS_DUE:g "NUMBERS_DUE" = ξ a_NUMBERS_DUE) (g9 : #["number_read", 1,["word"],jF]) (jd : #["word_known", 1,["word"],j2]) : %["line_read", 2,["row"] | fQ]:=by
 obtain⟨A_NoLine,ff⟩:=CL.at_ "NoLine" (by decide)
 exists D,["row", "words", "numbers"],()
 exact{@mq _ _ _ _ _ (⇑(yz (ae 0) rfl T.isinstance rfl T.str rfl)),!m_ fl pl rfl rfl ff (cO hgo ff) ((CL.one _ (by decide) _ ff).2.2 rfl)}\/↥(1 >>= Hz (ae 0) (aX::ai))\/↥(tU (osc:=aj (au 99)) [] ["word"] rfl rfl rfl rfl {:_} ⟨{:_},{:_},rfl,{:_},rfl,{:_}⟩ (@d8 _ _ _ _ _ _ (fW (ae 1) (@fA _ _ _ _ _ aq) lP)) (fun cl C aP a_ fp=>uD) (fun cl C aP a_ fp=>(g9 ∘ (ae 0::ai))) (i:=2) nd rfl)\/{@mq _ _ _ _ _ (PW.pt (((⇑((jd ∘ (ae 1 ^ aq::ai)))) || (((@h_ _ _ _ _ _ _ _ _ _ _ _ xp Ee Cs (ae 2) (by rfl)) || (@ua _ _ _ _ _ _ ((((ae 2)⁻¹) != (IM GT_NUMBERS_DUE rfl ⟨_,gm_NUMBERS_DUE,gg_NUMBERS_DUE⟩ (ae 1 ^ aq) aq ⟨rfl,rfl,rfl,rfl⟩))))))))),!m_ fl pl rfl rfl ff (cO hgo ff) ((CL.one _ (by decide) _ ff).2.2 rfl)}\/!↥(-~~~(ae 1 ^ aq::ae 2::ai))
def ze (D:aK K mg "is_whole" (au 10)) (T:Blt mg) : #["is_whole", 1,["thing"],kx]:=by
 exists D,["thing"]
 exact !-@Iw _ _ _ _ _ _ _ _ _ (yz (ae 0) rfl T.isinstance rfl T.int aam) (@zN _ _ _ _ _ _ _ (@Pf _ _ _ _ _ _ (yz (ae 0) rfl T.isinstance rfl T.bool PyProof.Rows.boot_bool)))
def vj (D:aK K mg "is_within" (au 11)) (T:Blt mg) (kh : #["is_whole", 1,["thing"],kx]) : #["is_within", 2,["thing", "least", "most"],dA]:=by
 exists D,["thing", "least", "most"]
 exact !-@Iw _ _ _ _ _ _ _ _ _ ((kh ∘ (ae 0::ai))) (@zN _ _ _ _ _ _ _ (Lg xl xl xC xC (ae 1) (ae 0) (ae 2)))
def uK:a9 ["thing", "number"] ["thing"] (aj (au 15)):=fsc ⟨rfl,rfl,rfl⟩ {:_}
def uh (D:aK K mg "order_good" (au 15)) (T:Blt mg){fT:Tok} (cK:mg "MOST_NUMBERS" = ξ (.int 20 fT)) (dZ : #["is_within", 2,["thing", "least", "most"],dA]) : #["order_good", 3,["thing"],fV]:=by
 refine Sk (Ql D uK (bd1 fun _ _ _ _ _ _ _=>rfl) fun nd f cdv A outer s H E hr=>?_)
 exact{PW.pt (((⇑(yz (ae 0) rfl T.isinstance rfl T.tuple aaT)) || (@ua _ _ _ _ _ _ (@HS _ _ _ _ _ _ (Al xl xl xC xC aq ((ae 0)⁻¹) (f9 rfl cK)))))),!-p8}\/jN Yu rfl (@d8 _ _ _ _ _ _ (ae 0)) (¬1) gD (!{⇑((dZ ∘ (ae 1::aq::((ae 0)⁻¹ - aq)::ai))),!-p8})\/!-@mI _ _ _ _ _ _ _ _ _ _ _ (zI hr.units) E5 ((bB (yj rfl) Pa rfl T.set PyProof.Rows.boot_set (ae 0::ai))⁻¹) ((ae 0)⁻¹) (j7 _)
def oz (D:aK K mg "order_needed" (au 16)) (T:Blt mg) (hgo:g=gOf mg) (CL:oX K mg) (iO : #["order_good", 3,["thing"],fV]) : %["order_needed", 4,["thing"] | ax]:=by
 obtain⟨A_NoOrder,pA⟩:=CL.at_ "NoOrder" (by decide)
 exists D,["thing"],()
 exact !{@mq _ _ _ _ _ (⇑((iO ∘ (ae 0::ai)))),!m_ fl pl rfl rfl pA (cO hgo pA) ((CL.one _ (by decide) _ pA).2.2 rfl)}
def qm (D:aK K mg "order_shown" (au 64)) (T:Blt mg) (ao : %["order_needed", 4,["thing"] | ax]) : %["order_shown", 5,["order"] | gC]:=by
 exists D,["order"],()
 exact b_ ((ao ∣ (↑(ae 0)::ai)))\/!↥(-@oH _ _ _ _ _ _ _ _ _ _ _ _ _ _ Zo Zp lV lQ aX (#[64,[],["number"],@d8 _ _ _ _ _ _ (ae 0),bB cD d_ rfl T.str rfl (ae 0::ai)]::ai) (by rfl) (by rfl) (by rfl) (by rfl) (by rfl))
def sO (D:aK K mg "shown_told" (au 87)) (T:Blt mg) (gS : %["order_shown", 5,["order"] | gC]) : %["shown_told", 6,["order"] | dQ]:=by
 exists D,["order"],()
 exact !-(gS ∣ (↑(ae 0)::ai))
def qG (D:aK K mg "things_told" (au 75)) (T:Blt mg) : #["things_told", 1,["things"],aG]:=by
 exists D,["things"]
 exact !-@jU _ _ _ _ _ _ _ _ _ _ ((ae 0)⁻¹ > aq) (@oH _ _ _ _ _ _ _ _ _ _ _ _ _ _ Zo Zp lV lQ aX (#[75,[],["thing"],@d8 _ _ _ _ _ _ (ae 0),bB CA HU rfl T.str rfl (ae 0::ai)]::ai) (by rfl) (by rfl) (by rfl) (by rfl) (by rfl)) aX
def zl (D:aK K mg "falls_in" (au 17)) (T:Blt mg) : #["falls_in", 1,["numbers"],bp]:=by
 exists D,["numbers"]
 exact !-‹#[17,[0],["place", "numbers"],eY rfl T.range (((ae 0)⁻¹ - aq)::ai),jy (ae 1 ^ ae 0 > ae 1 ^ (ae 0++aq)),ae 0]›
def xF (D:aK K mg "falls_of" (au 18)) (T:Blt mg) (ao : %["order_needed", 4,["thing"] | ax]) (bf : #["falls_in", 1,["numbers"],bp]) : %["falls_of", 5,["order"] | bu]:=by
 exists D,["order"],()
 exact b_ ((ao ∣ (↑(ae 0)::ai)))\/!↥(-(bf ∘ (ae 0::ai)))
def sJ (D:aK K mg "falls_told" (au 77)) (T:Blt mg) (aw : #["things_told", 1,["things"],aG]) (a8 : %["falls_of", 5,["order"] | bu]) : %["falls_told", 6,["order"] | dC]:=by
 obtain⟨cn,bY,aS,aW,aU,aV,_⟩:=aw
 exists D,["order"],()
 exact !-bO fl pl (lB (aS.mono (by decide))) hr rfl aV aW aU ((a8 ∣ (↑(ae 0)::ai))::ai) (aC aM)
def yh (D:aK K mg "rises_of" (au 19)) (T:Blt mg) (ao : %["order_needed", 4,["thing"] | ax]) : %["rises_of", 5,["order"] | dG]:=by
 exists D,["order"],()
 exact b_ ((ao ∣ (↑(ae 0)::ai)))\/!↥(-‹#[19,[0],["place", "order"],eY rfl T.range (((ae 0)⁻¹ - aq)::ai),jy (ae 1 ^ ae 0<ae 1 ^ (ae 0++aq)),ae 0]›)
def tW (D:aK K mg "rises_told" (au 78)) (T:Blt mg) (aw : #["things_told", 1,["things"],aG]) (eT : %["rises_of", 5,["order"] | dG]) : %["rises_told", 6,["order"] | dH]:=by
 obtain⟨cn,bY,aS,aW,aU,aV,_⟩:=aw
 exists D,["order"],()
 exact !-bO fl pl (lB (aS.mono (by decide))) hr rfl aV aW aU ((eT ∣ (↑(ae 0)::ai))::ai) (aC aM)
def yS (D:aK K mg "lifts_of" (au 59)) (T:Blt mg) (ao : %["order_needed", 4,["thing"] | ax]) : %["lifts_of", 5,["order"] | dB]:=by
 exists D,["order"],()
 exact b_ ((ao ∣ (↑(ae 0)::ai)))\/!↥(-‹AI (osc:=aj (au 59)) [] ["place", "number"] rfl rfl rfl rfl {:_} ⟨{:_},{:_},rfl,{:_},{:_}⟩ (rj rfl T.enumerate (ae 0)) (fun cl C aP a_ fp=>⟨acL rfl,rfl⟩) (fun cl C aP a_ fp=>⟨acL rfl,rfl⟩) (fun cl C aP a_ fp=>jy (ae 1 > ae 0)) (fun cl C aP a_ fp=>ae 0)›)
def rB (D:aK K mg "lifts_told" (au 79)) (T:Blt mg) (aw : #["things_told", 1,["things"],aG]) (eV : %["lifts_of", 5,["order"] | dB]) : %["lifts_told", 6,["order"] | dE]:=by
 obtain⟨cn,bY,aS,aW,aU,aV,_⟩:=aw
 exists D,["order"],()
 exact !-bO fl pl (lB (aS.mono (by decide))) hr rfl aV aW aU ((eV ∣ (↑(ae 0)::ai))::ai) (aC aM)
def zg (D:aK K mg "drops_of" (au 60)) (T:Blt mg) (ao : %["order_needed", 4,["thing"] | ax]) : %["drops_of", 5,["order"] | dO]:=by
 exists D,["order"],()
 exact b_ ((ao ∣ (↑(ae 0)::ai)))\/!↥(-‹AI (osc:=aj (au 60)) [] ["place", "number"] rfl rfl rfl rfl {:_} ⟨{:_},{:_},rfl,{:_},{:_}⟩ (rj rfl T.enumerate (ae 0)) (fun cl C aP a_ fp=>⟨acL rfl,rfl⟩) (fun cl C aP a_ fp=>⟨acL rfl,rfl⟩) (fun cl C aP a_ fp=>jy (ae 1<ae 0)) (fun cl C aP a_ fp=>ae 0)›)
def t_ (D:aK K mg "drops_told" (au 80)) (T:Blt mg) (aw : #["things_told", 1,["things"],aG]) (eS : %["drops_of", 5,["order"] | dO]) : %["drops_told", 6,["order"] | dN]:=by
 obtain⟨cn,bY,aS,aW,aU,aV,_⟩:=aw
 exists D,["order"],()
 exact !-bO fl pl (lB (aS.mono (by decide))) hr rfl aV aW aU ((eS ∣ (↑(ae 0)::ai))::ai) (aC aM)
def qx (D:aK K mg "still_spots" (au 33)) (T:Blt mg) (a8 : %["falls_of", 5,["order"] | bu]) : %["still_spots", 6,["order"] | bh]:=by
 exists D,["order"],()
 exact !-(‹IT (osc:=aj (au 33)) [] ["place"] rfl rfl rfl {:_} ⟨{:_},{:_},rfl,{:_},rfl,{:_}⟩ (@d8 _ _ _ _ _ _ ((a8 ∣ (↑(ae 0)::ai)))) (fun cl C aP a_ fp=>uD) (fun cl C aP a_ fp=>ae 0++aq)›++↑(~~~((ae 0)⁻¹::ai)))
def rV (D:aK K mg "still_told" (au 81)) (T:Blt mg) (aw : #["things_told", 1,["things"],aG]) (aY : %["still_spots", 6,["order"] | bh]) : %["still_told", 7,["order"] | dJ]:=by
 obtain⟨cn,bY,aS,aW,aU,aV,_⟩:=aw
 exists D,["order"],()
 exact !-bO fl pl (lB (aS.mono (by decide))) hr rfl aV aW aU ((aY ∣ (↑(ae 0)::ai))::ai) (aC aM)
def we (D:aK K mg "new_spots" (au 34)) (T:Blt mg) (aY : %["still_spots", 6,["order"] | bh]) : %["new_spots", 7,["order"] | bJ]:=by
 exists D,["order", "still"],()
 exact 1 >>= (aY ∣ (↑(ae 0)::ai))\/!↥(-‹#[34,[1],["spot", "still"],eY rfl T.range ((ae 0)⁻¹::ai),jy (@h_ _ _ _ _ _ _ _ _ _ _ _ nP Ee (ae 0) (ae 1) (by rfl)),ae 0]›)
def yr (D:aK K mg "new_told" (au 82)) (T:Blt mg) (aw : #["things_told", 1,["things"],aG]) (bF : %["new_spots", 7,["order"] | bJ]) : %["new_told", 8,["order"] | fG]:=by
 obtain⟨cn,bY,aS,aW,aU,aV,_⟩:=aw
 exists D,["order"],()
 exact !-bO fl pl (lB (aS.mono (by decide))) hr rfl aV aW aU ((bF ∣ (↑(ae 0)::ai))::ai) (aC aM)
def qF (D:aK K mg "groups_told" (au 76)) (T:Blt mg) (aw : #["things_told", 1,["things"],aG]) : #["groups_told", 2,["groups"],dh]:=by
 exists D,["groups"]
 exact !-(aw ∘ (#[76,[],["group"],@d8 _ _ _ _ _ _ (ae 0),@oH _ _ _ _ _ _ _ _ _ _ _ _ _ _ Zo Zp lV lQ aX (ni (osc:=R8 _ (aj (au 76))) [] ["number"] rfl rfl rfl rfl {:_} ⟨{:_},{:_},rfl,{:_},rfl,{:_}⟩ (@d8 _ _ _ _ _ _ (ae 0)) (fun cl C aP a_ fp=>uD) (fun cl C aP a_ fp=>bB cD d_ rfl T.str rfl (ae 0::ai))::ai) (by rfl) (by rfl) (by rfl) (by rfl) (by rfl)]::ai))
def sY:a9 ["order", "ends", "runs", "start", "end"] ["order"] (aj (au 24)):=fsc ⟨rfl,rfl,rfl⟩ {:_}
def A9 (D:aK K mg "runs_of" (au 24)) (T:Blt mg) (a8 : %["falls_of", 5,["order"] | bu]) : %["runs_of", 6,["order"] | eW]:=by
 obtain⟨f,fd,hm,F⟩:=D
 refine⟨f,fd,kj (sX F sY (fun cdv A outer s H E hr fl pl po=>?_)),F.kp,F.binds (fun _ _ _ _ _ _ us hl=>tm hl fun _=>rfl),hm⟩
 have nd:=sY.nd
 exact 1 >>= bB (bU.frz zK) Ma rfl T.list PyProof.Rows.boot_list ((a8 ∣ (↑(ae 0)::ai))::ai)++↑#[((ae 0)⁻¹ - aq)::ai]\/↥(2 >>= #[ai])\/↥(3 >>= aq)\/↥(jN Yu rfl (@d8 _ _ _ _ _ _ (ae 1)) (¬4) gD (b_ (kn Y0 Y1 fM iw (ae 2) (fW (ae 0) (@fA _ _ _ _ _ (ae 3)) (@fA _ _ _ _ _ (ae 4++aq))::ai))\/!3 >>= ae 4++aq))\/!↥(-ae 2)
def uI (D:aK K mg "runs_told" (au 83)) (T:Blt mg) (cP : #["groups_told", 2,["groups"],dh]) (fO : %["runs_of", 6,["order"] | eW]) : %["runs_told", 7,["order"] | eM]:=by
 obtain⟨qC,o9,ie,ic,g_,hJ,_⟩:=cP
 exists D,["order"],()
 exact !-bO fl pl (lB (ie.mono (by decide))) hr rfl hJ ic g_ ((fO ∣ (↑(ae 0)::ai))::ai) (aC aM)
def mz:a9 ["order", "first", "found"] ["order", "first"] (aj (au 58)):=fsc ⟨rfl,rfl,rfl⟩ {:_}
def tf (D:aK K mg "round_from" (au 58)) (T:Blt mg) : #["round_from", 1,["order", "first"],eR]:=by
 obtain⟨f,fd,hm,F⟩:=D
 refine⟨f,fd,PM (kj (yu F mz (fun cdv A outer s H E hr=>?_))),F.kp,F.binds (fun _ _ _ _ _ _ us hl=>Ao hl fun _ _=>rfl),hm,f_ F⟩
 have nd:=mz.nd
 exact 2 >>= #[ae 1::ai]\/@EM _ _ _ _ _ _ _ _ 64 Yu (((ae 0 ^ ae 2 ^ @pP _ _ _ _ _ _ _ _ _ ku lb aq) != (ae 1))) (!b_ (kn Y0 Y1 fM iw (ae 2) (ae 0 ^ ae 2 ^ @pP _ _ _ _ _ _ _ _ _ ku lb aq::ai)))\/!-‹ae 2›
def nO:a9 ["order", "rounds", "seen", "place", "found", "one"] ["order"] (aj (au 57)):=fsc ⟨rfl,rfl,rfl⟩ {:_}
def vQ (D:aK K mg "rounds_of" (au 57)) (T:Blt mg) (ao : %["order_needed", 4,["thing"] | ax]) (iS : #["round_from", 1,["order", "first"],eR]) : %["rounds_of", 5,["order"] | cY]:=by
 obtain⟨f,fd,hm,F⟩:=D
 refine⟨f,fd,kj (sX F nO (fun cdv A outer s H E hr fl pl po=>?_)),F.kp,F.binds (fun _ _ _ _ _ _ us hl=>tm hl fun _=>rfl),hm⟩
 have nd:=nO.nd
 exact b_ ((ao ∣ (↑(ae 0)::ai)))\/↥(1 >>= #[ai])\/↥(2 >>= MQ rfl T.set)\/↥(jN Yu rfl (Me rfl T.range (((ae 0)⁻¹ - aq)::@pP _ _ _ _ _ _ _ _ _ ku lb aq::@pP _ _ _ _ _ _ _ _ _ ku lb aq::ai)) (¬3) gD (!{@h_ _ _ _ _ _ _ _ _ _ _ _ FK QM (ae 3) (ae 2) (by rfl),4 >>= (iS ∘ (ae 0::ae 3::ai))\/b_ (kn Y0 Y1 fM iw (ae 1) (ae 4::ai))\/!jN Yu rfl (@d8 _ _ _ _ _ _ (ae 4)) (¬5) gD (!b_ (Qp PySem.F.slot_set_add PySem.F.type_set_add PU M_ (ae 2) (ae 5::ai)))}))\/!↥(-E6 (ae 1))
def qJ (D:aK K mg "rounds_told" (au 84)) (T:Blt mg) (cP : #["groups_told", 2,["groups"],dh]) (d5 : %["rounds_of", 5,["order"] | cY]) : %["rounds_told", 6,["order"] | de]:=by
 obtain⟨qC,o9,ie,ic,g_,hJ,_⟩:=cP
 exists D,["order"],()
 exact !-bO fl pl (lB (ie.mono (by decide))) hr rfl hJ ic g_ ((d5 ∣ (↑(ae 0)::ai))::ai) (aC aM)
def qy (D:aK K mg "upto_number" (au 36)) (T:Blt mg) : #["upto_number", 1,["order", "most"],bN]:=by
 exists D,["order", "most"]
 exact !-‹#[36,[1],["number", "most"],@d8 _ _ _ _ _ _ (ae 0),jy (ae 0<=ae 1),ae 0]›
def Bv (D:aK K mg "code_of" (au 35)) (T:Blt mg) (ao : %["order_needed", 4,["thing"] | ax]) (cR : #["upto_number", 1,["order", "most"],bN]) : %["code_of", 5,["order"] | eP]:=by
 exists D,["order"],()
 exact b_ ((ao ∣ (↑(ae 0)::ai)))\/!↥(-‹#[35,[0],["number", "order"],eY rfl T.range ((ae 0)⁻¹::ai),tT Zt Zu jY jV ((cR ∘ (ae 1::ae 0::ai))) (ae 0::ai)]›)
def vJ (D:aK K mg "code_told" (au 85)) (T:Blt mg) (aw : #["things_told", 1,["things"],aG]) (fH : %["code_of", 5,["order"] | eP]) : %["code_told", 6,["order"] | eA]:=by
 obtain⟨cn,bY,aS,aW,aU,aV,_⟩:=aw
 exists D,["order"],()
 exact !-bO fl pl (lB (aS.mono (by decide))) hr rfl aV aW aU ((fH ∣ (↑(ae 0)::ai))::ai) (aC aM)
def Ax (D:aK K mg "path_of" (au 37)) (T:Blt mg) (ao : %["order_needed", 4,["thing"] | ax]) (bf : #["falls_in", 1,["numbers"],bp]) (cR : #["upto_number", 1,["order", "most"],bN]) : %["path_of", 5,["order"] | eQ]:=by
 exists D,["order"],()
 exact b_ ((ao ∣ (↑(ae 0)::ai)))\/!↥(-‹#[37,[0],["number", "order"],eY rfl T.range ((ae 0)⁻¹::ai),((bf ∘ ((cR ∘ (ae 1::ae 0::ai))::ai)))⁻¹]›)
def vE (D:aK K mg "path_told" (au 86)) (T:Blt mg) (aw : #["things_told", 1,["things"],aG]) (fR : %["path_of", 5,["order"] | eQ]) : %["path_told", 6,["order"] | eD]:=by
 obtain⟨cn,bY,aS,aW,aU,aV,_⟩:=aw
 exists D,["order"],()
 exact !-bO fl pl (lB (aS.mono (by decide))) hr rfl aV aW aU ((fR ∣ (↑(ae 0)::ai))::ai) (aC aM)
def rT (D:aK K mg "falls_many" (au 20)) (T:Blt mg) (a8 : %["falls_of", 5,["order"] | bu]) : %["falls_many", 6,["order"] | bj]:=by
 exists D,["order"],()
 exact !-((a8 ∣ (↑(ae 0)::ai)))⁻¹
def vD (D:aK K mg "many_told" (au 88)) (T:Blt mg) (bS : %["falls_many", 6,["order"] | bj]) : %["many_told", 7,["order"] | eN]:=by
 exists D,["order"],()
 exact !-bB cD d_ rfl T.str rfl ((bS ∣ (↑(ae 0)::ai))::ai)
def nA (D:aK K mg "number_needed" (au 12)) (T:Blt mg) (hgo:g=gOf mg) (CL:oX K mg) (dZ : #["is_within", 2,["thing", "least", "most"],dA]) : %["number_needed", 3,["thing", "least", "most"] | bC]:=by
 obtain⟨A_NoNumber,mU⟩:=CL.at_ "NoNumber" (by decide)
 exists D,["thing", "least", "most"],()
 exact !{@mq _ _ _ _ _ (⇑((dZ ∘ (ae 0::ae 1::ae 2::ai)))),!m_ fl pl rfl rfl mU (cO hgo mU) ((CL.one _ (by decide) _ mU).2.2 rfl)}
def mO (D:aK K mg "numbers_needed" (au 30)) (T:Blt mg){jl:Tok} (eG:mg "MOST_ROWS" = ξ (.int 30 jl)) (bq : %["number_needed", 3,["thing", "least", "most"] | bC]) : %["numbers_needed", 4,["n", "k"] | eO]:=by
 exists D,["n", "k"],()
 exact b_ ((bq ∣ (↑(ae 0)::↑aq::↑(f9 rfl eG)::ai)))\/!b_ ((bq ∣ (↑(ae 1)::↑aq::↑(f9 rfl eG)::ai)))
def rL (D:aK K mg "longer_row" (au 27)) (T:Blt mg) : #["longer_row", 1,["row"],eU]:=by
 exists D,["row", "n", "edged"]
 exact 1 >>= (ae 0)⁻¹++aq\/2 >>= #[aq::ai]++ae 0++#[aq::ai]\/!-#[27,[2,1],["k", "edged", "n"],eY rfl T.range (ae 1::ai),(ae 0++aq)*ae 1 ^ (ae 0++aq)++(ae 2 - ae 0)*ae 1 ^ ae 0]
def Cv (D:aK K mg "row_of" (au 28)) (T:Blt mg){jl:Tok} (eG:mg "MOST_ROWS" = ξ (.int 30 jl)) (bq : %["number_needed", 3,["thing", "least", "most"] | bC]) (iZ : #["longer_row", 1,["row"],eU]) : %["row_of", 4,["n"] | k_]:=by
 exists D,["n", "row"],()
 exact b_ ((bq ∣ (↑(ae 0)::↑aq::↑(f9 rfl eG)::ai)))\/↥(1 >>= #[aq::ai])\/↥(@EM _ _ _ _ _ _ _ _ 64 Yu ((ae 1)⁻¹<ae 0) (!1 >>= (iZ ∘ (ae 1::ai))))\/!↥(-ae 1)
def yZ (D:aK K mg "count_of" (au 29)) (T:Blt mg) (fF : %["numbers_needed", 4,["n", "k"] | eO]) (mM : %["row_of", 4,["n"] | k_]) : %["count_of", 5,["n", "k"] | bQ]:=by
 exists D,["n", "k"],()
 exact b_ ((fF ∣ (↑(ae 0)::↑(ae 1)::ai)))\/!-m3 (GU rfl) QU rfl T.sum PyProof.Rows.boot_sum (fW ((mM ∣ (↑(ae 0)::ai))) (@fA _ _ _ _ _ (↑(ae 1))) (@fA _ _ _ _ _ (↑(ae 1++aq)))::ai)
def tI (D:aK K mg "count_told" (au 89)) (T:Blt mg) (cq : %["count_of", 5,["n", "k"] | bQ]) (bS : %["falls_many", 6,["order"] | bj]) : %["count_told", 7,["order"] | cU]:=by
 exists D,["order"],()
 exact !-bB cD d_ rfl T.str rfl ((cq ∣ (↑((ae 0)⁻¹)::(bS ∣ (↑(ae 0)::ai))::ai))::ai)
def mX (D:aK K mg "listed_needed" (au 44)) (T:Blt mg) (hgo:g=gOf mg) (cw:CIm K mg "TooGreat" (au 8) ["many", "most"]){l_:Tok} (gA:mg "MOST_LISTED" = ξ (.int 12 l_)) (ao : %["order_needed", 4,["thing"] | ax]) : %["listed_needed", 5,["order"] | ck]:=by
 exists D,["order"],()
 exact b_ ((ao ∣ (↑(ae 0)::ai)))\/!{@mq _ _ _ _ _ ((ae 0)⁻¹ > f9 rfl gA),!Bl (k:=0) fl pl rfl rfl cw hgo (hr.mono (by decide)) (by decide) (↑((ae 0)⁻¹)::↑(f9 rfl gA)::ai)}
def rH (D:aK K mg "lower_left" (au 48)) (T:Blt mg) : #["lower_left", 1,["begun"],gf]:=by
 exists D,["begun"]
 exact{(((ae 0)⁻¹) == aq),!-aq}\/!-(ae 0 ^ @pP _ _ _ _ _ _ _ _ _ ku lb aq - (#[48,[0],["number", "begun"],@d8 _ _ _ _ _ _ (ae 0),jy (ae 0<ae 1 ^ @pP _ _ _ _ _ _ _ _ _ ku lb aq),ae 0])⁻¹)
def qj (D:aK K mg "begun_count" (au 47)) (T:Blt mg) (iT : #["lower_left", 1,["begun"],gf]) (bf : #["falls_in", 1,["numbers"],bp]) : #["begun_count", 2,["rests", "k", "begun"],bE]:=by
 exists D,["rests", "k", "begun", "counts", "falls"]
 exact 3 >>= (ae 0 ^ ((ae 0)⁻¹ - aq - (ae 2)⁻¹)) ^ (iT ∘ (ae 2::ai))\/4 >>= ae 1 - ((bf ∘ (ae 2::ai)))⁻¹\/!-@jU _ _ _ _ _ _ _ _ _ _ (Al xl OI xC OM aq (ae 4) ((ae 3)⁻¹)) (ae 3 ^ ae 4) aq
def jc:a9 ["n", "begun", "many_with", "longer"] ["n", "begun", "many_with"] (aj (au 50)):=fsc ⟨rfl,rfl,rfl⟩ {:_}
def qo (D:aK K mg "longer_ones" (au 50)) (T:Blt mg) (bH : #["begun_count", 2,["rests", "k", "begun"],bE]) : #["longer_ones", 4,["n", "begun", "many_with"],dY]:=by
 obtain⟨f,fd,hm,F⟩:=D
 obtain⟨kB,jM,dS,dU,dW,dR,_⟩:=bH
 have TC:∀x np m,mP x=ξ (np,m)->∃f fd ps,mg x=ξ (.ref f)/\cJ P w K mg base CX0 2 f fd ps (spM K g np m)/\X6 K (.ref f)=θ/\Binds K fd ps []:=by
  intro x np m e
  unfold mP at e
  by_cases bw:x="begun_count"
  ·rw[if_pos bw] at e;cases e;rw[bw];exact⟨_,_,_,dR,dS.mono (by decide),dU,dW⟩
  rw[if_neg bw] at e
  cases e
 refine⟨f,fd,yu F jc (fun cdv A outer s H E hr=>?_),F.kp,F.binds (fun _ _ _ _ _ _ us hl=>Mr hl fun _ _ _=>rfl),hm,f_ F⟩
 have nd:=jc.nd
 exact tU (osc:=aj (au 50)) [1] ["number", "begun"] rfl rfl rfl rfl {:_} ⟨{:_},{:_},rfl,{:_},rfl,{:_}⟩ (eY rfl T.range (ae 0::ai)) (fun cl C aP a_ fp=>jy (@h_ _ _ _ _ _ _ _ _ _ _ _ nP Ee (ae 0) (ae 1) (by rfl))) (fun cl C aP a_ fp=>ae 1++~~~(ae 0::ai)) (i:=3) jc.nd rfl\/!-#[50,[2],["one", "many_with"],@d8 _ _ _ _ _ _ (ae 3),jy (uy TC hr (ae 1) (ae 0::ai) (aC aM) > aq),ae 0]
def gY:a9 ["order", "many_with", "number", "place", "longer"] ["order", "many_with"] (aj (au 52)):=fsc ⟨rfl,rfl,rfl⟩ {:_}
def oJ (D:aK K mg "number_among" (au 52)) (T:Blt mg) (g6 : #["longer_ones", 4,["n", "begun", "many_with"],dY]) (bH : #["begun_count", 2,["rests", "k", "begun"],bE]) : #["number_among", 5,["order", "many_with"],eC]:=by
 obtain⟨f,fd,hm,F⟩:=D
 obtain⟨kB,jM,dS,dU,dW,dR,_⟩:=bH
 have TC:∀x np m,mP x=ξ (np,m)->∃f fd ps,mg x=ξ (.ref f)/\cJ P w K mg base CX0 3 f fd ps (spM K g np m)/\X6 K (.ref f)=θ/\Binds K fd ps []:=by
  intro x np m e
  unfold mP at e
  by_cases bw:x="begun_count"
  ·rw[if_pos bw] at e;cases e;rw[bw];exact⟨_,_,_,dR,dS.mono (by decide),dU,dW⟩
  rw[if_neg bw] at e
  cases e
 refine⟨f,fd,yu F gY (fun cdv A outer s H E hr=>?_),F.kp,F.binds (fun _ _ _ _ _ _ us hl=>Ao hl fun _ _=>rfl),hm,f_ F⟩
 have nd:=gY.nd
 exact 2 >>= aq\/jN Yu rfl (eY rfl T.range ((ae 0)⁻¹::ai)) (¬3) gD (!jN Yu rfl (@d8 _ _ _ _ _ _ ((g6 ∘ ((ae 0)⁻¹::fW (ae 0) lP (@fA _ _ _ _ _ (ae 3))::ae 1::ai)))) (¬4) gD (!{ae 4 ^ @pP _ _ _ _ _ _ _ _ _ ku lb aq<ae 0 ^ ae 3,!Te (i:=2) gY.nd rfl (by first | exact acL rfl | exact ada rfl) (uy TC hr (ae 1) (ae 4::ai) (aC aM)) Jw Ke}))\/!-ae 2
def tB:a9 ["fewer", "lower", "counts", "rank", "rest", "fall", "falls", "many"] ["fewer", "lower"] (aj (au 46)):=fsc ⟨rfl,rfl,rfl⟩ {:_}
def qh (D:aK K mg "rest_counts" (au 46)) (T:Blt mg) : #["rest_counts", 1,["fewer", "lower"],cZ]:=by
 refine Sk (Ql D tB (bd2 fun _ _ _ _ _ _ _ _=>rfl) fun nd f cdv A outer s H E hr=>?_)
 exact 2 >>= #[aq::ai]*((ae 0)⁻¹++aq)\/jN Yu rfl (rj rfl T.enumerate (ae 0)) (tV rfl (fq (¬3) (fq (¬4) nD))) zZ (5 >>= @jU _ _ _ _ _ _ _ _ _ _ (ae 3<ae 1) aq aq\/!jN Yu rfl (rj rfl T.enumerate (ae 4)) (tV rfl (fq (¬6) (fq (¬7) nD))) zZ (!LX (ae 2) (ae 6++ae 5) (ae 7)))\/!-ae 2
def p6:a9 ["n", "rests", "left"] ["n"] (aj (au 45)):=fsc ⟨rfl,rfl,rfl⟩ {:_}
def zC (D:aK K mg "rests_of" (au 45)) (T:Blt mg) (gU : #["rest_counts", 1,["fewer", "lower"],cZ]) : #["rests_of", 2,["n"],iV]:=by
 obtain⟨f,fd,hm,F⟩:=D
 refine⟨f,fd,kj (yu F p6 (fun cdv A outer s H E hr=>?_)),F.kp,F.binds (fun _ _ _ _ _ _ us hl=>tm hl fun _=>rfl),hm,f_ F⟩
 have nd:=p6.nd
 exact 1 >>= #[#[#[aq::ai]::ai]::ai]\/jN Yu rfl (D1 rfl T.range (aq::(ae 0++aq)::ai)) (¬2) gD (!b_ (kn Y0 Y1 fM iw (ae 1) (#[45,[1],["lower", "rests"],eY rfl T.range ((ae 2++aq)::ai),(gU ∘ (ae 1 ^ @pP _ _ _ _ _ _ _ _ _ ku lb aq::ae 0::ai))]::ai)))\/!-ae 1
def l8:a9 ["n", "k", "rests"] ["n", "k"] (aj (au 49)):=fsc ⟨rfl,rfl,rfl⟩ {:_}
def uf (D:aK K mg "counter_of" (au 49)) (T:Blt mg) (MK:LS K mg base "counter_of" (au 49)) (j_ : #["rests_of", 2,["n"],iV]) : #["counter_of", 3,["n", "k"],dD]:=by
 obtain⟨f,fd,hm,F⟩:=D
 obtain⟨c,PT,MK⟩:=MK f fd hm F
 refine⟨f,fd,Q_ ((br (au 49)).take 1) "begun_count" "begun" ["rests", "k"] [2,1] F l8 MK rfl (fun _=>rfl) {:_} {:_} rfl ⟨⟨_,_,_,[("rests", _),("k", _)],rfl,rfl⟩,rfl,rfl,rfl,{:_},rfl,rfl,{:_},⟨by decide,by decide⟩,fun _ _ _ _ _=>rfl⟩ (fun cdv A outer s H E hr=>?_),F.kp,F.binds (fun _ _ _ _ _ _ us hl=>Ao hl fun _ _=>rfl),hm,f_ F⟩
 have nd:=l8.nd
 exact !2 >>= (j_ ∘ (ae 0::ai))
def vh (D:aK K mg "number_of" (au 42)) (T:Blt mg) (fY : %["listed_needed", 5,["order"] | ck]) (gv : #["number_among", 5,["order", "many_with"],eC]) (iC : #["counter_of", 3,["n", "k"],dD]) (bf : #["falls_in", 1,["numbers"],bp]) : %["number_of", 6,["order"] | cB]:=by
 exists D,["order"],()
 exact b_ ((fY ∣ (↑(ae 0)::ai)))\/!↥(-(gv ∘ (ae 0::(iC ∘ ((ae 0)⁻¹::((bf ∘ (ae 0::ai)))⁻¹::ai))::ai)))
def qw (D:aK K mg "number_told" (au 90)) (T:Blt mg) (dX : %["number_of", 6,["order"] | cB]) : %["number_told", 7,["order"] | b7]:=by
 exists D,["order"],()
 exact !-bB cD d_ rfl T.str rfl ((dX ∣ (↑(ae 0)::ai))::ai)
def vC (D:aK K mg "kept_many" (au 38)) (T:Blt mg) (cq : %["count_of", 5,["n", "k"] | bQ]) : %["kept_many", 6,["n", "k"] | eL]:=by
 exists D,["n", "k"],()
 exact !-(↑(ae 1++aq)*(cq ∣ (↑(ae 0 - aq)::↑(ae 1)::ai)))
def gZ:a9 ["order", "n", "k", "spot", "fewer", "still"] ["order"] (aj (au 39)):=fsc ⟨rfl,rfl,rfl⟩ {:_}
def nJ (D:aK K mg "drawn_number" (au 39)) : %["drawn_number", (7+0),["order"] | (aI 0)]:=by
 obtain⟨f,fd,hm,F⟩:=D
 exact⟨f,fd,Mq rfl,F.kp,F.binds (fun _ _ _ _ _ _ us hl=>tm hl fun _=>rfl),hm⟩
def nL (D:aK K mg "drawn_number" (au 39)) (T:Blt mg) (ao : %["order_needed", 4,["thing"] | ax]) (bf : #["falls_in", 1,["numbers"],bp]) (aY : %["still_spots", 6,["order"] | bh]) (fj : %["kept_many", 6,["n", "k"] | eL]) (bF : %["new_spots", 7,["order"] | bJ]) (dd:Nat) (QY : %["drawn_number", (7+dd),["order"] | (aI dd)]) : %["drawn_number", (7+dd+1),["order"] | (aI (dd+1))]:=by
 rw[eX]
 obtain⟨U_,UE,KC,JZ,Iv,JT⟩:=QY
 obtain⟨f,fd,hm,F⟩:=D
 obtain⟨GQ,DZ,nU,pI,pB,oB⟩:=ao
 obtain⟨Mo,LG,zG,y_,xN,zB,_⟩:=bf
 obtain⟨qE,oY,gR,hV,h9,gQ⟩:=aY
 obtain⟨LD,HD,vO,vI,wz,vd⟩:=fj
 obtain⟨uR,rO,jr,jz,jH,jA⟩:=bF
 refine⟨f,fd,sX F gZ (fun cdv A outer s H E hr fl pl po=>?_),F.kp,F.binds (fun _ _ _ _ _ _ us hl=>tm hl fun _=>rfl),hm⟩
 have nd:=gZ.nd
 exact b_ (bO fl pl (nU.mono (by omega)) hr rfl oB pI pB (↑(ae 0)::ai) (aC aM))\/↥(O5 (i:=1) (j:=2) rfl gZ.nd rfl rfl (by decide) ((ae 0)⁻¹::(cM (zG.mono (by omega)) hr rfl zB y_ xN (ae 0::ai) (aC aM))⁻¹::ai))\/↥({((ae 1) == aq),!-aq})\/↥(3 >>= tT Zt Zu jY jV (ae 0) ((ae 1 - aq)::ai))\/↥(4 >>= fW (ae 0) lP (@fA _ _ _ _ _ (ae 3))++fW (ae 0) (@fA _ _ _ _ _ (ae 3++aq)) lP)\/5 >>= bO fl pl (gR.mono (by omega)) hr rfl gQ hV h9 (↑(ae 4)::ai) (aC aM)\/{@mq _ _ _ _ _ (@h_ _ _ _ _ _ _ _ _ _ _ _ xp Ee (ae 3) (ae 5) (by rfl)),!-(bO fl pl (KC.mono (by omega)) hr rfl JT JZ Iv (↑(ae 4)::ai) (aC aM) * ↑(ae 2++aq)++↑(tT Zt Zu jY jV (ae 5) (ae 3::ai)))}\/!-(bO fl pl (vO.mono (by omega)) hr rfl vd vI wz (↑(ae 1)::↑(ae 2)::ai) (aC (aC aM))++bO fl pl (KC.mono (by omega)) hr rfl JT JZ Iv (↑(ae 4)::ai) (aC aM) * ↑(ae 1 - ae 2)++tT Zt Zu jY jV (bO fl pl (jr.mono (by omega)) hr rfl jA jz jH (↑(ae 4)::ai) (aC aM)) (↑(ae 3)::ai))
def pL (D:aK K mg "drawn_number" (au 39)) (T:Blt mg) (ao : %["order_needed", 4,["thing"] | ax]) (bf : #["falls_in", 1,["numbers"],bp]) (aY : %["still_spots", 6,["order"] | bh]) (fj : %["kept_many", 6,["n", "k"] | eL]) (bF : %["new_spots", 7,["order"] | bJ]) : %["drawn_number", 27,["order"] | (aI 20)]:=by
 have q:∀dd,%["drawn_number", (7+dd),["order"] | (aI dd)]:=fun dd=>by
  induction dd with
  | zero=>exact nJ D
  | succ dd ih=>exact nL D T ao bf aY fj bF dd ih
 exact q 20
def rJ (D:aK K mg "drawn_told" (au 91)) (T:Blt mg) (cE : %["drawn_number", 27,["order"] | (aI 20)]) : %["drawn_told", 28,["order"] | cS]:=by
 exists D,["order"],()
 exact !-bB cD d_ rfl T.str rfl ((cE ∣ (↑(ae 0)::ai))::ai)
def ui (D:aK K mg "odd_places" (au 55)) (T:Blt mg) : #["odd_places", 1,["n"],ir]:=by
 exists D,["n"]
 exact !-J0 rfl rfl T.tuple rfl T.range (aq::(ae 0 - aq)::aq::ai)
def u0 (D:aK K mg "is_zigzag" (au 54)) (T:Blt mg) (a8 : %["falls_of", 5,["order"] | bu]) (iL : #["odd_places", 1,["n"],ir]) : %["is_zigzag", 6,["order"] | cA]:=by
 exists D,["order"],()
 exact !-@mI _ _ _ _ _ _ _ _ _ _ _ (zI hr.units) E5 ((a8 ∣ (↑(ae 0)::ai))) (↑((iL ∘ ((ae 0)⁻¹::ai)))) (j7 _)
def qk (D:aK K mg "zigzag_told" (au 92)) (T:Blt mg) (d7 : %["is_zigzag", 6,["order"] | cA]) : %["zigzag_told", 7,["order"] | cx]:=by
 exists D,["order"],()
 exact !-@jU _ _ _ _ _ _ _ _ _ _ (@Ca _ _ _ _ _ _ Ki ((d7 ∣ (↑(ae 0)::ai))) (fun _=>rfl)) (↑aX) (↑aX)
def nz:a9 ["self"] ["self"] (aj (kD (au 101) 3)):=fsc ⟨rfl,rfl,rfl⟩ {:_}
def mQ (D:MethAt K dM "take_back" "Desk.take_back" (kD (au 101) 3)) (T:Blt mg) (hgo:g=gOf mg) (CL:oX K mg) (KL_Desk:qp K mg "Desk" dM ["order", "past"]):l9 P w K mg base g dM "take_back" 1 ["self"] gw:=by
 obtain⟨f,fd,hm,F⟩:=D
 obtain⟨A_NoLine,ff⟩:=CL.at_ "NoLine" (by decide)
 refine⟨f,fd,sX F nz (fun cdv A outer s H E hr fl pl po=>?_),hm,F.binds (fun _ _ _ _ _ _ us hl=>tm hl fun _=>rfl)⟩
 exact(@jo _ _ _ _ _ _ _ ({@mq _ _ _ _ _ (((m3 JK Kd rfl T.len PySem.boot_len (@fu _ _ _ _ _ _ _ (oA (KL_Desk.g hgo) KL_Desk.cl (KL_Desk.na _ (by decide)) (ae 0)) ai rfl)) == aq)),@km _ _ _ _ _ (m_ fl pl rfl rfl ff (cO hgo ff) ((CL.one _ (by decide) _ ff).2.2 rfl))})
   (@km _ _ _ _ _ (↥(Eh (KL_Desk.g hgo) KL_Desk.cl (KL_Desk.na _ (by decide)) (ae 0) (NJ PySem.F.slot_list_pop PySem.F.type_list_pop PQ Mg (oA (KL_Desk.g hgo) KL_Desk.cl (KL_Desk.na _ (by decide)) (ae 0)))))))
def rZ:a9 ["self", "order"] ["self", "order"] (aj (kD (au 101) 2)):=fsc ⟨rfl,rfl,rfl⟩ {:_}
def qD (D:MethAt K dM "follow" "Desk.follow" (kD (au 101) 2)) (T:Blt mg) (hgo:g=gOf mg) (KL_Desk:qp K mg "Desk" dM ["order", "past"]):rA P w K mg base g dM "follow" 1 ["self", "order"] dg:=by
 obtain⟨f,fd,hm,F⟩:=D
 refine⟨f,fd,yu F rZ (fun cdv A outer s H E hr=>?_),hm,F.binds (fun _ _ _ _ _ _ us hl=>Ao hl fun _ _=>rfl)⟩
 exact(@jo _ _ _ _ _ _ _ (b_ (kn Y0 Y1 fM iw (oA (KL_Desk.g hgo) KL_Desk.cl (KL_Desk.na _ (by decide)) (ae 0)) (@fu _ _ _ _ _ _ _ (oA (KL_Desk.g hgo) KL_Desk.cl (KL_Desk.na _ (by decide)) (ae 0)) ai rfl)))
   (@km _ _ _ _ _ (Eh (KL_Desk.g hgo) KL_Desk.cl (KL_Desk.na _ (by decide)) (ae 0) (ae 1))))
def DO (D:aK K mg "put_in" (au 32)) (T:Blt mg) (hgo:g=gOf mg) (cw:CIm K mg "TooGreat" (au 8) ["many", "most"]){fT:Tok} (cK:mg "MOST_NUMBERS" = ξ (.int 20 fT)) (ao : %["order_needed", 4,["thing"] | ax]) (bq : %["number_needed", 3,["thing", "least", "most"] | bC]) : %["put_in", 5,["order", "spot"] | k8]:=by
 exists D,["order", "spot"],()
 exact b_ ((ao ∣ (↑(ae 0)::ai)))\/b_ ((bq ∣ (↑(ae 1)::↑aq::↑((ae 0)⁻¹)::ai)))\/{@mq _ _ _ _ _ ((((ae 0)⁻¹) == (f9 rfl cK))),!Bl (k:=0) fl pl rfl rfl cw hgo (hr.mono (by decide)) (by decide) (↑((ae 0)⁻¹++aq)::↑(f9 rfl cK)::ai)}\/!↥(-(fW (ae 0) lP (@fA _ _ _ _ _ (ae 1))++~~~((ae 0)⁻¹::ai)++fW (ae 0) (@fA _ _ _ _ _ (ae 1)) lP))
def ym (D:aK K mg "put_deed" (au 73)) (T:Blt mg) (mL : %["put_in", 5,["order", "spot"] | k8]) : %["put_deed", 6,["order", "numbers"] | fC]:=by
 exists D,["order", "numbers"],()
 exact !-(mL ∣ (↑(ae 0)::↑(ae 1 ^ aq)::ai))
def mw:a9 ["order", "word", "numbers", "deed", "numbered"] ["order", "word", "numbers"] (aj (au 100)):=fsc ⟨rfl,rfl,rfl⟩ {:_}
def rG (D:aK K mg "changed_by" (au 100)) (T:Blt mg) (hgo:g=gOf mg){a_NUMBER_DEEDS:XW} (GT_NUMBER_DEEDS:j6 K g "NUMBER_DEEDS" cQ) (gm_NUMBER_DEEDS:mg "NUMBER_DEEDS" = ξ (.ref a_NUMBER_DEEDS)) (gg_NUMBER_DEEDS:g "NUMBER_DEEDS" = ξ a_NUMBER_DEEDS){a_PLAIN_DEEDS:XW} (GT_PLAIN_DEEDS:j6 K g "PLAIN_DEEDS" cF) (gm_PLAIN_DEEDS:mg "PLAIN_DEEDS" = ξ (.ref a_PLAIN_DEEDS)) (gg_PLAIN_DEEDS:g "PLAIN_DEEDS" = ξ a_PLAIN_DEEDS) (bH : #["begun_count", 2,["rests", "k", "begun"],bE]) (ka : %["put_deed", 6,["order", "numbers"] | fC]) : %["changed_by", 7,["order", "word", "numbers"] | gb]:=by
 obtain⟨f,fd,hm,F⟩:=D
 obtain⟨kB,jM,dS,dU,dW,dR,_⟩:=bH
 obtain⟨MP,LB,yY,xG,z_,zD⟩:=ka
 have TE_1:Dz P w K mg base g 6 2 Ah:=by
  intro x m e
  unfold Ah at e
  by_cases j9:x="put_deed"
  ·rw[if_pos j9] at e;cases e;rw[j9];exact⟨_,_,_,cO hgo zD,yY.mono (by decide),xG,z_⟩
  rw[if_neg j9] at e
  cases e
 have TC:∀x np m,mP x=ξ (np,m)->∃f fd ps,mg x=ξ (.ref f)/\cJ P w K mg base CX0 5 f fd ps (spM K g np m)/\X6 K (.ref f)=θ/\Binds K fd ps []:=by
  intro x np m e
  unfold mP at e
  by_cases bw:x="begun_count"
  ·rw[if_pos bw] at e;cases e;rw[bw];exact⟨_,_,_,dR,dS.mono (by decide),dU,dW⟩
  rw[if_neg bw] at e
  cases e
 refine⟨f,fd,sX F mw (fun cdv A outer s H E hr fl pl po=>?_),F.kp,F.binds (fun _ _ _ _ _ _ us hl=>Mr hl fun _ _ _=>rfl),hm⟩
 have nd:=mw.nd
 exact ↥({@h_ _ _ _ _ _ _ _ _ _ _ _ uA (t7 GT_PLAIN_DEEDS) (ae 1) (Bf rfl gm_PLAIN_DEEDS gg_PLAIN_DEEDS) (by rfl),3 >>= Cw GT_PLAIN_DEEDS rfl ⟨_,gm_PLAIN_DEEDS,gg_PLAIN_DEEDS⟩ (ae 1) (fun _ _=>rfl)\/!-uy TC hr (ae 3) (ae 0::ai) (aC aM)})\/↥(4 >>= Cw GT_NUMBER_DEEDS rfl ⟨_,gm_NUMBER_DEEDS,gg_NUMBER_DEEDS⟩ (ae 1) (fun _ _=>rfl))\/!-wW fl pl TE_1 hr (↑(ae 4)) (↑(ae 0)::↑(ae 2)::ai) (aC (aC aM))
def lj:a9 ["self", "row", "word", "numbers", "question"] ["self", "row"] (aj (kD (au 101) 1)):=fsc ⟨rfl,rfl,rfl⟩ {:_}
def yP (D:MethAt K dM "say" "Desk.say" (kD (au 101) 1)) (T:Blt mg) (hgo:g=gOf mg){zi:Tok} (n8:mg "UNDO" = ξ (.str "undo" zi)) (KL_Desk:qp K mg "Desk" dM ["order", "past"]){a_QUESTIONS:XW} (GT_QUESTIONS:j6 K g "QUESTIONS" bc) (gm_QUESTIONS:mg "QUESTIONS" = ξ (.ref a_QUESTIONS)) (gg_QUESTIONS:g "QUESTIONS" = ξ a_QUESTIONS) (jD : %["line_read", 2,["row"] | fQ]) (iX : %["shown_told", 6,["order"] | dQ]) (iQ : %["falls_told", 6,["order"] | dC]) (jf : %["rises_told", 6,["order"] | dH]) (iI : %["lifts_told", 6,["order"] | dE]) (iY : %["drops_told", 6,["order"] | dN]) (iH : %["still_told", 7,["order"] | dJ]) (kz : %["new_told", 8,["order"] | fG]) (jx : %["runs_told", 7,["order"] | eM]) (gX : %["rounds_told", 6,["order"] | de]) (jJ : %["code_told", 6,["order"] | eA]) (jC : %["path_told", 6,["order"] | eD]) (ju : %["many_told", 7,["order"] | eN]) (iM : %["count_told", 7,["order"] | cU]) (hG : %["number_told", 7,["order"] | b7]) (iB : %["drawn_told", 28,["order"] | cS]) (g8 : %["zigzag_told", 7,["order"] | cx]) (fD:l9 P w K mg base g dM "take_back" 1 ["self"] gw) (gO:rA P w K mg base g dM "follow" 1 ["self", "order"] dg) (iy : %["changed_by", 7,["order", "word", "numbers"] | gb]):l9 P w K mg base g dM "say" 29 ["self", "row"] cL:=by
 obtain⟨f,fd,hm,F⟩:=D
 obtain⟨Lz,KP,vM,ve,wj,vq⟩:=jD
 obtain⟨Jm,Hg,sL,tH,tE,tG⟩:=iX
 obtain⟨KU,Hy,uj,rM,tR,uw⟩:=iQ
 obtain⟨IJ,Hv,sD,uc,ud,uH⟩:=jf
 obtain⟨IB,Hi,sA,tQ,tJ,uE⟩:=iI
 obtain⟨Ji,Hd,sU,sF,um,ue⟩:=iY
 obtain⟨Jl,Hu,sZ,sN,t6,tY⟩:=iH
 obtain⟨Nn,LL,zy,yk,xR,xI⟩:=kz
 obtain⟨LI,HB,vN,wq,wF,uM⟩:=jx
 obtain⟨Hw,Fy,qq,qf,qB,qA⟩:=gX
 obtain⟨Lx,Jb,wu,uP,uS,wC⟩:=jJ
 obtain⟨LF,KQ,vY,wa,vx,uY⟩:=jC
 obtain⟨LJ,KN,vR,wd,uW,uQ⟩:=ju
 obtain⟨Iu,Hf,t9,rC,rF,rP⟩:=iM
 obtain⟨Ho,Fw,qt,qO,qg,qK⟩:=hG
 obtain⟨KL,Ht,uF,rY,tS,r_⟩:=iB
 obtain⟨Hc,FY,qr,qN,qM,qv⟩:=g8
 obtain⟨Km,Hr,rX,rS,rW,t5⟩:=iy
 have TE_0:Dz P w K mg base g 28 1 eF:=by
  intro x m e
  unfold eF at e
  by_cases iE:x="shown_told"
  ·rw[if_pos iE] at e;cases e;rw[iE];exact⟨_,_,_,cO hgo tG,sL.mono (by decide),tH,tE⟩
  rw[if_neg iE] at e
  by_cases iP:x="falls_told"
  ·rw[if_pos iP] at e;cases e;rw[iP];exact⟨_,_,_,cO hgo uw,uj.mono (by decide),rM,tR⟩
  rw[if_neg iP] at e
  by_cases i6:x="rises_told"
  ·rw[if_pos i6] at e;cases e;rw[i6];exact⟨_,_,_,cO hgo uH,sD.mono (by decide),uc,ud⟩
  rw[if_neg i6] at e
  by_cases iF:x="lifts_told"
  ·rw[if_pos iF] at e;cases e;rw[iF];exact⟨_,_,_,cO hgo uE,sA.mono (by decide),tQ,tJ⟩
  rw[if_neg iF] at e
  by_cases iD:x="drops_told"
  ·rw[if_pos iD] at e;cases e;rw[iD];exact⟨_,_,_,cO hgo ue,sU.mono (by decide),sF,um⟩
  rw[if_neg iD] at e
  by_cases jb:x="still_told"
  ·rw[if_pos jb] at e;cases e;rw[jb];exact⟨_,_,_,cO hgo tY,sZ.mono (by decide),sN,t6⟩
  rw[if_neg jb] at e
  by_cases kA:x="new_told"
  ·rw[if_pos kA] at e;cases e;rw[kA];exact⟨_,_,_,cO hgo xI,zy.mono (by decide),yk,xR⟩
  rw[if_neg kA] at e
  by_cases jB:x="runs_told"
  ·rw[if_pos jB] at e;cases e;rw[jB];exact⟨_,_,_,cO hgo uM,vN.mono (by decide),wq,wF⟩
  rw[if_neg jB] at e
  by_cases gT:x="rounds_told"
  ·rw[if_pos gT] at e;cases e;rw[gT];exact⟨_,_,_,cO hgo qA,qq.mono (by decide),qf,qB⟩
  rw[if_neg gT] at e
  by_cases jw:x="code_told"
  ·rw[if_pos jw] at e;cases e;rw[jw];exact⟨_,_,_,cO hgo wC,wu.mono (by decide),uP,uS⟩
  rw[if_neg jw] at e
  by_cases jG:x="path_told"
  ·rw[if_pos jG] at e;cases e;rw[jG];exact⟨_,_,_,cO hgo uY,vY.mono (by decide),wa,vx⟩
  rw[if_neg jG] at e
  by_cases jE:x="many_told"
  ·rw[if_pos jE] at e;cases e;rw[jE];exact⟨_,_,_,cO hgo uQ,vR.mono (by decide),wd,uW⟩
  rw[if_neg jE] at e
  by_cases je:x="count_told"
  ·rw[if_pos je] at e;cases e;rw[je];exact⟨_,_,_,cO hgo rP,t9.mono (by decide),rC,rF⟩
  rw[if_neg je] at e
  by_cases hZ:x="number_told"
  ·rw[if_pos hZ] at e;cases e;rw[hZ];exact⟨_,_,_,cO hgo qK,qt.mono (by decide),qO,qg⟩
  rw[if_neg hZ] at e
  by_cases i3:x="drawn_told"
  ·rw[if_pos i3] at e;cases e;rw[i3];exact⟨_,_,_,cO hgo r_,uF.mono (by decide),rY,tS⟩
  rw[if_neg i3] at e
  by_cases h7:x="zigzag_told"
  ·rw[if_pos h7] at e;cases e;rw[h7];exact⟨_,_,_,cO hgo qv,qr.mono (by decide),qN,qM⟩
  rw[if_neg h7] at e
  cases e
 refine⟨f,fd,sX F lj (fun cdv A outer s H E hr fl pl po=>?_),hm,F.binds (fun _ _ _ _ _ _ us hl=>Ao hl fun _ _=>rfl)⟩
 exact(@jo _ _ _ _ _ _ _ (OS (i:=2) (j:=3) rfl lj.nd rfl rfl (bO fl pl (vM.mono (by decide)) hr rfl vq ve wj (@fu _ _ _ _ _ _ _ (@nq _ _ _ _ _ (ae 1)) ai rfl) (aC aM)))
   (@jo _ _ _ _ _ _ _ ({@mq _ _ _ _ _ (@h_ _ _ _ _ _ _ _ _ _ _ _ uA (t7 GT_QUESTIONS) (ae 2) (Bf rfl gm_QUESTIONS gg_QUESTIONS) (by rfl)),@jo _ _ _ _ _ _ _ (↥(@Ov _ _ _ _ _ _ 4 _ _ lj.nd rfl (by first | exact acL rfl | exact ada rfl) (Cw GT_QUESTIONS rfl ⟨_,gm_QUESTIONS,gg_QUESTIONS⟩ (ae 2) (fun _ _=>rfl)) rfl (.inl rfl)))
   (@km _ _ _ _ _ (@JD _ _ _ _ _ _ (wW fl pl TE_0 hr (@nq _ _ _ _ _ (ae 4)) (@fu _ _ _ _ _ _ _ (@nq _ _ _ _ _ (oA (KL_Desk.g hgo) KL_Desk.cl (KL_Desk.na _ (by decide)) (ae 0))) ai rfl) (aC aM))))})
   (@jo _ _ _ _ _ _ _ ({@mq _ _ _ _ _ (((ae 2) == (AA rfl n8))),@km _ _ _ _ _ (b_ (Gz fl pl (KL_Desk.g hgo) KL_Desk.cl (fD.mono (by decide)) hr (@nq _ _ _ _ _ (ae 0)))),@km _ _ _ _ _ (b_ (B7 fl pl (KL_Desk.g hgo) KL_Desk.cl (rA.up (gO.mono (by decide))) hr (@nq _ _ _ _ _ (ae 0)) (@fu _ _ _ _ _ _ _ (bO fl pl (rX.mono (by decide)) hr rfl t5 rS rW (@fu _ _ _ _ _ _ _ (@nq _ _ _ _ _ (oA (KL_Desk.g hgo) KL_Desk.cl (KL_Desk.na _ (by decide)) (ae 0))) (@fu _ _ _ _ _ _ _ (@nq _ _ _ _ _ (ae 2)) (@fu _ _ _ _ _ _ _ (@nq _ _ _ _ _ (ae 3)) ai rfl) rfl) rfl) (aC (aC (aC aM)))) ai rfl) (ln1 (aC aM))))})
   (@km _ _ _ _ _ (↥(@JD _ _ _ _ _ _ aX))))))
def uO (D:aK K mg "_law_said" (au 110)) (T:Blt mg) (hgo:g=gOf mg) (CL:oX K mg) (KL_Desk:qp K mg "Desk" dM ["order", "past"]) (gk:M3 P w K mg base g "_law_refused" 2 ["_law_e"] eB) (ke:l9 P w K mg base g dM "say" 29 ["self", "row"] cL) : #["_law_said", 30,["_law_desk", "_law_row"],bK]:=by
 obtain⟨GR,Ew,oE,pd,pq,n5⟩:=gk
 exists D,["_law_desk", "_law_row", "_law_e"]
 exact !Sw (i:=2) CL hgo ⟨rfl,rfl,rfl⟩ nd rfl rfl rfl rfl (oE.mono (by decide)) (Kr hr) n5 pd pq (fun pn xe E fl pl po=>!-~~~(↑aX::B7 fl pl (KL_Desk.g hgo) KL_Desk.cl (ke.mono (by decide)) hr (↑(ae 0)) (↑(ae 1)::ai) (ln1 (aC aM))::ai))
def vo (D:aK K mg "_law_list" (au 112)) (T:Blt mg) : #["_law_list", 1,["_law_numbers"],aB]:=by
 exists D,["_law_numbers"]
 exact !-PL (@oH _ _ _ _ _ _ _ _ _ _ _ _ _ _ Zo Zp lV lQ aX (#[112,[],["_law_number"],@d8 _ _ _ _ _ _ (ae 0),bB cD d_ rfl T.str rfl (ae 0::ai)]::ai) (by rfl) (by rfl) (by rfl) (by rfl) (by rfl)) (@zN _ _ _ _ _ _ _ aX)
def vt (D:aK K mg "_law_lots" (au 113)) (T:Blt mg) : #["_law_lots", 1,["_law_lots_here"],cj]:=by
 exists D,["_law_lots_here"]
 exact !-@oH _ _ _ _ _ _ _ _ _ _ _ _ _ _ Zo Zp lV lQ aX (#[113,[],["_law_lot"],@d8 _ _ _ _ _ _ (ae 0),@oH _ _ _ _ _ _ _ _ _ _ _ _ _ _ Zo Zp lV lQ aX (ni (osc:=R8 _ (aj (au 113))) [] ["_law_number"] rfl rfl rfl rfl {:_} ⟨{:_},{:_},rfl,{:_},rfl,{:_}⟩ (@d8 _ _ _ _ _ _ (ae 0)) (fun cl C aP a_ fp=>uD) (fun cl C aP a_ fp=>bB cD d_ rfl T.str rfl (ae 0::ai))::ai) (by rfl) (by rfl) (by rfl) (by rfl) (by rfl)]::ai) (by rfl) (by rfl) (by rfl) (by rfl) (by rfl)
def KO:a9 ["_law_script", "_law_cell", "_law_pen", "_law_order_here", "_law_n", "_law_desk", "_law_number", "_law_spot", "_law_due", "_law_turn", "_law_word", "_law_text", "_law_found"] ["_law_script"] (aj (au 114)):=fsc ⟨rfl,rfl,rfl⟩ {:_}
def LQ (D:aK K mg "law" (au 114)) (T:Blt mg) (hgo:g=gOf mg) (KL_Desk:qp K mg "Desk" dM ["order", "past"]) (gp : #["_law_cell_at", 1,["_law_script", "_law_k"],cH]) (gP : #["_law_pen_of", 1,["_law_cell"],c_]) (iA : #["_law_shape", 4,["_law_pen"],b9]) (jI:rA P w K mg base g dM "__init__" 1 ["self"] cX) (fm : #["_law_said", 30,["_law_desk", "_law_row"],bK]) (bG : #["_law_list", 1,["_law_numbers"],aB]) (a8 : %["falls_of", 5,["order"] | bu]) (eT : %["rises_of", 5,["order"] | dG]) (eV : %["lifts_of", 5,["order"] | dB]) (eS : %["drops_of", 5,["order"] | dO]) (aY : %["still_spots", 6,["order"] | bh]) (bF : %["new_spots", 7,["order"] | bJ]) (fH : %["code_of", 5,["order"] | eP]) (fR : %["path_of", 5,["order"] | eQ]) (gE : #["_law_lots", 1,["_law_lots_here"],cj]) (fO : %["runs_of", 6,["order"] | eW]) (d5 : %["rounds_of", 5,["order"] | cY]) (bS : %["falls_many", 6,["order"] | bj]) (cq : %["count_of", 5,["n", "k"] | bQ]) (cE : %["drawn_number", 27,["order"] | (aI 20)]) (d7 : %["is_zigzag", 6,["order"] | cA]) (dX : %["number_of", 6,["order"] | cB]) : #["law", 31,["_law_script"],tu]:=by
 obtain⟨f,fd,hm,F⟩:=D
 obtain⟨L6,LM,yx,yD,yK,zO⟩:=a8
 obtain⟨MV,Ly,ya,x9,zx,zY⟩:=eT
 obtain⟨NC,Lv,ye,zc,yf,zf⟩:=eV
 obtain⟨MW,LN,xH,yw,zA,zJ⟩:=eS
 obtain⟨qE,oY,gR,hV,h9,gQ⟩:=aY
 obtain⟨uR,rO,jr,jz,jH,jA⟩:=bF
 obtain⟨OQ,Mh,B_,Am,Bi,BU⟩:=fH
 obtain⟨OG,Nl,Ad,B5,A3,Bp⟩:=fR
 obtain⟨OL,Oq,AK,BI,As,BZ⟩:=fO
 obtain⟨LA,Jx,wy,uL,vV,vF⟩:=d5
 obtain⟨KD,Hm,lI,ly,lq,lh⟩:=bS
 obtain⟨NB,LH,zh,Aa,yA,za⟩:=cq
 obtain⟨FX,D3,nY,oU,n_,pF⟩:=cE
 obtain⟨LC,K3,wm,vA,vp,v_⟩:=d7
 obtain⟨LK,JX,vH,wc,wo,vX⟩:=dX
 refine⟨f,fd,kj (yu F KO (fun cdv A outer s H E hr=>?_)),F.kp,F.binds (fun _ _ _ _ _ _ us hl=>tm hl fun _=>rfl),hm,f_ F⟩
 have nd:=KO.nd
 exact jN Yu rfl (@d8 _ _ _ _ _ _ (#[(gp ∘ (ae 0::aq::ai))::ai]++fW (ae 0) (@fA _ _ _ _ _ aq) (@fA _ _ _ _ _ aq))) (¬1) gD (2 >>= (gP ∘ (ae 1::ai))\/3 >>= (iA ∘ (ae 2::ai))\/4 >>= (ae 3)⁻¹\/5 >>= IC KL_Desk hgo (jI.mono (by decide)) hr rfl\/jN Yu rfl (D1 rfl T.range (aq::ae 4::ai)) (¬6) gD (7 >>= (#[114,[3,6],["_law_place", "_law_order_here", "_law_number"],eY rfl T.range (tT Zt Zu jY jV (ae 3) (ae 6::ai)::ai),jy (ae 1 ^ ae 0<ae 2),ae 0])⁻¹\/!{(((fm ∘ (ae 5::(aX++bB cD d_ rfl T.str rfl (ae 7::ai))::ai))) != (~~~(aX::aX::ai))),!-p8})\/8 >>= #[~~~(aX::(bG ∘ (ae 3::ai))::ai)::~~~(aX::(bG ∘ (cM (dm (yx.mono (by decide))) hr rfl zO yD yK (ae 3::ai) (aC aM)::ai))::ai)::ai]\/b_ (kn Y0 Y1 fM iw (ae 8) (~~~(aX::(bG ∘ (cM (dm (ya.mono (by decide))) hr rfl zY x9 zx (ae 3::ai) (aC aM)::ai))::ai)::ai))\/8 >>= ae 8++#[~~~(aX::(bG ∘ (cM (dm (ye.mono (by decide))) hr rfl zf zc yf (ae 3::ai) (aC aM)::ai))::ai)::~~~(aX::(bG ∘ (cM (dm (xH.mono (by decide))) hr rfl zJ yw zA (ae 3::ai) (aC aM)::ai))::ai)::ai]\/8 >>= ae 8++#[~~~(aX::(bG ∘ (cM (dm (gR.mono (by decide))) hr rfl gQ hV h9 (ae 3::ai) (aC aM)::ai))::ai)::~~~(aX::(bG ∘ (cM (dm (jr.mono (by decide))) hr rfl jA jz jH (ae 3::ai) (aC aM)::ai))::ai)::ai]\/8 >>= ae 8++#[~~~(aX::(bG ∘ (cM (dm (B_.mono (by decide))) hr rfl BU Am Bi (ae 3::ai) (aC aM)::ai))::ai)::~~~(aX::(bG ∘ (cM (dm (Ad.mono (by decide))) hr rfl Bp B5 A3 (ae 3::ai) (aC aM)::ai))::ai)::ai]\/8 >>= ae 8++#[~~~(aX::(gE ∘ (cM (dm (AK.mono (by decide))) hr rfl BZ BI As (ae 3::ai) (aC aM)::ai))::ai)::~~~(aX::(gE ∘ (cM (dm (wy.mono (by decide))) hr rfl vF uL vV (ae 3::ai) (aC aM)::ai))::ai)::ai]\/8 >>= ae 8++#[~~~(aX::bB cD d_ rfl T.str rfl (cM (dm (lI.mono (by decide))) hr rfl lh ly lq (ae 3::ai) (aC aM)::ai)::ai)::~~~(aX::bB cD d_ rfl T.str rfl (cM (dm (zh.mono (by decide))) hr rfl za Aa yA (ae 4::cM (dm (lI.mono (by decide))) hr rfl lh ly lq (ae 3::ai) (aC aM)::ai) (aC (aC aM))::ai)::ai)::ai]\/8 >>= ae 8++#[~~~(aX::bB cD d_ rfl T.str rfl (cM (dm (nY.mono (by decide))) hr rfl pF oU n_ (ae 3::ai) (aC aM)::ai)::ai)::~~~(aX::#[aX::aX::ai] ^ bB xu Ig rfl T.int aam (cM (dm (wm.mono (by decide))) hr rfl v_ vA vp (ae 3::ai) (aC aM)::ai)::ai)::ai]\/!jN Yu rfl (eY rfl T.range (aq::ai)) (¬9) gD (jN Yu rfl (@d8 _ _ _ _ _ _ (ae 8)) (tV rfl (fq (¬10) (fq (¬11) nD))) zZ (!{(((fm ∘ (ae 5::ae 10::ai))) != (~~~(aX::ae 11::ai))),!-p8})\/12 >>= (fm ∘ (ae 5::aX::ai))\/!{PW.pt (((PW.pt (((ae 4 > aq)&&(@rq _ _ _ _ _ _ (((ae 12) != (~~~(aX::ae 4::aq::ai)))))))) || (@ua _ _ _ _ _ _ (PW.pt (((ae 4<aq)&&(@rq _ _ _ _ _ _ (((ae 12) != (~~~(aX::bB cD d_ rfl T.str rfl (cM (dm (vH.mono (by decide))) hr rfl vX wc wo (ae 3::ai) (aC aM)::ai)::ai))))))))))),!-p8}))\/!-p8
def C_:a9 ["self", "row"] ["self", "row"] (aj (cp (au 7))):=⟨rfl,rfl,rfl,{:_},rfl,{:_},{:_}⟩
def BV:∀y∈(["self", "row"]:List Str),(aj (cp (au 7))).names.lookup y=ξ .local:={:_}
def Ce:kQ (br (cp (au 7))) ["row"]:=kQ.cons rfl (.nil)
def C9:∀(kV doc pm:XI) (an:Option XW) (cdv ct:XI) (us:List XI),us.length=(["self", "row"]:List Str).length->bindArgs (Yz "__init__" "NoText.__init__" (dq (cp (au 7))) (br (cp (au 7))) (aj (cp (au 7))) .none kV doc pm an cdv ct) ⟨us,[]⟩=pure ((["self", "row"]:List Str).zip us):=fun _ _ _ _ _ _ us hl=>Ao hl fun _ _=>rfl
def yi:a9 ["self", "many", "most"] ["self", "many", "most"] (aj (cp (au 8))):=⟨rfl,rfl,rfl,{:_},rfl,{:_},{:_}⟩
def uN:∀y∈(["self", "many", "most"]:List Str),(aj (cp (au 8))).names.lookup y=ξ .local:={:_}
def yR:kQ (br (cp (au 8))) ["many", "most"]:=kQ.cons rfl (kQ.cons rfl (.nil))
def x_:∀(kV doc pm:XI) (an:Option XW) (cdv ct:XI) (us:List XI),us.length=(["self", "many", "most"]:List Str).length->bindArgs (Yz "__init__" "TooGreat.__init__" (dq (cp (au 8))) (br (cp (au 8))) (aj (cp (au 8))) .none kV doc pm an cdv ct) ⟨us,[]⟩=pure ((["self", "many", "most"]:List Str).zip us):=fun _ _ _ _ _ _ us hl=>Mr hl fun _ _ _=>rfl
end
structure Text (K:gV) (ts:List XW):Prop where
 uv:aN K "_law_cell_at" (au 103)
 vL:aN K "_law_pen_of" (au 105)
 Az:aN K "_law_next" (au 104)
 Aq:aN K "_law_draw" (au 106)
 xJ:aN K "_law_order" (au 109)
 xZ:aN K "_law_shape" (au 111)
 sy:aN K "_law_kind_of" (au 107)
 rQ:aN K "_law_refused" (au 108)
 vG:aN K "number_read" (au 65)
 zP:aN K "word_known" (au 98)
 AV:aN K "line_read" (au 99)
 CU:aN K "is_whole" (au 10)
 Br:aN K "is_within" (au 11)
 zq:aN K "order_good" (au 15)
 sx:aN K "order_needed" (au 16)
 wx:aN K "order_shown" (au 64)
 yI:aN K "shown_told" (au 87)
 vg:aN K "things_told" (au 75)
 Dn:aN K "falls_in" (au 17)
 Dv:aN K "falls_of" (au 18)
 xQ:aN K "falls_told" (au 77)
 DF:aN K "rises_of" (au 19)
 yp:aN K "rises_told" (au 78)
 Cz:aN K "lifts_of" (au 59)
 zM:aN K "lifts_told" (au 79)
 Dc:aN K "drops_of" (au 60)
 xV:aN K "drops_told" (au 80)
 wD:aN K "still_spots" (au 33)
 xK:aN K "still_told" (au 81)
 BW:aN K "new_spots" (au 34)
 CS:aN K "new_told" (au 82)
 vy:aN K "groups_told" (au 76)
 G_:aN K "runs_of" (au 24)
 Bk:aN K "runs_told" (au 83)
 zp:aN K "round_from" (au 58)
 Ac:aN K "rounds_of" (au 57)
 u_:aN K "rounds_told" (au 84)
 vz:aN K "upto_number" (au 36)
 Gg:aN K "code_of" (au 35)
 AO:aN K "code_told" (au 85)
 Gy:aN K "path_of" (au 37)
 Bo:aN K "path_told" (au 86)
 zQ:aN K "falls_many" (au 20)
 Ay:aN K "many_told" (au 88)
 qe:aN K "number_needed" (au 12)
 pN:aN K "numbers_needed" (au 30)
 zb:aN K "longer_row" (au 27)
 HK:aN K "row_of" (au 28)
 Ck:aN K "count_of" (au 29)
 yM:aN K "count_told" (au 89)
 qd:aN K "listed_needed" (au 44)
 yG:aN K "lower_left" (au 48)
 uJ:aN K "begun_count" (au 47)
 vZ:aN K "longer_ones" (au 50)
 ug:aN K "number_among" (au 52)
 uT:aN K "rest_counts" (au 46)
 Du:aN K "rests_of" (au 45)
 zL:aN K "counter_of" (au 49)
 BO:aN K "number_of" (au 42)
 vW:aN K "number_told" (au 90)
 Aj:aN K "kept_many" (au 38)
 sE:aN K "drawn_number" (au 39)
 yJ:aN K "drawn_told" (au 91)
 yQ:aN K "odd_places" (au 55)
 AH:aN K "is_zigzag" (au 54)
 uU:aN K "zigzag_told" (au 92)
 Iy:aN K "put_in" (au 32)
 Ci:aN K "put_deed" (au 73)
 zo:aN K "changed_by" (au 100)
 AF:aN K "_law_said" (au 110)
 BY:aN K "_law_list" (au 112)
 BG:aN K "_law_lots" (au 113)
 Sm:aN K "law" (au 114)
 cls:K9 K
 MR:∃C,(X7 K mainGlobals "Desk" = some (some (.ref C))/\K7 K C ["order", "past"]=true)/\MethAt K C "__init__" "Desk.__init__" (kD (au 101) 0)/\MethAt K C "take_back" "Desk.take_back" (kD (au 101) 3)/\MethAt K C "follow" "Desk.follow" (kD (au 101) 2)/\MethAt K C "say" "Desk.say" (kD (au 101) 1)
 wA:∃a,X7 K mainGlobals "NUMBERS_DUE" = some (some (.ref a))/\F9 K a iJ=true
 tD:∃a,X7 K mainGlobals "NUMBER_DEEDS" = some (some (.ref a))/\F9 K a cQ=true
 uX:∃a,X7 K mainGlobals "PLAIN_DEEDS" = some (some (.ref a))/\F9 K a cF=true
 Ba:∃a,X7 K mainGlobals "QUESTIONS" = some (some (.ref a))/\F9 K a bc=true
 Gu:CIs K "NoText" (au 7) ["row"]
 BN:CIs K "TooGreat" (au 8) ["many", "most"]
 yc:X7 K mainGlobals "ValueError" = some none
 Pc:X7 K mainGlobals "bool" = some none
 Ag:X7 K mainGlobals "enumerate" = some none
 TF:X7 K mainGlobals "int" = some none
 zT:X7 K mainGlobals "isinstance" = some none
 Uh:X7 K mainGlobals "len" = some none
 Qz:X7 K mainGlobals "list" = some none
 Ua:X7 K mainGlobals "max" = some none
 M0:X7 K mainGlobals "range" = some none
 TY:X7 K mainGlobals "set" = some none
 SX:X7 K mainGlobals "str" = some none
 TN:X7 K mainGlobals "sum" = some none
 NX:X7 K mainGlobals "tuple" = some none
 i4:∃t,X7 K mainGlobals "MOST_FIGURES" = some (some (aah 20 t))
 jv:∃t,X7 K mainGlobals "MOST_LISTED" = some (some (aah 12 t))
 iK:∃t,X7 K mainGlobals "MOST_NUMBERS" = some (some (aah 20 t))
 lD:∃t,X7 K mainGlobals "MOST_ROWS" = some (some (aah 30 t))
 Di:∃t,X7 K mainGlobals "UNDO" = some (some (abd "undo" t))
 dD:PN K ts "counter_of" (au 49)
section
set_option hygiene false in
local macro_rules | `(‹$f›) => `($f (P := P) (w := w) (base := base) (g := gOf mg))
set_option hygiene false in
local macro_rules | `($f ≍ $d:ident) => `($f (P := P) (w := w) (base := base) (g := gOf mg) (aK.of X G t.$d:ident) T)
def all_mk {P:X5}{w:Yw}{K:gV}{h:Y2}{mg:Str->Option XI}{fa:XW} (X:K.In h) (G:h.Ns mainGlobals mg) (hfa:mg "law" = ξ (.ref fa)){ts:List XW} (hU:mkU K=θ) (t:Text K ts) :
  ∃fd:Zy,(∀(s:XO) (v:XI),acT s fd ⟨[v],[]⟩ [("_law_script", v)])/\∀base:Y2,K.In base->base.Ns mainGlobals mg->(∀P∈ts,base.BuiltinsAt mg P)->cJ P w K mg base CX0 31 fa fd ["_law_script"] (spM K (gOf mg) 1 tu):=by
 have T:Blt mg:=⟨Yp X G t.yc,Yp X G t.Pc,Yp X G t.Ag,Yp X G t.TF,Yp X G t.zT,Yp X G t.Uh,Yp X G t.Qz,Yp X G t.Ua,Yp X G t.M0,Yp X G t.TY,Yp X G t.SX,Yp X G t.TN,Yp X G t.NX⟩
 obtain⟨lz,i4⟩:=t.i4
 have iU:=Zq X G i4
 obtain⟨l_,jv⟩:=t.jv
 have gA:=Zq X G jv
 obtain⟨fT,iK⟩:=t.iK
 have cK:=Zq X G iK
 obtain⟨jl,lD⟩:=t.lD
 have eG:=Zq X G lD
 obtain⟨zi,Di⟩:=t.Di
 have n8:=Zq X G Di
 have SJ:=aK.of X G t.Sm
 have CL:=oX.of X G t.cls
 have n9:=CIm.of X G t.Gu
 have cw:=CIm.of X G t.BN
 obtain⟨dM,kz_Desk,Bh,pH,vS,Dl⟩:=t.MR
 have KL_Desk:=qp.of X G kz_Desk
 obtain⟨a_NUMBERS_DUE,gz_NUMBERS_DUE⟩:=t.wA
 obtain⟨GT_NUMBERS_DUE,gm_NUMBERS_DUE⟩:=j6.of X G gz_NUMBERS_DUE
 obtain⟨b_NUMBERS_DUE,gm_NUMBERS_DUE,gg_NUMBERS_DUE⟩:=gm_NUMBERS_DUE
 obtain⟨a_NUMBER_DEEDS,gz_NUMBER_DEEDS⟩:=t.tD
 obtain⟨GT_NUMBER_DEEDS,gm_NUMBER_DEEDS⟩:=j6.of X G gz_NUMBER_DEEDS
 obtain⟨b_NUMBER_DEEDS,gm_NUMBER_DEEDS,gg_NUMBER_DEEDS⟩:=gm_NUMBER_DEEDS
 obtain⟨a_PLAIN_DEEDS,gz_PLAIN_DEEDS⟩:=t.uX
 obtain⟨GT_PLAIN_DEEDS,gm_PLAIN_DEEDS⟩:=j6.of X G gz_PLAIN_DEEDS
 obtain⟨b_PLAIN_DEEDS,gm_PLAIN_DEEDS,gg_PLAIN_DEEDS⟩:=gm_PLAIN_DEEDS
 obtain⟨a_QUESTIONS,gz_QUESTIONS⟩:=t.Ba
 obtain⟨GT_QUESTIONS,gm_QUESTIONS⟩:=j6.of X G gz_QUESTIONS
 obtain⟨b_QUESTIONS,gm_QUESTIONS,gg_QUESTIONS⟩:=gm_QUESTIONS
 obtain⟨f,fd,hm,F⟩:=SJ
 have e:=hfa.symm.trans hm
 cases e
 refine⟨fd,?_,fun base _ _ hBA=>?_⟩
 ·obtain⟨oc,od,kV,doc,pm,an,cdv,ct,osl,rfl,lk,hcd⟩:=F.ex
  exact fun s v=>.of_eq rfl
 ·have gp:=pD ≍ uv
  have gP:=qH ≍ vL
  have gB:=vP ≍ Az
  have df:=(wB ≍ Aq) gB
  have iR:=(tL ≍ xJ) df
  have iA:=(uo ≍ xZ) df iR
  have jI:=‹vB› Bh T rfl KL_Desk
  have gu:=(n6 ≍ sy) rfl CL
  have gk:=(nW ≍ rQ) rfl n9 cw gu
  have g9:=(qP ≍ vG) iU
  have jd:=(sG ≍ zP) rfl n8 GT_NUMBER_DEEDS gm_NUMBER_DEEDS gg_NUMBER_DEEDS GT_PLAIN_DEEDS gm_PLAIN_DEEDS gg_PLAIN_DEEDS GT_QUESTIONS gm_QUESTIONS gg_QUESTIONS
  have jD:=(v7 ≍ AV) rfl CL GT_NUMBERS_DUE gm_NUMBERS_DUE gg_NUMBERS_DUE g9 jd
  have kh:=ze ≍ CU
  have dZ:=(vj ≍ Br) kh
  have iO:=(uh ≍ zq) cK dZ
  have ao:=(oz ≍ sx) rfl CL iO
  have gS:=(qm ≍ wx) ao
  have iX:=(sO ≍ yI) gS
  have aw:=qG ≍ vg
  have bf:=zl ≍ Dn
  have a8:=(xF ≍ Dv) ao bf
  have iQ:=(sJ ≍ xQ) aw a8
  have eT:=(yh ≍ DF) ao
  have jf:=(tW ≍ yp) aw eT
  have eV:=(yS ≍ Cz) ao
  have iI:=(rB ≍ zM) aw eV
  have eS:=(zg ≍ Dc) ao
  have iY:=(t_ ≍ xV) aw eS
  have aY:=(qx ≍ wD) a8
  have iH:=(rV ≍ xK) aw aY
  have bF:=(we ≍ BW) aY
  have kz:=(yr ≍ CS) aw bF
  have cP:=(qF ≍ vy) aw
  have fO:=(A9 ≍ G_) a8
  have jx:=(uI ≍ Bk) cP fO
  have iS:=tf ≍ zp
  have d5:=(vQ ≍ Ac) ao iS
  have gX:=(qJ ≍ u_) cP d5
  have cR:=qy ≍ vz
  have fH:=(Bv ≍ Gg) ao cR
  have jJ:=(vJ ≍ AO) aw fH
  have fR:=(Ax ≍ Gy) ao bf cR
  have jC:=(vE ≍ Bo) aw fR
  have bS:=(rT ≍ zQ) a8
  have ju:=(vD ≍ Ay) bS
  have bq:=(nA ≍ qe) rfl CL dZ
  have fF:=(mO ≍ pN) eG bq
  have iZ:=rL ≍ zb
  have mM:=(Cv ≍ HK) eG bq iZ
  have cq:=(yZ ≍ Ck) fF mM
  have iM:=(tI ≍ yM) cq bS
  have fY:=(mX ≍ qd) rfl cw gA ao
  have iT:=rH ≍ yG
  have bH:=(qj ≍ uJ) iT bf
  have g6:=(qo ≍ vZ) bH
  have gv:=(oJ ≍ ug) g6 bH
  have gU:=qh ≍ uT
  have j_:=(zC ≍ Du) gU
  have iC:=(uf ≍ zL) (LS.of X G hBA hU t.dD) j_
  have dX:=(vh ≍ BO) fY gv iC bf
  have hG:=(qw ≍ vW) dX
  have fj:=(vC ≍ Aj) cq
  have cE:=(pL ≍ sE) ao bf aY fj bF
  have iB:=(rJ ≍ yJ) cE
  have iL:=ui ≍ yQ
  have d7:=(u0 ≍ AH) a8 iL
  have g8:=(qk ≍ uU) d7
  have fD:=‹mQ› pH T rfl CL KL_Desk
  have gO:=‹qD› vS T rfl KL_Desk
  have mL:=(DO ≍ Iy) rfl cw cK ao bq
  have ka:=(ym ≍ Ci) mL
  have iy:=(rG ≍ zo) rfl GT_NUMBER_DEEDS gm_NUMBER_DEEDS gg_NUMBER_DEEDS GT_PLAIN_DEEDS gm_PLAIN_DEEDS gg_PLAIN_DEEDS bH ka
  have ke:=‹yP› Dl T rfl n8 KL_Desk GT_QUESTIONS gm_QUESTIONS gg_QUESTIONS jD iX iQ jf iI iY iH kz jx gX jJ jC ju iM hG iB g8 fD gO iy
  have fm:=(uO ≍ AF) rfl CL KL_Desk gk ke
  have bG:=vo ≍ BY
  have gE:=vt ≍ BG
  have LY:=‹LQ› ⟨_,_,hm,F⟩ T rfl KL_Desk gp gP iA jI fm bG a8 eT eV eS aY bF fH fR gE fO d5 bS cq cE d7 dX
  exact Pd F hm LY
end
def walk {l:PySem.W.OpenLaw}{q:X5}{loose:List Str}{XP:(Str->Option XI)->Y2->Prop}{YP:Yw->Y2->Prop}{d:DefRec}{K:Params->gV}{ts:List XW} (hn:l.most=ξ 63) (hdf:d.params.defaults=[])
  (hY:∀(w:Yw) (h:Y2),YP w h->(K w.params).In h) (hT:∀(w:Yw) (h:Y2),YP w h->∀P∈ts,h.get? P=ξ (aaz #[])) (hI:∀P,Pr (K P) ts=θ)
  (ok:∀ns:List Int,ns.length<=63->∃h,tu [.scr (ns.map D.int)] []=.ok (.bl θ) h)
  (F:∀(w:Yw) (mg:Str->Option XI) (fa:XW) (h:Y2),(K w.params).In h->h.Ns mainGlobals mg->mg d.name=ξ (.ref fa) →
   ∃fd:Zy,(∀(s:XO) (u:XI),acT s fd ⟨[u],[]⟩ [("_law_script", u)])/\∀base:Y2,(K w.params).In base->base.Ns mainGlobals mg->(∀P∈ts,base.BuiltinsAt mg P)->cJ l.prog w (K w.params) mg base CX0 31 fa fd ["_law_script"] (spM (K w.params) (gOf mg) 1 tu)) :
  PySem.W.WalkO q loose XP YP l.row.toRowW d [] (fun f vs=>ac9 f vs):=
 Mt (k:=31) hn hdf ⟨rfl,by decide,by decide,rfl⟩ hY hT hI ok F
def bW (h1:-(10 ^ 30)<=i) (h2:i<=10 ^ 30):sml i=true:=Ct (XR (show i.natAbs<=10 ^ 30 by lia) {})
def yC (e:aE h n=ξ ds):n<h.length:=by
 unfold aE at e
 grind
def rh (e:aE h n=ξ ds):aE (h.set n (.lst es)) n=ξ es:=by
 unfold aE;rw[aaY (yC e)]
def DU (e:aE h n=ξ ds):aE (h++t) n=ξ ds:=by
 have:=yC e
 unfold aE at e ⊢;grind
def Na {h t:Hh} (hn:n<h.length):(h++t).set n o=h.set n o++t:=List.set_append_left _ _ hn
def Ln (e:aE h n=ξ ds):h.set n (.lst ds)=h:=by
 unfold aE at e
 split at e
 ·rename_i ds' q
  cases e
  refine List.ext_getElem? fun i=>?_
  grind
 grind
def J1 (w:Wf h) (l:bM h.length ds=θ):Wf (h.set n (.lst ds)):=by
 unfold Wf at w ⊢
 rw[Zn,X_] at *
 intro x hx
 rcases List.mem_or_eq_of_mem_set hx with hx | hx
 ·grind
 ·subst hx;exact l
structure Pen where
 a:Int
 b:Int
 s:Int
@[inline]abbrev dw (p:Pen):List D:=[.int p.a,.int p.b,.int p.s]
abbrev nxt (x:Int):Int:=((x+7919) % 2147483647*((x+7919) % 2147483647)+48271*((x+7919) % 2147483647)+12345) % 2147483629
abbrev gj (p:Pen) (m:Int):Int:=if p.b=1/\0<p.a then p.a % m else nxt (nxt p.s+7) / 64 % m
abbrev kC (p:Pen) (m:Int):Pen:=if p.b=1/\0<p.a then ⟨p.a / m,p.b,p.s⟩ else ⟨p.a,p.b,nxt (nxt p.s+7)⟩
def yW (p) (h:0<m):0<=gj p m:=by unfold gj;split<;>exact Int.emod_nonneg _ {}
def sW (p) (h:0<m):gj p m<m:=by unfold gj;split<;>exact Int.emod_lt_of_pos _ h
@[simp] def U7 {x:Int}{h:Hh}:fL [.int x] h=.ok (.int (nxt x)) h:=by
 have h1:0<=(x+7919) % 2147483647:=Int.emod_nonneg _ (by decide)
 have h2:(x+7919) % 2147483647<2147483647:=Int.emod_lt_of_pos _ (by decide)
 have s1:sml ((x+7919) % 2147483647)=true:=bW {} {}
 have s2:sml 48271=true:={:_}
 simp[fL,aH,s1,s2,nxt]
def Iz {p:Pen}{m:Int}{h:Hh}{n:Nat} (e:aE h n=ξ (dw p)) (hm:0<m) (hm2:m<=10 ^ 20):bD [.ref n,.int m] h=.ok (.int (gj p m)) (h.set n (.lst (dw (kC p m)))):=by
 have s1:sml m=true:=bW {} {}
 have s2:sml 64=true:={:_}
 have i2:∀(x y z:Int) (h:Hh),ixK [D.int x,.int y,.int z] 2 h=.ok (.int z) h:=fun _ _ _ _=>rfl
 have n0:ixN (dw p).length 0=ξ 0:=rfl
 have n2:ixN (dw p).length 2=ξ 2:=rfl
 by_cases c:p.b=1
 ·by_cases c2:0<p.a
  ·simp[bD,aH,pZ e,c,c2,hm,s1,qX e n0,gj,kC]
  ·simp[bD,aH,pZ e,c,c2,i2,qX e n2,pZ (rh e),s1,s2,hm,gj,kC]
 ·simp[bD,aH,pZ e,c,i2,qX e n2,pZ (rh e),s1,s2,hm,gj,kC]
@[simp] def Ff {h t:Hh} (hm:0<m/\m<=10 ^ 20):bD [.ref h.length,.int m] (h++.lst (dw p)::t)=.ok (.int (gj p m)) (h++.lst (dw (kC p m))::t):=by
 rw[Iz cT hm.1 hm.2,lW]
abbrev Bb (c:Int):Pen:=⟨max c (0 - c),if max c (0 - c) ≥ 10 ^ 18 then 1 else 0,max c (0 - c) % 1000003⟩
@[simp] def WV {c:Int}{h:Hh}:c_ [.int c] h=.ok (.ref h.length) (h++[.lst (dw (Bb c))]):=by
 have s1:sml 10=true:={:_}
 simp[c_,aH,s1,Bb]
@[simp] def Vh {ns:List Int}{h:Hh}:cH [.scr (ns.map D.int),.int 0] h=.ok (.int (ns.headD 0)) h:=by
 cases ns with
 | nil=>simp[cH,aH]
 | cons c r=>simp[cH,aH]
@[simp] def UH {i:Int}{h:Hh}:kx [.int i] h=.ok (.bl θ) h:=by rfl
@[simp] def Sr {i a b:Int}{h:Hh}:dA [.int i,.int a,.int b] h=.ok (.bl (decide (a<=i/\i<=b))) h:=by
 by_cases z:a<=i<;>simp[dA,aH,z]
structure Ord (n:Nat) (xs:List Int):Prop where
 len:xs.length=n
 nd:xs.Nodup
 lo:∀x∈xs,0<=x
 hi:∀x∈xs,x<n
abbrev gq (lo:Int) (n:Nat):List Int:=(XF n).map fun(i:Nat)=>lo+i
def rk (lo:Int) (n:Nat):bI lo n=(gq lo n).map D.int:=by simp[bI,gq,Zf]
def rR (lo:Int) (n:Nat):(gq lo n).length=n:=by simp[gq]
def gH (n:Nat):Ord n (gq 0 n):=by
 refine⟨rR _ _,?_,?_,?_⟩
 ·unfold gq List.Nodup
  rw[List.pairwise_map]
  exact acK.imp (fun{a b} h e=>h {}) List.nodup_range
 ·intro x hx;simp[gq] at hx;lia
 ·intro x hx;simp[gq] at hx;lia
def Ord.rev {n:Nat}{xs:List Int} (o:Ord n xs):Ord n xs.reverse:=⟨by simp[o.len],(List.reverse_perm xs).nodup_iff.mpr o.nd,fun x hx=>o.lo x (by simpa using hx),fun x hx=>o.hi x (by simpa using hx)⟩
abbrev jk (s:Pen × List Int) (_:Nat):Pen × List Int:=(kC s.1 s.2.length,s.2.eraseIdx (gj s.1 s.2.length).toNat)
abbrev la (s:Pen × List Int) (_:Nat):Int:=gI s.2 (gj s.1 s.2.length).toNat
abbrev yy (p:Pen) (k:Nat):(Pen × List Int) × List Int:=(XF k).foldl (fun a x=>(jk a.1 x,a.2++[la a.1 x])) ((p,gq 0 k),[])
abbrev qI (p:Pen) (k:Nat):Pen:=(yy p k).1.1
abbrev qQ (p:Pen) (k:Nat):List Int:=(yy p k).2
def xx {σ X β:Type} (f:σ->X->σ) (g:σ->X->β):∀(xs:List X) (s:σ) (o:List β),(xs.foldl (fun a x=>(f a.1 x,a.2++[g a.1 x])) (s,o)).1=xs.foldl f s
 | [],_,_=>rfl
 | x::xs,s,o=>by rw[Y_,Y_];exact xx f g xs _ _
def getElem_erase {X:Type}:∀{l:List X}{n:Nat} (h:n<l.length),(l[n]::l.eraseIdx n).Perm l
 | x::l,0,_=>{..}
 | x::l,n+1,h=>by
  simp only[List.getElem_cons_succ,List.eraseIdx_cons_succ]
  exact(ac5.swap _ _ _).trans (ac5.cons x (getElem_erase (by simpa using h)))
def LZ (p:Pen) (k:Nat):∀j,j<=k->∀a,a=(XF j).foldl (fun a x=>(jk a.1 x,a.2++[la a.1 x])) ((p,gq 0 k),[])->a.1.2.length=k - j/\a.2.length=j/\(a.2++a.1.2).Perm (gq 0 k):=by
 intro j
 induction j with
 | zero=>intro _ a e;subst e;simp[rR]
 | succ j ih=>
  intro hj a e
  rw[ZE,List.foldl_append] at e
  generalize hb:(XF j).foldl (fun a x=>(jk a.1 x,a.2++[la a.1 x])) ((p,gq 0 k),[])=b at e
  obtain⟨l1,l2,pm⟩:=ih {} b hb.symm
  subst e
  simp only[Y_,List.foldl_nil,jk,la]
  have hp:(0:Int)<(b.1.2.length:Nat):={}
  have d0:=yW b.1.1 hp
  have d1:=sW b.1.1 hp
  generalize gj b.1.1 (b.1.2.length:Nat)=d at d0 d1
  have hd:d.toNat<b.1.2.length:={}
  refine⟨by rw[List.length_eraseIdx,if_pos hd];lia,by simp[l2],?_⟩
  refine ac5.trans ?_ pm
  rw[aap]
  refine ac5.append_left _ ?_
  rw[eI hd]
  exact getElem_erase hd
def JG (p:Pen) (k:Nat):Ord k (qQ p k):=by
 obtain⟨l1,l2,pm⟩:=LZ p k k (XJ _) _ rfl
 have e:(yy p k).1.2=[]:=Ys (by unfold yy;lia)
 have pm':(qQ p k).Perm (gq 0 k):=by
  unfold qQ
  have:(yy p k).2++(yy p k).1.2=(yy p k).2:=by rw[e,YD]
  rw[<- this];exact pm
 have o:=gH k
 exact⟨by rw[pm'.length_eq,o.len],pm'.nodup_iff.mpr o.nd,fun x hx=>o.lo x (pm'.mem_iff.mp hx),fun x hx=>o.hi x (pm'.mem_iff.mp hx)⟩
def Ur {n k:Nat}{ds:List D}{i:Int}{d:D}{h:Hh} (e:aE h n=ξ ds) (e2:ixN ds.length i=ξ k) (e3:ds[k]?=ξ d) (hl:ds.length<=1000000):A6 (.ref n) [.int i] h=.ok d (h.set n (.lst (ds.eraseIdx k))):=by delta A6;dsimp only;rw[e];dsimp only;rw[e2];dsimp only;rw[e3];exact if_pos hl
def m7 {X Y:Type} (f:X->Y):∀(xs:List X) (k:Nat),(xs.map f).eraseIdx k=(xs.eraseIdx k).map f
 | [],_=>rfl
 | _::_,0=>rfl
 | x::xs,k+1=>by simp[m7 f xs k]
def Nt {p:Pen}{k:Nat}{h:Hh}{n:Nat} (e:aE h n=ξ (dw p)) (w:Wf h) (hk:k<=1000):f7 [.ref n,.int k] h=.ok (.tup ((qQ p k).map D.int)) (h.set n (.lst (dw (qI p k)))):=by
 have hn:=yC e
 have z1:k<=1000000:={}
 have st:∀(s:Pen × List Int) (x:Nat) (r:List Nat),(s.2.length=(x::r).length/\(x::r).length<=k)->((jk s x).2.length=r.length/\r.length<=k) ∧
   (cG A6 (ag 1) (aa (af bD (aa (ag 2) (aa (af bA (aa (ag 1) ah)) ah))) ah)) [ξ (D.int (0+(x:Int))),ξ (.ref h.length),ξ (.ref n)] (h.set n (.lst (dw s.1))++[.lst (s.2.map D.int)])=.ok (D.int (la s x)) (h.set n (.lst (dw (jk s x).1))++[.lst ((jk s x).2.map D.int)]):=by
  intro s x r ⟨hs,hr⟩
  simp only[YB] at hs hr
  have hp:(0:Int)<(s.2.length:Nat):={}
  have hp2:((s.2.length:Nat):Int)<=10 ^ 20:={}
  have d0:=yW s.1 hp
  have d1:=sW s.1 hp
  have hd:(gj s.1 s.2.length).toNat<s.2.length:={}
  refine⟨⟨by simp only[jk];rw[List.length_eraseIdx,if_pos hd];lia,{}⟩,?_⟩
  have hL:(h.set n (.lst (dw s.1))).length=h.length:=Zn
  have e1:aE (h.set n (.lst (dw s.1))++[.lst (s.2.map D.int)]) n=ξ (dw s.1):=DU (rh e)
  have e2:aE (h.set n (.lst (dw s.1))++[.lst (s.2.map D.int)]) h.length=ξ (s.2.map D.int):=by rw[<- hL];exact cT
  have e3:(h.set n (.lst (dw s.1))++[O.lst (s.2.map D.int)]).set n (.lst (dw (kC s.1 s.2.length)))=h.set n (.lst (dw (kC s.1 s.2.length)))++[.lst (s.2.map D.int)]:=by rw[Na {},List.set_set]
  have hL':(h.set n (.lst (dw (kC s.1 s.2.length)))).length=h.length:=Zn
  have e4:aE (h.set n (.lst (dw (kC s.1 s.2.length)))++[.lst (s.2.map D.int)]) h.length=ξ (s.2.map D.int):=by rw[<- hL'];exact cT
  have e5:(s.2.map D.int)[(gj s.1 s.2.length).toNat]?=ξ (.int (la s x)):=by
   rw[Yi,XS hd];simp[la,eI hd]
  have e6:ixN (s.2.map D.int).length (gj s.1 s.2.length)=ξ (gj s.1 s.2.length).toNat:=by rw[XE];exact D4 {} hd
  simp only[MD,HR,HF,gz,r9 e2,if_true,P2,PV,Su,P4 e2,XE,Iz e1 hp hp2,e3,Ur e4 e6 e5 (by rw[XE];lia)]
  rw[<- hL',lW,m7]
  rfl
 obtain⟨ys,q1,q2,q3⟩:=xy (te:=cG A6 (ag 1) (aa (af bD (aa (ag 2) (aa (af bA (aa (ag 1) ah)) ah))) ah)) (ee:=fun d=>[ξ d,ξ (.ref h.length),ξ (.ref n)])
  (fun(s:Pen × List Int)=>h.set n (.lst (dw s.1))++[.lst (s.2.map D.int)]) (fun(i:Nat)=>D.int (0+i)) jk (fun s x=>D.int (la s x)) (fun r s=>s.2.length=r.length/\r.length<=k) st (XF k) (p,gq 0 k) ⟨by simp[rR],{..}⟩
 have q1':cu tt1 (cG A6 (ag 1) (aa (af bD (aa (ag 2) (aa (af bA (aa (ag 1) ah)) ah))) ah)) (fun d=>[ξ d,ξ (.ref h.length),ξ (.ref n)]) (bI 0 k) (h++[.lst (bI 0 k)])=.ok ((qQ p k).map D.int) (h.set n (.lst (dw (qI p k)))++[.lst []]):=by
  have a1:h.set n (.lst (dw p))=h:=Ln e
  have a2:((XF k).foldl jk (p,gq 0 k)).2=[]:=Ys q2.1
  have a3:((XF k).foldl jk (p,gq 0 k)).1=qI p k:=by unfold qI yy;rw[xx]
  have a4:ys=(qQ p k).map D.int:=by
   rw[q3]
   unfold qQ yy
   have key:∀(xs:List Nat) (s:Pen × List Int) (o:List Int),(xs.foldl (fun(a:(Pen × List Int) × List D) x=>(jk a.1 x,a.2++[D.int (la a.1 x)])) (s,o.map D.int)).2=((xs.foldl (fun(a:(Pen × List Int) × List Int) x=>(jk a.1 x,a.2++[la a.1 x])) (s,o)).2).map D.int:=by
    intro xs
    induction xs with
    | nil=>intro s o;rfl
    | cons x xs ih=>
     intro s o
     rw[Y_,Y_]
     have:=ih (jk s x) (o++[la s x])
     simpa using this
   exact key _ _ []
  simp only[a1,a2,a3,a4,Z3] at q1
  rw[<- rk] at q1
  exact q1
 have hL:(h.set n (.lst (dw (qI p k)))).length=h.length:=Zn
 have w':Wf (h.set n (.lst (dw (qI p k)))):=J1 w rfl
 have ex:dz h (.tup ((qQ p k).map D.int)) (h.set n (.lst (dw (qI p k)))++[.lst []])=.ok (.tup ((qQ p k).map D.int)) (h.set n (.lst (dw (qI p k)))):=by
  have:=ja (h:=h.set n (.lst (dw (qI p k)))) (t:=[.lst []]) (d:=.tup ((qQ p k).map D.int)) w' {..}
  unfold dz at this ⊢
  rw[hL] at this
  exact this
 have hk6:k<=1000000:={}
 simp[f7,aH,z1,ky,q1',ex,hk6]
def Ri {n:Nat}{xs:List Int}{h:Hh} (o:Ord n xs) (h1:1<=n) (h2:n<=20) (w:Wf h):fV [.tup (xs.map D.int)] h=.ok (.bl θ) h:=by
 have hl:=o.len
 obtain⟨q,_⟩:=Ai (tg:=gN 1) (body:=dI (jL (aF kW (af dA (aa (ag 1) (aa (cC (.int 0)) (aa (ak gm (af bA (aa (ag 0) ah)) (cC (.int 1))) ah)))))) (aQ (cC (.bl ψ))) bT)
  (fun(s:Option D)=>[ξ (.tup (xs.map D.int)),s]) (fun _=>h) D.int (fun s x=>ξ (.int x)) (fun r s=>∀x∈r,0<=x/\x<n) (fun s x r hr=>⟨fun y hy=>hr y (XM _ hy),.inl (by
   have:=hr x XU
   have z:0<=x/\x<=↑xs.length - 1:={}
   simp[z])⟩) xs ζ (fun x hx=>⟨o.lo x hx,o.hi x hx⟩)
 have c1:(1:Int)<=xs.length:={}
 have c2:(xs.length:Int)<=20:={}
 have c3:xs.length<=4000:={}
 have c4:=GP o.nd
 simp[fV,aH,c1,c2,q,c3,c4]
 exact ja w rfl
abbrev kr {X:Type} (xs:List X) (lo hi:Option Int):List X:=(xs.drop (HT.sIx xs.length 0 lo)).take (HT.sIx xs.length xs.length hi - HT.sIx xs.length 0 lo)
def iW (f) (xs:List X) (lo hi):cutD (xs.map f) lo hi=(kr xs lo hi).map f:=by
 unfold cutD kr
 simp
def yT (xs:List X) (k:Nat):kr xs ζ (ξ (k:Int))=xs.take k:=by
 unfold kr
 rw[HT.B9,HT.lU]
 simp
def xE (xs:List X) (k:Nat):kr xs (ξ (k:Int)) ζ=xs.drop k:=by
 unfold kr
 rw[HT.B9,HT.lU]
 rcases Nat.le_total k xs.length with h | h
 ·rw[acp h,aad {..}]
 simp_all
def EK (i):∀ns:List Int,((ns.map D.int).any fun d=>eqF d (.int i))=ns.any (· == i)
 | []=>rfl
 | n::r=>by rw[XT,Zj,Zj,EK i r];rfl
def FJ (ns:List Int):(ns.map D.int).all ip=true:=by simp[ip]
@[simp] def WE {neg:Bool}{i:Int}{ns:List Int}{h:Hh}:dIn neg (.int i) (.tup (ns.map D.int)) h=.ok (.bl (if neg then !(ns.any (· == i)) else ns.any (· == i))) h:=by
 simp only[dIn,jR,ip,FJ,and_self,if_true,EK]
def D7 (h0:0<=i) (h:i<=1000000):sml i=true:=bW {} {}
abbrev bL (xs:List Int):List Nat:=(XF (xs.length - 1)).filter fun i=>decide (gI xs (i+1)<gI xs i)
abbrev az (xs:List Int):List Int:=(bL xs).map fun(i:Nat)=>(i:Int)
def oS {xs:List Int}{h:Hh}{d:D} (hd:∀(i:Int),dIx d (.int i) h=ixK (xs.map D.int) i h):cu (aF asB (ak dGt (ak dIx (ag 1) (ag 0)) (ak dIx (ag 1) (ak (bg aA) (ag 0) (cC (.int 1)))))) (ag 0) (fun x=>[ξ x,ξ d]) (bI 0 (xs.length - 1)) h=.ok ((az xs).map D.int) h:=by
 rw[nQ (fun i=>decide (gI xs (i+1)<gI xs i)) (fun i=>D.int i)]
 ·simp[az,bL,Zf]
 ·intro i hi
  have e1:ixK (xs.map D.int) (i:Int) h=.ok (.int (gI xs i)) h:=fX rfl {}
  have e2:ixK (xs.map D.int) ((i:Int)+1) h=.ok (.int (gI xs (i+1))) h:=fX {} {}
  simp_all
def mV {xs:List Int}{h:Hh} (hl:xs.length<=1000) (h1:1<=xs.length):bp [.tup (xs.map D.int)] h=.ok (.tup ((az xs).map D.int)) h:=by
 have z1:((xs.length:Int) - 1).natAbs<=1000000:={}
 have z2:((xs.length:Int) - 1).toNat=xs.length - 1:={}
 have z3:xs.length - 1<=1000000:={}
 have q:=oS (xs:=xs) (h:=h) (d:=.tup (xs.map D.int)) (fun i=>Jp)
 simp[bp,aH,z1,z2,z3,q]
def IP (w:Wf h) (p):Wf (h++[.lst (dw p)]):=w.app rfl
def O1 (p) (m) (h:0<m):∃k:Nat,gj p m=(k:Int)/\(k:Int)<m:=by
 have h0:=yW p h
 have h1:=sW p h
 exact⟨(gj p m).toNat,{},{}⟩
def FQ (ns) (lo hi):cutD (ns.map D.int) lo hi=(kr ns lo hi).map D.int:=iW _ _ _ _
def MZ (xs:List X) (lo hi):(kr xs lo hi).length<=xs.length:=by
 unfold kr;grind
section
variable {env:En}{h:Hh}
@[simp] def Xx:up m env h=noR (m env h):=aaB rfl rfl
@[simp] def Jq {f:β->Hh->R γ}:(R.err x h:R β).bind f=.err x h:=aaB rfl rfl
@[simp] def Uv:mD x env h=.err ⟨x,[]⟩ h:=aaB rfl rfl
def Py (w:Wf h) (e:mb env h=.err x h) (c:cI.contains x.cls=θ) (r:mr [.exc x.cls x.fs] h=.ok d h):Cq mb mr env h=.ok (.rt d) h:=by
 unfold Cq
 rw[e]
 have w':(h.take h.length).all (oW h.length)=true:=by rw[List.take_length];exact w
 simp_all
end
abbrev cl (s:Str):List Nat:=s.cps.toList
def JP (a b:Str):cl (a++b)=cl a++cl b:=by
 show(a.cps++b.cps).toList=_
 rw[Array.toList_append];rfl
def La (a:Str):(cl a).length=a.length:=by
 show a.cps.toList.length=a.cps.size
 exact Array.length_toList
abbrev jn (c:Nat):List (List Nat)->List Nat
 | []=>[]
 | [x]=>x
 | x::y::r=>x++c::jn c (y::r)
def EX (c:Nat):∀zs:List Str,cl (adw ⟨#[c]⟩ zs)=jn c (zs.map cl)
 | []=>rfl
 | [x]=>rfl
 | x::y::r=>by
  show cl (x++⟨#[c]⟩++adw ⟨#[c]⟩ (y::r))=cl x++c::jn c ((y::r).map cl)
  rw[JP,JP,EX c (y::r),aap];rfl
def tj (sep:Str) (zs:List Str):aaV sep zs=adw sep zs:=StrLaws.glued_eq_join sep zs
abbrev nm (i:Int):Str:=toString i
def OD:(" " : Str)=⟨#[32]⟩:=by kernel_rfl
section
variable {env:En}{h:Hh}
@[simp] def UL {f:D->List D->Hh->R D}{o:ME}{a:MA}:i7 f o a env h=(o env h).bind fun x h1=>if isStr x=θ then (a env h1).bind fun xs h2=>f x xs h2 else .bad:=aaB rfl rfl
@[simp] def RJ {z:Str}:isStr (.str z)=true:=aaB rfl rfl
@[simp] def eK {i:Int}:cN [.int i] h=if sml i=θ then .ok (.str (nm i)) h else .bad:=aaB rfl rfl
end
def mJ {sep:Str}{zs:List Str}{h:Hh} (h1:sep.length<=16) (h2:wgt zs<=1048576):k6 (.str sep) [.frl (zs.map D.str)] h=.ok (.str (aaV sep zs)) h:=by
 delta k6;dsimp only;rw[DH];exact if_pos ⟨h1,h2⟩
def ou:((" " : Str).length == 0)=ψ/\(" " : Str).length<=16:={:_}
structure SmL (xs:List Int):Prop where
 ne:xs≠[]
 len:xs.length<=20
 rg:∀x∈xs,∃k:Nat,x=(k:Int)/\k<20
def SmL.sm {xs:List Int} (s:SmL xs):∀x∈xs,sml x=true:=fun x hx=>by
 obtain⟨k,rfl,hk⟩:=s.rg x hx
 exact D7 {} {}
def CJ {b:Nat}:∀{zs:List Str},(∀z∈zs,z.length<=b)->wgt zs<=(b+1)*zs.length
 | [],_=>XJ _
 | z::zs,k=>by
  have e:=CJ (zs:=zs) fun x hx=>k x (XM _ hx)
  have f:=k z XU
  unfold wgt at e ⊢
  rw[XT,List.sum_cons,YB,Nat.mul_add]
  lia
def BK {c:Nat} (zs:List Str):(aaV ⟨#[c]⟩ zs).length<=wgt zs:=by
 rw[tj]
 have:=StrLaws.join_length_le ⟨#[c]⟩ zs
 have e:(⟨#[c]⟩:Str).length=1:=rfl
 rw[e] at this
 unfold wgt;lia
abbrev sg (f:Nat->Int) (n:Nat):Int:=((XF n).map f).sum
def TX (f:Nat->Int):sg f 0=0:=rfl
def Kc (l:List Int) (x:Int):(l++[x]).sum=l.sum+x:=by
 induction l with
 | nil=>simp
 | cons a l ih=>simp only[aaD,List.sum_cons,ih];lia
def Rz (f:Nat->Int) (n:Nat):sg f (n+1)=sg f n+f n:=by
 unfold sg
 rw[ZE,YE]
 exact Kc _ _
def DS {f:Nat->Int}{n:Nat} (h:∀i,i<n->f i=0):sg f n=0:=by
 induction n with
 | zero=>rfl
 | succ n ih=>rw[Rz,ih fun i hi=>h i {},h n {}];rfl
abbrev lss (r:Nat) (l:Int):Int:=if (r:Int)<l then 1 else 0
abbrev Rn:Nat->Int->Int->Int
 | 0,_,f=>if f=0 then 1 else 0
 | m+1,l,f=>sg (fun r=>Rn m r (f - lss r l)) (m+1)
def CY (r:Nat) (l:Int):0<=lss r l/\lss r l<=1:=by unfold lss;split<;>lia
def Dm:∀(m:Nat) (l f:Int),f<0->Rn m l f=0
 | 0,l,f,h=>if_neg {}
 | m+1,l,f,h=>DS fun r _=>Dm m r _ (by have:=CY r l;lia)
def CQ:∀(m:Nat) (l f:Int),(m:Int)<f->Rn m l f=0
 | 0,l,f,h=>if_neg {}
 | m+1,l,f,h=>DS fun r _=>CQ m r _ (by have:=CY r l;lia)
def OA {f:Nat->Int}{B:Nat}:∀{n:Nat},(∀i,i<n->0<=f i/\f i<=B)->0<=sg f n/\sg f n<=(n*B:Nat)
 | 0,_=>by simp[TX]
 | n+1,h=>by
  have ih:=OA (n:=n) fun i hi=>h i {}
  have:=h n {}
  rw[Rz,Nat.succ_mul]
  lia
abbrev MX:Nat->Nat
 | 0=>1
 | n+1=>(n+1)*MX n
def Js:∀(m:Nat) (l f:Int),0<=Rn m l f/\Rn m l f<=MX m
 | 0,l,f=>by unfold Rn MX;split<;>lia
 | m+1,l,f=>OA fun r _=>Js m r _
def QT:∀m,m<13->MX m<=10 ^ 20:={:_}
def TL {m:Nat}{l f:Int} (h:m<=12):sml (Rn m l f)=true:=by
 have:=Js m l f
 have:=QT m {}
 exact bW {} {}
abbrev fc (m:Nat) (l:Int):List Int:=(XF (m+1)).map fun(f:Nat)=>Rn m l f
def kP (m:Nat) (l:Int):(fc m l).length=m+1:=by simp[fc]
def z0 {m:Nat}{l:Int}{f:Nat} (h:f<=m):gI (fc m l) f=Rn m l f:=by
 rw[eI (by rw[kP];lia)];simp[fc]
abbrev fS (m:Nat):List (List Int):=(XF (m+1)).map fun(l:Nat)=>fc m l
def A2 (m:Nat):(fS m).length=m+1:=by simp[fS]
abbrev f1 (xs:List Int):D:=.frl (xs.map D.int)
abbrev f2 (xss:List (List Int)):D:=.frl (xss.map f1)
def Qe (hj:j<l.length):gI (l.set i v) j=if i=j then v else gI l j:=by
 rw[eI (by simp_all),eI hj,List.getElem_set]
def Td (h:xs.length=ys.length) (e:∀i,i<xs.length->gI xs i=gI ys i):xs=ys:=by
 refine aaC h fun i h1 h2=>?_
 have:=e i h1
 rwa [eI h1,eI h2] at this
def Q1 {j:Nat} (e:aE h n=ξ (ns.map D.int)) (hi:i=(j:Int)) (hj:j<ns.length):Ld (.ref n) (.int i) h=.ok (.int (gI ns j)) h:=by
 have:=fX (ns:=ns) (h:=h) hi hj
 delta Ld;dsimp only;rw[pZ e];lia
def Mi (L:List (List Int)):fJ (L.map f1)=(XF L.length).map fun(i:Nat)=>D.tup [.int i,f1 (L.getD i [])]:=by
 unfold fJ
 simp_all
abbrev RIB:MS:=(xT (ag 2) (ak (bg aA) (ag 6) (ag 5)) (ag 7))
abbrev ROB:MS:=(av (aZ 5 (cIf (aF asB (ak dLt (ag 3) (ag 1))) (cC (.int 1)) (cC (.int 0)))) (fh (kX (ag 4)) (gT2 6 7) RIB))
def TK:cZ=fun ds h=>((ba 8 (av (aZ 2 (ak (kN dy) (af (bV aA) (aa (cC (.int 0)) ah)) (ak (bg aA) (af bA (aa (ag 0) ah)) (cC (.int 1))))) (av (fh (kX (ag 0)) (gT2 3 4) ROB) (aQ (ag 2))))) ds h).bind (dz h):=rfl
def IH {m i:Nat}{l:Int}{c:List Int}{h:Hh}{d0 d1 d3 d4 y6 y7:Option D} (hc:c.length=m+2) (hi:i<=m) (hm:m<=20):∃c' y6' y7',c'.length=m+2/\(∀f,f<m+2->gI c' f=gI c f+Rn m i ((f:Int) - lss i l))/\eg (gT2 6 7) RIB (fJ ((fc m i).map D.int)) [d0,d1,ξ (.ref h.length),d3,d4,ξ (.int (lss i l)),y6,y7] (h++[.lst (c.map D.int)])=.ok (.nx [d0,d1,ξ (.ref h.length),d3,d4,ξ (.int (lss i l)),y6',y7']) (h++[.lst (c'.map D.int)]):=by
 have l01:=CY i l
 obtain⟨t,ht⟩:∃t:Nat,lss i l=(t:Int):=⟨(lss i l).toNat,{}⟩
 have t1:t<=1:={}
 rw[ht,xg,kP]
 obtain⟨q,q2⟩:=Ab (σ:=List Int × Option D × Option D) (tg:=gT2 6 7) (body:=RIB) (fun(j:Nat)=>D.tup [.int j,.int (gI (fc m i) j)]) (m+1) (fun s=>[d0,d1,ξ (.ref h.length),d3,d4,ξ (.int t),s.2.1,s.2.2]) (fun s=>h++[.lst (s.1.map D.int)]) (fun s j=>(s.1.set (j+t) (gI s.1 (j+t)+gI (fc m i) j),ξ (.int j),ξ (.int (gI (fc m i) j))))
  (fun j s=>s.1.length=m+2/\∀f,f<m+2->gI s.1 f=gI c f+if (f:Int) - t<j then Rn m i ((f:Int) - t) else 0) (c,y6,y7) ⟨hc,fun f hf=>by
   by_cases z:(f:Int) - t<((0:Nat):Int)
   ·rw[if_pos z,Dm _ _ _ {}];simp
   grind⟩ (fun j s hj ⟨sl,sv⟩=>by
   refine⟨⟨by simp[sl],fun f hf=>?_⟩,.inl ?_⟩
   ·dsimp only
    rw[Qe {}]
    by_cases e:j+t=f
    ·subst e
     rw[if_pos rfl,sv _ hf,z0 {},if_neg {},if_pos {},show(((j+t:Nat):Int)) - t=j by lia]
     lia
    grind
   ·have ij:(j:Int)+(t:Int)=((j+t:Nat):Int):={}
    have x1:=Q1 (n:=h.length) (ns:=s.1) (i:=((j+t:Nat):Int)) (j:=j+t) (h:=h++[.lst (s.1.map D.int)]) cT rfl {}
    have n2:ixN (s.1.map D.int).length ((j+t:Nat):Int)=ξ (j+t):=by rw[XE];exact D4 rfl {}
    have st:j8 (.ref h.length) (.int ((j+t:Nat):Int)) (.int (gI s.1 (j+t)+gI (fc m i) j)) (h++[.lst (s.1.map D.int)])=.ok () (h++[.lst ((s.1.set (j+t) (gI s.1 (j+t)+gI (fc m i) j)).map D.int)]):=by
     rw[qX cT n2,lW,List.map_set]
    generalize gI (fc m i) j=v at *
    generalize ((j+t:Nat):Int)=w at *
    generalize j+t=w' at *
    simp[RIB,ij,x1,st])
 obtain⟨sl,sv⟩:=q2
 exact⟨_,_,_,sl,fun f hf=>by
  rw[sv f hf]
  by_cases z:(f:Int) - t<((m+1:Nat):Int)
  ·lia
  ·rw[if_neg z,CQ _ _ _ {}],q⟩
def Nm {m:Nat}{l:Int}{h:Hh} (hm:m<=20) (w:Wf h):cZ [f2 (fS m),.int l] h=.ok (f1 (fc (m+1) l)) h:=by
 have key:∀(j i:Nat) (c:List Int) (y3 y4 y5 y6 y7:Option D),i+j=m+1->c.length=m+2->(∀f,f<m+2->gI c f=sg (fun r=>Rn m r ((f:Int) - lss r l)) i)->∃c' z3 z4 z5 z6 z7,c'.length=m+2/\(∀f,f<m+2->gI c' f=sg (fun r=>Rn m r ((f:Int) - lss r l)) (m+1)) ∧
   eg (gT2 3 4) ROB ((ab3 i j).map fun(i:Nat)=>D.tup [.int i,f1 (fc m i)]) [ξ (f2 (fS m)),ξ (.int l),ξ (.ref h.length),y3,y4,y5,y6,y7] (h++[.lst (c.map D.int)])=.ok (.nx [ξ (f2 (fS m)),ξ (.int l),ξ (.ref h.length),z3,z4,z5,z6,z7]) (h++[.lst (c'.map D.int)]):=by
  intro j
  induction j with
  | zero=>
   intro i c y3 y4 y5 y6 y7 e hc hv
   have:i=m+1:={}
   subst this
   exact⟨c,y3,y4,y5,y6,y7,hc,hv,rfl⟩
  | succ j ih=>
   intro i c y3 y4 y5 y6 y7 e hc hv
   obtain⟨c1,z6,z7,l1,v1,q1⟩:=IH (m:=m) (i:=i) (l:=l) (c:=c) (h:=h) (d0:=ξ (f2 (fS m))) (d1:=ξ (.int l)) (d3:=ξ (.int i)) (d4:=ξ (f1 (fc m i))) (y6:=y6) (y7:=y7) hc {} hm
   obtain⟨c',w3,w4,w5,w6,w7,lc,vc,qc⟩:=ih (i+1) c1 (ξ (.int i)) (ξ (f1 (fc m i))) (ξ (.int (lss i l))) z6 z7 {} l1 (fun f hf=>by rw[v1 f hf,hv f hf,Rz])
   refine⟨c',w3,w4,w5,w6,w7,lc,vc,?_⟩
   rw[ab9,XT,gJ]
   have b:ROB [ξ (f2 (fS m)),ξ (.int l),ξ (.ref h.length),ξ (.int i),ξ (f1 (fc m i)),y5,y6,y7] (h++[.lst (c.map D.int)])=.ok (.nx [ξ (f2 (fS m)),ξ (.int l),ξ (.ref h.length),ξ (.int i),ξ (f1 (fc m i)),ξ (.int (lss i l)),z6,z7]) (h++[.lst (c1.map D.int)]):=by
    have eE:sI (f1 (fc m i)) (h++[.lst (c.map D.int)])=.ok (.snap (fJ ((fc m i).map D.int))) (h++[.lst (c.map D.int)]):=rfl
    by_cases z:(i:Int)<l
    ·have le:lss i l=1:=if_pos z
     rw[le] at q1 ⊢
     simp[ROB,z,eE,q1]
    ·have le:lss i l=0:=if_neg z
     rw[le] at q1 ⊢
     simp[ROB,z,eE,q1]
   simp[b,qc]
 obtain⟨c',z3,z4,z5,z6,z7,lc,vc,q⟩:=key (m+1) 0 (X0 (m+2) 0) ζ ζ ζ ζ ζ {} {..} (fun f hf=>by rw[TX,eI (by simp_all)];simp)
 have ce:c'=fc (m+1) l:=Td (by rw[lc,kP]) fun f hf=>by
  rw[lc] at hf
  rw[vc f hf,z0 {}];rfl
 subst ce
 have en:sI (f2 (fS m)) (h++[.lst (X0 (m+2) (.int 0))])=.ok (.snap ((ab3 0 (m+1)).map fun(i:Nat)=>D.tup [.int i,f1 (fc m i)])) (h++[.lst (X0 (m+2) (.int 0))]):=by
  show R.ok (Src.snap (fJ ((fS m).map f1))) _=_
  rw[Mi,A2,<- abl]
  congr 2
  refine ZD fun i hi=>?_
  have hi:=X8.mp hi
  simp[fS,hi]
 have ex:=oN (h:=h) (ds:=(fc (m+1) l).map D.int) (t:=[]) w {..}
 have ll:bA [f2 (fS m)] h=.ok (.int ((m+1:Nat):Int)) h:=by
  show R.ok (D.int (((fS m).map f1).length:Int)) h=_
  rw[XE,A2]
 have z1:(((m+1:Nat):Int)+1).toNat=m+2:={}
 have z2:m+2<=1000000:={}
 have z3:(((m+1:Nat):Int)+1).natAbs<=1000000:={}
 have z4:1<=(((m+1:Nat):Int)+1):={}
 rw[List.map_replicate] at q
 rw[TK]
 generalize f2 (fS m)=FT at *
 show _=R.ok (D.frl ((fc (m+1) l).map D.int)) h
 generalize (fc (m+1) l).map D.int=W at *
 simp[-ZY,aH,ll,z1,z2,z3,z4,en,q,ex]
abbrev rsD (k:Nat):List D:=(XF (k+1)).map fun j=>f2 (fS j)
def SS (k:Nat):rsD (k+1)=rsD k++[f2 (fS (k+1))]:=by simp[rsD,ZE]
def xO (k):(rsD k).length=k+1:=by simp[rsD]
def Pw {k j:Nat} (e:i=(j:Int)) (hj:j<=k):ixK (rsD k) i h=.ok (f2 (fS j)) h:=nR e (by rw[rsD,Yi,aaH {}];rfl)
def Mb:ixK (rsD k) (-1) h=.ok (f2 (fS k)) h:=by
 have e:ixN (rsD k).length (-1)=ξ k:=by rw[xO];unfold ixN;grind
 unfold ixK atI
 rw[e]
 have:(rsD k)[k]?=ξ (f2 (fS k)):=by simp[rsD]
 grind
abbrev RSB:MS:=(bR (cG bP (ag 1) (aa (bZ aA (fE jh (aa (ak (bg aA) (ag 2) (cC (.int 1))) ah)) [1] tt1 (af cZ (aa (ak dIx (ag 1) (cUn kL (cC (.int 1)))) (aa (ag 0) ah)))) ah)))
def RM:iV=fun ds h=>((ba 3 (av (aZ 1 (af (bV dy) (aa (af (bV aA) (aa (af (bV aA) (aa (cC (.int 1)) ah)) ah)) ah))) (av (fh (fE wb (aa (cC (.int 1)) (aa (ak (bg aA) (ag 0) (cC (.int 1))) ah))) (gN 2) RSB) (aQ (ag 1))))) ds h).bind (dz h):=rfl
def HW {n:Nat}{h:Hh} (hn:n<=12) (w:Wf h):iV [.int n] h=.ok (.frl (rsD n)) h:=by
 have low:∀k j,bM j (rsD k)=true:=fun k j=>lO fun d hd=>by
  obtain⟨i,_,rfl⟩:=X3.mp hd
  show bM j ((fS i).map f1)=θ
  exact oQ fun b=>by show bM j (b.map D.int)=θ;simp
 obtain⟨q,e⟩:=JS (σ:=Nat × Option D) (tg:=gN 2) (body:=RSB) 1 n (fun s=>[ξ (.int n),ξ (.ref h.length),s.2]) (fun s=>h++[.lst (rsD s.1)]) (fun s i=>(i+1,ξ (.int (1+i)))) (fun i s=>s.1=i) (0,ζ) rfl (fun i s hi hs=>⟨rfl,.inl (by
   subst hs
   obtain⟨i,y⟩:=s
   dsimp only at hi ⊢
   have c:cu tt1 (af cZ (aa (ak dIx (ag 1) (cUn kL (cC (.int 1)))) (aa (ag 0) ah))) (fun x=>[ξ x,ξ (.ref h.length)]) (bI 0 (i+2)) (h++[.lst (rsD i)])=.ok ((fS (i+1)).map f1) (h++[.lst (rsD i)]):=by
    have w2:Wf (h++[.lst (rsD i)]):=w.app (by show bM _ _=θ;simp_all)
    rw[jK (fun j=>f1 (fc (i+1) j)) (fun j hj=>by
     have r:=Nm (m:=i) (l:=(j:Int)) (h:=h++[.lst (rsD i)]) {} w2
     simp[Mb,r]),fS,Zf]
    rfl
   have z1:(1+(i:Int)+1).natAbs<=1000000:={}
   have z2:(1+(i:Int)+1).toNat=i+2:={}
   have z3:i+2<=1000000:={}
   have z4:(rsD i).length<1000000:=by rw[xO];lia
   rw[SS]
   show _=R.ok (Fl.nx [ξ (.int n),ξ (.ref h.length),ξ (.int (1+i))]) (h++[.lst (rsD i++[.frl ((fS (i+1)).map f1)])])
   generalize (fS (i+1)).map f1=W at *
   generalize rsD i=V at *
   simp[RSB,z1,z2,z3,z4,c])⟩)
 generalize ac8 _ _ _=s9 at q e
 obtain⟨i9,y9⟩:=s9
 dsimp only at q e
 subst e
 have dp:(rsD i9).all (deep 7)=true:=by
  rw[X_]
  intro d hd
  obtain⟨j,_,rfl⟩:=X3.mp hd
  simp[f2,f1,deep,X_]
 have ex:=oN (h:=h) (ds:=rsD i9) (t:=[]) w dp
 have r0:rsD 0=[.frl [.frl [.int 1]]]:=rfl
 rw[r0] at q
 have z1:(i9:Int)+1 - 1=i9:={}
 have z2:i9<=1000000:={}
 have z3:((i9:Int)+1).natAbs<=1000000:={}
 rw[RM]
 generalize rsD i9=V at *
 simp[aH,z1,z2,z3,q,ex]
structure Beg (n) (xs:List Int):Prop where
 len:xs.length<=n
 nd:xs.Nodup
 lo:∀x∈xs,0<=x
 hi:∀x∈xs,x<n
def Beg.nil (n:Nat):Beg n []:=⟨aaF _,abb,fun _ h=>(nomatch h),fun _ h=>(nomatch h)⟩
def Ord.beg (o:Ord n xs):Beg n xs:=⟨acW o.len,o.nd,o.lo,o.hi⟩
def Beg.take (o:Beg n xs) (k):Beg n (xs.take k):=
 ⟨XR (by grind) o.len,o.nd.sublist (List.take_sublist _ _),fun x hx=>o.lo x (aax hx),fun x hx=>o.hi x (aax hx)⟩
abbrev lA (r:Int->Bool) (l:List Int):Nat:=(l.filter r).length
def jQ (r) (x) (l):lA r (x::l)=(if r x=θ then 1 else 0)+lA r l:=by
 unfold lA;grind
def JE (r:Int->Bool) (v):∀l:List Int,lA (fun x=>r x&&decide (x<v+1)) l=lA (fun x=>r x&&decide (x<v)) l+lA (fun x=>r x&&decide (x=v)) l
 | []=>rfl
 | x::l=>by
  rw[jQ,jQ,jQ,JE r v l]
  grind
def C1 {r:Int->Bool}:∀{l:List Int},(∀x∈l,r x=ψ)->lA r l=0
 | [],_=>rfl
 | x::l,h=>by rw[jQ,h x XU,C1 fun y hy=>h y (XM _ hy)];rfl
def C4 {r:Int->Bool}{v:Int}:∀{l:List Int},l.Nodup->lA (fun x=>r x&&decide (x=v)) l=if v∈l/\r v=θ then 1 else 0
 | [],_=>by rfl
 | x::l,nd=>by
  obtain⟨n1,n2⟩:=Yt.mp nd
  rw[jQ,C4 n2]
  grind
def yL {n:Nat}{xs:List Int} (b:Beg n xs):∀v:Nat,v<=n->lA (fun x=>!(xs.any (· == x))&&decide (x<(v:Int))) (gq 0 n)+lA (fun x=>θ&&decide (x<(v:Int))) xs=v
 | 0,_=>by
  rw[C1,C1]
  ·intro x hx;have:=b.lo x hx;grind
  ·intro x hx;have:=(gH n).lo x hx;grind
 | v+1,hv=>by
  have ih:=yL b v {}
  have e:((v+1:Nat):Int)=(v:Int)+1:={}
  rw[e,JE,JE,C4 (gH n).nd,C4 b.nd]
  have m:(v:Int)∈gq 0 n:=X3.mpr ⟨v,X8.mpr {},{}⟩
  grind
abbrev eZ (xs:List Int):Int:=gI xs (xs.length - 1)
abbrev lwI (xs:List Int):Int:=if xs.length=0 then 0 else eZ xs - ((xs.filter fun x=>decide (x<eZ xs)).length:Int)
abbrev cf (n:Nat) (xs:List Int):List Int:=(gq 0 n).filter fun x=>!(xs.any (· == x))
def Ms (h:xs.length≠0):eZ xs∈xs:=by
 unfold eZ;rw[eI {}];simp
def lJ (b:Beg n xs):(cf n xs).length=n - xs.length:=by
 have:=yL b n (XJ _)
 have e1:lA (fun x=>!(xs.any (· == x))&&decide (x<(n:Int))) (gq 0 n)=(cf n xs).length:=by
  unfold lA cf
  rw[ZZ]
  intro x hx;have:=(gH n).hi x hx;grind
 have e2:lA (fun x=>θ&&decide (x<(n:Int))) xs=xs.length:=by
  unfold lA
  rw[Z5.mpr]
  intro x hx;have:=b.hi x hx;grind
 lia
def tZ (b:Beg n xs) (h:xs.length≠0):(((cf n xs).filter fun x=>decide (x<eZ xs)).length:Int)=lwI xs:=by
 have m:=Ms h
 have h0:=b.lo _ m
 have h1:=b.hi _ m
 have:=yL b (eZ xs).toNat {}
 rw[show(((eZ xs).toNat:Nat):Int)=eZ xs by lia] at this
 have e1:lA (fun x=>!(xs.any (· == x))&&decide (x<eZ xs)) (gq 0 n)=((cf n xs).filter fun x=>decide (x<eZ xs)).length:=by
  unfold lA cf
  rw[abJ]
  congr 2
  grind
 have e2:lA (fun x=>θ&&decide (x<eZ xs)) xs=(xs.filter fun x=>decide (x<eZ xs)).length:=by
  rfl
 unfold lwI
 lia
def RT (b:Beg n xs):0<=lwI xs/\lwI xs<=((n - xs.length:Nat):Int):=by
 by_cases h:xs.length=0
 ·unfold lwI;lia
 ·rw[<- tZ b h,<- lJ b]
  grind
def Beg.snoc (b:Beg n xs) (h:x∈cf n xs):Beg n (xs++[x]):=by
 obtain⟨h1,h2⟩:=Yk.mp h
 have nx:x∉xs:=fun z=>by
  grind
 have l:=lJ b
 have lp:=List.length_pos_of_mem h
 refine⟨by grind,abX.mpr ⟨b.nd,Yt.mpr ⟨{..},abb⟩,fun a ha c hc=>?_⟩,fun y hy=>?_,fun y hy=>?_⟩
 ·simp_all
 ·rcases YV.mp hy with z | z
  ·exact b.lo y z
  ·simp at z;subst z;exact(gH n).lo _ h1
 ·rcases YV.mp hy with z | z
  ·exact b.hi y z
  ·simp at z;subst z;exact(gH n).hi _ h1
abbrev bcV (n:Nat) (k:Int) (xs:List Int):Int:=Rn (n - xs.length) (lwI xs) (k - ((az xs).length:Int))
def SQ (hn:n<=12):sml (bcV n k xs)=true:=TL {}
def Sx:0<=bcV n k xs:=(Js _ _ _).1
def Ju (h1:xs.length≠0):ixK (xs.map D.int) (-1) h=.ok (.int (eZ xs)) h:=by
 have e:ixN (xs.map D.int).length (-1)=ξ (xs.length - 1):=by rw[XE];unfold ixN;grind
 unfold ixK atI eZ
 rw[e]
 simp[XS (show xs.length - 1<xs.length by lia),eI (show xs.length - 1<xs.length by lia)]
def IU {xs:List Int}{h:Hh} (hl:xs.length<=1000):gf [.tup (xs.map D.int)] h=.ok (.int (lwI xs)) h:=by
 unfold lwI
 by_cases c:xs.length=0
 ·have:xs=[]:=Ys c
  subst this
  rfl
 ·rw[if_neg c]
  have c':¬ (xs.length:Int)=0:={}
  have ix:=fun H:Hh=>Ju (h:=H) c
  have q:cu (aF asB (ak dLt (ag 0) (ak dIx (ag 1) (cUn kL (cC (.int 1)))))) (ag 0) (fun x=>[ξ x,ξ (.tup (xs.map D.int))]) (xs.map D.int) h=.ok ((xs.filter fun x=>decide (x<eZ xs)).map D.int) h:=
   comp_map D.int (fun x=>decide (x<eZ xs)) D.int xs fun x hx=>⟨by simp[ix],fun _=>{..}⟩
  have c0:¬ xs=[]:=fun z=>c (by grind)
  have z6:xs.length<=1000000:={}
  simp[gf,aH,c,c',c0,ix,q,z6]
def BP {xs:List Int}{h:Hh} (hl:xs.length<=1000):bp [.tup (xs.map D.int)] h=.ok (.tup ((az xs).map D.int)) h:=by
 by_cases c:xs.length=0
 ·have:xs=[]:=Ys c
  subst this
  rfl
 ·have z1:((xs.length:Int) - 1).natAbs<=1000000:={}
  have z2:((xs.length:Int) - 1).toNat=xs.length - 1:={}
  have z3:xs.length - 1<=1000000:={}
  have q:=oS (xs:=xs) (h:=h) (d:=.tup (xs.map D.int)) (fun i=>Jp)
  simp[bp,aH,z1,z2,z3,q]
def UY {n:Nat}{k:Int}{xs:List Int}{h:Hh} (b:Beg n xs) (hn:n<=12):bE [.frl (rsD n),.int k,.tup (xs.map D.int)] h=.ok (.int (bcV n k xs)) h:=by
 unfold bcV
 have bl:=b.len
 obtain⟨l0,l1⟩:=RT b
 obtain⟨m,hm⟩:∃m,n - xs.length=m:=⟨_,rfl⟩
 rw[hm] at l1 ⊢
 have lo:=IU (xs:=xs) (h:=h) {}
 have fa:=BP (xs:=xs) (h:=h) {}
 have r1:ixK (rsD n) ((n:Int) - xs.length) h=.ok (f2 (fS m)) h:=Pw {} {}
 generalize lwI xs=a at *
 have r2:dIx (f2 (fS m)) (.int a) h=.ok (f1 (fc m a)) h:=by
  show ixK ((fS m).map f1) a h=_
  refine nR (j:=a.toNat) {} ?_
  rw[Yi,fS,Yi,aaH {}]
  grind
 have ll:bA [f1 (fc m a)] h=.ok (.int ((m:Int)+1)) h:=by
  show R.ok (D.int (((fc m a).map D.int).length:Int)) h=_
  rw[XE,kP]
  rfl
 have lr:(rsD n).length=n+1:=xO n
 have zn:((n+1:Nat):Int) - 1 - xs.length=(n:Int) - xs.length:={}
 obtain⟨F,hF⟩:∃F:Int,k - ((az xs).length:Int)=F:=⟨_,rfl⟩
 rw[hF]
 by_cases c:0<=F/\F<(m:Int)+1
 ·have ix:dIx (f1 (fc m a)) (.int F) h=.ok (.int (Rn m a F)) h:=by
   show ixK ((fc m a).map D.int) F h=_
   rw[fX (j:=F.toNat) {} (by rw[kP];lia),z0 {},show((F.toNat:Nat):Int)=F by lia]
  generalize f1 (fc m a)=W at *
  generalize f2 (fS m)=V at *
  simp[-ZY,bE,aH,lr,zn,r1,lo,r2,fa,hF,ll,c.1,c.2,ix]
 ·have e0:Rn m a F=0:=by
   by_cases c0:0<=F
   ·exact CQ _ _ _ {}
   ·exact Dm _ _ _ {}
  rw[e0]
  generalize f1 (fc m a)=W at *
  generalize f2 (fS m)=V at *
  by_cases c0:0<=F
  ·have c1:¬ F<(m:Int)+1:=fun z=>c ⟨c0,z⟩
   simp[-ZY,bE,aH,lr,zn,r1,lo,r2,fa,hF,ll,c0,c1]
  ·simp[-ZY,bE,aH,lr,zn,r1,lo,r2,fa,hF,ll,c0]
def FU {n:Nat}{k:Int}{h:Hh} (hn:n<=12) (w:Wf h):dD [.int n,.int k] h=.ok (.clo "begun_count" [.frl (rsD n),.int k]) h:=by
 have r:=HW (n:=n) (h:=h) hn w
 delta dD Nz
 simp[r,Df]
abbrev tpl (xs:List Int):D:=.tup (xs.map D.int)
def Gd {n:Nat}{xs:List Int}{h:Hh} (hl:xs.length<=1000):cu (aF asB (ak (dIn θ) (ag 0) (ag 1))) (ak (bg aA) (ag 1) (af bz (aa (ag 0) ah))) (fun x=>[ξ x,ξ (.tup (xs.map D.int))]) (bI 0 n) h=.ok ((cf n xs).map fun x=>tpl (xs++[x])) h:=by
 rw[rk,comp_map D.int (fun x=>!(xs.any (· == x))) (fun x=>tpl (xs++[x])) (gq 0 n) fun x hx=>⟨{..},fun _=>by
  have z:xs.length+1<=1000000:={}
  simp[tpl,z]⟩]
 rfl
def MY {σ:Type} (enc:Nat->D) (N) (E:σ->En) (G:σ->Hh) (I:Nat->σ->Prop) (hr:∀s i,i<N->rd (G s) i=ξ (ξ (enc i))) (hr2:∀s,rd (G s) N=ξ ζ)
  (st:∀i s,i<N->I i s->∃s',I (i+1) s'/\(tg (enc i) (E s) (G s)).bind body=.ok (.nx (E s')) (G s')) :
  ∀k i s , i+k=N->I i s->∃s',l7 rd tg body k i (E s) (G s)=.ok (.nx (E s')) (G s')/\I N s':=by
 intro k
 induction k with
 | zero=>
  intro i s e hi
  have:i=N:={}
  subst this
  refine⟨s,?_,hi⟩
  unfold l7
  rw[hr2]
 | succ k ih=>
  intro i s e hi
  obtain⟨s1,a,b⟩:=st i s {} hi
  obtain⟨s2,c,d⟩:=ih (i+1) s1 {} a
  refine⟨s2,?_,d⟩
  unfold l7
  rw[hr s i {}]
  show(tg (enc i) (E s) (G s)).bind (fun e1 h1=>(body e1 h1).bind _)=_
  rw[<- bX,b]
  exact c
def Nb {σ:Type} (enc) (N) (E:σ->En) (G:σ->Hh) (I:Nat->σ->Prop)
  (st:∀i s,i<N->I i s->∃s',I (i+1) s'/\(tg (enc i) (E s) (G s)).bind body=.ok (.nx (E s')) (G s')) :
  ∀k i s , i+k=N->I i s->∃s',eg tg body ((ab3 i k).map enc) (E s) (G s)=.ok (.nx (E s')) (G s')/\I N s':=by
 intro k
 induction k with
 | zero=>
  intro i s e hi
  have:i=N:={}
  subst this
  exact⟨s,rfl,hi⟩
 | succ k ih=>
  intro i s e hi
  obtain⟨s1,a,b⟩:=st i s {} hi
  obtain⟨s2,c,d⟩:=ih (i+1) s1 {} a
  refine⟨s2,?_,d⟩
  rw[ab9,XT,eg,<- bX,b]
  exact c
def DP {v:Int}:∀{L:List Int},L.Pairwise (· < ·)->∀(r:Nat) (hr:r<L.length),L[r]<v↔r<(L.filter fun x=>decide (x<v)).length
 | [],_,r,hr=>by grind
 | a::L,so,r,hr=>by
  obtain⟨h1,h2⟩:=aaW.mp so
  by_cases c:a<v
  ·rw[YF,if_pos (by simp_all),YB]
   cases r with
   | zero=>simp[c]
   | succ r=>
    have:=DP (v:=v) h2 r (by simp_all)
    simp_all
  ·have e:(a::L).filter (fun x=>decide (x<v))=[]:=by
    rw[aa3]
    grind
   rw[e]
   have:¬ (a::L)[r]<v:=by
    have hm:=aaE hr
    grind
   grind
def T_ {L:List Int} (so:L.Pairwise (· < ·)) (r) (hr):(L.filter fun x=>decide (x<L[r])).length=r:=by
 have h:=fun s hs=>DP (v:=L[r]) so s hs
 have lt:∀s (hs:s<L.length),L[s]<L[r]↔s<r:=fun s hs=>by
  constructor
  ·grind
  ·intro z;exact ZT.mp so s r hs hr z
 generalize (L.filter fun x=>decide (x<L[r])).length=c at h
 by_cases c1:c<r
 ·grind
 grind
def J_ {x:Int} (so:L.Pairwise (· < ·)) (e:L=l1++x::l2):(L.filter fun y=>decide (y<x))=l1:=by
 subst e
 rw[List.pairwise_append,aaW] at so
 rw[Zv,Z5.mpr,aa3.mpr,YD]
 ·grind
 simp_all
def Ts (n):(gq 0 n).Pairwise (· < ·):=by
 unfold gq
 rw[List.pairwise_map]
 exact acK.imp (fun{a b} h=>{}) List.pairwise_lt_range
def Fe (n) (xs):(cf n xs).Pairwise (· < ·):=(Ts n).filter _
def FV:cf n (xs++[x])=(cf n xs).filter fun y=>!(x == y):=by
 unfold cf
 rw[abJ]
 grind
def yH (h:i<xs.length):gI (xs++ys) i=gI xs i:=by
 rw[eI (by grind),eI h,List.getElem_append_left h]
def Kw:gI (xs++[x]) xs.length=x:=by
 rw[eI {..},List.getElem_append_right (XJ _)];simp
def F5:eZ (xs++[x])=x:=by
 unfold eZ;rw[YU];exact Kw
def CT:(az (xs++[x])).length=(az xs).length+(if xs.length≠0/\x<eZ xs then 1 else 0):=by
 unfold az bL
 rw[XE,XE,YU]
 show((XF xs.length).filter _).length=_
 cases hl:xs.length with
 | zero=>simp
 | succ m=>
  rw[ZE,Zv,YU,show m+1 - 1=m from rfl]
  congr 1
  ·congr 1
   refine ZZ fun i hi=>?_
   have hi:=X8.mp hi
   rw[yH {},yH {}]
  ·have e1:gI (xs++[x]) (m+1)=x:=by rw[<- hl];exact Kw
   have e2:gI (xs++[x]) m=eZ xs:=by unfold eZ;rw[yH {},hl];rfl
   grind
structure Cnt (n) (B:List Int->Int):Prop where
 pos:∀xs,Beg n xs->0<=B xs
 sum:∀xs,Beg n xs->xs.length<n->B xs=((cf n xs).map fun x=>B (xs++[x])).sum
def NZ {α:Type} (L) (f:Int->α):L.map f=(XF L.length).map fun i=>f (gI L i):=by
 refine aaC {..} fun i h1 h2=>?_
 rw[XE] at h1
 simp[eI h1]
def Kh (n) (k):Cnt n (bcV n k):=by
 refine⟨fun xs _=>Sx,fun xs b hl=>?_⟩
 have ll:=lJ b
 obtain⟨m,hm⟩:∃m,n - xs.length=m+1:=⟨n - xs.length - 1,{}⟩
 rw[hm] at ll
 have so:=Fe n xs
 rw[NZ,ll]
 unfold bcV
 rw[hm]
 show sg (fun r=>Rn m r (k - ((az xs).length:Int) - lss r (lwI xs))) (m+1)=_
 unfold sg
 congr 1
 refine ZD fun r hr=>?_
 have hr:=X8.mp hr
 have hr':r<(cf n xs).length:={}
 obtain⟨x,hx⟩:∃x,gI (cf n xs) r=x:=⟨_,rfl⟩
 rw[hx]
 have hx':(cf n xs)[r]=x:=by rw[<- hx,eI hr']
 have xin:x∈cf n xs:=hx' ▸ aaE hr'
 have b2:=b.snoc xin
 have e1:lwI (xs++[x])=r:=by
  rw[<- tZ b2 {..},F5,FV,abJ]
  have:((cf n xs).filter fun y=>decide (y<x)&&!(x == y))=(cf n xs).filter fun y=>decide (y<x):=ZZ fun y _=>by
   grind
  rw[this]
  have:=T_ so r hr'
  simp_all
 have e2:((az (xs++[x])).length:Int)=((az xs).length:Int)+lss r (lwI xs):=by
  rw[CT]
  by_cases c:xs.length=0
  ·have:lwI xs=0:=if_pos c
   rw[this]
   have:lss r 0=0:=if_neg {}
   simp_all
  ·rw[<- tZ b c]
   have:=DP (v:=eZ xs) so r hr'
   rw[hx'] at this
   unfold lss
   grind
 grind
def Ol (h:xs.length=n):bcV n k xs=if k=((az xs).length:Int) then 1 else 0:=by
 unfold bcV
 rw[show n - xs.length=0 by lia]
 unfold Rn
 lia
abbrev nxB (n:Nat) (B:List Int->Int) (xs:List Int):List Int:=(cf n xs).filter fun x=>decide (0<B (xs++[x]))
abbrev jX (B:List Int->Int) (xs l:List Int):Int:=(l.map fun x=>B (xs++[x])).sum
def f6:jX B xs (x::l)=B (xs++[x])+jX B xs l:=by rfl
def NH:jX B xs (l1++l2)=jX B xs l1+jX B xs l2:=by
 induction l1 with
 | nil=>unfold jX;simp
 | cons a l ih=>rw[aaD,f6,f6,ih];lia
def q_ {B:List Int->Int}{xs:List Int}:∀{l:List Int},(∀x∈l,0<=B (xs++[x]))->0<=jX B xs l
 | [],_=>ac6 _
 | x::l,h=>by
  rw[f6]
  have:=h x XU
  have:=q_ (l:=l) fun y hy=>h y (XM _ hy)
  lia
def zH:∀{l:List Int},(∀x∈l,0<=B (xs++[x]))->jX B xs ((l.filter fun x=>decide (0<B (xs++[x]))).filter p)=jX B xs (l.filter p)
 | [],_=>rfl
 | x::l,h=>by
  have h0:=h x XU
  have ih:=zH (p:=p) (l:=l) fun y hy=>h y (XM _ hy)
  by_cases c:0<B (xs++[x])
  ·rw[YF,if_pos (by simp_all),YF,YF]
   split
   ·rw[f6,f6,ih]
   lia
  ·rw[YF,if_neg (by simp_all),YF,ih]
   split
   ·rw[f6];lia
   ·rfl
section
variable {n:Nat}{B:List Int->Int} (C:Cnt n B)
include C
def Cnt.left (b:Beg n xs):∀x∈cf n xs,0<=B (xs++[x]):=fun x hx=>C.pos _ (b.snoc hx)
def Cnt.nx (b:Beg n xs) (hl:xs.length<n):jX B xs (nxB n B xs)=B xs:=by
 rw[C.sum xs b hl]
 have:=zH (B:=B) (xs:=xs) (p:=fun _=>θ) (C.left b)
 have e:∀l:List Int,l.filter (fun _=>θ)=l:=fun l=>Z5.mpr {..}
 rw[e,e] at this
 exact this
end
def Tn:(nxB n B xs).Pairwise (· < ·):=(Fe n xs).filter _
def E2 (h:x∈nxB n B xs):x∈cf n xs:=(Yk.mp h).1
abbrev wV (B:List Int->Int) (xs:List Int):List Int->Int->Option (Int × Int)
 | [],_=>ζ
 | x::r,t=>if t<B (xs++[x]) then ξ (x,t) else wV B xs r (t - B (xs++[x]))
def Eu (h0:0<=u) (h1:u<B (xs++[x])):∀{l1:List Int},(∀y∈l1,0<=B (xs++[y]))->wV B xs (l1++x::l2) (jX B xs l1+u)=ξ (x,u)
 | [],_=>by
  show wV B xs (x::l2) (0+u)=_
  unfold wV
  simp_all
 | y::l1,h=>by
  have hy:=h y XU
  have hp:=q_ (B:=B) (xs:=xs) (l:=l1) fun z hz=>h z (XM _ hz)
  rw[aaD,f6]
  unfold wV
  rw[if_neg {},show B (xs++[y])+jX B xs l1+u - B (xs++[y])=jX B xs l1+u by lia]
  exact Eu h0 h1 fun z hz=>h z (XM _ hz)
abbrev grd (n:Nat) (B:List Int->Int):Nat->List Int->Int->List Int × Int
 | 0,xs,t=>(xs,t)
 | j+1,xs,t=>match wV B xs (nxB n B xs) t with
  | some (x,t')=>grd n B j (xs++[x]) t'
  | none=>(xs,t)
abbrev rkL (n:Nat) (B:List Int->Int):List Int->List Int->Int
 | _,[]=>0
 | xs,y::r=>jX B xs ((cf n xs).filter fun x=>decide (x<y))+rkL n B (xs++[y]) r
def OR {n:Nat}{B:List Int->Int} (C:Cnt n B):∀(rest xs:List Int) (t:Int),Beg n (xs++rest)->0<=t->t<B (xs++rest)->xs.length+rest.length=n →
  0<=rkL n B xs rest/\rkL n B xs rest+t<B xs/\grd n B rest.length xs (rkL n B xs rest+t)=(xs++rest,t)
 | [],xs,t,b,h0,h1,hl=>by simp[rkL,grd] at *;exact h1
 | y::rest,xs,t,b,h0,h1,hl=>by
  have e:xs++y::rest=(xs++[y])++rest:={..}
  rw[e] at b h1
  obtain⟨i0,i1,i2⟩:=OR C rest (xs++[y]) t b h0 h1 (by grind)
  have bx:Beg n (xs++[y]):=by have:=b.take (xs++[y]).length;grind
  have b0:Beg n xs:=by have:=bx.take xs.length;grind
  have yl:y∈cf n xs:=by
   refine Yk.mpr ⟨?_,?_⟩
   ·have:=bx.lo y {..};have:=bx.hi y {..}
    exact X3.mpr ⟨y.toNat,X8.mpr {},{}⟩
   ·have nd:=bx.nd
    grind
  have yn:y∈nxB n B xs:=Yk.mpr ⟨yl,by grind⟩
  obtain⟨l1,l2,el⟩:=List.append_of_mem yn
  have lp:∀z∈nxB n B xs,0<=B (xs++[z]):=fun z hz=>C.left b0 z (E2 hz)
  have s1:=C.nx b0 (by grind)
  have p1:=J_ (Tn (n:=n) (B:=B) (xs:=xs)) el
  have sm:jX B xs ((cf n xs).filter fun x=>decide (x<y))=jX B xs l1:=by
   rw[<- zH (C.left b0),show((cf n xs).filter fun x=>decide (0<B (xs++[x])))=nxB n B xs from rfl,p1]
  have l1p:∀z∈l1,0<=B (xs++[z]):=fun z hz=>lp z (by grind)
  have l2p:∀z∈l2,0<=B (xs++[z]):=fun z hz=>lp z (by grind)
  have q1:=q_ l1p
  have q2:=q_ l2p
  rw[el,NH,f6] at s1
  have pk:=Eu (B:=B) (xs:=xs) (l2:=l2) (x:=y) (u:=rkL n B (xs++[y]) rest+t) {} i1 l1p
  unfold rkL
  rw[sm]
  refine⟨{},{},?_⟩
  rw[YB]
  unfold grd
  grind
structure Fs (xs:List Int):Prop where
 len:xs.length<=20
 rg:∀x∈xs,∃k:Nat,x=(k:Int)/\k<21
def EU:∀k:Nat,k<21->(nm k).length<=2/\1<=(nm k).length:={:_}
def Fs.sm {xs:List Int} (f:Fs xs):∀x∈xs,sml x=true:=fun x hx=>by
 obtain⟨k,rfl,hk⟩:=f.rg x hx
 exact bW {} {}
def Fs.nml {xs:List Int} (f:Fs xs):∀z∈xs.map nm,z.length<=2/\1<=z.length:=fun z hz=>by
 obtain⟨x,hx,rfl⟩:=X3.mp hz
 obtain⟨k,rfl,hk⟩:=f.rg x hx
 exact EU k hk
def Fs.wg {xs:List Int} (f:Fs xs):wgt (xs.map nm)<=60:=by
 have:=CJ (b:=2) fun z hz=>(f.nml z hz).1
 rw[XE] at this
 have:=f.len
 lia
abbrev thT (xs:List Int):Str:=if xs=[] then "none" else aaV " " (xs.map nm)
def Oc {i:Int}{h:Hh}:oO [.int i] h=if sml i=θ then .ok (.str (nm i)) h else .bad:=aaB rfl rfl
def NA {z:Str}{h:Hh}:oO [.str z] h=.ok (.str z) h:=aaB rfl rfl
def Qb {xs:List Int}{h:Hh} (f:∀x∈xs,sml x=θ):cu tt1 (af cN (aa (ag 0) ah)) (fun x=>[ξ x]) (xs.map D.int) h=.ok ((xs.map nm).map D.str) h:=by
 rw[jP D.int (fun i=>D.str (nm i)) xs fun x hx=>by simp[f x hx,-L2.FE.eK,FC.eK],Zf];rfl
def RP {xs:List Int}{h:Hh} (f:∀x∈xs,sml x=θ):cu tt1 (af oO (aa (ag 0) ah)) (fun x=>[ξ x]) (xs.map D.int) h=.ok ((xs.map nm).map D.str) h:=by
 rw[jP D.int (fun i=>D.str (nm i)) xs fun x hx=>by simp[f x hx,Oc],Zf];rfl
def Us {zs:List Str}{h:Hh}:cu tt1 (af oO (aa (ag 0) ah)) (fun x=>[ξ x]) (zs.map D.str) h=.ok (zs.map D.str) h:=by
 rw[jP D.str (fun z=>D.str z) zs fun x hx=>by simp[NA]]
def fK {xs:List Int}{h:Hh} (f:Fs xs):aG [.tup (xs.map D.int)] h=.ok (.str (thT xs)) h:=by
 have q:=RP (h:=h) f.sm
 have c3:(xs.map nm).length<=1000000:=by rw[XE];have:=f.len;lia
 have c4:wgt (xs.map nm)<=1048576:=XR f.wg (by decide)
 have c5:((xs.map D.int).length:Int)=xs.length:=by rw[XE]
 unfold thT
 cases xs with
 | nil=>simp[aG,aH]
 | cons x xs=>
  rw[if_neg (List.cons_ne_nil _ _)]
  generalize hz:(x::xs).map nm=zs at q c3 c4 ⊢
  generalize ht:(x::xs).map D.int=ts at q c5 ⊢
  have c6:ts.length=xs.length+1:=by rw[<- ht];simp
  have c7:0<ts.length:={}
  have c8:ts.length<=1000000:=by have:=f.len;rw[YB] at this;lia
  simp[aG,aH,q,c3,c7,c8,mJ ou.2 c4]
@[simp] def WD {a b:ME}{env:En}{h:Hh}:QL a b env h=(a env h).bind fun x h1=>match x with
 | .str z=>if z.length<=1000000 then if z.length=0 then b env h1 else .ok (.str z) h1 else .bad
 | _=>.bad:=rfl
def Qf {c:Nat}{z:List Nat}{zs:List (List Nat)} (h:1<=z.length):1<=(jn c (z::zs)).length:=by
 cases zs with
 | nil=>exact h
 | cons y ys=>unfold jn;simp;lia
def tN {xs:List Int}{h:Hh} (f:Fs xs):aB [.tup (xs.map D.int)] h=.ok (.str (thT xs)) h:=by
 have q:=Qb (h:=h) f.sm
 have c3:(xs.map nm).length<=1000000:=by rw[XE];have:=f.len;lia
 have c4:wgt (xs.map nm)<=1048576:=XR f.wg (by decide)
 have c9:(aaV " " (xs.map nm)).length<=1000000:=by
  have:=BK (c:=32) (xs.map nm)
  rw[<- OD] at this
  have:=f.wg
  lia
 unfold thT
 cases xs with
 | nil=>
  have e:(aaV " " (([]:List Int).map nm)).length=0:={:_}
  generalize hj:aaV " " (([]:List Int).map nm)=j at e c9
  have a:=mJ (sep:=" ") (zs:=([]:List Int).map nm) (h:=h) ou.2 c4
  rw[hj] at a
  simp only[Z3] at a q c3
  simp[aB,aH,a,e,q]
 | cons x xs=>
  rw[if_neg (List.cons_ne_nil _ _)]
  have e:(aaV " " ((x::xs).map nm)).length≠0:=by
   have p:=f.nml (nm x) (X3.mpr ⟨x,XU,rfl⟩)
   rw[tj,OD,<- La,EX,XT,XT]
   have:=Qf (c:=32) (z:=cl (nm x)) (zs:=(xs.map nm).map cl) (by rw[La];exact p.2)
   lia
  have a:=mJ (sep:=" ") (zs:=(x::xs).map nm) (h:=h) ou.2 c4
  have c8:((x::xs).map D.int).length<=1000000:=by have:=f.len;rw[XE];lia
  generalize (x::xs).map nm=zs at q c3 c4 c9 e a ⊢
  generalize (x::xs).map D.int=ts at q c8 ⊢
  simp[aB,aH,q,c3,c8,c9,e,a]
abbrev dkF (xs:List Int) (k:Nat):List (Str × D):=[("order", .tup (xs.map D.int)),("past", .ref k)]
abbrev Dk (h:Hh) (n:Nat) (xs:List Int):Prop:=∃k,h[n]?=ξ (.ins "Desk" (dkF xs k))
def Dk.ins {h:Hh}{n:Nat}{xs:List Int} (d:Dk h n xs):∃k,gi "Desk" h (.ref n)=ξ (n,dkF xs k):=by
 obtain⟨k,e⟩:=d
 exact⟨k,by unfold gi;dsimp only;rw[e];dsimp only;rw[if_pos rfl]⟩
def Dk.order {h:Hh}{n:Nat}{xs:List Int} (d:Dk h n xs):lZ "Desk" "order" (.ref n) h=.ok (.tup (xs.map D.int)) h:=by
 obtain⟨k,e⟩:=d.ins
 unfold lZ
 rw[e]
 rfl
def Pq (h:Hh):∀q∈bc.map (·.1),fQ [.str q] h=.ok (.tup [.str q,.frl []]) h:=by
 intro q hq
 simp only[bc,XT,Z3,X4,ab8,or_false] at hq
 rcases hq with rfl | rfl | rfl | rfl | rfl | rfl | rfl | rfl | rfl | rfl | rfl | rfl | rfl | rfl | rfl | rfl<;>kernel_rfl
def Ou {q f:Str}{mf:MF}{t:Str}{h:Hh}{n:Nat}{xs:List Int} (d:Dk h n xs) (hl:fQ [.str q] h=.ok (.tup [.str q,.frl []]) h) (hq:aaM q bc=ξ (.fn f)) (hf:eF f=ξ mf) (hm:mf [.tup (xs.map D.int)] h=.ok (.str t) h):cL [.ref n,.str q] h=.ok (.str t) h:=by
 have o:=d.order
 generalize xs.map D.int=ds at o hm
 have a1:om "QUESTIONS" bc (.str q) (.fn "QUESTIONS") h=.ok (.bl θ) h:=by unfold om;dsimp only;rw[if_pos rfl,hq];rfl
 have a2:vm bc (.str q) h=.ok (.fn f) h:=by unfold vm;dsimp only;rw[hq]
 have c:=zU (tab:=eF) (f:=up (ag 4)) (a:=aa (up (cUn (lZ "Desk" "order") (ag 0))) ah) (env:=[ξ (.ref n),ξ (.str q),ξ (.str q),ξ (.frl []),ξ (.fn f)]) (h:=h) (h1:=h) (x:=f) {..} hf
 simp[cL,aH,hl,a1,a2,o,c,hm]
def oV {n:Nat}{xs:List Int}{h:Hh} (o:Ord n xs) (h1:1<=n) (h2:n<=20) (w:Wf h):ax [.tup (xs.map D.int)] h=.ok .non h:=by
 simp[ax,aH,Ri o h1 h2 w]
def zw {d t:D}{h h':Hh}{n:Nat}{xs:List Int} (k:Dk h n xs) (e:cL [.ref n,d] h=.ok t h'):bK [.ref n,d] h=.ok (.tup [.str "told", t]) h':=by
 obtain⟨j,i⟩:=k.ins
 have l:(dkF xs j).lookup ("say" : Str)=none:=rfl
 generalize dkF xs j=fs at i l
 simp[bK,aH,Cq,js,i,l,e]
section
variable {n:Nat}{xs:List Int}{h:Hh}
def gK (o:Ord n xs) (h2:n<=20):Fs (az xs):=by
 have l:(bL xs).length<=xs.length - 1:=by have:=Yv (fun i=>decide (gI xs (i+1)<gI xs i)) (XF (xs.length - 1));rw[YS] at this;exact this
 refine⟨by unfold az;rw[XE];have:=o.len;lia,fun x hx=>?_⟩
 obtain⟨k,hk,rfl⟩:=X3.mp hx
 exact⟨k,rfl,by have:=X8.mp (Yk.mp hk).1;have:=o.len;lia⟩
def qZ (o:Ord n xs) (h1:1<=n) (h2:n<=20) (w:Wf h):bu [.tup (xs.map D.int)] h=.ok (.tup ((az xs).map D.int)) h:=by
 have a:=oV o h1 h2 w
 have b:=mV (xs:=xs) (h:=h) (by have:=o.len;lia) (by have:=o.len;lia)
 generalize xs.map D.int=ds at a b ⊢
 simp[bu,aH,a,b]
end
def fP {n:Nat}{xs:List Int}{h:Hh} (o:Ord n xs) (h1:1<=n) (h2:n<=20) (w:Wf h):ax [.tup (xs.map D.int)] h=.ok .non h:=oV o h1 h2 w
def mR {n:Nat}{xs:List Int}{h:Hh} (o:Ord n xs) (h1:1<=n) (h2:n<=20) (w:Wf h):bu [.tup (xs.map D.int)] h=.ok (.tup ((az xs).map D.int)) h:=qZ o h1 h2 w
abbrev JM (xs:List Int):List Nat:=(XF (xs.length - 1)).filter fun i=>decide (gI xs i<gI xs (i+1))
abbrev lC (xs:List Int):List Int:=(JM xs).map fun(i:Nat)=>(i:Int)
def EN {n:Nat}{xs:List Int}{h:Hh} (o:Ord n xs) (h1:1<=n) (h2:n<=20) (w:Wf h):dG [.tup (xs.map D.int)] h=.ok (.tup ((lC xs).map D.int)) h:=by
 have hl:=o.len
 have z1:((xs.length:Int) - 1).natAbs<=1000000:={}
 have z2:((xs.length:Int) - 1).toNat=xs.length - 1:={}
 have z3:xs.length - 1<=1000000:={}
 have q:cu (aF asB (ak dLt (ak dIx (ag 1) (ag 0)) (ak dIx (ag 1) (ak (bg aA) (ag 0) (cC (.int 1)))))) (ag 0) (fun x=>[ξ x,ξ (.tup (xs.map D.int))]) (bI 0 (xs.length - 1)) h=.ok ((lC xs).map D.int) h:=by
  rw[nQ (fun i=>decide (gI xs i<gI xs (i+1))) (fun i=>D.int i)]
  ·simp[lC,JM,Zf]
  ·intro i hi
   have e1:ixK (xs.map D.int) (i:Int) h=.ok (.int (gI xs i)) h:=fX rfl {}
   have e2:ixK (xs.map D.int) ((i:Int)+1) h=.ok (.int (gI xs (i+1))) h:=fX {} {}
   simp[e1,e2]
 simp[dG,aH,fP o h1 h2 w,z1,z2,z3,q]
abbrev Gb (n:Nat) (xs:List Int):List Int:=((XF n).filter fun(i:Nat)=>decide ((i:Int)<gI xs i)).map fun(i:Nat)=>(i:Int)
abbrev GX (n:Nat) (xs:List Int):List Int:=((XF n).filter fun(i:Nat)=>decide (gI xs i<(i:Int))).map fun(i:Nat)=>(i:Int)
def N3 {n:Nat}{f:Nat->Bool} (hn:n<=20):(∀x∈((XF n).filter f).map (fun(i:Nat)=>(i:Int)),sml x=θ)/\(((XF n).filter f).map (fun(i:Nat)=>(i:Int))).length<=20:=by
 refine⟨fun x hx=>?_,?_⟩
 ·obtain⟨i,hi,rfl⟩:=X3.mp hx
  have:=X8.mp (Yk.mp hi).1
  exact D7 {} {}
 ·rw[XE]
  have:=Yv f (XF n)
  rw[YS] at this
  lia
def wY {xs:List Int}{f:Nat->Bool}{tt:MT}{h:Hh} (ht:∀i,i<xs.length->tt [ξ (.int (i:Nat)),ξ (.int (gI xs i))] h=.ok (f i) h):cu (unp tt) (unp (ag 0)) (fun x=>[ξ x]) (fJ (xs.map D.int)) h=.ok ((((XF xs.length).filter f).map fun(i:Nat)=>(i:Int)).map D.int) h:=by
 rw[xg,comp_map (fun(i:Nat)=>D.tup [.int i,.int (gI xs i)]) f (fun(i:Nat)=>D.int i) _ (fun i hi=>⟨by
  have:=ht i (X8.mp hi)
  simpa using this,fun _=>{..}⟩),Zf]
 rfl
def ER {n:Nat}{xs:List Int}{h:Hh} (o:Ord n xs) (h1:1<=n) (hn:n<=20) (w:Wf h):dB [.tup (xs.map D.int)] h=.ok (.tup ((Gb n xs).map D.int)) h:=by
 have oe:=fP (h:=h) o h1 hn w
 have hl:=o.len
 have q:=wY (xs:=xs) (f:=fun(i:Nat)=>decide ((i:Int)<gI xs i)) (tt:=aF asB (ak dGt (ag 1) (ag 0))) (h:=h) (fun i hi=>{..})
 have z:xs.length<=1000000:={}
 rw[hl] at q
 unfold Gb
 generalize (((XF n).filter fun(i:Nat)=>decide ((i:Int)<gI xs i)).map fun(i:Nat)=>(i:Int)).map D.int=W at *
 simp[dB,aH,oe,z,q]
def DW {n:Nat}{xs:List Int}{h:Hh} (o:Ord n xs) (h1:1<=n) (hn:n<=20) (w:Wf h):dO [.tup (xs.map D.int)] h=.ok (.tup ((GX n xs).map D.int)) h:=by
 have oe:=fP (h:=h) o h1 hn w
 have hl:=o.len
 have q:=wY (xs:=xs) (f:=fun(i:Nat)=>decide (gI xs i<(i:Int))) (tt:=aF asB (ak dLt (ag 1) (ag 0))) (h:=h) (fun i hi=>{..})
 have z:xs.length<=1000000:={}
 rw[hl] at q
 unfold GX
 generalize (((XF n).filter fun(i:Nat)=>decide (gI xs i<(i:Int))).map fun(i:Nat)=>(i:Int)).map D.int=W at *
 simp[dO,aH,oe,z,q]
abbrev gx (xs:List Int):List Int:=((bL xs).map fun(i:Nat)=>(i:Int)+1)++[(xs.length:Int)]
abbrev cW (xs:List Int) (s:Nat):Bool:=decide (s=xs.length) || decide (1<=s/\s<xs.length/\gI xs s<gI xs (s - 1))
def Bm {X:Type} (f:Nat->X) (p:Nat->Bool) (n:Nat):(XF (n+1)).filter p=(if p 0 then [0] else [])++((XF n).filter fun i=>p (i+1)).map (· + 1):=by
 rw[aa1,YF,List.filter_map]
 cases p 0<;>rfl
def j4 {xs:List Int} (h:1<=xs.length):((XF (xs.length+1)).filter (cW xs)).map (fun(i:Nat)=>(i:Int))=gx xs:=by
 rw[Bm (f:=id)]
 have e0:cW xs 0=false:=by simp[cW];lia
 obtain⟨k,hk⟩:∃k,xs.length=k+1:=⟨xs.length - 1,{}⟩
 rw[e0,if_neg Yc,aby,hk,ZE,Zv,YE,YE]
 unfold gx bL
 rw[hk]
 congr 1
 ·rw[Zf,show k+1 - 1=k by lia]
  have e1:(XF k).filter (fun i=>cW xs (i+1))=(XF k).filter fun i=>decide (gI xs (i+1)<gI xs i):=by
   apply ZZ
   intro i hi
   have hi:i<k:=by simpa using hi
   have a1:¬ (i+1=k+1):={}
   have a2:i+1<k+1:={}
   simp[cW,hk,a2]
   lia
  rw[e1]
  apply ZD
  intro i _
  simp
 ·have:cW xs (k+1)=true:=by simp[cW,hk]
  simp[this]
def uC {xs:List Int} (h:1<=xs.length):((XF xs.length).filter (fun(i:Nat)=>!((gx xs).any (· == (i:Int)))))=(XF (xs.length+1)).filter fun i=>!cW xs i:=by
 rw[ZE,Zv]
 have:cW xs xs.length=true:=by simp[cW]
 simp only[YF,this,Bool.not_true,Bool.false_eq_true,if_false,List.filter_nil,YD]
 apply ZZ
 intro i hi
 have hi:i<xs.length:=by simpa using hi
 congr 1
 rw[<- j4 h,List.any_map,abz,Ze]
 constructor
 ·rintro⟨j,hj,e⟩
  have e:(j:Int)=i:=by simpa using e
  have e:j=i:={}
  subst e
  exact(Yk.mp hj).2
 ·intro e
  exact⟨i,Yk.mpr ⟨by simp;lia,e⟩,{..}⟩
def rm {n:Nat}{xs:List Int}{h:Hh} (o:Ord n xs) (h1:1<=n) (h2:n<=20) (w:Wf h):bh [.tup (xs.map D.int)] h=.ok (.tup ((gx xs).map D.int)) h:=by
 have hl:(az xs).length<=20:=by
  have:=o.len
  have:(az xs).length<=xs.length - 1:=by
   unfold az bL;rw[XE];exact XR (Yv _ _) {..}
  lia
 have q:=jP (h:=h) (te:=ak (bg aA) (ag 0) (cC (.int 1))) (ee:=fun d=>[ξ d]) D.int (fun i=>D.int (i+1)) (az xs) (fun x _=>{..})
 have z1:(az xs).length<=1000000:={}
 have z2:(az xs).length+1<=1000000:={}
 simp[bh,aH,yX,mR o h1 h2 w,q,z1,z2]
 simp[gx,az]
def HA {n:Nat}{xs:List Int}{h:Hh} (o:Ord n xs) (h1:1<=n) (h2:n<=20) (w:Wf h):bJ [.tup (xs.map D.int)] h=.ok (.tup ((((XF (n+1)).filter fun i=>!cW xs i).map fun(i:Nat)=>(i:Int)).map D.int)) h:=by
 have hl:=o.len
 have z1:xs.length<=1000000:={}
 have z3:xs.length<=1000000:={}
 have q:=nQ (h:=h) (n:=xs.length) (tt:=aF asB (ak (dIn θ) (ag 0) (ag 1))) (te:=ag 0) (ee:=fun x=>[ξ x,ξ (.tup ((gx xs).map D.int))]) (fun i=>!((gx xs).any (· == (i:Int)))) (fun i=>D.int i) (fun i _=>{..})
 simp[bJ,aH,rm o h1 h2 w,z1,z3,q]
 rw[uC {},hl]
 rfl
def o_:∀(n:Nat) (xs:List Int),xs.Nodup->(∀x∈xs,0<=x/\x<n)->xs.length<=n
 | 0,xs,_,h=>by
  cases xs with
  | nil=>simp
  | cons x r=>have:=h x XU;lia
 | n+1,xs,nd,h=>by
  by_cases hm:(n:Int)∈xs
  ·have ih:=o_ n (xs.erase n) (nd.erase _) (fun x hx=>by
    obtain⟨a,b⟩:=(List.Nodup.mem_erase_iff nd).mp hx
    have:=h x b;lia)
   rw[List.length_erase_of_mem hm] at ih
   lia
  ·have ih:=o_ n xs nd (fun x hx=>by
    have a:=h x hx
    have b:x≠(n:Int):=fun e=>hm (e ▸ hx)
    lia)
   lia
def lK {n:Nat}{xs:List Int} (o:Ord n xs){j:Int} (h0:0<=j) (h1:j<n):j∈xs:=by
 refine Zk fun hj=>?_
 have:=o_ n (j::xs) (Yt.mpr ⟨hj,o.nd⟩) (fun x hx=>by
  rcases X4.mp hx with rfl | hx
  ·exact⟨h0,h1⟩
  ·exact⟨o.lo x hx,o.hi x hx⟩)
 rw[YB,o.len] at this
 lia
abbrev kF (xs:List Int) (k:Nat):List Int:=xs.filter fun x=>decide (x<=(k:Int))
abbrev ixI (xs:List Int) (k:Nat):Nat:=(kF xs k).findIdx (· == (k:Int))
abbrev CB (xs:List Int):List Int:=(XF xs.length).map fun(k:Nat)=>(ixI xs k:Int)
def HZ {n:Nat}{xs:List Int} (o:Ord n xs){k:Nat} (hk:k<n):(k:Int)∈kF xs k:=Yk.mpr ⟨lK o {} {},{..}⟩
def OK {n:Nat}{xs:List Int} (o:Ord n xs){k:Nat} (hk:k<n):ixI xs k<(kF xs k).length:=Zg ⟨_,HZ o hk,{..}⟩
def Gj {xs:List Int}{k:Nat}{h:Hh}:cu (aF asB (ak dLe (ag 0) (ag 1))) (ag 0) (fun x=>[ξ x,ξ (.int k)]) (xs.map D.int) h=.ok ((kF xs k).map D.int) h:=by
 rw[comp_map D.int (fun x=>decide (x<=(k:Int))) D.int xs (fun x hx=>⟨{..},fun _=>{..}⟩)]
 rfl
def Io {xs:List Int}{k:Nat}{h:Hh} (hl:xs.length<=1000):bN [.tup (xs.map D.int),.int k] h=.ok (.tup ((kF xs k).map D.int)) h:=by
 have z:xs.length<=1000000:={}
 have q:=Gj (xs:=xs) (k:=k) (h:=h)
 simp[bN,aH,z,q]
def M5 {n:Nat}{xs:List Int} (o:Ord n xs){k:Nat} (hk:k<n):(kF xs k).findIdx? (· == (k:Int))=ξ (ixI xs k):=Zz.mpr ⟨OK o hk,rfl⟩
def kU {ns:List Int}{i:Int}{j:Nat}{h:Hh} (e:ns.findIdx? (· == i)=ξ j):d9 (.tup (ns.map D.int)) [.int i] h=.ok (.int (j:Nat)) h:=by
 delta d9;dsimp only;rw[kg];dsimp only;rw[e]
def A7 {n:Nat}{xs:List Int}{h:Hh} (o:Ord n xs) (h1:1<=n) (h2:n<=20) (w:Wf h):eP [.tup (xs.map D.int)] h=.ok (.tup ((CB xs).map D.int)) h:=by
 have hl:=o.len
 have z:xs.length<=1000000:={}
 have q:cu tt1 (g7 d9 (af bN (aa (ag 1) (aa (ag 0) ah))) (aa (ag 0) ah)) (fun x=>[ξ x,ξ (.tup (xs.map D.int))]) (bI 0 xs.length) h=.ok ((CB xs).map D.int) h:=by
  rw[jK (fun(k:Nat)=>D.int (ixI xs k:Int))]
  ·simp[CB]
  ·intro k hk
   have u:=Io (xs:=xs) (k:=k) (h:=h) {}
   have f:=kU (h:=h) (M5 o (k:=k) {})
   show((af bN (aa (ag 1) (aa (ag 0) ah))) [ξ (.int (k:Nat)),ξ (.tup (xs.map D.int))] h).bind _=_
   simp[u,isT,f]
 simp[eP,aH,fP o h1 h2 w,z,q]
abbrev uz (xs:List Int):List Int:=(XF xs.length).map fun(k:Nat)=>((az (kF xs k)).length:Int)
def xY (xs:List Int) (k:Nat):(kF xs k).length<=xs.length:=Yv _ _
def Ss {xs:List Int}{h:Hh} (hl:xs.length<=1000):bp [.tup (xs.map D.int)] h=.ok (.tup ((az xs).map D.int)) h:=by
 have z1:((xs.length:Int) - 1).natAbs<=1000000:={}
 have z2:((xs.length:Int) - 1).toNat=xs.length - 1:={}
 have z3:xs.length - 1<=1000000:={}
 have q:=oS (xs:=xs) (h:=h) (d:=.tup (xs.map D.int)) (fun i=>Jp)
 simp[bp,aH,z1,z2,z3,q]
def Gr {xs:List Int}{h:Hh} (hl:xs.length<=1000):cu tt1 (af bA (aa (af bp (aa (af bN (aa (ag 1) (aa (ag 0) ah))) ah)) ah)) (fun x=>[ξ x,ξ (.tup (xs.map D.int))]) (bI 0 xs.length) h=.ok ((uz xs).map D.int) h:=by
 rw[jK (fun(k:Nat)=>D.int ((az (kF xs k)).length:Int))]
 ·simp[uz]
 ·intro k hk
  have:=xY xs k
  simp[Io hl,Ss (xs:=kF xs k) {}]
def AL {n:Nat}{xs:List Int}{h:Hh} (o:Ord n xs) (h1:1<=n) (h2:n<=20) (w:Wf h):eQ [.tup (xs.map D.int)] h=.ok (.tup ((uz xs).map D.int)) h:=by
 have hl:=o.len
 have z:xs.length<=1000000:={}
 have q:=Gr (xs:=xs) (h:=h) {}
 simp[eQ,aH,fP o h1 h2 w,z,q]
def j5 {n:Nat}{f:Nat->Bool} (hn:n<=20):Fs (((XF n).filter f).map fun(i:Nat)=>(i:Int)):=⟨(N3 hn).2,fun x hx=>by
 obtain⟨i,hi,rfl⟩:=X3.mp hx
 exact⟨i,rfl,by have:=X8.mp (Yk.mp hi).1;lia⟩⟩
def Kf {n:Nat}{xs:List Int} (o:Ord n xs) (h2:n<=20):Fs (CB xs):=by
 refine⟨by unfold CB;rw[XE,YS,o.len];exact h2,fun x hx=>?_⟩
 obtain⟨k,hk,rfl⟩:=X3.mp hx
 have hk:=X8.mp hk
 rw[o.len] at hk
 have:=OK o hk
 have:=xY xs k
 exact⟨_,rfl,by rw[o.len] at this;lia⟩
def Ez {n:Nat}{xs:List Int} (o:Ord n xs) (h2:n<=20):Fs (uz xs):=by
 refine⟨by unfold uz;rw[XE,YS,o.len];exact h2,fun x hx=>?_⟩
 obtain⟨k,hk,rfl⟩:=X3.mp hx
 refine⟨_,rfl,?_⟩
 have a:(az (kF xs k)).length<=(kF xs k).length - 1:=by
  unfold az bL;rw[XE];exact XR (Yv _ _) {..}
 have:=xY xs k
 rw[o.len] at this
 lia
def tP {n:Nat}{xs:List Int} (o:Ord n xs) (h1:1<=n) (h2:n<=20):Fs (gx xs):=by
 have e:=j4 (xs:=xs) (by rw[o.len];exact h1)
 have l:(gx xs).length<=20:=by
  unfold gx bL
  rw[YU,XE]
  have:=Yv (fun i=>decide (gI xs (i+1)<gI xs i)) (XF (xs.length - 1))
  rw[YS] at this
  have:=o.len
  simp only[YB,List.length_nil]
  lia
 refine⟨l,fun x hx=>?_⟩
 rw[<- e] at hx
 obtain⟨i,hi,rfl⟩:=X3.mp hx
 exact⟨i,rfl,by have:=X8.mp (Yk.mp hi).1;have:=o.len;lia⟩
def Cr {n:Nat}{xs:List Int} (o:Ord n xs) (h1:1<=n) (h2:n<=20):Fs (((XF (n+1)).filter fun i=>!cW xs i).map fun(i:Nat)=>(i:Int)):=by
 have e:=uC (xs:=xs) (by rw[o.len];exact h1)
 rw[o.len] at e
 rw[<- e]
 exact j5 h2
section
variable {n:Nat}{xs:List Int}{h:Hh}
def Nx (o:Ord n xs) (h1:1<=n) (h2:n<=20) (w:Wf h):dC [.tup (xs.map D.int)] h=.ok (.str (thT (az xs))) h:=by
 have a:=qZ o h1 h2 w
 have b:=fK (h:=h) (gK o h2)
 simp[dC,aH,a,b]
def Mp (o:Ord n xs) (h1:1<=n) (h2:n<=20) (w:Wf h):dH [.tup (xs.map D.int)] h=.ok (.str (thT (lC xs))) h:=by
 have a:=EN o h1 h2 w
 have b:=fK (h:=h) (xs:=lC xs) (j5 (n:=xs.length - 1) (by have:=o.len;lia))
 simp[dH,aH,a,b]
def Ni (o:Ord n xs) (h1:1<=n) (h2:n<=20) (w:Wf h):dE [.tup (xs.map D.int)] h=.ok (.str (thT (Gb n xs))) h:=by
 have a:=ER o h1 h2 w
 have b:=fK (h:=h) (xs:=Gb n xs) (j5 h2)
 simp[dE,aH,a,b]
def Nf (o:Ord n xs) (h1:1<=n) (h2:n<=20) (w:Wf h):dN [.tup (xs.map D.int)] h=.ok (.str (thT (GX n xs))) h:=by
 have a:=DW o h1 h2 w
 have b:=fK (h:=h) (xs:=GX n xs) (j5 h2)
 simp[dN,aH,a,b]
def Om (o:Ord n xs) (h1:1<=n) (h2:n<=20) (w:Wf h):dJ [.tup (xs.map D.int)] h=.ok (.str (thT (gx xs))) h:=by
 have a:=rm o h1 h2 w
 have b:=fK (h:=h) (tP o h1 h2)
 simp[dJ,aH,a,b]
abbrev Ii (n:Nat) (xs:List Int):List Int:=((XF (n+1)).filter fun i=>!cW xs i).map fun(i:Nat)=>(i:Int)
def R5 (o:Ord n xs) (h1:1<=n) (h2:n<=20) (w:Wf h):fG [.tup (xs.map D.int)] h=.ok (.str (thT (Ii n xs))) h:=by
 have a:=HA o h1 h2 w
 have b:=fK (h:=h) (xs:=Ii n xs) (Cr o h1 h2)
 unfold Ii at b ⊢
 generalize (((XF (n+1)).filter fun i=>!cW xs i).map fun(i:Nat)=>(i:Int))=ys at a b ⊢
 simp[fG,aH,a,b]
def QP (o:Ord n xs) (h1:1<=n) (h2:n<=20) (w:Wf h):eA [.tup (xs.map D.int)] h=.ok (.str (thT (CB xs))) h:=by
 have a:=A7 o h1 h2 w
 have b:=fK (h:=h) (Kf o h2)
 simp[eA,aH,a,b]
def QI (o:Ord n xs) (h1:1<=n) (h2:n<=20) (w:Wf h):eD [.tup (xs.map D.int)] h=.ok (.str (thT (uz xs))) h:=by
 have a:=AL o h1 h2 w
 have b:=fK (h:=h) (Ez o h2)
 simp[eD,aH,a,b]
def DI (o:Ord n xs) (h2:n<=20):Fs xs:=⟨by rw[o.len];exact h2,fun x hx=>⟨x.toNat,by have:=o.lo x hx;lia,by have:=o.lo x hx;have:=o.hi x hx;lia⟩⟩
def Mv (o:Ord n xs) (h1:1<=n) (h2:n<=20) (w:Wf h):dQ [.tup (xs.map D.int)] h=.ok (.str (thT xs)) h:=by
 have f:=DI o h2
 have a:=oV o h1 h2 w
 have q:=Qb (h:=h) f.sm
 have c3:(xs.map nm).length<=1000000:=by rw[XE];have:=f.len;lia
 have c4:wgt (xs.map nm)<=1048576:=XR f.wg (by decide)
 have c8:(xs.map D.int).length<=1000000:=by have:=f.len;rw[XE];lia
 have j:=mJ (sep:=" ") (zs:=xs.map nm) (h:=h) ou.2 c4
 unfold thT
 rw[if_neg (fun e=>by have:=o.len;rw[e] at this;simp at this;lia)]
 generalize xs.map nm=zs at q c3 c4 j ⊢
 generalize xs.map D.int=ts at a q c8 ⊢
 simp[dQ,gC,aH,a,q,c3,c8,j]
end
def lT {i a b:Int}{h:Hh} (hi:a<=i/\i<=b):bC [.int i,.int a,.int b] h=.ok .non h:=by
 simp[bC,aH,hi]
abbrev Bz (xs:List Int):List Int:=(XF (xs.length+1)).map fun(k:Nat)=>((k:Int)+1)*gI (0::xs++[0]) (k+1)+((xs.length:Int)+1 - (k:Int))*gI (0::xs++[0]) k
abbrev kJ:Nat->List Int
 | 0=>[1]
 | n+1=>Bz (kJ n)
def wK:∀n,n<31->(kJ n).length=n+1/\∀x∈kJ n,x.natAbs<=10 ^ 40:={:_}
def G0 (xs:List Int):(Bz xs).length=xs.length+1:=by simp[Bz]
def k9:∀n,(kJ n).length=n+1
 | 0=>rfl
 | n+1=>by rw[kJ,G0,k9 n]
def Dj {x:Int} (h:x.natAbs<=10 ^ 40):sml x=true:=Ct (XR h {:_})
def Jv {xs:List Int}{b:Nat} (h:∀x∈xs,x.natAbs<=b) (k:Nat):(gI xs k).natAbs<=b:=by
 by_cases hk:k<xs.length
 ·exact h _ (DR hk)
 ·unfold gI;rw[Ym,YN {}];simp
def GB {xs:List Int}{h:Hh} (hl:xs.length<=100) (hb:∀x∈xs,x.natAbs<=10 ^ 40):eU [.frl (xs.map D.int)] h=.ok (.frl ((Bz xs).map D.int)) h:=by
 have hb':∀k,sml (gI (0::xs++[0]) k)=true:=fun k=>Dj (Jv (fun y hy=>by
  simp at hy
  rcases hy with rfl | hy | rfl
  ·decide
  ·exact hb y hy
  ·decide) k)
 have z1:((xs.length:Int)+1).natAbs<=1000000:={}
 have z2:((xs.length:Int)+1).toNat=xs.length+1:={}
 have z3:xs.length+1<=1000000:={}
 have z4:1+xs.length<=1000000:={}
 have z5:xs.length+1+1<=1000000:={}
 have q:=jK (h:=h) (n:=xs.length+1) (te:=ak (bg aA) (ak (kN aA) (ak (bg aA) (ag 0) (cC (.int 1))) (ak dIx (ag 1) (ak (bg aA) (ag 0) (cC (.int 1))))) (ak (kN aA) (ak gm (ag 2) (ag 0)) (ak dIx (ag 1) (ag 0))))
  (ee:=fun d=>[ξ d,ξ (.frl (D.int 0::(xs.map D.int++[D.int 0]))),ξ (.int ((xs.length:Int)+1))]) (fun(k:Nat)=>D.int (((k:Int)+1)*gI (0::xs++[0]) (k+1)+((xs.length:Int)+1 - (k:Int))*gI (0::xs++[0]) k)) (fun i hi=>by
   have t1:ixK (D.int 0::(xs.map D.int++[D.int 0])) ((i:Int)+1) h=.ok (.int (gI (0::xs++[0]) (i+1))) h:=by
    have:=fX (h:=h) (ns:=0::xs++[0]) (i:=(i:Int)+1) (j:=i+1) {} (by simp;lia)
    simpa using this
   have t2:ixK (D.int 0::(xs.map D.int++[D.int 0])) (i:Int) h=.ok (.int (gI (0::xs++[0]) i)) h:=by
    have:=fX (h:=h) (ns:=0::xs++[0]) (i:=(i:Int)) (j:=i) {} (by simp;lia)
    simpa using this
   have s1:sml ((i:Int)+1)=true:=bW {} {}
   have s2:sml ((xs.length:Int)+1 - (i:Int))=true:=bW {} {}
   simp[t1,t2,s1,s2]
   simp only[aaD] at hb'
   simp[hb'])
 simp[eU,aH,z1,z2,z3,z4,z5,q,Bz]
def Sj {n:Nat}{h:Hh} (hn:n<30):k_ [.int ((n:Int)+1)] h=.ok (.frl ((kJ n).map D.int)) h:=by
 have q:=tw (c:=aF asB (ak dLt (af bA (aa (ag 1) ah)) (ag 0))) (b:=aZ 1 (af eU (aa (ag 1) ah))) n (fun i=>[ξ (.int ((n:Int)+1)),ξ (.frl ((kJ i).map D.int))]) (fun _=>h) (fun i hi=>by
   simp[k9];lia) (fun i hi=>by
   have:=GB (h:=h) (xs:=kJ i) (by rw[k9];lia) (wK i {}).2
   simp[this];rfl) (by simp[k9]) 64 {}
 have z:1<=(n:Int)+1/\(n:Int)+1<=30:={}
 simp only[kJ,XT,Z3] at q
 have zn:=lT (h:=h) z
 simp[k_,aH,z,zn,q]
def Bq {n k:Nat} (h1:1<=n) (h2:n<=20) (hk:k<=20):∃c:Int,c.natAbs<=10 ^ 40/\∀h:Hh,bQ [.int n,.int k] h=.ok (.int c) h:=by
 obtain⟨m,rfl⟩:∃m,n=m+1:=⟨n - 1,{}⟩
 have z1:(kJ m).length<=1000000:=by rw[k9];lia
 have e:(k:Int)+1=((k+1:Nat):Int):={}
 have hc:(kr (kJ m) (ξ (k:Int)) (ξ ((k+1:Nat):Int))).length<=1:=by
  unfold kr
  rw[HT.lU,HT.lU,Z6]
  lia
 have hm:∀x∈kr (kJ m) (ξ (k:Int)) (ξ ((k+1:Nat):Int)),x.natAbs<=10 ^ 40:=fun x hx=>(wK m {}).2 x (List.mem_of_mem_drop (aax hx))
 have hb:(kr (kJ m) (ξ (k:Int)) (ξ ((k+1:Nat):Int))).sum.natAbs<=10 ^ 40:=by
  generalize kr (kJ m) (ξ (k:Int)) (ξ ((k+1:Nat):Int))=L at hc hm
  match L,hc with
  | [],_=>simp
  | [x],_=>simpa using hm x {..}
 refine⟨_,hb,fun h=>?_⟩
 have r:=Sj (n:=m) (h:=h) {}
 have zn:=lT (h:=h) (i:=((m+1:Nat):Int)) (a:=1) (b:=30) {}
 have zk:=lT (h:=h) (i:=(k:Int)) (a:=0) (b:=30) {}
 generalize hL:kr (kJ m) (ξ (k:Int)) (ξ ((k+1:Nat):Int))=L
 have hd:=iW D.int (kJ m) (ξ (k:Int)) (ξ ((k+1:Nat):Int))
 rw[hL,<- e] at hd
 have ek:((m+1:Nat):Int)=(m:Int)+1:={}
 rw[ek] at zn ⊢
 have z2:((kJ m).map D.int).length<=1000000:=by rw[XE];exact z1
 generalize (kJ m).map D.int=ds at r hd z2
 simp[bQ,eO,aH,zn,zk,r,hd,z2]
section
variable {n:Nat}{xs:List Int}{h:Hh}
def Cg (o:Ord n xs) (h1:1<=n) (h2:n<=20) (w:Wf h):bj [.tup (xs.map D.int)] h=.ok (.int ((az xs).length:Nat)) h:=by
 have a:=qZ o h1 h2 w
 have:=(gK o h2).len
 have z:(az xs).length<=1000000:={}
 simp[bj,aH,a,z]
def Q4 (o:Ord n xs) (h1:1<=n) (h2:n<=20) (w:Wf h):eN [.tup (xs.map D.int)] h=.ok (.str (nm ((az xs).length:Nat))) h:=by
 have a:=Cg o h1 h2 w
 have:=(gK o h2).len
 have z:sml (((az xs).length:Nat):Int)=true:=bW {} {}
 simp[eN,aH,a,z,-L2.FE.eK,FC.eK]
end
def xi (k:Nat) (h:Hh):∀xs ys:List Int,eqL (eqD (k+1) h) (xs.map D.int) (ys.map D.int)=ξ (decide (xs=ys))
 | [],[]=>rfl
 | [],y::ys=>rfl
 | x::xs,[]=>rfl
 | x::xs,y::ys=>by
  have ih:=xi k h xs ys
  have e1:eqD (k+1) h (.int x) (.int y)=ξ (x == y):=rfl
  simp only[XT,eqL,e1,ih]
  by_cases a:x=y<;>by_cases b:xs=ys<;>simp[a,b]
def Ud {h:Hh}{xs ys:List Int}:dEq (.tup (xs.map D.int)) (.tup (ys.map D.int)) h=.ok (.bl (decide (xs=ys))) h:=by
 have:eqD eqN h (.tup (xs.map D.int)) (.tup (ys.map D.int))=ξ (decide (xs=ys)):=xi 10 h xs ys
 simp only[dEq,this]
abbrev DQ (n:Nat):List Int:=((XF (n - 1)).filter fun i=>decide (i % 2=1)).map fun(i:Nat)=>(i:Int)
def SU (n:Nat) (hn:n<20) (h:Hh):ir [.int ((n:Int)+1)] h=.ok (.tup ((DQ (n+1)).map D.int)) h:=by
 match n,hn with
 | 0,_=>kernel_rfl
 | 1,_=>kernel_rfl
 | 2,_=>kernel_rfl
 | 3,_=>kernel_rfl
 | 4,_=>kernel_rfl
 | 5,_=>kernel_rfl
 | 6,_=>kernel_rfl
 | 7,_=>kernel_rfl
 | 8,_=>kernel_rfl
 | 9,_=>kernel_rfl
 | 10,_=>kernel_rfl
 | 11,_=>kernel_rfl
 | 12,_=>kernel_rfl
 | 13,_=>kernel_rfl
 | 14,_=>kernel_rfl
 | 15,_=>kernel_rfl
 | 16,_=>kernel_rfl
 | 17,_=>kernel_rfl
 | 18,_=>kernel_rfl
 | 19,_=>kernel_rfl
 | n+20,hn=>exact absurd hn {}
def E_ {n:Nat}{xs:List Int}{h:Hh} (o:Ord n xs) (h1:1<=n) (h2:n<=20) (w:Wf h):cA [.tup (xs.map D.int)] h=.ok (.bl (decide (az xs=DQ n))) h:=by
 obtain⟨k,rfl⟩:∃k,n=k+1:=⟨n - 1,{}⟩
 have q:=SU k {} h
 have a:=mR (h:=h) o h1 h2 w
 simp[cA,aH,a,o.len,q,Ud]
section
variable {n:Nat}{xs:List Int}{h:Hh}
def Jy (o:Ord n xs) (h1:1<=n) (h2:n<=20) (w:Wf h):cx [.tup (xs.map D.int)] h=.ok (.str (if az xs=DQ n then "yes" else "no")) h:=by
 have a:=E_ o h1 h2 w
 by_cases z:az xs=DQ n
 ·rw[decide_eq_true z] at a
  rw[if_pos z]
  simp[cx,aH,a]
 ·rw[decide_eq_false z] at a
  rw[if_neg z]
  simp[cx,aH,a]
def N_ (o:Ord n xs) (h1:1<=n) (h2:n<=20)   : ∃c:Int,sml c=θ/\∀h:Hh,Wf h->bQ [.int n,.int ((az xs).length:Nat)] h=.ok (.int c) h/\cU [.tup (xs.map D.int)] h=.ok (.str (nm c)) h:=by
 have l:=(gK o h2).len
 obtain⟨c,hc,e⟩:=Bq (n:=n) (k:=(az xs).length) h1 h2 l
 have s:=Dj hc
 refine⟨c,s,fun h w=>⟨e h,?_⟩⟩
 have a:=Cg o h1 h2 w
 replace e:=e h
 have z:(xs.map D.int).length=n:=by rw[XE];exact o.len
 have z2:n<=1000000:={}
 generalize xs.map D.int=ds at a z ⊢
 generalize (az xs).length=k at a e
 simp[cU,aH,a,e,z,z2,s,-L2.FE.eK,FC.eK]
end
abbrev dF (xs:List Int) (m:Int) (s:Nat):List Int:=xs.take s++m::xs.drop s
def D2 (xs:List Int) (m:Int) (s:Nat):(dF xs m s).length=xs.length+1:=by simp[dF];lia
def Ec {xs:List Int}{m:Int}{s:Nat}{x:Int} (h:x∈dF xs m s):x=m\/x∈xs:=by
 unfold dF at h
 rcases YV.mp h with h | h
 ·exact .inr (aax h)
 ·rcases X4.mp h with h | h
  ·exact .inl h
  ·exact .inr (List.mem_of_mem_drop h)
def yb {X:Type} [BEq X] [LawfulBEq X]:∀{l:List X} (_:l.Nodup){i:Nat} (h:i<l.length),l.findIdx? (· == l[i])=ξ i
 | x::l,nd,0,_=>by simp[List.findIdx?_cons]
 | x::l,nd,i+1,h=>by
  have hi:i<l.length:=by simpa using h
  have ne:(x == l[i])=false:=beq_eq_false_iff_ne.mpr fun e=>(Yt.mp nd).1 (e ▸ aaE hi)
  have ih:=yb (Yt.mp nd).2 hi
  rw[List.getElem_cons_succ,List.findIdx?_cons,ne,ih]
  rfl
def EF {n s:Nat}{o:List Int} (q:Ord n o):Ord (n+1) (dF o n s):=by
 have nm:(n:Int)∉o:=fun z=>by have:=q.hi _ z;lia
 refine⟨by rw[D2,q.len],?_,fun x hx=>?_,fun x hx=>?_⟩
 ·have e:(dF o n s).Perm ((n:Int)::o):=by
   unfold dF
   exact List.perm_middle.trans (by rw[ZR])
  exact e.nodup_iff.mpr (Yt.mpr ⟨nm,q.nd⟩)
 ·rcases Ec hx with rfl | hx
  ·lia
  ·exact q.lo x hx
 ·rcases Ec hx with rfl | hx
  ·lia
  ·have:=q.hi x hx;lia
def Qn {n s:Nat}{o:List Int} (q:Ord n o) (hs:s<=n):(dF o n s).findIdx? (· == (n:Int))=ξ s/\(dF o n s).take s++(dF o n s).drop (s+1)=o:=by
 have l:=q.len
 have ls:(o.take s).length=s:=by rw[Z6];lia
 have nd:=(EF (s:=s) q).nd
 have hi:s<(dF o n s).length:=by rw[D2];lia
 have e0:(dF o n s)[s]?=ξ (n:Int):=by
  unfold dF
  rw[Yh {}]
  simp[ls]
 have e:(dF o n s)[s]=(n:Int):=(X9.mp e0).2
 refine⟨by have:=yb nd hi;rw[e] at this;exact this,?_⟩
 unfold dF
 rw[List.take_append_of_le_length {},aad {},List.drop_append,List.drop_of_length_le {},ls]
 simp
def N8 {n:Nat}{xs:List Int} (q:Ord (n+1) xs):∃o s,Ord n o/\s<=n/\xs=dF o n s:=by
 have l:=q.len
 obtain⟨s,hs,e⟩:=List.mem_iff_getElem.mp (lK q (j:=(n:Int)) {} {})
 refine⟨xs.take s++xs.drop (s+1),s,?_,{},?_⟩
 ·have p:xs.Perm ((n:Int)::(xs.take s++xs.drop (s+1))):=by
   have:xs=xs.take s++(n:Int)::xs.drop (s+1):=by rw[<- e,aa4,ZR]
   exact(this ▸ List.perm_middle:xs.Perm _)
  have nd:=Yt.mp (p.nodup_iff.mp q.nd)
  have mm:∀x∈xs.take s++xs.drop (s+1),x∈xs:=fun x hx=>p.symm.subset (XM _ hx)
  refine⟨by have:=p.length_eq;simp at this;simp;lia,nd.2,fun x hx=>q.lo x (mm x hx),fun x hx=>?_⟩
  have h1:=q.hi x (mm x hx)
  have h2:x≠n:=fun z=>nd.1 (z ▸ hx)
  lia
 ·have ls:(xs.take s).length=s:=by rw[Z6];lia
  unfold dF
  rw[List.take_append_of_le_length {},aad {},List.drop_append,List.drop_of_length_le {},ls]
  simp only[acZ,List.drop_zero,aby]
  rw[<- e,aa4,ZR]
def zt {f:D->List D->Hh->R D}{o:ME}{a:MA}{env:En}{h:Hh}:g7 f o a env h=(o env h).bind fun x h1=>if isT x=θ then (a env h1).bind fun xs h2=>f x xs h2 else .bad:=rfl
def xW {ds:List D}:isT (.tup ds)=true:=rfl
def find_some {l:List Int}{x:Int} (h:x∈l):∃j,l.findIdx? (· == x)=ξ j/\j<l.length:=by
 cases e:l.findIdx? (· == x) with
 | some j=>exact⟨j,rfl,(Zz.mp e).1⟩
 | none=>
  have:=List.findIdx?_eq_none_iff.mp e x h
  simp at this
def jq {x:Int}{n:Nat} (hn:n<=20) (h:x.natAbs<=10 ^ (43+2*n)):sml x=true:=Ct (XR h (XR (Zb (by decide) (show 43+2*n<=83 by lia)) {:_}))
def ML {n k:Nat} (h1:1<=n) (h2:n<=20) (hk:k<=20):∃c:Int,c.natAbs<=21*10 ^ 40/\∀h:Hh,eL [.int ((n+1:Nat):Int),.int k] h=.ok (.int c) h:=by
 obtain⟨c,hc,e⟩:=Bq (n:=n) (k:=k) h1 h2 hk
 have e1:((n+1:Nat):Int) - 1=n:={}
 have k1:(k:Int)+1=((k+1:Nat):Int):={}
 have sk:sml ((k+1:Nat):Int)=true:=bW {} {}
 have sc:=Dj hc
 refine⟨((k+1:Nat):Int)*c,?_,fun h=>?_⟩
 ·rw[acz,aaX];exact acA {} hc
 ·replace e:=e h
  simp[-ZY,-acq,eL,aH,e1,k1,e,sk,sc]
def Ed:∀(n d:Nat) (xs:List Int),Ord n xs->1<=n->n<=d->n<=20->∃c:Int,c.natAbs<=10 ^ (41+2*n)/\∀h:Hh,Wf h->aI d [.tup (xs.map D.int)] h=.ok (.int c) h
 | 0,_,_,_,h1,_,_=>{}
 | 1,d+1,xs,q,_,_,_=>by
  have l:=q.len
  refine⟨0,aaF _,fun h w=>?_⟩
  have f:=mV (xs:=xs) (h:=h) {} {}
  have on:=fP (h:=h) q (by decide) (by decide) w
  rw[eX]
  have lX:(xs.map D.int).length=1:=by rw[XE];exact l
  have lF:((az xs).map D.int).length<=1000000:=by rw[XE];have:=(gK q (by decide)).len;lia
  generalize (az xs).map D.int=FD at *
  generalize xs.map D.int=XD at *
  simp[aH,on,f,lX,lF]
 | n+2,d+1,xs,q,_,hd,hn=>by
  have l:=q.len
  have f:=fun(h:Hh)=>mV (xs:=xs) (h:=h) {} {}
  have fl:=(gK q hn).len
  have on:=fun(h:Hh) (w:Wf h)=>fP (h:=h) q {} {} w
  obtain⟨o,s,oo,hs,rfl⟩:=N8 q
  have lo:=oo.len
  obtain⟨e1,e2⟩:=Qn oo hs
  obtain⟨c,hc,ih⟩:=Ed (n+1) d o oo {} {} {}
  have st:=fun(h:Hh) (w:Wf h)=>rm (h:=h) oo {} {} w
  have nw:=fun(h:Hh) (w:Wf h)=>HA (h:=h) oo {} {} w
  have ix:=fun(h:Hh)=>kU (h:=h) e1
  have n1:¬ (((n+2:Nat):Int)=1):={}
  have n2:((n+2:Nat):Int) - 1=((n+1:Nat):Int):={}
  have s2:(s:Int)+1=((s+1:Nat):Int):={}
  have lX:((dF o ((n+1:Nat):Int) s).map D.int).length=n+2:=by rw[XE];exact l
  have cc:cutD ((dF o ((n+1:Nat):Int) s).map D.int) ζ (ξ (s:Int))++cutD ((dF o ((n+1:Nat):Int) s).map D.int) (ξ ((s+1:Nat):Int)) ζ=o.map D.int:=by
   rw[iW,iW,yT,xE,<- YE,e2]
  have cl:(cutD ((dF o ((n+1:Nat):Int) s).map D.int) ζ (ξ (s:Int))).length+(cutD ((dF o ((n+1:Nat):Int) s).map D.int) (ξ ((s+1:Nat):Int)) ζ).length<=1000000:=by
   rw[<- YU,cc,XE];lia
  have fk:((az (dF o ((n+1:Nat):Int) s)).map D.int).length=(az (dF o ((n+1:Nat):Int) s)).length:=XE _
  generalize (az (dF o ((n+1:Nat):Int) s)).length=k at fl fk
  have k1:(k:Int)+1=((k+1:Nat):Int):={}
  have sc:sml c=true:=jq (n:=n+1) {} (XR hc (Zb (by decide) {}))
  have pw:10 ^ (41+2*(n+2))=100*10 ^ (41+2*(n+1)):=by rw[show 41+2*(n+2)=(41+2*(n+1))+2 by lia,Nat.pow_add,acn]
  have q1:21*10 ^ (41+2*(n+1))<=10 ^ (41+2*(n+2)):=by rw[pw];exact Nat.mul_le_mul_right _ (by decide)
  have pl:10 ^ 41<=10 ^ (41+2*(n+1)):=Zb (by decide) {}
  have p41:10 ^ 41=10*10 ^ 40:={:_}
  cases z:(gx o).any (· == (s:Int)) with
  | true=>
   obtain⟨x,hx,hxe⟩:=Ze.mp z
   obtain rfl:x=(s:Int):=by simpa using hxe
   obtain⟨j,hj,hl⟩:=find_some hx
   have hl2:=(tP oo {} {}).len
   have fd:=fun(h:Hh)=>kU (h:=h) hj
   have b1:(c*((k+1:Nat):Int)).natAbs<=21*10 ^ (41+2*(n+1)):=by
    rw[acz,aaX,acn]
    exact acA {} hc
   have b2:(c*((k+1:Nat):Int)+(j:Int)).natAbs<=10 ^ (41+2*(n+2)):=by
    rw[pw];have:=abY (c*((k+1:Nat):Int)) (j:Int);rw[aaX] at this;lia
   refine⟨_,b2,fun h w=>?_⟩
   replace f:=f h
   replace on:=on h w
   replace ih:=ih h w
   replace st:=st h w
   replace nw:=nw h w
   replace ix:=ix h
   replace fd:=fd h
   have s3:sml (c*((k+1:Nat):Int))=true:=jq (n:=n+2) hn (XR b1 (XR q1 (Zb (by decide) {})))
   have s4:sml (c*((k+1:Nat):Int)+(j:Int))=true:=jq (n:=n+2) hn (XR b2 (Zb (by decide) {}))
   have sk:sml ((k+1:Nat):Int)=true:=bW {} {}
   have sj:sml (j:Int)=true:=bW {} {}
   rw[eX]
   generalize hX:(az (dF o ((n+1:Nat):Int) s)).map D.int=FD at *
   generalize (dF o ((n+1:Nat):Int) s).map D.int=XD at *
   have kb:k<=1000000:={}
   have nb:n+2<=1000000:={}
   simp[-ZY,-acq,aH,zt,xW,on,f,lX,fk,n1,n2,ix,s2,cl,cc,st,z,ih,fd,k1,sk,sc,s3,s4,sj,kb,nb]
  | false=>
   have hx:(s:Int)∈((XF (n+1+1)).filter fun i=>!cW o i).map fun(i:Nat)=>(i:Int):=by
    refine X3.mpr ⟨s,Yk.mpr ⟨X8.mpr {},?_⟩,rfl⟩
    cases zz:cW o s with
    | false=>rfl
    | true=>
     have e:=j4 (xs:=o) {}
     rw[List.any_eq_false] at z
     exact absurd {..} (z s (by rw[<- e];exact X3.mpr ⟨s,Yk.mpr ⟨X8.mpr {},zz⟩,rfl⟩))
   obtain⟨j,hj,hl⟩:=find_some hx
   have hl2:=(Cr oo {} {}).len
   have fd:=fun(h:Hh)=>kU (h:=h) hj
   obtain⟨kc,hkc,kp⟩:=ML (n:=n+1) (k:=k) {} {} fl
   rw[show n+1+1=n+2 from rfl] at kp
   have b1:(c*(((n+2:Nat):Int) - k)).natAbs<=22*10 ^ (41+2*(n+1)):=by
    rw[acz,acn]
    exact acA {} hc
   have q2:22*10 ^ (41+2*(n+1))<=10 ^ (41+2*(n+2)):=by rw[pw];exact Nat.mul_le_mul_right _ (by decide)
   have a1:=abY kc (c*(((n+2:Nat):Int) - k))
   have a2:=abY (kc+c*(((n+2:Nat):Int) - k)) (j:Int)
   rw[aaX] at a2
   have sc0:sml (((n+2:Nat):Int) - k)=true:=bW {} {}
   have b2:(kc+c*(((n+2:Nat):Int) - k)).natAbs<=10 ^ (41+2*(n+2)):=by rw[pw];generalize 10 ^ (41+2*(n+1))=PP at *;generalize 10 ^ 41=P1 at *;generalize 10 ^ 40=P0 at *;lia
   have b3:(kc+c*(((n+2:Nat):Int) - k)+(j:Int)).natAbs<=10 ^ (41+2*(n+2)):=by rw[pw];have:1<=10 ^ 40:={:_};generalize 10 ^ (41+2*(n+1))=PP at *;generalize 10 ^ 41=P1 at *;generalize 10 ^ 40=P0 at *;lia
   refine⟨_,b3,fun h w=>?_⟩
   replace f:=f h
   replace on:=on h w
   replace ih:=ih h w
   replace st:=st h w
   replace nw:=nw h w
   replace ix:=ix h
   replace fd:=fd h
   replace kp:=kp h
   have up:10 ^ (41+2*(n+2))<=10 ^ (43+2*(n+2)):=Zb (by decide) {}
   have s3:sml (c*(((n+2:Nat):Int) - k))=true:=jq (n:=n+2) hn (XR b1 (XR q2 up))
   have s4:sml (kc+c*(((n+2:Nat):Int) - k))=true:=jq (n:=n+2) hn (XR b2 up)
   have s5:sml (kc+c*(((n+2:Nat):Int) - k)+(j:Int))=true:=jq (n:=n+2) hn (XR b3 up)
   have skc:sml kc=true:=jq (n:=0) (by decide) (XR hkc {:_})
   have sj:sml (j:Int)=true:=bW {} {}
   rw[eX]
   generalize ((XF (n+1+1)).filter fun i=>!cW o i).map (fun(i:Nat)=>(i:Int))=NI at *
   generalize (az (dF o ((n+1:Nat):Int) s)).map D.int=FD at *
   generalize (dF o ((n+1:Nat):Int) s).map D.int=XD at *
   have kb:k<=1000000:={}
   have nb:n+2<=1000000:={}
   simp[-ZY,-acq,aH,zt,xW,on,f,lX,fk,n1,n2,ix,s2,cl,cc,st,z,ih,fd,nw,kp,sc,sc0,s3,s4,s5,skc,sj,kb,nb]
def NO {n:Nat}{xs:List Int} (o:Ord n xs) (h1:1<=n) (h2:n<=20)   : ∃c:Int,sml c=θ/\∀h:Hh,Wf h->aI 20 [.tup (xs.map D.int)] h=.ok (.int c) h/\cS [.tup (xs.map D.int)] h=.ok (.str (nm c)) h:=by
 obtain⟨c,hc,e⟩:=Ed n 20 xs o h1 h2 h2
 have s:sml c=true:=jq h2 (XR hc (Zb (by decide) {}))
 refine⟨c,s,fun h w=>⟨e h w,?_⟩⟩
 replace e:=e h w
 simp[cS,aH,e,s,-L2.FE.eK,FC.eK]
abbrev tpI (b:List Int):D:=.tup (b.map D.int)
abbrev jg (xs:List Int):Nat->List Nat->List (List Int)
 | _,[]=>[]
 | s,e::r=>(xs.drop s).take (e+1 - s)::jg xs (e+1) r
def Bw (xs:List Int):∀(es:List Nat) (s:Nat),(jg xs s es).length=es.length
 | [],_=>rfl
 | e::r,s=>by simp[jg,Bw xs r]
def JU (xs:List Int):∀(es:List Nat) (s:Nat),es≠[]->s<=es.headD 0->es.Pairwise (· < ·)->es.getLast?=ξ (xs.length - 1)->1<=xs.length->(jg xs s es).flatten=xs.drop s/\∃R k,jg xs s es=R++[xs.drop k]/\k<xs.length
 | [],_,h,_,_,_,_=>absurd rfl h
 | [e],s,_,hs,_,hl,h1=>by
  have e1:e=xs.length - 1:=by simpa using hl
  subst e1
  simp at hs
  have:(xs.drop s).take (xs.length - 1+1 - s)=xs.drop s:=aad (by simp;lia)
  simp only[jg,this]
  exact⟨{..},[],s,{..},{}⟩
 | e::f::r,s,_,hs,hp,hl,h1=>by
  rw[aaW] at hp
  have hef:e<f:=hp.1 f XU
  obtain⟨a,R,k,b,c⟩:=JU xs (f::r) (e+1) {..} (by simp;lia) hp.2 (by simpa using hl) h1
  rw[jg]
  refine⟨?_,_::R,k,by rw[b];rfl,c⟩
  rw[abU,a]
  simp at hs
  rw[show xs.drop (e+1)=(xs.drop s).drop (e+1 - s) by rw[List.drop_drop];congr 1;lia,ZR]
def N9 {xs:List Int}{s e:Nat} (hs:s<=e+1) (he:e<xs.length):cutD (xs.map D.int) (ξ (s:Int)) (ξ ((e:Int)+1))=((xs.drop s).take (e+1 - s)).map D.int:=by
 rw[iW]
 congr 1
 unfold kr
 rw[show(e:Int)+1=((e+1:Nat):Int) by lia,HT.lU,HT.lU,acp {},acp {}]
abbrev BR:MS:=(av (bR (cG bP (ag 2) (aa (e9 aA (ag 0) (ft (ag 3)) (ft (ak (bg aA) (ag 4) (cC (.int 1))))) ah))) (aZ 3 (ak (bg aA) (ag 4) (cC (.int 1)))))
def wU {h:Hh}{xs:List Int}{d1:Option D}:∀(es:List Nat) (s:Nat) (acc:List (List Int)) (c:Option D),(es≠[]->s<=es.headD 0)->es.Pairwise (· < ·)->(∀e∈es,e<xs.length)->acc.length+es.length<=1000 →
  ∃s' c',eg (gN 4) BR (es.map fun(e:Nat)=>D.int e) [ξ (.tup (xs.map D.int)),d1,ξ (.ref h.length),ξ (.int s),c] (h++[.lst (acc.map tpI)])=.ok (.nx [ξ (.tup (xs.map D.int)),d1,ξ (.ref h.length),s',c']) (h++[.lst ((acc++jg xs s es).map tpI)])
 | [],s,acc,c,_,_,_,_=>⟨ξ (.int s),c,by simp[qW,jg]⟩
 | e::r,s,acc,c,hs,hp,hm,hl=>by
  rw[aaW] at hp
  have hs':s<=e:=by simpa using hs {..}
  have he:=hm e XU
  simp only[YB] at hl
  obtain⟨s',c',q⟩:=wU (h:=h) (xs:=xs) (d1:=d1) r (e+1) (acc++[(xs.drop s).take (e+1 - s)]) (ξ (.int e)) (fun hr=>by
   cases r with
   | nil=>exact absurd rfl hr
   | cons f r=>have:=hp.1 f XU;simp;lia) hp.2 (fun x hx=>hm x (XM _ hx)) (by simp;lia)
  refine⟨s',c',?_⟩
  have ct:=N9 (xs:=xs) (s:=s) (e:=e) {} he
  have z:acc.length<1000000:={}
  have ap:∀d:D,bP (.ref h.length) [d] (h++[.lst (acc.map tpI)])=.ok .non (h++[.lst (acc.map tpI++[d])]):=fun d=>by
   have:=lN (h:=h) (ds:=acc.map tpI) (d:=d) (t:=[])
   simp only[XE,if_pos z] at this
   exact this
  have il:isL (.ref h.length) (h++[.lst (acc.map tpI)])=true:=by simp[isL,cT]
  have ee:((e+1:Nat):Int)=(e:Int)+1:={}
  rw[ee] at q
  simp only[YE,XT,Z3,tpI] at q
  have b:BR [ξ (.tup (xs.map D.int)),d1,ξ (.ref h.length),ξ (.int s),ξ (.int e)] (h++[.lst (acc.map tpI)])=.ok (.nx [ξ (.tup (xs.map D.int)),d1,ξ (.ref h.length),ξ (.int ((e:Int)+1)),ξ (.int e)]) (h++[.lst (acc.map tpI++[.tup (((xs.drop s).take (e+1 - s)).map D.int)])]):=by
   generalize (xs.drop s).take (e+1 - s)=C at ct
   simp[BR,ct,ap,il]
  rw[XT,gJ,jg]
  generalize (xs.drop s).take (e+1 - s)=C at *
  simp only[Oh,gz,adl,b,Jr]
  simpa [tpI] using q
def Ak (xs:List Int):∀e∈bL xs,e+1<xs.length:=fun e he=>by
 have:=X8.mp (Yk.mp he).1;lia
def CC {n:Nat}{xs:List Int}{h:Hh} (o:Ord n xs) (h1:1<=n) (h2:n<=20) (w:Wf h):∃(R:List (List Int)) (k:Nat),jg xs 0 (bL xs++[n - 1])=R++[xs.drop k]/\k<n/\(jg xs 0 (bL xs++[n - 1])).flatten=xs/\(jg xs 0 (bL xs++[n - 1])).length=(az xs).length+1/\eW [.tup (xs.map D.int)] h=.ok (.frl ((jg xs 0 (bL xs++[n - 1])).map tpI)) h:=by
 have hl:=o.len
 have hp:(bL xs++[n - 1]).Pairwise (· < ·):=by
  rw[List.pairwise_append]
  refine⟨(List.pairwise_lt_range (n:=xs.length - 1)).filter _,List.pairwise_singleton _ _,fun a ha b hb=>?_⟩
  have:=Ak xs a ha
  rw[Yg.mp hb];lia
 have hm:∀e∈bL xs++[n - 1],e<xs.length:=fun e he=>by
  rcases YV.mp he with he | he
  ·have:=Ak xs e he;lia
  ·rw[Yg.mp he];lia
 have fl:(bL xs).length<=20:=by
  have:=Yv (fun i=>decide (gI xs (i+1)<gI xs i)) (XF (xs.length - 1))
  rw[YS] at this
  unfold bL;lia
 obtain⟨f1,R,k,f2,f3⟩:=JU xs (bL xs++[n - 1]) 0 {..} {} hp (by simp[hl]) {}
 obtain⟨s',c',q⟩:=wU (h:=h) (xs:=xs) (d1:=ξ (.frl ((az xs++[(n:Int) - 1]).map D.int))) (bL xs++[n - 1]) 0 [] ζ (fun _=>{}) hp hm (by simp;lia)
 refine⟨R,k,f2,{},by simpa using f1,by rw[Bw];simp[az],?_⟩
 generalize jg xs 0 (bL xs++[n - 1])=RS at q
 have q':eg (gN 4) BR ((az xs++[(n:Int) - 1]).map D.int) [ξ (.tup (xs.map D.int)),ξ (.frl ((az xs++[(n:Int) - 1]).map D.int)),ξ (.ref h.length),ξ (.int 0),ζ] (h++[.lst []])=.ok (.nx [ξ (.tup (xs.map D.int)),ξ (.frl ((az xs++[(n:Int) - 1]).map D.int)),ξ (.ref h.length),s',c']) (h++[.lst (RS.map tpI)]):=by
  have e1:((bL xs++[n - 1]).map fun(e:Nat)=>D.int e)=(az xs++[(n:Int) - 1]).map D.int:=by
   simp[az,Zf]
   lia
  rw[e1] at q
  simpa using q
 have ex:=oN (h:=h) (ds:=RS.map tpI) (t:=[]) w (by
   rw[acY,X_]
   intro b _
   simp[tpI])
 have me:eW=fun ds h=>((ba 5 (av (aZ 1 (ak (bg aA) (af (dList aA) (aa (af bu (aa (up (ag 0)) ah)) ah)) (up (af (bV aA) (aa (ak gm (af bA (aa (ag 0) ah)) (cC (.int 1))) ah))))) (av (up (aZ 2 (af (bV dy) ah))) (av (up (aZ 3 (cC (.int 0)))) (av (up (fh (du (ag 1)) (gN 4) BR)) (up (aQ (ag 2)))))))) ds h).bind (dz h):=rfl
 have fo:=mR (h:=h) o h1 h2 w
 have fi:(az xs).length<=20:=by simpa [az] using fl
 have z1:(az xs).length<=1000000:={}
 have z2:(az xs).length+1<=1000000:={}
 rw[YE] at q'
 simp only[XT,Z3] at q'
 rw[me]
 generalize az xs=FI at *
 simp[aH,fo,hl,z1,z2,q',ex]
def Il:("-" : Str).length<=16/\("-" : Str)=⟨#[45]⟩:=⟨{:_},by kernel_rfl⟩
abbrev dash (b:List Int):Str:=aaV "-" (b.map nm)
abbrev grT (RS:List (List Int)):Str:=aaV " " (RS.map dash)
def Kz {b:List Int} (f:Fs b):(dash b).length<=60:=by
 have:=BK (c:=45) (b.map nm)
 rw[<- Il.2] at this
 have:=f.wg
 unfold dash
 lia
def Ir {RS:List (List Int)}{h:Hh} (hb:∀b∈RS,Fs b):cu tt1 (i7 k6 (cC (.str "-")) (aa (bZ aA (du (ag 0)) [] tt1 (af cN (aa (ag 0) ah))) ah)) (fun x=>[ξ x]) (RS.map tpI) h=.ok ((RS.map dash).map D.str) h:=by
 rw[jP tpI (fun b=>D.str (dash b)) RS fun b hx=>by
  have f:=hb b hx
  have q:=Qb (h:=h) f.sm
  have c3:(b.map nm).length<=1000000:=by rw[XE];have:=f.len;lia
  have c4:wgt (b.map nm)<=1048576:=XR f.wg (by decide)
  have c8:(b.map D.int).length<=1000000:=by have:=f.len;rw[XE];lia
  have j:=mJ (sep:="-") (zs:=b.map nm) (h:=h) Il.1 c4
  unfold dash tpI
  generalize b.map nm=zs at q c3 c4 j ⊢
  generalize b.map D.int=ts at q c8 ⊢
  simp[q,c3,c8,j],Zf];rfl
def Ku {RS:List (List Int)} (hl:RS.length<=20) (hb:∀b∈RS,Fs b):wgt (RS.map dash)<=1048576:=by
 have:=CJ (b:=60) (zs:=RS.map dash) fun z hz=>by
  obtain⟨b,hx,rfl⟩:=X3.mp hz
  exact Kz (hb b hx)
 rw[XE] at this
 lia
def Aw {RS:List (List Int)}{h:Hh} (hne:RS≠[]) (hl:RS.length<=20) (hb:∀b∈RS,Fs b):dh [.frl (RS.map tpI)] h=.ok (.str (grT RS)) h:=by
 have q:=Ir (h:=h) hb
 have w:=Ku hl hb
 have j:=mJ (sep:=" ") (zs:=RS.map dash) (h:=h) ou.2 w
 have q2:=Us (zs:=RS.map dash) (h:=h)
 have c1:(RS.map tpI).length<=1000000:=by rw[XE];lia
 have c2:(RS.map dash).length<=1000000:=by rw[XE];lia
 have c3:0<(RS.map dash).length:=by rw[XE];exact List.length_pos_iff.mpr hne
 unfold grT
 generalize RS.map dash=zs at *
 generalize RS.map tpI=ts at *
 simp[dh,aG,aH,q,q2,j,c1,c2,c3]
def Ro {RS:List (List Int)}{h:Hh} (hl:RS.length<=20) (hb:∀b∈RS,Fs b):cj [.frl (RS.map tpI)] h=.ok (.str (grT RS)) h:=by
 have q:=Ir (h:=h) hb
 have w:=Ku hl hb
 have j:=mJ (sep:=" ") (zs:=RS.map dash) (h:=h) ou.2 w
 have c1:(RS.map tpI).length<=1000000:=by rw[XE];lia
 have c2:(RS.map dash).length<=1000000:=by rw[XE];lia
 unfold grT
 generalize RS.map dash=zs at *
 generalize RS.map tpI=ts at *
 simp[cj,aH,q,j,c1,c2]
def Qr {n:Nat}{xs b:List Int} (o:Ord n xs) (h2:n<=20) (hb:b.length<=20) (hs:∀x∈b,x∈xs):Fs b:=⟨hb,fun x hx=>(DI o h2).rg x (hs x hx)⟩
def ET {n:Nat}{xs:List Int} (o:Ord n xs) (h1:1<=n) (h2:n<=20):jg xs 0 (bL xs++[n - 1])≠[]/\(jg xs 0 (bL xs++[n - 1])).length<=20/\∀b∈jg xs 0 (bL xs++[n - 1]),Fs b:=by
 obtain⟨R,k,e1,hk,e2,e3,_⟩:=CC (h:=[]) o h1 h2 Wf.nil
 generalize jg xs 0 (bL xs++[n - 1])=RS at *
 have l:(az xs).length<=xs.length - 1:=by
  unfold az bL;rw[XE];exact XR (Yv _ _) {..}
 have ol:=o.len
 refine⟨by rw[e1];simp,{},fun b hb=>?_⟩
 have sub:∀x∈b,x∈xs:=fun x hx=>by rw[<- e2];exact List.mem_flatten.mpr ⟨b,hb,hx⟩
 have bl:b.length<=xs.length:=by
  have:=(List.sublist_flatten_of_mem hb).length_le
  rw[e2] at this
  exact this
 exact Qr o h2 {} sub
def Qg {n:Nat}{xs:List Int}{h:Hh} (o:Ord n xs) (h1:1<=n) (h2:n<=20) (w:Wf h):eM [.tup (xs.map D.int)] h=.ok (.str (grT (jg xs 0 (bL xs++[n - 1])))) h:=by
 obtain⟨R,k,_,_,_,_,q⟩:=CC (h:=h) o h1 h2 w
 obtain⟨a,b,c⟩:=ET o h1 h2
 have g:=Aw (h:=h) a b c
 generalize (jg xs 0 (bL xs++[n - 1])).map tpI=ts at q g
 simp[eM,aH,q,g]
def Qm {xs:List Int} (nd:xs.Nodup){i j:Nat} (hi:i<xs.length) (hj:j<xs.length) (e:gI xs i=gI xs j):i=j:=by
 rw[eI hi,eI hj] at e
 rcases Nat.lt_trichotomy i j with z | z | z
 ·exact absurd e (ZT.mp nd i j hi hj z)
 ·exact z
 ·exact absurd e.symm (ZT.mp nd j i hj hi z)
def NR {n:Nat}{xs:List Int} (o:Ord n xs){i:Nat} (hi:i<n):0<=gI xs i/\gI xs i<n:=⟨o.lo _ (DR (by rw[o.len];exact hi)),o.hi _ (DR (by rw[o.len];exact hi))⟩
abbrev orb (xs:List Int) (p:Int):Nat->Int
 | 0=>p
 | i+1=>gI xs (orb xs p i).toNat
def nX {n:Nat}{xs:List Int} (o:Ord n xs){p:Int} (h0:0<=p) (h1:p<n):∀i,0<=orb xs p i/\orb xs p i<n
 | 0=>⟨h0,h1⟩
 | i+1=>by have:=nX o h0 h1 i;exact NR o (i:=(orb xs p i).toNat) {}
def x8 (xs:List Int) (p:Int) (i:Nat):∀j,orb xs (orb xs p i) j=orb xs p (i+j)
 | 0=>rfl
 | j+1=>by show gI xs (orb xs (orb xs p i) j).toNat=gI xs (orb xs p (i+j)).toNat;rw[x8 xs p i j]
def NG {n:Nat}{xs:List Int} (o:Ord n xs){p:Int} (h0:0<=p) (h1:p<n){i j:Nat} (e:orb xs p (i+1)=orb xs p (j+1)):orb xs p i=orb xs p j:=by
 have a:=nX o h0 h1 i
 have b:=nX o h0 h1 j
 have:=Qm o.nd (i:=(orb xs p i).toNat) (j:=(orb xs p j).toNat) (by rw[o.len];lia) (by rw[o.len];lia) e
 lia
def Ap {n:Nat}{xs:List Int} (o:Ord n xs){p:Int} (h0:0<=p) (h1:p<n) (d:Nat):∀i,orb xs p i=orb xs p (i+d)->orb xs p d=p
 | 0,e=>by rw[Nat.zero_add] at e;exact e.symm
 | i+1,e=>Ap o h0 h1 d i (NG o h0 h1 (by rw[show i+1+d=i+d+1 by lia] at e;exact e))
def N5 {n:Nat}{xs:List Int} (o:Ord n xs){p:Int} (h0:0<=p) (h1:p<n):∃c,c<n/\orb xs p (c+1)=p:=by
 refine Zk fun hc=>?_
 have no:∀c,c<n->orb xs p (c+1)≠p:=fun c hn e=>hc ⟨c,hn,e⟩
 have nd:((XF (n+1)).map (orb xs p)).Nodup:=by
  refine ZT.mpr fun i j hi hj hij e=>?_
  simp only[XE,YS] at hi hj
  simp only[List.getElem_map,List.getElem_range] at e
  have:=Ap o h0 h1 (j - i) i (by rw[show i+(j - i)=j by lia];exact e)
  exact no (j - i - 1) {} (by rw[show j - i - 1+1=j - i by lia];exact this)
 have:=o_ n _ nd (fun x hx=>by obtain⟨i,_,rfl⟩:=X3.mp hx;exact nX o h0 h1 i)
 simp at this
 lia
abbrev cy (xs:List Int) (p:Int):Nat:=(XF xs.length).findIdx (fun i=>orb xs p (i+1) == p)
structure Cy (n:Nat) (xs:List Int) (p:Int) (c:Nat):Prop where
 lt:c<n
 ret:orb xs p (c+1)=p
 fst:∀i,i<c->orb xs p (i+1)≠p
def EW {n:Nat}{xs:List Int} (o:Ord n xs){p:Int} (h0:0<=p) (h1:p<n):Cy n xs p (cy xs p):=by
 obtain⟨c,hc,e⟩:=N5 o h0 h1
 have ex:∃x∈XF xs.length,(fun i=>orb xs p (i+1) == p) x=true:=⟨c,by rw[o.len];exact X8.mpr hc,by simpa using e⟩
 have lt:=Zg ex
 refine⟨by show List.findIdx _ _<n;have:=lt;rw[YS] at this;have l:=o.len;lia,?_,fun i hi=>?_⟩
 ·have:=List.findIdx_getElem (w:=lt)
  simpa [cy] using this
 ·have:=List.not_of_lt_findIdx (p:=fun i=>orb xs p (i+1) == p) (xs:=XF xs.length) hi
  simpa using this
abbrev wk (xs:List Int) (p:Int):List Int:=(XF (cy xs p+1)).map (orb xs p)
def Cp (xs:List Int) (p:Int):(wk xs p).length=cy xs p+1:=by simp[wk]
def C8 {n:Nat}{xs:List Int} (o:Ord n xs){p:Int} (h0:0<=p) (h1:p<n):∀i,orb xs p i∈wk xs p
 | 0=>X3.mpr ⟨0,{..},rfl⟩
 | i+1=>by
  obtain⟨k,hk,e⟩:=X3.mp (C8 o h0 h1 i)
  rw[X8] at hk
  have e2:orb xs p (i+1)=orb xs p (k+1):=by show gI xs _=gI xs _;rw[e]
  rw[e2]
  by_cases z:k+1<cy xs p+1
  ·exact X3.mpr ⟨k+1,X8.mpr z,rfl⟩
  ·have:k=cy xs p:={}
   subst this
   rw[(EW o h0 h1).ret]
   exact X3.mpr ⟨0,{..},rfl⟩
def w8 {n:Nat}{xs:List Int} (o:Ord n xs){p x:Int} (h0:0<=p) (h1:p<n) (h:x∈wk xs p):0<=x/\x<n:=by
 obtain⟨i,_,rfl⟩:=X3.mp h
 exact nX o h0 h1 i
def Nu (xs:List Int) (p:Int):p∈wk xs p:=X3.mpr ⟨0,{..},rfl⟩
def E9 {n:Nat}{xs:List Int} (o:Ord n xs){p x:Int} (h0:0<=p) (h1:p<n) (h:x∈wk xs p):p∈wk xs x:=by
 have r:=w8 o h0 h1 h
 obtain⟨i,hi,rfl⟩:=X3.mp h
 rw[X8] at hi
 have:=C8 o r.1 r.2 (cy xs p+1 - i)
 rwa [x8,show i+(cy xs p+1 - i)=cy xs p+1 by lia,(EW o h0 h1).ret] at this
def Jz {n:Nat}{xs:List Int} (o:Ord n xs){q p x:Int} (h0:0<=q) (h1:q<n) (h:x∈wk xs p) (hp:p∈wk xs q):x∈wk xs q:=by
 obtain⟨i,_,rfl⟩:=X3.mp hp
 obtain⟨j,_,rfl⟩:=X3.mp h
 rw[x8]
 exact C8 o h0 h1 _
def BS (bt:Nat->Nat->Bool):∀k,argBest bt k<=k
 | 0=>XJ _
 | k+1=>by
  have ih:=BS bt k
  unfold argBest
  split<;>lia
def Bj (ns:List Int):∀k i,i<=k->ns.getD i 0<=ns.getD (argBest (fun i j=>decide (ns.getD i 0 > ns.getD j 0)) k) 0
 | 0,i,h=>by have:i=0:={}
             subst this;exact ac6 _
 | k+1,i,h=>by
  have ih:=Bj ns k
  unfold argBest
  split
  ·rename_i c
   simp only[decide_eq_true_eq] at c
   by_cases e:i=k+1
   ·subst e;exact ac6 _
   ·have:=ih i {};lia
  ·rename_i c
   simp only[decide_eq_true_eq] at c
   by_cases e:i=k+1
   ·subst e;lia
   ·exact ih i {}
def max_mem {ns:List Int} (h:0<ns.length):NP ns∈ns:=by
 unfold NP
 have:=BS (fun i j=>decide (ns.getD i 0 > ns.getD j 0)) (ns.length - 1)
 rw[Ym,XS {}]
 exact aaE _
def le_max {ns:List Int}{x:Int} (h:x∈ns):x<=NP ns:=by
 obtain⟨i,hi,e⟩:=abx h
 have:=Bj ns (ns.length - 1) i {}
 rw[Ym (i:=i),XS hi,Option.getD_some,e] at this
 exact this
abbrev pG (xs:List Int) (p:Int):Bool:=NP (wk xs p) == p
def EG {xs:List Int}{p:Int}:pG xs p=θ↔∀x∈wk xs p,x<=p:=by
 unfold pG
 rw[beq_iff_eq]
 constructor
 ·intro e x hx
  have:=le_max hx
  lia
 ·intro h
  have a:=h _ (max_mem (ns:=wk xs p) (by rw[Cp];lia))
  have b:=le_max (Nu xs p)
  lia
abbrev kK (n:Nat) (xs:List Int):List (List Int):=(((XF n).map fun(i:Nat)=>(i:Int)).filter (pG xs)).map (wk xs)
def Em (xs:List Int) (p:Int) (i:Nat):(XF (i+1)).map (orb xs p)=(XF i).map (orb xs p)++[orb xs p i]:=by rw[ZE,YE];rfl
def Dw {xs:List Int}{p:Int}{i:Nat}{h:Hh}:ixK (((XF (i+1)).map (orb xs p)).map D.int) (-1) h=.ok (.int (orb xs p i)) h:=by
 rw[Em]
 have e:ixN (((XF i).map (orb xs p)++[orb xs p i]).map D.int).length (-1)=ξ i:=by
  rw[XE,YU];unfold ixN;simp;lia
 unfold ixK atI
 rw[e]
 simp
abbrev WC2:MT:=(aF asB (ak dNe (ak dIx (ag 0) (ak dIx (ag 2) (cUn kL (cC (.int 1))))) (ag 1)))
abbrev WB2:MS:=(bR (cG bP (ag 2) (aa (ak dIx (ag 0) (ak dIx (ag 2) (cUn kL (cC (.int 1))))) ah)))
def SY:eR=FZ (fun ds h=>((ba 3 (av (aZ 2 (af (bV dy) (aa (ag 1) ah))) (av (sM 64 WC2 WB2) (aQ (af dv (aa (ag 2) ah)))))) ds h).bind (dz h)):=rfl
def Co {n:Nat}{xs:List Int} (o:Ord n xs){p:Int} (h0:0<=p) (h1:p<n) (i:Nat){h:Hh}:ixK (xs.map D.int) (orb xs p i) h=.ok (.int (orb xs p (i+1))) h:=by
 have:=nX o h0 h1 i
 exact fX (j:=(orb xs p i).toNat) {} (by rw[o.len];lia)
def Q8 {n:Nat}{xs:List Int}{p:Int}{h:Hh} (o:Ord n xs) (h0:0<=p) (h1:p<n) (hn:n<=20):eR [.tup (xs.map D.int),.int p] h=.ok (.tup ((wk xs p).map D.int)) h:=by
 have c:=EW o h0 h1
 have clt:=c.lt
 have ixl:∀ds:List D,dIx (.ref 0) (.int (-1)) [.lst ds]=ixK ds (-1) [.lst ds]:=fun ds=>pZ rfl
 have isl:∀ds:List D,isL (.ref 0) [.lst ds]=true:=fun _=>rfl
 have ap:∀(ds:List D) d,ds.length<1000000->bP (.ref 0) [d] [.lst ds]=.ok .non [.lst (ds++[d])]:=fun ds d z=>by
  have:=lN (h:=[]) (ds:=ds) (d:=d) (t:=[])
  simpa [z] using this
 have wh:=tw (c:=WC2) (b:=WB2) (cy xs p) (fun _=>[ξ (.tup (xs.map D.int)),ξ (.int p),ξ (.ref 0)]) (fun i=>[.lst (((XF (i+1)).map (orb xs p)).map D.int)])
  (fun i hi=>by
   have ne:¬ orb xs p (i+1)=p:=c.fst i hi
   have e1:=Dw (xs:=xs) (p:=p) (i:=i) (h:=[.lst (((XF (i+1)).map (orb xs p)).map D.int)])
   generalize ((XF (i+1)).map (orb xs p)).map D.int=W at *
   simp[WC2,ixl,e1,Co o h0 h1,ne])
  (fun i hi=>by
   have e1:=Dw (xs:=xs) (p:=p) (i:=i) (h:=[.lst (((XF (i+1)).map (orb xs p)).map D.int)])
   have z:(((XF (i+1)).map (orb xs p)).map D.int).length<1000000:=by simp;lia
   have e2:((XF (i+1+1)).map (orb xs p)).map D.int=((XF (i+1)).map (orb xs p)).map D.int++[.int (orb xs p (i+1))]:=by rw[Em xs p (i+1),YE];rfl
   rw[e2]
   generalize ((XF (i+1)).map (orb xs p)).map D.int=W at *
   simp[WB2,ixl,isl,e1,Co o h0 h1,ap _ _ z])
  (by
   have e1:=Dw (xs:=xs) (p:=p) (i:=cy xs p) (h:=[.lst (((XF (cy xs p+1)).map (orb xs p)).map D.int)])
   have eq:orb xs p (cy xs p+1)=p:=c.ret
   generalize ((XF (cy xs p+1)).map (orb xs p)).map D.int=W at *
   simp[WC2,ixl,e1,Co o h0 h1,eq]) 64 {}
 have wh:i_ WC2 WB2 64 [ξ (.tup (xs.map D.int)),ξ (.int p),ξ (.ref 0)] [.lst [.int p]]=.ok (.nx [ξ (.tup (xs.map D.int)),ξ (.int p),ξ (.ref 0)]) [.lst ((wk xs p).map D.int)]:=wh
 have tl:dv [.ref 0] [.lst ((wk xs p).map D.int)]=.ok (.tup ((wk xs p).map D.int)) [.lst ((wk xs p).map D.int)]:=RG rfl
 have ex:dz [] (.tup ((wk xs p).map D.int)) [.lst ((wk xs p).map D.int)]=.ok (.tup ((wk xs p).map D.int)) []:=by
  have:=ja (h:=[]) (t:=[.lst ((wk xs p).map D.int)]) (d:=.tup ((wk xs p).map D.int)) Wf.nil {..}
  simpa using this
 have lo1:bM 0 [.tup (xs.map D.int),.int p]=true:=by simp[bM,i8]
 have lo2:i8 0 (.tup ((wk xs p).map D.int))=true:=by simp[i8]
 rw[SY]
 generalize (wk xs p).map D.int=W at *
 simp[FZ,lo1,aH,wh,tl,ex,lo2]
def Fd {ns:List Int}{i x:Int}:x∈jO ns i↔x∈ns\/x=i:=by
 unfold jO
 split
 ·rename_i c
  obtain⟨y,hy,e⟩:=Ze.mp c
  rw[beq_iff_eq] at e
  subst e
  exact⟨.inl,fun z=>z.elim id fun e=>e ▸ hy⟩
 ·rw[YV,Yg]
def HN {ns:List Int}{i:Int} (h:ns.Nodup):(jO ns i).Nodup:=by
 unfold jO
 split
 ·exact h
 ·rename_i c
  have:i∉ns:=fun hm=>c (Ze.mpr ⟨i,hm,{..}⟩)
  exact abX.mpr ⟨h,Yt.mpr ⟨{..},abb⟩,fun a ha b hb=>by rw[Yg] at hb;subst hb;exact fun e=>this (e ▸ ha)⟩
def tO {x:Int}:∀(ws ns:List Int),x∈ws.foldl jO ns↔x∈ns\/x∈ws
 | [],ns=>{..}
 | w::ws,ns=>by
  rw[Y_,tO ws,Fd,X4]
  constructor
  ·rintro((a | a) | a)
   ·exact .inl a
   ·exact .inr (.inl a)
   ·exact .inr (.inr a)
  ·rintro(a | a | a)
   ·exact .inl (.inl a)
   ·exact .inl (.inr a)
   ·exact .inr a
def EY:∀(ws ns:List Int),ns.Nodup->(ws.foldl jO ns).Nodup
 | [],ns,h=>h
 | w::ws,ns,h=>EY ws _ (HN h)
abbrev dnI (n:Nat):List Int:=(XF n).map fun(i:Nat)=>(n:Int) - 1 - i
def Rt:∀n:Nat,n<21->1<=n->(CN [.int ((n:Int) - 1),.int (-1),.int (-1)]).bind intsOf=ξ (dnI n):={:_}
def Ws {n:Nat}{h:Hh} (h1:1<=n) (hn:n<=20):p9 [.int ((n:Int) - 1),.int (-1),.int (-1)] h=.ok (.snap ((dnI n).map D.int)) h:=by
 have q:=Rt n {} h1
 obtain⟨xs,e1,e2⟩:=aaO.mp q
 rw[<- fN e2]
 simp only[p9,e1]
abbrev Lf:MS:=(dI (aF asB (ak (CG θ) (ag 3) (ag 2))) (av (aZ 4 (af eR (aa (ag 0) (aa (ag 3) ah))))
  (av (bR (cG bP (ag 1) (aa (ag 4) ah)))
  (fh (du (ag 4)) (gN 5) (bR (sP ny (ag 2) (aa (ag 5) ah)))))) bT)
def jS {h:Hh}{R:O}{S:List Int}:setOf (h++[R,.set S]) (h.length+1)=ξ S:=by
 unfold setOf
 rw[Yh {},show h.length+1 - h.length=1 by lia]
 rfl
def AE {h:Hh}{R o o2:O}:(h++[R,o]).set (h.length+1) o2=h++[R,o2]:=by
 rw[List.set_append_right _ _ {},show h.length+1 - h.length=1 by lia]
 rfl
def wN {n:Nat}{d0 d1 d3 d4:Option D}{R:O}{h:Hh}:∀(ws S:List Int) (y:Option D),(∀x∈ws,0<=x/\x<n)->(∀x∈S,0<=x/\x<n)->S.Nodup->n<=20->0<ws.length->eg (gN 5) (bR (sP ny (ag 2) (aa (ag 5) ah))) (ws.map D.int) [d0,d1,ξ (.ref (h.length+1)),d3,d4,y] (h++[R,.set S])=.ok (.nx [d0,d1,ξ (.ref (h.length+1)),d3,d4,(ws.getLast?).map D.int]) (h++[R,.set (ws.foldl jO S)])
 | [],S,y,_,_,_,_,h=>by simp at h
 | [w],S,y,hw,hS,nd,hn,_=>by
  have lS:=o_ n S nd hS
  have is:isS (.ref (h.length+1)) (h++[R,.set S])=true:=IA jS
  have ad:ny (.ref (h.length+1)) [.int w] (h++[R,.set S])=.ok .non (h++[R,.set (jO S w)]):=by
   rw[BL (ns:=S) jS,if_pos {},AE]
  rw[XT,gJ]
  simp[Fh,is,ad,qW]
 | w::v::ws,S,y,hw,hS,nd,hn,_=>by
  have lS:=o_ n S nd hS
  have w0:=hw w XU
  have q:=wN (d0:=d0) (d1:=d1) (d3:=d3) (d4:=d4) (R:=R) (h:=h) (v::ws) (jO S w) (ξ (.int w)) (fun x hx=>hw x (XM _ hx)) (fun x hx=>by
   rcases Fd.mp hx with z | z
   ·exact hS x z
   ·subst z;exact w0) (HN nd) hn {..}
  have is:isS (.ref (h.length+1)) (h++[R,.set S])=true:=IA jS
  have ad:ny (.ref (h.length+1)) [.int w] (h++[R,.set S])=.ok .non (h++[R,.set (jO S w)]):=by
   rw[BL (ns:=S) jS,if_pos {},AE]
  rw[XT,gJ,Y_,List.getLast?_cons_cons]
  simp only[XT] at q ⊢
  simp[Fh,is,ad,q]
structure RI (n:Nat) (xs:List Int) (i:Nat) (R:List (List Int)) (S:List Int):Prop where
 nd:S.Nodup
 rng:∀x∈S,0<=x/\x<n
 mem:∀x,x∈S↔∃q:Int,(n:Int) - i<=q/\q<n/\x∈wk xs q
 res:R=(((XF i).map fun(j:Nat)=>(n:Int) - 1 - j).filter (pG xs)).map (wk xs)
def Lj {n i:Nat}{xs:List Int}{R:List (List Int)} (h:R=(((XF i).map fun(j:Nat)=>(n:Int) - 1 - j).filter (pG xs)).map (wk xs)):(((XF (i+1)).map fun(j:Nat)=>(n:Int) - 1 - j).filter (pG xs)).map (wk xs)=if pG xs ((n:Int) - 1 - i)=θ then R++[wk xs ((n:Int) - 1 - i)] else R:=by
 rw[ZE,YE,Zv,YE,<- h]
 by_cases c:pG xs ((n:Int) - 1 - i)=θ
 ·rw[if_pos c];simp[c]
 ·rw[if_neg c];simp[c]
def RI.step {n:Nat}{xs:List Int}{i:Nat}{R:List (List Int)}{S:List Int} (o:Ord n xs) (hi:i<n) (r:RI n xs i R S) :
  ((S.any (· == (n:Int) - 1 - i))=θ/\RI n xs (i+1) R S)\/((S.any (· == (n:Int) - 1 - i))=ψ/\RI n xs (i+1) (R++[wk xs ((n:Int) - 1 - i)]) ((wk xs ((n:Int) - 1 - i)).foldl jO S)):=by
 obtain⟨p,hp⟩:∃p:Int,(n:Int) - 1 - i=p:=⟨_,rfl⟩
 have p0:0<=p:={}
 have p1:p<n:={}
 have rs:=Lj r.res
 rw[hp] at rs ⊢
 have iff:(p∈S)↔¬ pG xs p=true:=by
  rw[r.mem,EG]
  constructor
  ·rintro⟨q,q0,q1,hm⟩ h
   have:=h q (E9 o {} q1 hm)
   lia
  ·intro h
   refine Zk fun z=>h fun x hx=>?_
   refine Zk fun hlt=>z ?_
   have hr:=w8 o p0 p1 hx
   exact⟨x,{},hr.2,E9 o p0 p1 hx⟩
 by_cases c:p∈S
 ·refine .inl ⟨Ze.mpr ⟨p,c,{..}⟩,r.nd,r.rng,fun x=>?_,?_⟩
  ·rw[r.mem]
   constructor
   ·rintro⟨q,q0,q1,hm⟩;exact⟨q,{},q1,hm⟩
   ·rintro⟨q,q0,q1,hm⟩
    by_cases e:q=p
    ·subst e
     obtain⟨q',a,b,hm'⟩:=(r.mem q).mp c
     exact⟨q',a,b,Jz o {} b hm hm'⟩
    ·exact⟨q,{},q1,hm⟩
  ·rw[rs,if_neg (iff.mp c)]
 ·refine .inr ⟨?_,EY _ _ r.nd,fun x hx=>?_,fun x=>?_,?_⟩
  ·cases z:S.any (· == p) with
   | false=>rfl
   | true=>
    obtain⟨y,hy,e⟩:=Ze.mp z
    rw[beq_iff_eq] at e
    exact absurd (e ▸ hy) c
  ·rcases(tO _ _).mp hx with z | z
   ·exact r.rng x z
   ·exact w8 o p0 p1 z
  ·rw[tO,r.mem]
   constructor
   ·rintro(⟨q,q0,q1,hm⟩ | hm)
    ·exact⟨q,{},q1,hm⟩
    ·exact⟨p,{},p1,hm⟩
   ·rintro⟨q,q0,q1,hm⟩
    by_cases e:q=p
    ·subst e;exact .inr hm
    ·exact .inl ⟨q,{},q1,hm⟩
  ·have:pG xs p=true:=Zk fun z=>c (iff.mpr z)
   rw[rs,if_pos this]
def QV (n:Nat):(((XF n).map fun(j:Nat)=>(n:Int) - 1 - j)).reverse=(XF n).map fun(i:Nat)=>(i:Int):=by
 refine aaC {..} fun i h1 h2=>?_
 simp only[XE,YS] at h2
 rw[List.getElem_reverse]
 simp
 lia
def Kx {n:Nat}{xs:List Int}{h:Hh} (o:Ord n xs) (hn:n<=20):∃S y3 y4 y5,eg (gN 3) Lf ((dnI n).map D.int) [ξ (.tup (xs.map D.int)),ξ (.ref h.length),ξ (.ref (h.length+1)),ζ,ζ,ζ] (h++[.lst [],.set []])=.ok (.nx [ξ (.tup (xs.map D.int)),ξ (.ref h.length),ξ (.ref (h.length+1)),y3,y4,y5]) (h++[.lst ((kK n xs).map tpI).reverse,.set S]):=by
 obtain⟨q,q2⟩:=Ab (σ:=List (List Int) × List Int × Option D × Option D × Option D) (tg:=gN 3) (body:=Lf) (fun(i:Nat)=>D.int ((n:Int) - 1 - i)) n (fun s=>[ξ (.tup (xs.map D.int)),ξ (.ref h.length),ξ (.ref (h.length+1)),s.2.2.1,s.2.2.2.1,s.2.2.2.2]) (fun s=>h++[.lst (s.1.map tpI),.set s.2.1])
  (fun s i=>if (s.2.1.any (· == (n:Int) - 1 - i))=θ then (s.1,s.2.1,ξ (.int ((n:Int) - 1 - i)),s.2.2.2.1,s.2.2.2.2) else (s.1++[wk xs ((n:Int) - 1 - i)],(wk xs ((n:Int) - 1 - i)).foldl jO s.2.1,ξ (.int ((n:Int) - 1 - i)),ξ (tpI (wk xs ((n:Int) - 1 - i))),((wk xs ((n:Int) - 1 - i)).getLast?).map D.int))
  (fun i s=>RI n xs i s.1 s.2.1/\s.1.length<=i) ([],[],ζ,ζ,ζ) ⟨⟨abb,{..},fun x=>⟨{..},fun⟨q,a,b,_⟩=>{}⟩,rfl⟩,{..}⟩ (fun i s hi ⟨r,l⟩=>by
   obtain⟨R,S,y3,y4,y5⟩:=s
   dsimp only at r l ⊢
   obtain⟨p,hp⟩:∃p:Int,(n:Int) - 1 - i=p:=⟨_,rfl⟩
   have st:=r.step o hi
   rw[hp] at st ⊢
   have ins:∀(b:Bool),(S.any (· == p))=b->CG θ (.int p) (.ref (h.length+1)) (h++[.lst (R.map tpI),.set S])=.ok (.bl (!b)) (h++[.lst (R.map tpI),.set S]):=fun b e=>by
    rw[T5 (ns:=S) jS,e];rfl
   rcases st with⟨c,r'⟩ | ⟨c,r'⟩
   ·rw[if_pos c]
    exact⟨⟨r',show R.length<=i+1 by lia⟩,.inl (by simp[Lf,ins _ c])⟩
   ·rw[if_neg (by rw[c];exact Yc)]
    refine⟨⟨r',by simp;lia⟩,.inl ?_⟩
    have fr:=Q8 (p:=p) (h:=h++[.lst (R.map tpI),.set S]) o {} {} hn
    have isl:isL (.ref h.length) (h++[.lst (R.map tpI),.set S])=true:=r9 cT
    have ap:bP (.ref h.length) [.tup ((wk xs p).map D.int)] (h++[.lst (R.map tpI),.set S])=.ok .non (h++[.lst ((R++[wk xs p]).map tpI),.set S]):=by
     have:=lN (h:=h) (ds:=R.map tpI) (d:=.tup ((wk xs p).map D.int)) (t:=[.set S])
     have z:(R.map tpI).length<1000000:=by simp;lia
     rw[if_pos z] at this
     rw[YE]
     exact this
    have al:=wN (n:=n) (d0:=ξ (.tup (xs.map D.int))) (d1:=ξ (.ref h.length)) (d3:=ξ (.int p)) (d4:=ξ (.tup ((wk xs p).map D.int))) (R:=.lst ((R++[wk xs p]).map tpI)) (h:=h) (wk xs p) S y5 (fun x hx=>w8 o {} {} hx) r.rng r.nd hn (by rw[Cp];lia)
    generalize hW:(wk xs p).map D.int=W at *
    generalize (R++[wk xs p]).map tpI=R2 at *
    generalize R.map tpI=R1 at *
    simp[Lf,ins _ c,fr,isl,ap,al,tpI,hW])
 obtain⟨r,l⟩:=q2
 generalize (XF n).foldl _ _=s at q r l
 obtain⟨R,S,y3,y4,y5⟩:=s
 dsimp only at q r l
 have rr:R.map tpI=((kK n xs).map tpI).reverse:=by
  have:(R.map tpI).reverse=(kK n xs).map tpI:=by
   rw[r.res,<- aca,<- aca,<- List.filter_reverse,QV];rfl
  rw[<- this,List.reverse_reverse]
 refine⟨S,y3,y4,y5,?_⟩
 rw[<- rr]
 have:(dnI n).map D.int=(XF n).map fun(i:Nat)=>D.int ((n:Int) - 1 - i):=by rw[dnI,Zf];rfl
 rw[this];exact q
def cr3 (a:MA) (env:En) (h:Hh):fE p9 a env h=(a env h).bind p9:=rfl
def QX {h:Hh}{L:List D}{t:Hh}:m8 aA (.ref h.length) (h++.lst L.reverse::t)=.ok (.frl L) (h++.lst L.reverse::t):=by
 delta m8;dsimp only;rw[cT];dsimp only;rw[List.reverse_reverse];rfl
def KH {n:Nat}{xs:List Int}:deep 8 (.frl ((kK n xs).map tpI))=true:=by
 have:((kK n xs).map tpI).all (deep 7)=true:=by
  rw[acY,X_]
  intro b _
  simp[tpI]
 simpa [deep] using this
def xw {n:Nat}{xs:List Int}{h:Hh} (o:Ord n xs) (h1:1<=n) (hn:n<=20) (w:Wf h):cY [.tup (xs.map D.int)] h=.ok (.frl ((kK n xs).map tpI)) h:=by
 obtain⟨S,y3,y4,y5,q⟩:=Kx (h:=h) o hn
 have og:=fP (h:=h) o h1 hn w
 have dn:=Ws (h:=h++[.lst [],.set []]) h1 hn
 have rv:=QX (h:=h) (L:=(kK n xs).map tpI) (t:=[.set S])
 have ex:=ja (h:=h) (t:=[.lst ((kK n xs).map tpI).reverse,.set S]) (d:=.frl ((kK n xs).map tpI)) w KH
 have hl:=o.len
 have e:cY=fun ds h=>((ba 6 (av (bR (af ax (aa (up (ag 0)) ah)))
  (av (up (aZ 1 (af (bV dy) ah)))
  (av (up (aZ 2 (af Bx ah)))
  (av (up (fh (fE p9 (aa (ak gm (af bA (aa (ag 0) ah)) (cC (.int 1))) (aa (cUn kL (cC (.int 1))) (aa (cUn kL (cC (.int 1))) ah)))) (gN 3) Lf))
  (up (aQ (cUn (m8 aA) (ag 1))))))))) ds h).bind (dz h):=rfl
 rw[e]
 generalize (kK n xs).map tpI=RN at *
 simp[Qv,og,aH,hl,cr3,dn,q,rv,ex]
def HC {n:Nat}{xs:List Int} (o:Ord n xs) (h1:1<=n) (h2:n<=20):kK n xs≠[]/\(kK n xs).length<=20/\∀b∈kK n xs,Fs b:=by
 refine⟨fun e=>?_,?_,fun b hb=>?_⟩
 ·have m:((n - 1:Nat):Int)∈((XF n).map fun(i:Nat)=>(i:Int)).filter (pG xs):=Yk.mpr ⟨X3.mpr ⟨n - 1,X8.mpr {},rfl⟩,EG.mpr fun x hx=>by
   have:=(w8 o {} {} hx).2;lia⟩
  have:wk xs ((n - 1:Nat):Int)∈(((XF n).map fun(i:Nat)=>(i:Int)).filter (pG xs)).map (wk xs):=X3.mpr ⟨_,m,rfl⟩
  rw[show(((XF n).map fun(i:Nat)=>(i:Int)).filter (pG xs)).map (wk xs)=kK n xs from rfl,e] at this
  cases this
 ·unfold kK
  rw[XE]
  refine XR (Yv _ _) ?_
  rw[XE,YS];exact h2
 ·obtain⟨p,hp,rfl⟩:=X3.mp hb
  obtain⟨i,hi,rfl⟩:=X3.mp (Yk.mp hp).1
  have hi:=X8.mp hi
  have c:=(EW o (p:=(i:Int)) {} {}).lt
  exact⟨by rw[Cp];lia,fun x hx=>by have:=w8 o {} {} hx;exact⟨x.toNat,{},{}⟩⟩
def HV {n:Nat}{xs:List Int}{h:Hh} (o:Ord n xs) (h1:1<=n) (h2:n<=20) (w:Wf h):de [.tup (xs.map D.int)] h=.ok (.str (grT (kK n xs))) h:=by
 have q:=xw (h:=h) o h1 h2 w
 obtain⟨a,b,c⟩:=HC o h1 h2
 have g:=Aw (h:=h) a b c
 generalize (kK n xs).map tpI=ts at q g
 simp[de,aH,q,g]
abbrev Af (n:Nat) (B:List Int->Int) (C:D):Prop:=∃x ds np m,C=.clo x ds/\mP x=ξ (np,m)/\ds.length+1=np/\∀xs h,Beg n xs->m (ds++[.tup (xs.map D.int)]) h=.ok (.int (B xs)) h
def BB {n:Nat}{B:List Int->Int}{C:D} (c:Af n B C){xs:List Int}{f:ME}{a:MA}{env:En}{h h1 h2:Hh} (b:Beg n xs) (ef:f env h=.ok C h1) (ea:a env h1=.ok [.tup (xs.map D.int)] h2):kS mP f a env h=.ok (.int (B xs)) h2:=by
 obtain⟨x,ds,np,m,rfl,et,el,em⟩:=c
 unfold kS
 rw[ef]
 show(match mP x with | some (np,m)=>_ | none=>_)=_
 rw[et]
 show(if ds.length+1=np then _ else _)=_
 rw[if_pos el,ea]
 exact em xs h2 b
def QG {n:Nat}{k:Int} (hn:n<=12):Af n (bcV n k) (.clo "begun_count" [.frl (rsD n),.int k]):=⟨_,_,3,bE,rfl,pK,rfl,fun xs h b=>UY b hn⟩
def Gi {n:Nat}{B:List Int->Int}{C:D}{xs:List Int}{h:Hh} (c:Af n B C) (b:Beg n xs) (hn:n<=1000):dY [.int n,.tup (xs.map D.int),C] h=.ok (.frl ((nxB n B xs).map fun x=>tpl (xs++[x]))) h:=by
 have bl:=b.len
 have q:=Gd (n:=n) (xs:=xs) (h:=h) {}
 have q2:cu (aF asB (ak dGt (kS mP (ag 1) (aa (ag 0) ah)) (cC (.int 0)))) (ag 0) (fun x=>[ξ x,ξ C]) ((cf n xs).map fun x=>tpl (xs++[x])) h=.ok ((nxB n B xs).map fun x=>tpl (xs++[x])) h:=by
  rw[comp_map (fun x=>tpl (xs++[x])) (fun x=>decide (0<B (xs++[x]))) (fun x=>tpl (xs++[x])) (cf n xs) fun x hx=>⟨by
   have e:=BB (f:=ag 1) (a:=aa (ag 0) ah) (env:=[ξ (tpl (xs++[x])),ξ C]) (h:=h) (h1:=h) (h2:=h) c (b.snoc hx) {..} (by simp[tpl])
   simp only[Qd,Sy,e]
   simp,fun _=>{..}⟩]
  rfl
 have l1:((cf n xs).map fun x=>tpl (xs++[x])).length<=1000000:=by rw[XE,lJ b];lia
 have z2:(n:Int).natAbs<=1000000:={}
 have z3:n<=1000000:={}
 generalize ((cf n xs).map fun x=>tpl (xs++[x]))=W at *
 generalize ((nxB n B xs).map fun x=>tpl (xs++[x]))=W2 at *
 generalize xs.map D.int=X at *
 simp[dY,aH,z2,z3,q,l1,q2]
abbrev NAB:MS:=(dI (aF asB (ak dLt (ak dIx (ag 4) (cUn kL (cC (.int 1)))) (ak dIx (ag 0) (ag 3)))) (MU 2 xn (kS mP (ag 1) (aa (ag 4) ah))) bT)
abbrev NAO:MS:=(fh (du (af dY (aa (af bA (aa (ag 0) ah)) (aa (e9 aA (ag 0) fZ (ft (ag 3))) (aa (ag 1) ah))))) (gN 4) NAB)
def Ib {n:Nat}{B:List Int->Int}{C:D} (c:Af n B C){xs os:List Int}{h:Hh}{p:Nat} (b:Beg n xs) (hp:p<os.length):∀(l:List Int) (t:Int) (y4:Option D),(∀z∈l,z∈cf n xs) →
  ∃z4,eg (gN 4) NAB (l.map fun x=>tpl (xs++[x])) [ξ (.tup (os.map D.int)),ξ C,ξ (.int t),ξ (.int (p:Int)),y4] h=.ok (.nx [ξ (.tup (os.map D.int)),ξ C,ξ (.int (t+jX B xs (l.filter fun x=>decide (x<gI os p)))),ξ (.int (p:Int)),z4]) h
 | [],t,y4,_=>⟨y4,by simp[qW,jX]⟩
 | z::l,t,y4,hl=>by
  have io:ixK (os.map D.int) (p:Int) h=.ok (.int (gI os p)) h:=fX rfl hp
  have iz:dIx (tpl (xs++[z])) (.int (-1)) h=.ok (.int z) h:=by
   have e:(xs++[z]).map D.int=xs.map D.int++[D.int z]:={..}
   unfold tpl;rw[e];simp
  rw[XT,gJ]
  by_cases c1:z<gI os p
  ·have cc:=BB (f:=ag 1) (a:=aa (ag 4) ah) (env:=[ξ (.tup (os.map D.int)),ξ C,ξ (.int t),ξ (.int (p:Int)),ξ (tpl (xs++[z]))]) (h:=h) (h1:=h) (h2:=h) c (b.snoc (hl z XU)) {..} (by simp[tpl])
   obtain⟨z4,q⟩:=Ib c (xs:=xs) (os:=os) (h:=h) b hp l (t+B (xs++[z])) (ξ (tpl (xs++[z]))) (fun y hy=>hl y (XM _ hy))
   refine⟨z4,?_⟩
   rw[YF,if_pos (by simpa using c1),f6,<- Int.add_assoc]
   generalize tpl (xs++[z])=Z at *
   generalize (l.map fun x=>tpl (xs++[x]))=W at *
   generalize os.map D.int=X at *
   have st:NAB [ξ (.tup X),ξ C,ξ (.int t),ξ (.int (p:Int)),ξ Z] h=.ok (.nx [ξ (.tup X),ξ C,ξ (.int (t+B (xs++[z]))),ξ (.int (p:Int)),ξ Z]) h:=by simp[NAB,io,iz,c1,cc]
   simp[st,q]
  ·obtain⟨z4,q⟩:=Ib c (xs:=xs) (os:=os) (h:=h) b hp l t (ξ (tpl (xs++[z]))) (fun y hy=>hl y (XM _ hy))
   refine⟨z4,?_⟩
   rw[YF,if_neg (by simpa using c1)]
   generalize tpl (xs++[z])=Z at *
   generalize (l.map fun x=>tpl (xs++[x]))=W at *
   generalize os.map D.int=X at *
   have st:NAB [ξ (.tup X),ξ C,ξ (.int t),ξ (.int (p:Int)),ξ Z] h=.ok (.nx [ξ (.tup X),ξ C,ξ (.int t),ξ (.int (p:Int)),ξ Z]) h:=by simp[NAB,io,iz,c1]
   simp[st,q]
def L7 {n:Nat}{B:List Int->Int}{os:List Int}{i:Nat} (hi:i<os.length):rkL n B (os.take i) (os.drop i)=jX B (os.take i) ((cf n (os.take i)).filter fun x=>decide (x<gI os i))+rkL n B (os.take (i+1)) (os.drop (i+1)):=by
 have e:os.drop i=gI os i::os.drop (i+1):=by rw[eI hi];exact List.drop_eq_getElem_cons hi
 have e2:os.take (i+1)=os.take i++[gI os i]:=by rw[eI hi];exact List.take_succ_eq_append_getElem hi
 rw[e,e2]
 rfl
def L_ {n:Nat}{B:List Int->Int}{C:D}{os:List Int}{h:Hh} (K:Cnt n B) (c:Af n B C) (hn:n<=1000) (o:Ord n os):eC [.tup (os.map D.int),C] h=.ok (.int (rkL n B [] os)) h:=by
 have ol:=o.len
 obtain⟨s,lp,si⟩:=Nb (σ:=Int × Option D × Option D) (tg:=gN 3) (body:=NAO) (fun(i:Nat)=>D.int i) n (fun s=>[ξ (.tup (os.map D.int)),ξ C,ξ (.int s.1),s.2.1,s.2.2]) (fun _=>h) (fun i s=>s.1+rkL n B (os.take i) (os.drop i)=rkL n B [] os) (fun i s hi hs=>by
  obtain⟨t,y3,y4⟩:=s
  dsimp only at hs ⊢
  have b:Beg n (os.take i):=o.beg.take i
  obtain⟨z4,q⟩:=Ib c (xs:=os.take i) (os:=os) (h:=h) (p:=i) b {} (nxB n B (os.take i)) t y4 (fun z hz=>E2 hz)
  have sm:=zH (B:=B) (xs:=os.take i) (p:=fun x=>decide (x<gI os i)) (K.left b)
  rw[show((cf n (os.take i)).filter fun x=>decide (0<B (os.take i++[x])))=nxB n B (os.take i) from rfl] at sm
  rw[sm] at q
  refine⟨(t+jX B (os.take i) ((cf n (os.take i)).filter fun x=>decide (x<gI os i)),ξ (.int i),z4),?_,?_⟩
  ·dsimp only
   have rd:=L7 (n:=n) (B:=B) (os:=os) (i:=i) {}
   lia
  ·have lo:=Gi (h:=h) c b hn
   have ll:((nxB n B (os.take i)).map fun x=>tpl (os.take i++[x])).length<=1000000:=by
    rw[XE]
    have:=Yv (fun x=>decide (0<B (os.take i++[x]))) (cf n (os.take i))
    rw[lJ b] at this
    unfold nxB;lia
   have ct:cutD (os.map D.int) ζ (ξ (i:Int))=(os.take i).map D.int:=by rw[iW,yT]
   have lx:(os.map D.int).length=n:=by rw[XE,ol]
   generalize ((nxB n B (os.take i)).map fun x=>tpl (os.take i++[x]))=W at *
   generalize (os.take i).map D.int=X2 at *
   generalize os.map D.int=X at *
   have z9:n<=1000000:={}
   simp[NAO,lx,ct,lo,q,z9]) n 0 (0,ζ,ζ) {} {..}
 obtain⟨t,y3,y4⟩:=s
 dsimp only at lp si
 have e:t=rkL n B [] os:=by
  rw[<- si,List.drop_eq_nil_of_le {}]
  simp[rkL]
 subst e
 rw[<- abl,<- oy] at lp
 have z2:(n:Int).natAbs<=1000000:={}
 have z3:n<=1000000:={}
 have lx:(os.map D.int).length=n:=by rw[XE,ol]
 have eq:eC=ba 5 (av (aZ 2 (cC (.int 0))) (av (fh (fE jh (aa (af bA (aa (ag 0) ah)) ah)) (gN 3) NAO) (aQ (ag 2)))):=rfl
 rw[eq]
 generalize os.map D.int=X at *
 simp[aH,lx,z2,z3,lp]
def F8 {n:Nat}{os:List Int}{h:Hh} (o:Ord n os) (h1:1<=n) (hn:n<=12) (w:Wf h):ck [.tup (os.map D.int)] h=.ok .non h:=by
 have a:=oV o h1 {} w
 have l:(((os.map D.int).length:Nat):Int)=n:=by rw[XE,o.len]
 have c:¬ (12:Int)<n:={}
 have c':¬ 12<n:={}
 generalize os.map D.int=X at *
 simp[ck,aH,a,l,c,c']
def IZ {n:Nat}{os:List Int}{h:Hh} (o:Ord n os) (h1:12<n) (hn:n<=20) (w:Wf h):ck [.tup (os.map D.int)] h=.err ⟨"TooGreat", [("many", (n:Int)),("most", 12)]⟩ h:=by
 have a:=oV o {} hn w
 have l:(((os.map D.int).length:Nat):Int)=n:=by rw[XE,o.len]
 have l2:(os.map D.int).length=n:=by rw[XE,o.len]
 have c:(12:Int)<n:={}
 generalize os.map D.int=X at *
 simp[ck,aH,a,l,l2,c,h1,nu]
 rfl
def IE {n:Nat}{os:List Int}{h:Hh} (o:Ord n os) (h1:1<=n) (hn:n<=12) (w:Wf h):∃c:Int,sml c=θ/\cB [.tup (os.map D.int)] h=.ok (.int c) h/\b7 [.tup (os.map D.int)] h=.ok (.str (nm c)) h:=by
 have a:=F8 o h1 hn w
 have l:(((os.map D.int).length:Nat):Int)=n:=by rw[XE,o.len]
 have f:=BP (xs:=os) (h:=h) (by rw[o.len];lia)
 have l5:((((az os).map D.int).length:Nat):Int)=((az os).length:Int):=by rw[XE]
 have c:=FU (n:=n) (k:=((az os).length:Int)) hn w
 have e:=L_ (h:=h) (Kh n ((az os).length:Int)) (QG hn) {} o
 have s:sml (rkL n (bcV n ((az os).length:Int)) [] os)=true:=by
  have b:=OR (Kh n ((az os).length:Int)) os [] 0 (by simpa using o.beg) (by decide) (by rw[aby,Ol o.len,if_pos rfl];decide) (by simpa using o.len)
  have q:=SQ (n:=n) (k:=((az os).length:Int)) (xs:=[]) hn
  unfold sml at q ⊢
  have q:=of_decide_eq_true q
  generalize rkL n (bcV n ((az os).length:Int)) [] os=R at b ⊢
  generalize bcV n ((az os).length:Int) []=B at b q
  have:R.natAbs<=B.natAbs:={}
  exact decide_eq_true (Nat.lt_of_le_of_lt this q)
 generalize rkL n (bcV n ((az os).length:Int)) [] os=R at *
 generalize ((az os).length:Int)=k at *
 generalize (az os).map D.int=F1 at *
 generalize os.map D.int=X at *
 have q:cB [.tup X] h=.ok (.int R) h:=by simp[cB,aH,a,l,f,l5,c,e]
 exact⟨R,s,q,by simp[b7,aH,q,s,-L2.FE.eK,FC.eK]⟩
def Mn {n:Nat}{os:List Int}{h:Hh} (o:Ord n os) (h1:12<n) (hn:n<=20) (w:Wf h):b7 [.tup (os.map D.int)] h=.err ⟨"TooGreat", [("many", (n:Int)),("most", 12)]⟩ h:=by
 have a:=IZ o h1 hn w
 generalize os.map D.int=X at *
 simp[b7,cB,aH,a]
def SR {n:Nat}{xs:List Int}{h:Hh}{s:Nat} (o:Ord n xs) (h1:1<=n) (h2:n<20) (hs:s<=n) (w:Wf h):k8 [.tup (xs.map D.int),.int s] h=.ok (.tup ((dF xs n s).map D.int)) h:=by
 have hl:=o.len
 have zn:=lT (h:=h) (i:=(s:Int)) (a:=0) (b:=(xs.length:Int)) {}
 have z2:¬ ((xs.length:Int)=20):={}
 have z2':¬ (xs.length=20):={}
 have oe:=oV (h:=h) o h1 {} w
 simp[k8,aH,oe,zn,z2,z2',iW,yT,xE,-List.map_take,-List.map_drop]
 rw[if_pos {},if_pos {}]
 simp[dF,hl]
def Rc (h:Hh):∀s:Nat,s<20->fQ [.str ("put " ++ nm s)] h=.ok (.tup [.str "put", .frl [.int s]]) h
 | 0,_=>by kernel_rfl
 | 1,_=>by kernel_rfl
 | 2,_=>by kernel_rfl
 | 3,_=>by kernel_rfl
 | 4,_=>by kernel_rfl
 | 5,_=>by kernel_rfl
 | 6,_=>by kernel_rfl
 | 7,_=>by kernel_rfl
 | 8,_=>by kernel_rfl
 | 9,_=>by kernel_rfl
 | 10,_=>by kernel_rfl
 | 11,_=>by kernel_rfl
 | 12,_=>by kernel_rfl
 | 13,_=>by kernel_rfl
 | 14,_=>by kernel_rfl
 | 15,_=>by kernel_rfl
 | 16,_=>by kernel_rfl
 | 17,_=>by kernel_rfl
 | 18,_=>by kernel_rfl
 | 19,_=>by kernel_rfl
 | s+20,hs=>absurd hs {}
abbrev Dp (h:Hh) (n k:Nat) (xs:List Int) (ps:List D):Prop:=h[n]?=ξ (.ins "Desk" (dkF xs k))/\aE h k=ξ ps/\n≠k
def Dp.dk {h:Hh}{n k:Nat}{xs:List Int}{ps:List D} (d:Dp h n k xs ps):Dk h n xs:=⟨k,d.1⟩
def Dp.ins {h:Hh}{n k:Nat}{xs:List Int}{ps:List D} (d:Dp h n k xs ps):gi "Desk" h (.ref n)=ξ (n,dkF xs k):=by unfold gi;dsimp only;rw[d.1];dsimp only;rw[if_pos rfl]
def Je {h:Hh}{n k:Nat}{ps:List D}{o:O} (e:aE h k=ξ ps) (hn:n≠k):aE (h.set n o) k=ξ ps:=by
 unfold aE at *
 rw[ZX,if_neg hn]
 exact e
def wM {h:Hh}{n k:Nat}{xs ys:List Int}{ps:List D} (d:Dp h n k xs ps) (hl:ps.length<1000000):∃h',dg [.ref n,.tup (ys.map D.int)] h=.ok .non h'/\h'=(h.set k (.lst (ps++[.tup (xs.map D.int)]))).set n (.ins "Desk" (dkF ys k))/\Dp h' n k ys (ps++[.tup (xs.map D.int)]):=by
 have a1:lZ "Desk" "past" (.ref n) h=.ok (.ref k) h:=by unfold lZ;rw[d.ins];rfl
 have a2:lZ "Desk" "order" (.ref n) h=.ok (.tup (xs.map D.int)) h:=by unfold lZ;rw[d.ins];rfl
 have a3:isL (.ref k) h=true:=r9 d.2.1
 have a4:bP (.ref k) [.tup (xs.map D.int)] h=.ok .non (h.set k (.lst (ps++[.tup (xs.map D.int)]))):=by rw[AB d.2.1,if_pos hl]
 have d2:(h.set k (.lst (ps++[.tup (xs.map D.int)])))[n]?=ξ (.ins "Desk" (dkF xs k)):=by rw[ZX,if_neg (aac d.2.2)];exact d.1
 have a5:gi "Desk" (h.set k (.lst (ps++[.tup (xs.map D.int)]))) (.ref n)=ξ (n,dkF xs k):=by unfold gi;dsimp only;rw[d2];dsimp only;rw[if_pos rfl]
 have a6:yd "order" (.tup (ys.map D.int)) (dkF xs k)=dkF ys k:=rfl
 have a7:(dkF xs k).length<1000:=by show 2<1000;decide
 refine⟨_,?_,rfl,?_⟩
 ·generalize xs.map D.int=X at *
  generalize ys.map D.int=Y at *
  generalize dkF xs k=F1 at *
  simp[dg,aH,ko,a1,a2,a3,a4,a5,a6,a7]
 ·refine⟨?_,Je (rh d.2.1) d.2.2,d.2.2⟩
  rw[ZX,if_pos rfl,if_pos]
  have:=(X9.mp d2).1
  exact this
def GY {xs:List Int}{n s:Nat}{h:Hh} (o:Ord n xs) (h1:1<=n) (h2:n<20) (hs:s<=n) (w:Wf h):gb [.tup (xs.map D.int),.str "put", .frl [.int s]] h=.ok (.tup ((dF xs n s).map D.int)) h:=by
 have p:=SR (h:=h) o h1 h2 hs w
 have a1:om "PLAIN_DEEDS" cF (.str "put") (.fn "PLAIN_DEEDS") h=.ok (.bl ψ) h:=by kernel_rfl
 have a2:vm cQ (.str "put") h=.ok (.fn "put_deed") h:=by kernel_rfl
 generalize (dF xs n s).map D.int=Y at p ⊢
 generalize xs.map D.int=X at p ⊢
 have d:fC [.tup X,.frl [.int s]] h=.ok (.tup Y) h:=by simp[fC,aH,p]
 have c:=zU (tab:=Ah) (f:=up (ag 4)) (a:=aa (up (ag 0)) (aa (up (ag 2)) ah)) (env:=[ξ (.tup X),ξ (.str "put"),ξ (.frl [.int s]),ζ,ξ (.fn "put_deed")]) (h:=h) (h1:=h) (x:="put_deed") (m:=fC) {..} {..}
 simp[gb,aH,a1,a2,c,d]
def Md {h:Hh}{n k m s:Nat}{xs:List Int}{ps:List D} (d:Dp h n k xs ps) (hl:ps.length<1000000) (o:Ord m xs) (h1:1<=m) (h2:m<20) (hs:s<=m) (w:Wf h):∃h',cL [.ref n,.str ("put " ++ nm s)] h=.ok (.str "ok") h'/\h'=(h.set k (.lst (ps++[.tup (xs.map D.int)]))).set n (.ins "Desk" (dkF (dF xs m s) k))/\Dp h' n k (dF xs m s) (ps++[.tup (xs.map D.int)]):=by
 obtain⟨h',f,e,d'⟩:=wM (ys:=dF xs m s) d hl
 refine⟨h',?_,e,d'⟩
 have l:=Rc h s {}
 have c:=GY (h:=h) o h1 h2 hs w
 have od:=d.dk.order
 have a1:om "QUESTIONS" bc (.str "put") (.fn "QUESTIONS") h=.ok (.bl ψ) h:=by kernel_rfl
 have i:=d.ins
 have lk:(dkF xs k).lookup ("follow" : Str)=none:=rfl
 generalize dkF xs k=FF at i lk
 generalize xs.map D.int=X at *
 generalize (dF xs m s).map D.int=Y at *
 generalize ("put " ++ nm s:Str)=row at l ⊢
 have a2:dEq (.str "put") (.str "undo") h=.ok (.bl ψ) h:=by kernel_rfl
 simp[cL,aH,js,l,a1,a2,od,c,f,i,lk]
abbrev BE (n:Nat):List Int:=(XF n).map fun(i:Nat)=>if i % 2=0 then ((i / 2:Nat):Int) else (n:Int) - 1 - ((i / 2:Nat):Int)
def zV:∀n,n<21->(BE n).Nodup/\∀x∈BE n,0<=x/\x<(n:Int):={:_}
def L4 {n:Nat} (h2:n<=20):Ord n (BE n):=⟨by simp[BE],(zV n {}).1,fun x hx=>((zV n {}).2 x hx).1,fun x hx=>((zV n {}).2 x hx).2⟩
def M9 {p:Pen}{h:Hh} (w:Wf h):∃n xs p',Ord n xs/\1<=n/\n<=20/\b9 [.ref h.length] (h++[.lst (dw p)])=.ok (.tup (xs.map D.int)) (h++[.lst (dw p')]):=by
 obtain⟨a,ea,ha⟩:=O1 p 6 (by decide)
 have d6:=Ff (p:=p) (h:=h) (t:=[]) (m:=6) (by decide)
 rw[ea] at d6
 generalize kC p 6=p1 at d6
 obtain⟨b,eb,hb⟩:=O1 p1 20 (by decide)
 have d20:=Ff (p:=p1) (h:=h) (t:=[]) (m:=20) (by decide)
 rw[eb] at d20
 generalize kC p1 20=p2 at d20
 obtain⟨n,hn⟩:∃n:Nat,1+(b:Int)=n:=⟨1+b,{}⟩
 have h1:1<=n:={}
 have h2:n<=20:={}
 have z1:((n:Nat):Int).natAbs<=1000000:={}
 have z2:n<=1000000:={}
 by_cases c0:a=0
 ·subst c0
  refine⟨n,gq 0 n,p2,gH n,h1,h2,?_⟩
  rw[<- rk]
  simp[b9,aH,d6,d20,hn,z1,z2]
 by_cases c1:a=1
 ·subst c1
  refine⟨n,(gq 0 n).reverse,p2,(gH n).rev,h1,h2,?_⟩
  have e:((gq 0 n).reverse).map D.int=(bI 0 n).reverse:=by rw[aca,rk]
  rw[e]
  simp[b9,aH,d6,d20,hn,z1,z2]
 by_cases c2:a=2
 ·subst c2
  refine⟨n,BE n,p2,L4 h2,h1,h2,?_⟩
  have q:cu tt1 (cIf (aF asB (ak dEq (ak xM (ag 0) (cC (.int 2))) (cC (.int 0)))) (ak AM (ag 0) (cC (.int 2))) (ak gm (ak gm (ag 1) (cC (.int 1))) (ak AM (ag 0) (cC (.int 2))))) (fun x=>[ξ x,ξ (.int n)]) (bI 0 n) (h++[.lst (dw p2)])=.ok ((BE n).map D.int) (h++[.lst (dw p2)]):=by
   rw[jK (fun(i:Nat)=>D.int (if i % 2=0 then ((i / 2:Nat):Int) else (n:Int) - 1 - ((i / 2:Nat):Int))) (fun i hi=>by
    have s22:sml 2=true:={:_}
    by_cases c:i % 2=0
    ·have c':((i:Int) % 2 == 0)=true:=by simp;lia
     simp[c,c',s22]
    ·have c':((i:Int) % 2 == 0)=false:=by simp;lia
     simp[c,c',s22]),BE,Zf]
   rfl
  generalize (BE n).map D.int=W at *
  simp[b9,aH,d6,d20,hn,z1,z2,q]
 ·have wp:=IP w p2
  have xo:=Nt (p:=p2) (k:=n) (h:=h++[.lst (dw p2)]) (n:=h.length) cT wp {}
  have s:(h++[O.lst (dw p2)]).set h.length (.lst (dw (qI p2 n)))=h++[.lst (dw (qI p2 n))]:=lW
  rw[s] at xo
  refine⟨n,qQ p2 n,qI p2 n,JG p2 n,h1,h2,?_⟩
  generalize (qQ p2 n).map D.int=W at *
  have c0':¬ (a:Int)=0:={}
  have c1':¬ (a:Int)=1:={}
  have c2':¬ (a:Int)=2:={}
  simp[b9,aH,d6,d20,hn,c0',c1',c2',c0,c1,c2,xo]
abbrev gc (xs:List Int) (m:Nat):List Int:=xs.filter fun x=>decide (x<(m:Int))
abbrev spI (xs:List Int) (m:Nat):Nat:=((xs.take (xs.findIdx (· == (m:Int)))).filter fun x=>decide (x<(m:Int))).length
def Ae {n:Nat}{xs:List Int} (o:Ord n xs){m:Nat} (hm:m<n):dF (gc xs m) m (spI xs m)=gc xs (m+1)/\spI xs m<=(gc xs m).length:=by
 have mem:=lK o (j:=(m:Int)) {} {}
 obtain⟨j,hj,e⟩:=List.mem_iff_getElem.mp mem
 have hf:xs.findIdx (· == (m:Int))=j:=by
  have a:=yb o.nd hj
  rw[e] at a
  exact(Zz.mp a).2
 have hx:xs=xs.take j++(m:Int)::xs.drop (j+1):=by rw[<- e,aa4,ZR]
 have nd:=o.nd
 rw[hx] at nd
 have nd2:=abX.mp nd
 have n1:∀x∈xs.take j,x≠(m:Int):=fun x h1 h2=>nd2.2.2 x h1 (m:Int) XU h2
 have n2:∀x∈xs.drop (j+1),x≠(m:Int):=fun x h1 h2=>(Yt.mp nd2.2.1).1 (h2 ▸ h1)
 have f1:∀l:List Int,(∀x∈l,x≠(m:Int))->(l.filter fun x=>decide (x<((m+1:Nat):Int)))=l.filter fun x=>decide (x<(m:Int)):=fun l hl=>ZZ fun x h1=>by
  have:=hl x h1
  by_cases c:x<(m:Int)
  ·rw[decide_eq_true c,decide_eq_true {}]
  ·rw[decide_eq_false c,decide_eq_false {}]
 have a:gc xs m=(xs.take j).filter (fun x=>decide (x<(m:Int)))++(xs.drop (j+1)).filter (fun x=>decide (x<(m:Int))):=by
  unfold gc
  conv=>lhs;rw[hx]
  rw[Zv,YF,if_neg {..}]
 have b:gc xs (m+1)=(xs.take j).filter (fun x=>decide (x<(m:Int)))++(m:Int)::(xs.drop (j+1)).filter (fun x=>decide (x<(m:Int))):=by
  unfold gc
  conv=>lhs;rw[hx]
  rw[Zv,YF,if_pos (by simp;lia),f1 _ n1,f1 _ n2]
 have s:spI xs m=((xs.take j).filter fun x=>decide (x<(m:Int))).length:=by unfold spI;rw[hf]
 rw[a,b,s]
 refine⟨?_,by rw[YU];lia⟩
 unfold dF
 rw[List.take_left,List.drop_left]
def zE {n:Nat}{xs:List Int} (o:Ord n xs):∀m,m<=n->Ord m (gc xs m)
 | 0,_=>by
  have:gc xs 0=[]:=aa3.mpr fun x hx=>by have:=o.lo x hx;simp;lia
  rw[this]
  exact⟨rfl,abb,fun x h=>(nomatch h),fun x h=>(nomatch h)⟩
 | m+1,hm=>by
  have a:=zE o m {}
  obtain⟨b,c⟩:=Ae o (m:=m) {}
  rw[<- b]
  exact EF a
def Nr {n:Nat}{xs:List Int} (o:Ord n xs):gc xs n=xs:=Z5.mpr fun x hx=>by have:=o.hi x hx;simp;lia
def xU {n:Nat}{xs:List Int} (o:Ord n xs) (h1:1<=n):gc xs 1=[0]:=by
 have a:=zE o 1 h1
 obtain⟨x,e⟩:=List.length_eq_one_iff.mp a.len
 have l:=a.lo x (by rw[e];simp)
 have u:=a.hi x (by rw[e];simp)
 rw[e]
 congr 1
 lia
def Pu {n m:Nat}{xs:List Int}{h:Hh} (o:Ord n xs) (hm:m<n) (hn:n<=20):∃ys:List D,cu (aF asB (ak dLt (ak dIx (ag 1) (ag 0)) (ag 2))) (ag 0) (fun x=>[ξ x,ξ (.tup (xs.map D.int)),ξ (.int m)]) (bI 0 (xs.findIdx (· == (m:Int)))) h=.ok ys h/\ys.length=spI xs m:=by
 have lt:xs.findIdx (· == (m:Int))<xs.length:=Zg ⟨(m:Int),lK o {} {},{..}⟩
 have ol:=o.len
 generalize hj:xs.findIdx (· == (m:Int))=j at lt
 refine⟨_,nQ (fun i=>decide (gI xs i<(m:Int))) (fun i=>D.int i) (fun i hi=>?_),?_⟩
 ·have e1:ixK (xs.map D.int) (i:Int) h=.ok (.int (gI xs i)) h:=fX rfl {}
  simp[e1]
 ·unfold spI
  rw[XE,hj]
  have:(xs.take j)=(XF j).map fun i=>gI xs i:=by
   refine aaC (by simp;lia) fun i a b=>?_
   simp at a b ⊢
   rw[eI {}]
  rw[this,List.filter_map,XE]
  rfl
abbrev B0:MS:=(av (aZ 7 (af bA (aa (bZ aA (fE jh (aa (g7 d9 (ag 3) (aa (ag 6) ah)) ah)) [3,6] (aF asB (ak dLt (ak dIx (ag 1) (ag 0)) (ag 2))) (ag 0)) ah))) (dI (aF asB (ak dNe (af bK (aa (ag 5) (aa (ak (bg aA) (cC (.str "put ")) (af cN (aa (ag 7) ah))) ah))) (af bz (aa (cC (.str "told")) (aa (cC (.str "ok")) ah))))) (aQ (cC (.bl ψ))) bT))
abbrev B1:MS:=(dI (aF asB (ak dNe (af bK (aa (ag 5) (aa (ag 10) ah))) (af bz (aa (cC (.str "told")) (aa (ag 11) ah))))) (aQ (cC (.bl ψ))) bT)
abbrev B2:MS:=(av (fh (du (ag 8)) (gT2 10 11) B1) (av (aZ 12 (af bK (aa (ag 5) (aa (cC (.str "number")) ah)))) (dI (vf (pW (aF asB (ak dGt (ag 4) (cC (.int 12)))) (aF asB (ak dNe (ag 12) (af bz (aa (cC (.str "great")) (aa (ag 4) (aa (cC (.int 12)) ah))))))) (pW (aF asB (ak dLt (ag 4) (cC (.int 13)))) (aF asB (ak dNe (ag 12) (af bz (aa (cC (.str "told")) (aa (af cN (aa (af (fun ds h=>noR (cB ds h)) (aa (ag 3) ah)) ah)) ah))))))) (aQ (cC (.bl ψ))) bT)))
abbrev B3:MS:=(av (aZ 2 (af c_ (aa (ag 1) ah))) (av (aZ 3 (af b9 (aa (ag 2) ah))) (av (aZ 4 (af bA (aa (ag 3) ah))) (av (aZ 5 (oR "Desk" cX)) (av (fh (fE wb (aa (cC (.int 1)) (aa (ag 4) ah))) (gN 6) B0) (av (aZ 8 (af (bV dy) (aa (af bz (aa (cC (.str "shown")) (aa (af aB (aa (ag 3) ah)) ah))) (aa (af bz (aa (cC (.str "falls")) (aa (af aB (aa (af (fun ds h=>noR (bu ds h)) (aa (ag 3) ah)) ah)) ah))) ah)))) (av (bR (cG bP (ag 8) (aa (af bz (aa (cC (.str "rises")) (aa (af aB (aa (af (fun ds h=>noR (dG ds h)) (aa (ag 3) ah)) ah)) ah))) ah))) (av (aZ 8 (ak (bg dy) (ag 8) (af (bV aA) (aa (af bz (aa (cC (.str "lifts")) (aa (af aB (aa (af (fun ds h=>noR (dB ds h)) (aa (ag 3) ah)) ah)) ah))) (aa (af bz (aa (cC (.str "drops")) (aa (af aB (aa (af (fun ds h=>noR (dO ds h)) (aa (ag 3) ah)) ah)) ah))) ah))))) (av (aZ 8 (ak (bg dy) (ag 8) (af (bV aA) (aa (af bz (aa (cC (.str "still")) (aa (af aB (aa (af (fun ds h=>noR (bh ds h)) (aa (ag 3) ah)) ah)) ah))) (aa (af bz (aa (cC (.str "new")) (aa (af aB (aa (af (fun ds h=>noR (bJ ds h)) (aa (ag 3) ah)) ah)) ah))) ah))))) (av (aZ 8 (ak (bg dy) (ag 8) (af (bV aA) (aa (af bz (aa (cC (.str "code")) (aa (af aB (aa (af (fun ds h=>noR (eP ds h)) (aa (ag 3) ah)) ah)) ah))) (aa (af bz (aa (cC (.str "path")) (aa (af aB (aa (af (fun ds h=>noR (eQ ds h)) (aa (ag 3) ah)) ah)) ah))) ah))))) (av (aZ 8 (ak (bg dy) (ag 8) (af (bV aA) (aa (af bz (aa (cC (.str "runs")) (aa (af cj (aa (af (fun ds h=>noR (eW ds h)) (aa (ag 3) ah)) ah)) ah))) (aa (af bz (aa (cC (.str "rounds")) (aa (af cj (aa (af (fun ds h=>noR (cY ds h)) (aa (ag 3) ah)) ah)) ah))) ah))))) (av (aZ 8 (ak (bg dy) (ag 8) (af (bV aA) (aa (af bz (aa (cC (.str "many")) (aa (af cN (aa (af (fun ds h=>noR (bj ds h)) (aa (ag 3) ah)) ah)) ah))) (aa (af bz (aa (cC (.str "count")) (aa (af cN (aa (af (fun ds h=>noR (bQ ds h)) (aa (ag 4) (aa (af (fun ds h=>noR (bj ds h)) (aa (ag 3) ah)) ah))) ah)) ah))) ah))))) (av (aZ 8 (ak (bg dy) (ag 8) (af (bV aA) (aa (af bz (aa (cC (.str "drawn")) (aa (af cN (aa (af (fun ds h=>noR ((aI 20) ds h)) (aa (ag 3) ah)) ah)) ah))) (aa (af bz (aa (cC (.str "zigzag")) (aa (ak dIx (af (bV aA) (aa (cC (.str "no")) (aa (cC (.str "yes")) ah))) (af Bn (aa (af (fun ds h=>noR (cA ds h)) (aa (ag 3) ah)) ah))) ah))) ah))))) (fh (fE jh (aa (cC (.int 2)) ah)) (gN 9) B2))))))))))))))
def JW:tu=fun ds h=>((ba 13 (av (fh (du (ak (bg aA) (af (bV aA) (aa (af cH (aa (ag 0) (aa (cC (.int 0)) ah))) ah)) (e9 aA (ag 0) (ft (cC (.int 1))) (ft (cC (.int 4)))))) (gN 1) B3) (aQ (cC (.bl θ))))) ds h).bind (dz h):=rfl
abbrev HQ:Prop:=∀(ns:List Int) (c:Int) (y2 y3 y4 y5 y6 y7 y8 y9 y10 y11 y12:Option D) (h:Hh),Wf h->Ok (B3 [ξ (.scr (ns.map D.int)),ξ (.int c),y2,y3,y4,y5,y6,y7,y8,y9,y10,y11,y12] h) fun fl h2=>∃z2 z3 z4 z5 z6 z7 z8 z9 z10 z11 z12,fl=.nx [ξ (.scr (ns.map D.int)),ξ (.int c),z2,z3,z4,z5,z6,z7,z8,z9,z10,z11,z12]/\Wf h2
def PH (step:HQ) (ns:List Int) (hl:ns.length<=63):∃h,tu [.scr (ns.map D.int)] []=.ok (.bl θ) h:=by
 have key:Ok (eg (gN 1) B3 (((ns.headD 0)::kr ns (ξ 1) (ξ 4)).map D.int) [ξ (.scr (ns.map D.int)),ζ,ζ,ζ,ζ,ζ,ζ,ζ,ζ,ζ,ζ,ζ,ζ] []) fun fl h2=>(∃e,fl=.nx e)/\Wf h2:=by
  refine zW D.int (fun e h=>(∃y1 y2 y3 y4 y5 y6 y7 y8 y9 y10 y11 y12,e=[ξ (.scr (ns.map D.int)),y1,y2,y3,y4,y5,y6,y7,y8,y9,y10,y11,y12])/\Wf h) _ _ _ ⟨⟨_,_,_,_,_,_,_,_,_,_,_,_,rfl⟩,Wf.nil⟩ (fun x e h _ ⟨⟨y1,y2,y3,y4,y5,y6,y7,y8,y9,y10,y11,y12,e1⟩,w⟩=>?_) (fun e h ⟨_,w⟩=>⟨⟨_,rfl⟩,w⟩)
  subst e1
  simp only[Oh,gz,adl]
  refine(step ns x y2 y3 y4 y5 y6 y7 y8 y9 y10 y11 y12 h w).mono fun fl h2 ⟨z2,z3,z4,z5,z6,z7,z8,z9,z10,z11,z12,e2,w2⟩=>?_
  subst e2
  exact⟨⟨_,_,_,_,_,_,_,_,_,_,_,_,rfl⟩,w2⟩
 obtain⟨fl,h2,e,⟨e',rfl⟩,w⟩:=key
 have cl:=MZ ns (ξ 1) (ξ 4)
 have c1:1+(kr ns (ξ 1) (ξ 4)).length<=1000000:={}
 have ex:dz [] (.bl θ) h2=.ok (.bl θ) []:=by
  have:=ja (h:=[]) (t:=h2) (d:=.bl θ) Wf.nil rfl
  simpa using this
 refine⟨[],?_⟩
 have e2:eg (gN 1) B3 (D.int (ns.headD 0)::(kr ns (ξ 1) (ξ 4)).map D.int) [ξ (.scr (ns.map D.int)),ζ,ζ,ζ,ζ,ζ,ζ,ζ,ζ,ζ,ζ,ζ,ζ] []=.ok (.nx e') h2:=e
 rw[JW]
 simp[aH,FQ,c1,e2,ex,-List.headD_eq_head?_getD]
def EI {h:Hh}{n:Nat}{o:O} (w:Wf h) (l:oW h.length o=θ):Wf (h.set n o):=by
 unfold Wf at w ⊢
 rw[Zn,X_] at *
 intro x hx
 rcases List.mem_or_eq_of_mem_set hx with hx | hx
 ·exact w x hx
 ·subst hx;exact l
def ON {h:Hh}{n k:Nat}{xs:List Int}{ps:List D} (d:Dp h n k xs ps):n<h.length/\k<h.length:=⟨(X9.mp d.1).1,yC d.2.1⟩
def JV {k j:Nat}{xs:List Int} (h:k<j):oW j (.ins "Desk" (dkF xs k))=true:=by
 show bM j [.tup (xs.map D.int),.ref k]=θ
 simp[bM,i8,h]
def FO {h:Hh}{n k:Nat}{xs ys:List Int}{ps:List D} (d:Dp h n k xs ps) (w:Wf h) (lp:∀e∈ps,i8 h.length e=θ):Wf ((h.set k (.lst (ps++[.tup (xs.map D.int)]))).set n (.ins "Desk" (dkF ys k))):=by
 refine EI (J1 w ?_) ?_
 ·refine lO fun e he=>?_
  rcases YV.mp he with he | he
  ·exact lp e he
  ·rw[Yg.mp he];simp[i8]
 ·rw[Zn];exact JV (ON d).2
def T2 {n m d k:Nat}{xs:List Int}{ps:List D}{h:Hh}{y0 y1 y2 y7 y8 y9 y10 y11 y12:Option D} (o:Ord n xs) (h1:1<=m) (hm:m<n) (hn:n<=20) (p:Dp h d k (gc xs m) ps) (hl:ps.length<1000) (w:Wf h) :
  B0 [y0,y1,y2,ξ (.tup (xs.map D.int)),ξ (.int n),ξ (.ref d),ξ (.int m),y7,y8,y9,y10,y11,y12] h=.ok (.nx [y0,y1,y2,ξ (.tup (xs.map D.int)),ξ (.int n),ξ (.ref d),ξ (.int m),ξ (.int (spI xs m:Nat)),y8,y9,y10,y11,y12]) ((h.set k (.lst (ps++[.tup ((gc xs m).map D.int)]))).set d (.ins "Desk" (dkF (gc xs (m+1)) k))):=by
 obtain⟨st,sl⟩:=Ae o hm
 have lo:=zE o m {}
 rw[lo.len] at sl
 obtain⟨h',e,eh,_⟩:=Md p {} lo h1 {} sl w
 rw[st] at eh
 have sd:=zw p.dk e
 rw[eh] at sd
 obtain⟨ys,c,cl⟩:=Pu (h:=h) o hm hn
 have lt:xs.findIdx (· == (m:Int))<xs.length:=Zg ⟨(m:Int),lK o {} {},{..}⟩
 have fi:=kU (h:=h) (ns:=xs) (i:=(m:Int)) (List.findIdx?_eq_some_of_exists ⟨(m:Int),lK o {} {},{..}⟩)
 have ol:=o.len
 have j1:xs.findIdx (· == (m:Int))<=1000000:={}
 have ss:sml ((spI xs m:Nat):Int)=true:=bW {} {}
 have nl:(nm (spI xs m)).length<=2:=(EU _ {}).1
 have pl:("put " : Str).length=4:={:_}
 have al:("put " : Str).length+(nm (spI xs m)).length<=1000000:={}
 have ne:∀H:Hh,dNe (.tup [.str "told", .str "ok"]) (.tup [.str "told", .str "ok"]) H=.ok (.bl ψ) H:=fun H=>by kernel_rfl
 have yl:ys.length<=1000000:={}
 generalize (h.set k (.lst (ps++[.tup ((gc xs m).map D.int)]))).set d (.ins "Desk" (dkF (gc xs (m+1)) k))=H2 at *
 generalize xs.findIdx (· == (m:Int))=j at *
 generalize spI xs m=s at *
 subst cl
 generalize xs.map D.int=X at *
 simp[B0,zt,xW,fi,j1,c,yl,ss,al,sd,ne,-L2.FE.eK,FC.eK]
def QO (lo:Int) (j:Nat):bI lo (j+1)=.int lo::bI (lo+1) j:=by
 unfold bI
 rw[aa1,XT,Zf]
 congr 1
 ·simp
 ·exact ZD fun i _=>by simp;lia
def A4 {n d k:Nat}{xs:List Int}{y0 y1 y2 y8 y9 y10 y11 y12:Option D} (o:Ord n xs) (hn:n<=20):∀(j m:Nat) (ps:List D) (h:Hh) (y6 y7:Option D),m+j=n->1<=m->Dp h d k (gc xs m) ps->ps.length+j<=100->(∀e∈ps,∀i,i8 i e=θ)->Wf h →
  ∃h' ps' z6 z7,eg (gN 6) B0 (bI m j) [y0,y1,y2,ξ (.tup (xs.map D.int)),ξ (.int n),ξ (.ref d),y6,y7,y8,y9,y10,y11,y12] h=.ok (.nx [y0,y1,y2,ξ (.tup (xs.map D.int)),ξ (.int n),ξ (.ref d),z6,z7,y8,y9,y10,y11,y12]) h'/\Dp h' d k xs ps'/\Wf h'/\h'.length=h.length
 | 0,m,ps,h,y6,y7,e,h1,p,hl,lp,w=>by
  obtain rfl:m=n:={}
  rw[Nr o] at p
  exact⟨h,ps,y6,y7,rfl,p,w,rfl⟩
 | j+1,m,ps,h,y6,y7,e,h1,p,hl,lp,w=>by
  have b:=T2 (y0:=y0) (y1:=y1) (y2:=y2) (y7:=y7) (y8:=y8) (y9:=y9) (y10:=y10) (y11:=y11) (y12:=y12) o h1 (by lia:m<n) hn p {} w
  have w2:=FO (ys:=gc xs (m+1)) p w fun e he=>lp e he _
  have p2:Dp ((h.set k (.lst (ps++[.tup ((gc xs m).map D.int)]))).set d (.ins "Desk" (dkF (gc xs (m+1)) k))) d k (gc xs (m+1)) (ps++[.tup ((gc xs m).map D.int)]):=by
   obtain⟨_,_,e,q⟩:=wM (ys:=gc xs (m+1)) p {}
   rw[<- e];exact q
  have lp2:∀e∈ps++[D.tup ((gc xs m).map D.int)],∀i,i8 i e=true:=fun e he i=>by
   rcases YV.mp he with he | he
   ·exact lp e he i
   ·rw[Yg.mp he];simp[i8]
  obtain⟨h',ps',z6,z7,q,a,c,l⟩:=A4 (y0:=y0) (y1:=y1) (y2:=y2) (y8:=y8) (y9:=y9) (y10:=y10) (y11:=y11) (y12:=y12) (d:=d) (k:=k) o hn j (m+1) _ _ (ξ (.int m)) (ξ (.int (spI xs m:Nat))) {} {} p2 (by simp;lia) lp2 w2
  refine⟨h',ps',z6,z7,?_,a,c,by rw[l,Zn,Zn]⟩
  rw[QO,gJ]
  simp only[Oh,gz,adl,b,Jr]
  rw[show(m:Int)+1=((m+1:Nat):Int) by lia]
  exact q
abbrev S1:MS:=(aZ 2 (af c_ (aa (ag 1) ah)))
abbrev S2:MS:=(aZ 3 (af b9 (aa (ag 2) ah)))
abbrev S3:MS:=(aZ 4 (af bA (aa (ag 3) ah)))
abbrev S4:MS:=(aZ 5 (oR "Desk" cX))
abbrev S5:MS:=(fh (fE wb (aa (cC (.int 1)) (aa (ag 4) ah))) (gN 6) B0)
abbrev S6:MS:=(aZ 8 (af (bV dy) (aa (af bz (aa (cC (.str "shown")) (aa (af aB (aa (ag 3) ah)) ah))) (aa (af bz (aa (cC (.str "falls")) (aa (af aB (aa (af (fun ds h=>noR (bu ds h)) (aa (ag 3) ah)) ah)) ah))) ah))))
abbrev S7:MS:=(bR (cG bP (ag 8) (aa (af bz (aa (cC (.str "rises")) (aa (af aB (aa (af (fun ds h=>noR (dG ds h)) (aa (ag 3) ah)) ah)) ah))) ah)))
abbrev S8:MS:=(aZ 8 (ak (bg dy) (ag 8) (af (bV aA) (aa (af bz (aa (cC (.str "lifts")) (aa (af aB (aa (af (fun ds h=>noR (dB ds h)) (aa (ag 3) ah)) ah)) ah))) (aa (af bz (aa (cC (.str "drops")) (aa (af aB (aa (af (fun ds h=>noR (dO ds h)) (aa (ag 3) ah)) ah)) ah))) ah)))))
abbrev S9:MS:=(aZ 8 (ak (bg dy) (ag 8) (af (bV aA) (aa (af bz (aa (cC (.str "still")) (aa (af aB (aa (af (fun ds h=>noR (bh ds h)) (aa (ag 3) ah)) ah)) ah))) (aa (af bz (aa (cC (.str "new")) (aa (af aB (aa (af (fun ds h=>noR (bJ ds h)) (aa (ag 3) ah)) ah)) ah))) ah)))))
abbrev S10:MS:=(aZ 8 (ak (bg dy) (ag 8) (af (bV aA) (aa (af bz (aa (cC (.str "code")) (aa (af aB (aa (af (fun ds h=>noR (eP ds h)) (aa (ag 3) ah)) ah)) ah))) (aa (af bz (aa (cC (.str "path")) (aa (af aB (aa (af (fun ds h=>noR (eQ ds h)) (aa (ag 3) ah)) ah)) ah))) ah)))))
abbrev S11:MS:=(aZ 8 (ak (bg dy) (ag 8) (af (bV aA) (aa (af bz (aa (cC (.str "runs")) (aa (af cj (aa (af (fun ds h=>noR (eW ds h)) (aa (ag 3) ah)) ah)) ah))) (aa (af bz (aa (cC (.str "rounds")) (aa (af cj (aa (af (fun ds h=>noR (cY ds h)) (aa (ag 3) ah)) ah)) ah))) ah)))))
abbrev S12:MS:=(aZ 8 (ak (bg dy) (ag 8) (af (bV aA) (aa (af bz (aa (cC (.str "many")) (aa (af cN (aa (af (fun ds h=>noR (bj ds h)) (aa (ag 3) ah)) ah)) ah))) (aa (af bz (aa (cC (.str "count")) (aa (af cN (aa (af (fun ds h=>noR (bQ ds h)) (aa (ag 4) (aa (af (fun ds h=>noR (bj ds h)) (aa (ag 3) ah)) ah))) ah)) ah))) ah)))))
abbrev S13:MS:=(aZ 8 (ak (bg dy) (ag 8) (af (bV aA) (aa (af bz (aa (cC (.str "drawn")) (aa (af cN (aa (af (fun ds h=>noR ((aI 20) ds h)) (aa (ag 3) ah)) ah)) ah))) (aa (af bz (aa (cC (.str "zigzag")) (aa (ak dIx (af (bV aA) (aa (cC (.str "no")) (aa (cC (.str "yes")) ah))) (af Bn (aa (af (fun ds h=>noR (cA ds h)) (aa (ag 3) ah)) ah))) ah))) ah)))))
abbrev S14:MS:=(fh (fE jh (aa (cC (.int 2)) ah)) (gN 9) B2)
def Sh:B3=av S1 (av S2 (av S3 (av S4 (av S5 (av S6 (av S7 (av S8 (av S9 (av S10 (av S11 (av S12 (av S13 S14)))))))))))):=rfl
abbrev prT (p:Str × Str):D:=.tup [.str p.1,.str p.2]
def C5 {j:Nat} (Ls:List (Str × Str)):oW j (.lst (Ls.map prT))=true:=by
 show bM j (Ls.map prT)=θ
 exact oQ fun p=>by simp[prT,i8,bM]
def OB {a t:Str}{h:Hh}:dNe (.tup [.str a,.str t]) (.tup [.str a,.str t]) h=.ok (.bl ψ) h:=by
 have e1:∀z:Str,eqD 11 h (.str z) (.str z)=ξ (z == z):=fun _=>rfl
 have:eqD eqN h (.tup [.str a,.str t]) (.tup [.str a,.str t])=ξ true:=by
  show eqL (eqD 11 h) [.str a,.str t] [.str a,.str t]=_
  simp[eqL,e1]
 simp only[dNe,this];rfl
def jt {a b:MS}{env env':En}{h h':Hh} (e:a env h=.ok (.nx env') h'):av a b env h=b env' h':=by simp[e]
section
variable {env:En}{h:Hh}{X:List D}
def lH {q:MF}{ys:List Int} (f:Fs ys) (hv:ag 3 env h=.ok (.tup X) h) (hq:q [.tup X] h=.ok (.tup (ys.map D.int)) h):af aB (aa (af (fun ds h=>noR (q ds h)) (aa (ag 3) ah)) ah) env h=.ok (.str (thT ys)) h:=by
 have b:=tN (h:=h) f
 simp[hv,hq,b]
def HL {q:MF}{RS:List (List Int)} (hl:RS.length<=20) (hb:∀b∈RS,Fs b) (hv:ag 3 env h=.ok (.tup X) h) (hq:q [.tup X] h=.ok (.frl (RS.map tpI)) h):af cj (aa (af (fun ds h=>noR (q ds h)) (aa (ag 3) ah)) ah) env h=.ok (.str (grT RS)) h:=by
 have b:=Ro (h:=h) hl hb
 simp[hv,hq,b]
def Kt {q:ME}{c:Int} (s:sml c=θ) (hq:q env h=.ok (.int c) h):af cN (aa q ah) env h=.ok (.str (nm c)) h:=by simp[hq,s,-L2.FE.eK,FC.eK]
def VU {EA EB:ME}{A B ta tb:Str} (ha:EA env h=.ok (.str ta) h) (hb:EB env h=.ok (.str tb) h):aZ 8 (af (bV dy) (aa (af bz (aa (cC (.str A)) (aa EA ah))) (aa (af bz (aa (cC (.str B)) (aa EB ah))) ah))) env h=.ok (.nx (env.set 8 (ξ (.ref h.length)))) (h++[.lst ([(A,ta),(B,tb)].map prT)]):=by
 simp[ha,hb,prT]
def Vd {EA:ME}{A ta:Str}{H:Hh}{Ls:List (Str × Str)} (hh:H=h++[.lst (Ls.map prT)]) (l:Ls.length<=20) (ha:EA env H=.ok (.str ta) H) (h8:ag 8 env H=.ok (.ref h.length) H):bR (cG bP (ag 8) (aa (af bz (aa (cC (.str A)) (aa EA ah))) ah)) env H=.ok (.nx env) (h++[.lst ((Ls++[(A,ta)]).map prT)]):=by
 have l2:(Ls.map prT).length<1000000:=by rw[XE];lia
 rw[YE]
 have i:isL (.ref h.length) H=true:=by rw[hh];exact r9 cT
 have ap:bP (.ref h.length) [prT (A,ta)] H=.ok .non (h++[.lst (Ls.map prT++[prT (A,ta)])]):=by rw[hh,lN,if_pos l2]
 simp only[prT] at ap ⊢
 simp[ha,h8,i,ap,prT]
def Vm {EA EB:ME}{A B ta tb:Str}{r:Nat}{Ls:List (Str × Str)} (ha:EA env h=.ok (.str ta) h) (hb:EB env h=.ok (.str tb) h) (h8:ag 8 env h=.ok (.ref r) h) (hl:aE h r=ξ (Ls.map prT)) (l:Ls.length<=20):aZ 8 (ak (bg dy) (ag 8) (af (bV aA) (aa (af bz (aa (cC (.str A)) (aa EA ah))) (aa (af bz (aa (cC (.str B)) (aa EB ah))) ah)))) env h=.ok (.nx (env.set 8 (ξ (.ref h.length)))) (h++[.lst ((Ls++[(A,ta),(B,tb)]).map prT)]):=by
 have l2:(Ls.map prT).length+2<=1000000:=by rw[XE];lia
 have ad:bg dy (.ref r) (.frl [prT (A,ta),prT (B,tb)]) h=.ok (.ref h.length) (h++[.lst (Ls.map prT++[prT (A,ta),prT (B,tb)])]):=by
  simp only[bg,rK,hl]
  rw[if_pos (show(Ls.map prT).length + [prT (A,ta),prT (B,tb)].length<=1000000 from l2)];rfl
 rw[YE]
 simp only[prT,XT,Z3] at ad ⊢
 simp[ha,hb,h8,ad]
end
structure Rw (h0 h:Hh) (r:Nat) (Ls:List (Str × Str)):Prop where
 w:Wf h
 pre:∃t,h=h0++t
 l:aE h r=some (Ls.map prT)
def Rw.next {h0 h:Hh}{r:Nat}{Ls:List (Str × Str)} (q:Rw h0 h r Ls) (Ls2:List (Str × Str)):Rw h0 (h++[.lst (Ls2.map prT)]) h.length Ls2:=by
 obtain⟨t,e⟩:=q.pre
 exact⟨q.w.app (C5 Ls2),⟨t++[.lst (Ls2.map prT)],by rw[e,aap]⟩,cT⟩
def Rw.step {h0 h:Hh}{env:En}{EA EB:ME}{A B ta tb:Str}{r:Nat}{Ls:List (Str × Str)} (b:MS) (q:Rw h0 h r Ls) (l:Ls.length<=20) (h8:ag 8 env h=.ok (.ref r) h) (ha:EA env h=.ok (.str ta) h) (hb:EB env h=.ok (.str tb) h):∃H R,Rw h0 H R (Ls++[(A,ta),(B,tb)])/\av (aZ 8 (ak (bg dy) (ag 8) (af (bV aA) (aa (af bz (aa (cC (.str A)) (aa EA ah))) (aa (af bz (aa (cC (.str B)) (aa EB ah))) ah))))) b env h=b (env.set 8 (ξ (.ref R))) H:=
 ⟨_,_,q.next _,jt (Vm ha hb h8 q.l l)⟩
def Dp.app {h t:Hh}{n k:Nat}{xs:List Int}{ps:List D} (d:Dp h n k xs ps):Dp (h++t) n k xs ps:=⟨by rw[Yy (ON d).1];exact d.1,DU d.2.1,d.2.2⟩
abbrev yg (xs:List Int):List (Str × Str):=[("shown", thT xs),("falls", thT (az xs))]
abbrev N2 (xs:List Int):List (Str × Str):=[("rises", thT (lC xs))]
abbrev P9 (n:Nat) (xs:List Int) (c e:Int):List (Str × Str):=[("shown", thT xs),("falls", thT (az xs)),("rises", thT (lC xs)),("lifts", thT (Gb n xs)),("drops", thT (GX n xs)),("still", thT (gx xs)),("new", thT (Ii n xs)),("code", thT (CB xs)),("path", thT (uz xs)),("runs", grT (jg xs 0 (bL xs++[n - 1]))),("rounds", grT (kK n xs)),("many", nm ((az xs).length:Nat)),("count", nm c),("drawn", nm e),("zigzag", if az xs=DQ n then "yes" else "no")]
abbrev CD (n:Nat) (xs:List Int) (c e:Int):Prop:=(sml c=θ/\∀h:Hh,Wf h->bQ [.int n,.int ((az xs).length:Nat)] h=.ok (.int c) h/\cU [.tup (xs.map D.int)] h=.ok (.str (nm c)) h)/\(sml e=θ/\∀h:Hh,Wf h->aI 20 [.tup (xs.map D.int)] h=.ok (.int e) h/\cS [.tup (xs.map D.int)] h=.ok (.str (nm e)) h)
def L9 {n d:Nat}{xs:List Int}{c e:Int}{h:Hh}{y0 y1 y2 y6 y7 y8 y9 y10 y11 y12:Option D} (o:Ord n xs) (h1:1<=n) (h2:n<=20) (w:Wf h) (cd:CD n xs c e) (b:MS) :
  ∃H r,Rw h H r (P9 n xs c e)/\(av S6 (av S7 (av S8 (av S9 (av S10 (av S11 (av S12 (av S13 b)))))))) [y0,y1,y2,ξ (.tup (xs.map D.int)),ξ (.int n),ξ (.ref d),y6,y7,y8,y9,y10,y11,y12] h=b [y0,y1,y2,ξ (.tup (xs.map D.int)),ξ (.int n),ξ (.ref d),y6,y7,ξ (.ref r),y9,y10,y11,y12] H:=by
 obtain⟨⟨sc,hc⟩,se,he⟩:=cd
 have v3:∀(y:Option D) (H:Hh),ag 3 [y0,y1,y2,ξ (.tup (xs.map D.int)),ξ (.int n),ξ (.ref d),y6,y7,y,y9,y10,y11,y12] H=.ok (.tup (xs.map D.int)) H:=fun _ _=>rfl
 have v8:∀(r:Nat) (H:Hh),ag 8 [y0,y1,y2,ξ (.tup (xs.map D.int)),ξ (.int n),ξ (.ref d),y6,y7,ξ (.ref r),y9,y10,y11,y12] H=.ok (.ref r) H:=fun _ _=>rfl
 have r0:Rw h (h++[.lst ((yg xs).map prT)]) h.length (yg xs):=⟨w.app (C5 _),⟨_,rfl⟩,cT⟩
 have s6:S6 [y0,y1,y2,ξ (.tup (xs.map D.int)),ξ (.int n),ξ (.ref d),y6,y7,y8,y9,y10,y11,y12] h=.ok (.nx [y0,y1,y2,ξ (.tup (xs.map D.int)),ξ (.int n),ξ (.ref d),y6,y7,ξ (.ref h.length),y9,y10,y11,y12]) (h++[.lst ((yg xs).map prT)]):=VU (env:=[y0,y1,y2,ξ (.tup (xs.map D.int)),ξ (.int n),ξ (.ref d),y6,y7,y8,y9,y10,y11,y12]) (EA:=af aB (aa (ag 3) ah)) (ta:=thT xs) (tb:=thT (az xs)) (A:="shown") (B:="falls") (by have:=tN (h:=h) (DI o h2);simp[this]) (lH (gK o h2) (v3 _ _) (qZ o h1 h2 w))
 rw[jt (a:=S6) s6]
 have s7:S7 [y0,y1,y2,ξ (.tup (xs.map D.int)),ξ (.int n),ξ (.ref d),y6,y7,ξ (.ref h.length),y9,y10,y11,y12] (h++[.lst ((yg xs).map prT)])=.ok (.nx [y0,y1,y2,ξ (.tup (xs.map D.int)),ξ (.int n),ξ (.ref d),y6,y7,ξ (.ref h.length),y9,y10,y11,y12]) (h++[.lst ((yg xs++N2 xs).map prT)]):=Vd (Ls:=yg xs) (A:="rises") rfl (Nat.le_of_ble_eq_true rfl) (lH (ys:=lC xs) (j5 (n:=xs.length - 1) (by have:=o.len;lia)) (v3 (ξ (.ref h.length)) _) (EN (xs:=xs) o h1 h2 r0.w)) (v8 h.length _)
 have r1:Rw h (h++[.lst ((yg xs++N2 xs).map prT)]) h.length (yg xs++N2 xs):=⟨w.app (C5 _),⟨_,rfl⟩,cT⟩
 rw[jt (a:=S7) s7]
 generalize h++[O.lst ((yg xs++N2 xs).map prT)]=H1 at r1 ⊢
 have le:∀{m k:Nat},Nat.ble m k=θ->m<=k:=Nat.le_of_ble_eq_true
 obtain⟨H2,q2,r2,e2⟩:=r1.step (env:=[y0,y1,y2,ξ (.tup (xs.map D.int)),ξ (.int n),ξ (.ref d),y6,y7,ξ (.ref h.length),y9,y10,y11,y12]) (A:="lifts") (B:="drops") (av S9 (av S10 (av S11 (av S12 (av S13 b))))) (le rfl) (v8 _ _) (lH (ys:=Gb n xs) (j5 (n:=n) h2) (v3 _ _) (ER (xs:=xs) o h1 h2 r1.w)) (lH (ys:=GX n xs) (j5 (n:=n) h2) (v3 _ _) (DW (xs:=xs) o h1 h2 r1.w))
 obtain⟨H3,q3,r3,e3⟩:=r2.step (env:=[y0,y1,y2,ξ (.tup (xs.map D.int)),ξ (.int n),ξ (.ref d),y6,y7,ξ (.ref q2),y9,y10,y11,y12]) (A:="still") (B:="new") (av S10 (av S11 (av S12 (av S13 b)))) (le rfl) (v8 _ _) (lH (tP o h1 h2) (v3 _ _) (rm (xs:=xs) o h1 h2 r2.w)) (lH (ys:=Ii n xs) (Cr o h1 h2) (v3 _ _) (HA (xs:=xs) o h1 h2 r2.w))
 obtain⟨H4,q4,r4,e4⟩:=r3.step (env:=[y0,y1,y2,ξ (.tup (xs.map D.int)),ξ (.int n),ξ (.ref d),y6,y7,ξ (.ref q3),y9,y10,y11,y12]) (A:="code") (B:="path") (av S11 (av S12 (av S13 b))) (le rfl) (v8 _ _) (lH (Kf o h2) (v3 _ _) (A7 (xs:=xs) o h1 h2 r3.w)) (lH (Ez o h2) (v3 _ _) (AL (xs:=xs) o h1 h2 r3.w))
 obtain⟨ra,rb,rc⟩:=ET o h1 h2
 obtain⟨na,nb,nc⟩:=HC o h1 h2
 obtain⟨_,_,_,_,_,_,xr⟩:=CC (h:=H4) o h1 h2 r4.w
 obtain⟨H5,q5,r5,e5⟩:=r4.step (env:=[y0,y1,y2,ξ (.tup (xs.map D.int)),ξ (.int n),ξ (.ref d),y6,y7,ξ (.ref q4),y9,y10,y11,y12]) (A:="runs") (B:="rounds") (av S12 (av S13 b)) (le rfl) (v8 _ _) (HL rb rc (v3 _ _) xr) (HL nb nc (v3 _ _) (xw o h1 h2 r4.w))
 have fl:=(gK o h2).len
 have xm:=Cg (h:=H5) o h1 h2 r5.w
 have xc:=(hc H5 r5.w).1
 have sk:sml (((az xs).length:Nat):Int)=true:=bW {} {}
 obtain⟨H6,q6,r6,e6⟩:=r5.step (env:=[y0,y1,y2,ξ (.tup (xs.map D.int)),ξ (.int n),ξ (.ref d),y6,y7,ξ (.ref q5),y9,y10,y11,y12]) (EA:=af cN (aa (af (fun ds h=>noR (bj ds h)) (aa (ag 3) ah)) ah)) (EB:=af cN (aa (af (fun ds h=>noR (bQ ds h)) (aa (ag 4) (aa (af (fun ds h=>noR (bj ds h)) (aa (ag 3) ah)) ah))) ah)) (A:="many") (B:="count") (av S13 b) (le rfl) (v8 _ _) (Kt sk (by simp[xm])) (Kt sc (by simp[xm,xc]))
 have xd:=(he H6 r6.w).1
 have xz:=E_ (h:=H6) o h1 h2 r6.w
 obtain⟨H7,q7,r7,e7⟩:=r6.step (env:=[y0,y1,y2,ξ (.tup (xs.map D.int)),ξ (.int n),ξ (.ref d),y6,y7,ξ (.ref q6),y9,y10,y11,y12]) (EA:=af cN (aa (af (fun ds h=>noR ((aI 20) ds h)) (aa (ag 3) ah)) ah)) (EB:=ak dIx (af (bV aA) (aa (cC (.str "no")) (aa (cC (.str "yes")) ah))) (af Bn (aa (af (fun ds h=>noR (cA ds h)) (aa (ag 3) ah)) ah))) (tb:=if az xs=DQ n then "yes" else "no") (A:="drawn") (B:="zigzag") b (le rfl) (v8 _ _) (Kt se (by simp[xd])) (by
  by_cases z:az xs=DQ n
  ·rw[decide_eq_true z] at xz
   simp[xz,z]
  ·rw[decide_eq_false z] at xz
   simp[xz,z])
 exact⟨H7,q7,r7,e2.trans (e3.trans (e4.trans (e5.trans (e6.trans e7))))⟩
def SD {a:Str}{i j:Int}{h:Hh}:dNe (.tup [.str a,.int i,.int j]) (.tup [.str a,.int i,.int j]) h=.ok (.bl ψ) h:=by
 have e1:∀z:Str,eqD 11 h (.str z) (.str z)=ξ (z == z):=fun _=>rfl
 have e2:∀z:Int,eqD 11 h (.int z) (.int z)=ξ (z == z):=fun _=>rfl
 have:eqD eqN h (.tup [.str a,.int i,.int j]) (.tup [.str a,.int i,.int j])=ξ true:=by
  show eqL (eqD 11 h) [.str a,.int i,.int j] [.str a,.int i,.int j]=_
  simp[eqL,e1,e2]
 simp only[dNe,this];rfl
abbrev IK (xs:List Int) (q:Str × Str):Prop:=∀(h:Hh) (d:Nat),Wf h->Dk h d xs->bK [.ref d,.str q.1] h=.ok (.tup [.str "told", .str q.2]) h
def ask {xs:List Int}{q t:Str} (f:Str) (mf:MF) (hm:∀h,Wf h->mf [.tup (xs.map D.int)] h=.ok (.str t) h) (mem:q∈bc.map (·.1)) (hq:aaM q bc=ξ (.fn f)) (hf:eF f=ξ mf):IK xs (q,t):=
 fun h d w k=>zw k (Ou k (Pq h q mem) hq hf (hm h w))
def M1 {n:Nat}{xs:List Int}{c e:Int} (o:Ord n xs) (h1:1<=n) (h2:n<=20) (cd:CD n xs c e):∀q∈P9 n xs c e,IK xs q:=by
 obtain⟨⟨_,hc⟩,_,he⟩:=cd
 unfold P9
 refine Yd.mpr ⟨ask "shown_told" dQ (fun h w=>Mv o h1 h2 w) {:_} (by kernel_rfl) rfl,?_⟩
 refine Yd.mpr ⟨ask "falls_told" dC (fun h w=>Nx o h1 h2 w) {:_} (by kernel_rfl) rfl,?_⟩
 refine Yd.mpr ⟨ask "rises_told" dH (fun h w=>Mp o h1 h2 w) {:_} (by kernel_rfl) rfl,?_⟩
 refine Yd.mpr ⟨ask "lifts_told" dE (fun h w=>Ni o h1 h2 w) {:_} (by kernel_rfl) rfl,?_⟩
 refine Yd.mpr ⟨ask "drops_told" dN (fun h w=>Nf o h1 h2 w) {:_} (by kernel_rfl) rfl,?_⟩
 refine Yd.mpr ⟨ask "still_told" dJ (fun h w=>Om o h1 h2 w) {:_} (by kernel_rfl) rfl,?_⟩
 refine Yd.mpr ⟨ask "new_told" fG (fun h w=>R5 o h1 h2 w) {:_} (by kernel_rfl) rfl,?_⟩
 refine Yd.mpr ⟨ask "code_told" eA (fun h w=>QP o h1 h2 w) {:_} (by kernel_rfl) rfl,?_⟩
 refine Yd.mpr ⟨ask "path_told" eD (fun h w=>QI o h1 h2 w) {:_} (by kernel_rfl) rfl,?_⟩
 refine Yd.mpr ⟨ask "runs_told" eM (fun h w=>Qg o h1 h2 w) {:_} (by kernel_rfl) rfl,?_⟩
 refine Yd.mpr ⟨ask "rounds_told" de (fun h w=>HV o h1 h2 w) {:_} (by kernel_rfl) rfl,?_⟩
 refine Yd.mpr ⟨ask "many_told" eN (fun h w=>Q4 o h1 h2 w) {:_} (by kernel_rfl) rfl,?_⟩
 refine Yd.mpr ⟨ask "count_told" cU (fun h w=>(hc h w).2) {:_} (by kernel_rfl) rfl,?_⟩
 refine Yd.mpr ⟨ask "drawn_told" cS (fun h w=>(he h w).2) {:_} (by kernel_rfl) rfl,?_⟩
 refine Yd.mpr ⟨ask "zigzag_told" cx (fun h w=>Jy o h1 h2 w) {:_} (by kernel_rfl) rfl,?_⟩
 exact fun q hq=>nomatch hq
def Wz {h:Hh}{V:Int}:eB [.exc "TooGreat" [("many", V),("most", 12)]] h=.ok (.tup [.str "great", .int V,.int 12]) h:=by kernel_rfl
def DE {n d:Nat}{xs:List Int}{h:Hh} (o:Ord n xs) (h1:12<n) (h2:n<=20) (w:Wf h) (k:Dk h d xs):bK [.ref d,.str "number"] h=.ok (.tup [.str "great", .int n,.int 12]) h:=by
 have g:=Mn o h1 h2 w
 have hl:=Pq h "number" {:_}
 have hq:aaM ("number" : Str) bc=ξ (D.fn "number_told"):=by kernel_rfl
 have od:=k.order
 have a1:om "QUESTIONS" bc (.str "number") (.fn "QUESTIONS") h=.ok (.bl θ) h:=by unfold om;dsimp only;rw[if_pos rfl,hq];rfl
 have a2:vm bc (.str "number") h=.ok (.fn "number_told") h:=by unfold vm;dsimp only;rw[hq]
 have c:=zU (tab:=eF) (f:=up (ag 4)) (a:=aa (up (cUn (lZ "Desk" "order") (ag 0))) ah) (env:=[ξ (.ref d),ξ (.str "number"),ξ (.str "number"),ξ (.frl []),ξ (.fn "number_told")]) (h:=h) (h1:=h) (x:="number_told") (m:=b7) {..} rfl
 obtain⟨j,i⟩:=k.ins
 have l:(dkF xs j).lookup ("say" : Str)=none:=rfl
 generalize dkF xs j=fs at i l
 generalize xs.map D.int=ds at od g
 have e:cL [.ref d,.str "number"] h=.err ⟨"TooGreat", [("many", (n:Int)),("most", 12)]⟩ h:=by simp[cL,aH,hl,a1,a2,od,c,g]
 have tb:(aQ (af bz (aa (up (cC (.str "told"))) (aa (js "Desk" "say" cL (up (ag 0)) (aa (up (ag 1)) ah)) ah)))) [ξ (.ref d),ξ (.str "number"),ζ] h=.err ⟨"TooGreat", [("many", (n:Int)),("most", 12)]⟩ h:=by simp[js,i,l,e]
 have q:=Py (mr:=eB) w tb (show cI.contains "TooGreat" = θ by decide) Wz
 simp[bK,aH,q]
section
variable {n d r:Nat}{xs:List Int}{h:Hh}{y0 y1 y2 y6 y7 y9 y10 y11 y12:Option D}
def JR {Ls:List (Str × Str)} (hl:aE h r=ξ (Ls.map prT)) (w:Wf h) (k:Dk h d xs) (as:∀q∈Ls,IK xs q):∃z10 z11,fh (du (ag 8)) (gT2 10 11) B1 [y0,y1,y2,ξ (.tup (xs.map D.int)),ξ (.int n),ξ (.ref d),y6,y7,ξ (.ref r),y9,y10,y11,y12] h=.ok (.nx [y0,y1,y2,ξ (.tup (xs.map D.int)),ξ (.int n),ξ (.ref d),y6,y7,ξ (.ref r),y9,z10,z11,y12]) h:=by
 obtain⟨s,q,_⟩:=MY (rd:=(Src.live r).rdr) (tg:=gT2 10 11) (body:=B1) (fun i=>prT (Ls.getD i ("", ""))) Ls.length (fun s:Option D × Option D=>[y0,y1,y2,ξ (.tup (xs.map D.int)),ξ (.int n),ξ (.ref d),y6,y7,ξ (.ref r),y9,s.1,s.2,y12]) (fun _=>h) (fun _ _=>True)
  (fun s i hi=>by show(aE h r).map (fun ds=>ds[i]?)=_;rw[hl];simp[hi,Ym])
  (fun s=>by show(aE h r).map (fun ds=>ds[Ls.length]?)=_;rw[hl];simp)
  (fun i s hi _=>by
   have a:=as (Ls.getD i ("", "")) (by rw[Ym,XS hi];exact aaE _) h d w k
   generalize Ls.getD i ("", "")=q at a
   refine⟨(ξ (.str q.1),ξ (.str q.2)),trivial,?_⟩
   generalize xs.map D.int=X
   simp[prT,B1,a,OB]) Ls.length 0 (y10,y11) {} trivial
 refine⟨s.1,s.2,?_⟩
 generalize xs.map D.int=X at q ⊢
 simp only[Tz,RU,HR,HF,gz,R4 hl,QR]
 rw[hl,Option.getD_some,XE]
 exact q
def OV {Ls:List (Str × Str)} (o:Ord n xs) (h1:1<=n) (h2:n<=20) (hl:aE h r=ξ (Ls.map prT)) (w:Wf h) (k:Dk h d xs) (as:∀q∈Ls,IK xs q):∃z10 z11 z12,B2 [y0,y1,y2,ξ (.tup (xs.map D.int)),ξ (.int n),ξ (.ref d),y6,y7,ξ (.ref r),y9,y10,y11,y12] h=.ok (.nx [y0,y1,y2,ξ (.tup (xs.map D.int)),ξ (.int n),ξ (.ref d),y6,y7,ξ (.ref r),y9,z10,z11,z12]) h:=by
 obtain⟨z10,z11,q⟩:=JR (n:=n) (y0:=y0) (y1:=y1) (y2:=y2) (y6:=y6) (y7:=y7) (y9:=y9) (y10:=y10) (y11:=y11) (y12:=y12) hl w k as
 by_cases c:n<=12
 ·obtain⟨v,sv,e1,e2⟩:=IE o h1 c w
  have sd:=zw k (Ou k (Pq h "number" {:_}) (f:="number_told") (by kernel_rfl) rfl e2)
  have c1:¬ 12<n:={}
  have c2:(n:Int)<13:={}
  have c3:¬ (12:Int)<n:={}
  refine⟨z10,z11,ξ (.tup [.str "told", .str (nm v)]),?_⟩
  unfold B2
  rw[jt q]
  generalize xs.map D.int=X at *
  simp[sd,e1,sv,c1,c2,c3,OB,-L2.FE.eK,FC.eK]
 ·have sd:=DE o {} h2 w k
  have c1:12<n:={}
  have c2:¬ (n:Int)<13:={}
  have c3:(12:Int)<n:={}
  refine⟨z10,z11,ξ (.tup [.str "great", .int n,.int 12]),?_⟩
  unfold B2
  rw[jt q]
  generalize xs.map D.int=X at *
  simp[sd,c1,c2,c3,SD]
def O6 {Ls:List (Str × Str)} (o:Ord n xs) (h1:1<=n) (h2:n<=20) (hl:aE h r=ξ (Ls.map prT)) (w:Wf h) (k:Dk h d xs) (as:∀q∈Ls,IK xs q):∃z9 z10 z11 z12,S14 [y0,y1,y2,ξ (.tup (xs.map D.int)),ξ (.int n),ξ (.ref d),y6,y7,ξ (.ref r),y9,y10,y11,y12] h=.ok (.nx [y0,y1,y2,ξ (.tup (xs.map D.int)),ξ (.int n),ξ (.ref d),y6,y7,ξ (.ref r),z9,z10,z11,z12]) h:=by
 obtain⟨a10,a11,a12,q1⟩:=OV (y0:=y0) (y1:=y1) (y2:=y2) (y6:=y6) (y7:=y7) (y9:=ξ (.int 0)) (y10:=y10) (y11:=y11) (y12:=y12) o h1 h2 hl w k as
 obtain⟨b10,b11,b12,q2⟩:=OV (y0:=y0) (y1:=y1) (y2:=y2) (y6:=y6) (y7:=y7) (y9:=ξ (.int 1)) (y10:=a10) (y11:=a11) (y12:=a12) o h1 h2 hl w k as
 refine⟨ξ (.int 1),b10,b11,b12,?_⟩
 generalize xs.map D.int=X at q1 q2 ⊢
 have q:eg (gN 9) B2 (bI 0 2) [y0,y1,y2,ξ (.tup X),ξ (.int n),ξ (.ref d),y6,y7,ξ (.ref r),y9,y10,y11,y12] h=.ok (.nx [y0,y1,y2,ξ (.tup X),ξ (.int n),ξ (.ref d),y6,y7,ξ (.ref r),ξ (.int 1),b10,b11,b12]) h:=by
  rw[PX,gJ]
  simp only[Oh,gz,adl,q1,Jr,gJ,qW,q2]
 simp[S14,q]
end
def DY {c:Str}{fs:List (Str × D)}{H t:Hh}:gi c (H++.ins c fs::t) (.ref H.length)=ξ (H.length,fs):=by
 unfold gi
 dsimp only
 rw[Yh (XJ _),acZ]
 dsimp only[List.getElem?_cons_zero]
 rw[if_pos rfl]
def JF {H:Hh}:cX [.ref H.length] (H++[.ins "Desk" []])=.ok .non (H++[.ins "Desk" (dkF [0] (H.length+1)),.lst []]):=by
 have a1:gi "Desk" (H++[.ins "Desk" []]) (.ref H.length)=ξ (H.length,[]):=DY
 have a2:gi "Desk" (H++[.ins "Desk" [(("order" : Str),D.tup [.int 0])],.lst []]) (.ref H.length)=ξ (H.length,[(("order" : Str),D.tup [.int 0])]):=DY
 have p1:yd "order" (.tup [.int 0]) []=[(("order" : Str),D.tup [.int 0])]:=rfl
 have p2:yd "past" (.ref (H.length+1)) [(("order" : Str),D.tup [.int 0])]=dkF [0] (H.length+1):=by kernel_rfl
 simp[cX,aH,ko,a1,a2,p1,p2]
def Nh {H:Hh} (w:Wf H):Wf (H++[.ins "Desk" (dkF [0] (H.length+1)),.lst []]):=by
 have w1:Wf (H++[.ins "Desk" []]):=w.app rfl
 have w2:Wf ((H++[.ins "Desk" []])++[.lst []]):=w1.app rfl
 have w3:=EI (n:=H.length) (o:=.ins "Desk" (dkF [0] (H.length+1))) w2 (JV {..})
 rw[aap] at w3
 rw[show(H++([O.ins "Desk" []]++[O.lst []])).set H.length (.ins "Desk" (dkF [0] (H.length+1)))=H++[.ins "Desk" (dkF [0] (H.length+1)),.lst []] from lW] at w3
 exact w3
def RB {H:Hh}:Dp (H++[.ins "Desk" (dkF [0] (H.length+1)),.lst []]) H.length (H.length+1) [0] []:=by
 refine⟨by rw[Yh (XJ _),acZ];rfl,?_,{}⟩
 unfold aE
 rw[Yh {},Nat.add_sub_cancel_left]
 rfl
def LU:HQ:=by
 intro ns c y2 y3 y4 y5 y6 y7 y8 y9 y10 y11 y12 h w
 rw[Sh]
 have s1:S1 [ξ (.scr (ns.map D.int)),ξ (.int c),y2,y3,y4,y5,y6,y7,y8,y9,y10,y11,y12] h=.ok (.nx [ξ (.scr (ns.map D.int)),ξ (.int c),ξ (.ref h.length),y3,y4,y5,y6,y7,y8,y9,y10,y11,y12]) (h++[.lst (dw (Bb c))]):=by simp[S1]
 rw[jt s1]
 obtain⟨n,xs,p',o,h1,h2,sh⟩:=M9 (p:=Bb c) w
 have w1:=IP w p'
 generalize ns.map D.int=N at *
 have s2:S2 [ξ (.scr N),ξ (.int c),ξ (.ref h.length),y3,y4,y5,y6,y7,y8,y9,y10,y11,y12] (h++[.lst (dw (Bb c))])=.ok (.nx [ξ (.scr N),ξ (.int c),ξ (.ref h.length),ξ (.tup (xs.map D.int)),y4,y5,y6,y7,y8,y9,y10,y11,y12]) (h++[.lst (dw p')]):=by
  generalize xs.map D.int=X at *
  simp[S2,sh]
 rw[jt s2]
 generalize h++[.lst (dw p')]=H at *
 have s3:S3 [ξ (.scr N),ξ (.int c),ξ (.ref h.length),ξ (.tup (xs.map D.int)),y4,y5,y6,y7,y8,y9,y10,y11,y12] H=.ok (.nx [ξ (.scr N),ξ (.int c),ξ (.ref h.length),ξ (.tup (xs.map D.int)),ξ (.int n),y5,y6,y7,y8,y9,y10,y11,y12]) H:=by
  have l:(xs.map D.int).length=n:=by rw[XE];exact o.len
  have z:n<=1000000:={}
  generalize xs.map D.int=X at *
  simp[S3,l,z]
 rw[jt s3]
 have s4:S4 [ξ (.scr N),ξ (.int c),ξ (.ref h.length),ξ (.tup (xs.map D.int)),ξ (.int n),y5,y6,y7,y8,y9,y10,y11,y12] H=.ok (.nx [ξ (.scr N),ξ (.int c),ξ (.ref h.length),ξ (.tup (xs.map D.int)),ξ (.int n),ξ (.ref H.length),y6,y7,y8,y9,y10,y11,y12]) (H++[.ins "Desk" (dkF (gc xs 1) (H.length+1)),.lst []]):=by
  rw[xU o h1]
  have:=JF (H:=H)
  generalize xs.map D.int=X at *
  simp[S4,oR,this]
 rw[jt s4]
 have w2:Wf (H++[.ins "Desk" (dkF (gc xs 1) (H.length+1)),.lst []]):=by rw[xU o h1];exact Nh w1
 have p2:Dp (H++[.ins "Desk" (dkF (gc xs 1) (H.length+1)),.lst []]) H.length (H.length+1) (gc xs 1) []:=by rw[xU o h1];exact RB
 generalize H++[.ins "Desk" (dkF (gc xs 1) (H.length+1)),.lst []]=H2 at *
 generalize H.length=d at *
 obtain⟨H3,ps,z6,z7,q,p3,w3,_⟩:=A4 (y0:=ξ (.scr N)) (y1:=ξ (.int c)) (y2:=ξ (.ref h.length)) (y8:=y8) (y9:=y9) (y10:=y10) (y11:=y11) (y12:=y12) o h2 (n - 1) 1 [] H2 y6 y7 {} (XJ _) p2 (by simp;lia) (fun e he=>nomatch he) w2
 have s5:S5 [ξ (.scr N),ξ (.int c),ξ (.ref h.length),ξ (.tup (xs.map D.int)),ξ (.int n),ξ (.ref d),y6,y7,y8,y9,y10,y11,y12] H2=.ok (.nx [ξ (.scr N),ξ (.int c),ξ (.ref h.length),ξ (.tup (xs.map D.int)),ξ (.int n),ξ (.ref d),z6,z7,y8,y9,y10,y11,y12]) H3:=by
  have q:eg (gN 6) B0 (bI 1 (n - 1)) [ξ (.scr N),ξ (.int c),ξ (.ref h.length),ξ (.tup (xs.map D.int)),ξ (.int n),ξ (.ref d),y6,y7,y8,y9,y10,y11,y12] H2=_:=q
  have e:((n:Int) - 1).toNat=n - 1:={}
  have z:n<=1000000:={}
  generalize xs.map D.int=X at *
  simp[S5,e,z,q]
 rw[jt s5]
 obtain⟨cc,hc⟩:=N_ o h1 h2
 obtain⟨ce,he⟩:=NO o h1 h2
 have cd:CD n xs cc ce:=⟨hc,he⟩
 obtain⟨H4,r,rw4,q4⟩:=L9 (d:=d) (y0:=ξ (.scr N)) (y1:=ξ (.int c)) (y2:=ξ (.ref h.length)) (y6:=z6) (y7:=z7) (y8:=y8) (y9:=y9) (y10:=y10) (y11:=y11) (y12:=y12) o h1 h2 w3 cd S14
 rw[q4]
 obtain⟨t,rfl⟩:=rw4.pre
 obtain⟨z9,z10,z11,z12,q5⟩:=O6 (y0:=ξ (.scr N)) (y1:=ξ (.int c)) (y2:=ξ (.ref h.length)) (y6:=z6) (y7:=z7) (y9:=y9) (y10:=y10) (y11:=y11) (y12:=y12) o h1 h2 rw4.l rw4.w p3.app.dk (M1 o h1 h2 cd)
 exact⟨_,_,q5,_,_,_,_,_,_,_,_,_,_,_,rfl,rw4.w⟩
def Po (ns:List Int) (hl:ns.length<=63):∃h,tu [.scr (ns.map D.int)] []=.ok (.bl θ) h:=PH LU ns hl
end FC
open PySem PySem.W PyProof.Rows
local macro_rules | `(tactic| o_head $H)=>`(tactic| (refine holds_open (q:=FC.Q) (loose:=FC.LO) (Xt:=(fun s=>xlAt FC.Q [] s&&recOk (RowW.records (OpenRow.toRowW (OpenLaw.row PySem.Challenge.rw_fallcounts_k94_a_desk_is_asked))) s)) (XP:=XL FC.Q []) (Yf:=Hook.obs FC.Hk) (Ya:=Hook.val FC.Hk) (YP:=Hook.says FC.Hk) (N:=10472) (L2.FE.GJ (by decide) (by kernel_rfl) (fun _=>by kernel_rfl) FC.R7 FC.TH FC.TU) (Hook.of FC.Hk) (Hook.keeps FC.Hk) (fun s e=>xl_of s (Bool.and_eq_true_iff.mp e).1) XL.keeps (by rfl) (by rfl) (by rfl) (fun s e=>recFacts_of (Bool.and_eq_true_iff.mp e).2) (by rfl) (by first | assumption | decide +kernel) (by decide +kernel) ⟨rfl,rfl,rfl,rfl,rfl,by decide +kernel⟩ ?hw ?hc))
def L2.FE.ex2 {α:Type}{A B:α->Prop}{a:α} (x:A a) (y:B a):∃a,A a/\B a:=⟨a,x,y⟩
set_option maxRecDepth 100000 in
set_option maxHeartbeats 0 in
theorem PySem.Challenge.cw_fallcounts_k94_a_desk_is_asked_holds : PySem.Challenge.rw_fallcounts_k94_a_desk_is_asked.Holds := by
 w_on;refine PySem.W.holds_law FC.hw fun hw=>?_;k_head;w_witness2
 dsimp only[FC.Hk,L2.FE.snd]
 k_fill
 refine FC.walk (l:=XY) rfl rfl (fun w h Y=>by first | exact PySem.W.kIn_of Y | exact PySem.W.km_in_of Y) (fun w h Y=>PySem.W.km_tabs_of Y) (fun _=>by kernel_rfl) FC.Po ?F
 case F=>
  intro w mg fa h KX G hmg
  refine FC.all_mk KX G hmg (by kernel_rfl) ?T
  case T=>
   constructor
   all_goals first | (refine' L2.FE.Rk ?a ?l ?c ?k;(case a=>k_is);(case l=>k_is);(case c=>k_is);(case k=>k_is)) | (refine' L2.P5 ?e0 ?e1 ?e2 ?e3 ?e4 ?e5 ?e6 ?e7 ?c;(case e0=>k_is);(case e1=>k_is);(case e2=>k_is);(case e3=>k_is);(case e4=>k_is);(case e5=>k_is);(case e6=>k_is);(case e7=>k_is);(case c=>kernel_rfl)) | (refine' L2.FE.ex2 ⟨?a,?o⟩ ⟨?cX,?m_Desk_take_back,?dg,?m_Desk_say⟩;(case a=>k_is);(case o=>kernel_rfl);(case cX=>refine' L2.FE.qS ?a ?l ?c ?k ?i;(case a=>k_is);(case l=>k_is);(case c=>k_is);(case k=>k_is);(case i=>kernel_rfl));(case m_Desk_take_back=>refine' L2.FE.qS ?a ?l ?c ?k ?i;(case a=>k_is);(case l=>k_is);(case c=>k_is);(case k=>k_is);(case i=>kernel_rfl));(case dg=>refine' L2.FE.qS ?a ?l ?c ?k ?i;(case a=>k_is);(case l=>k_is);(case c=>k_is);(case k=>k_is);(case i=>kernel_rfl));(case m_Desk_say=>refine' L2.FE.qS ?a ?l ?c ?k ?i;(case a=>k_is);(case l=>k_is);(case c=>k_is);(case k=>k_is);(case i=>kernel_rfl))) | (refine' L2.FE.ex2 ?b ?o;(case b=>k_is);(case o=>kernel_rfl)) | (refine' L2.Ei ?a ?b ?l ?c ?k ?o FC.C_ FC.BV FC.Ce FC.C9 (by decide);(case a=>k_is);(case b=>k_is);(case l=>k_is);(case c=>k_is);(case k=>k_is);(case o=>kernel_rfl)) | (refine' L2.Ei ?a ?b ?l ?c ?k ?o FC.yi FC.uN FC.yR FC.x_ (by decide);(case a=>k_is);(case b=>k_is);(case l=>k_is);(case c=>k_is);(case k=>k_is);(case o=>kernel_rfl)) | (refine' L2.FE.Ue ?a ?l ?c ?k ?h1 ?h2 ?h3;(case a=>k_is);(case l=>k_is);(case c=>k_is);(case k=>k_is);(case h1=>kernel_rfl);(case h2=>kernel_rfl);(case h3=>kernel_rfl)) | exact⟨_,rfl⟩ | k_is
