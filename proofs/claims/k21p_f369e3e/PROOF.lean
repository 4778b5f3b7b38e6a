import PyProof.Rows.All
import Wide.All
import OpenK.AllK
import Wide.FinOn
import Lean
import KE.KNestM
import PyProof.EqAt
import PyProof.EqKinds
import PyProof.TupleCall
import PyProof.EnumMake
import PyProof.Draws
import KE.KDictList
import KE.KTryMore
import KE.KEqDict
import PyProof.ExcInit
import PyProof.InstStoreFacts
import KE.KSortTup
import PySem.Challenge.RW_fallcounts_k21_orders_listed
set_option Elab.async false
set_option linter.all false
set_option maxRecDepth 100000
set_option maxHeartbeats 8000000
local macro_rules(kind:=Lean.Parser.Command.declaration)|s=>let a:=s[0];let b:=s[1];let k:=b.getKind;let nc:=fun(a:Lean.Syntax)=>a.setArg 4 (Lean.mkNullNode #[Lean.mkNode `Lean.Parser.Command.noncomputable #[Lean.mkAtom "noncomputable"]]);if k== `Lean.Parser.Command.definition&&a[4].isNone then pure (s.setArg 1 (Lean.mkNode `Lean.Parser.Command.theorem #[Lean.mkAtom "theorem",b[1],Lean.mkNode `Lean.Parser.Command.declSig #[b[2][0],b[2][1][0]],b[3]])) else if k== `Lean.Parser.Command.abbrev&&a[4].isNone then pure (if (toString a[1]).contains "inline" then s.setArg 0 (nc (a.setArg 1 Lean.mkNullNode)) else (s.setArg 0 (nc a)).setArg 1 (Lean.mkNode `Lean.Parser.Command.definition #[Lean.mkAtom "def",b[1],b[2],b[3],Lean.mkNullNode])) else Lean.Macro.throwUnsupported
local macro_rules (kind:=Lean.Parser.Term.structInst) | `({})=>`(by lia) | `({..})=>`(by simp) | `({:_})=>`(by decide +kernel)
open Option renaming some→Wx,none→Wy
open Bool renaming true→Wz,false→WA
open PySem renaming wpAny_bind→gV,wpAny_pure→Pl,Value→Pp,Shared→Pr,Program→PJ,Addr→PN,wpAny_mono→P4,wpAny_holding→P6,Around→P9,World→Qc,wpAny_newObj_type→Qn,Builtin→Qq,SetTable→Qv,wpAny_call_entry→Qw,boot_len→QB,wpAny_callSpecial?_slot→QD,sizeLine_eq→QN,Heap→QQ,wpAny_standAt→QR,Expr→Rb,wpAny_setState_of→Rp,wpAny_typeNameOfWhole_keyiter→Rr,codeAny_mono→RA,wpAny_truthy_bool→RB,codeAny_builtin→RG,NameKind→RH,wpAny_newFunctionEnv_cells→RL,wpAny_field→RT,FuncData→RV,mem_of_lookup→R5,wpAny_attempt→R7,wpAny_askSetting→R_,wpAny_setField→Sb,wpAny_Call_Name_kw→Sf,codeAny_call_function→Sm,wpAny_call→Sw,wpAny_loadPart_at→Sy,codeAny_call_builtin→SI,lookup_relabel_local→SJ,wpAny_typeOf→S4,wpAny_execs_nil→Tc,wpAny_passesOwn→Te,wpAny_pyIter_tuple→Ti,wpAny_newList→Tp,Stmt→TF,wpAny_pyIter_enum→TL,wpAny_loadPart→TV,Within→T3,wpAny_execs_cons→T8,wpAny_loadName_local→Uc,Scope→Ui,codeAny_of_tree→Ur,tupleKind_room_in1→Uz,wpAny_setField_rec→UC,wpAny_seqItems→UE,wpAny_Name→UI,wpAny_assign_Name→UJ,PassesOwn→UK,call_meets→UN,wpAny_pyIter_list→UP,wpAny_pyIter_slot→US,wpAny_dictEntries→UT,wpAny_noRaise→U0,wpAny_of_eq→U2,noFill_tuple_add→U6,wpAny_isInstance→U9,wpAny_forIn_list→Va,codeAny_func→Vc,seqIndex_neg→Vd,wpAny_loadPart'→Vf,wpAny_specialOf→Vg,wpAny_dictEpoch→Vn,wpAny_ite_split→Vp,wpAny_rule→Vr,PyData→Vu,wpAny_runValue→Vy,wpAny_fieldsOf→Vz,seqIndex_of→VC,Arguments→VJ,seq_tuple_add→VL,IsPart→VM,wpAny_handled→VN,OsState→VS,BindsTo→VU,concat_meets→VV,codeAny_loop→VW,Keyword→V4,wpAny_noted→V5,wpAny_throw→V7,wpAny_load→V_,typeIs_int→Wb,call→Wd,DictEntry→Wk,IsEnum→Wl,Fin→Wo,Walks→Wr,ItemsOf→Ws,OwnTail→Wu,Result→Wv
open PySem.W renaming Frag→Pk,mg_none_of→Qg,keepIn→Qk,nsIn→Qu,kia_one→QE,fnOf→QH,envX→Q6,kitOne→Q9,boot_heap→Q_,codeHdIn→Rg,hideAll_get→Rl,kla_obj→Rq,cellsFrom_some→RI,codeIn→SN,tabObj→SQ,of_hideAll→Ta,callWith_K→Tf,looks_findIn→T6,hideAll→Uo,mg_of→Ux,codeRec_of→Uy,KdlSrc→UG,methodObj→UH,kitx_dict→UL,excIn→U3,instObj→Vb,boot_drawn→Vq,lookIn→Vt,looks_clsIn→VE,boot_toks→VH,any_some→VP,looks_mroIn→V9,check_slot→We,SharedT→Wh,OpenLaw→Wi
open PySem.Heap renaming get?_push_of_some→Pn,lt_size→Pq,get?_push_size→Pu,get?_update_self→Qt,get?_update_other→QI,SameBut→Ry,get?_none_of_le→SH,get?_update_ne→Us,ExtBut→V6
open List renaming mem_cons_of_mem→Po,mem_cons_self→Pw,mem_append_right→Px,range→Py,getElem?_eq_getElem→Pz,getElem?_append_left→PB,map_cons→PC,mem_cons→PL,getElem?_append_right→PM,length_map→PR,all_eq_true→PX,replicate→PY,pairwise_iff_getElem→PZ,mem_of_getElem?→P0,mem_singleton→P1,getElem?_map→P5,length_append→P_,pairwise_append→Qb,pairwise_cons→Qe,length_take→Qh,mem_map→Qi,getElem?_eq_some_iff→Qj,drop_eq_getElem_cons→Qm,size_toArray→Qo,length_cons→Qp,mem_append→Qr,nodup_cons→Qs,append_assoc→Qy,getElem?_eq_none→QC,eq_nil_of_length_eq_zero→QF,append_nil→QO,pairwise_singleton→QT,map_map→QV,mem_range→QX,getElem?_eq_none_iff→QY,map_congr_left→Q4,any_cons→Rc,take_of_length_le→Rj,getElem_of_mem→Ro,filter_cons→Rt,mem_append_left→Ru,pairwise_map→RC,mem_filter→RD,getD_eq_getElem?_getD→RN,range_eq_range'→RW,foldl_cons→R1,ext_getElem?→R4,prefix_refl→R8,take_append_of_le_length→Sa,getElem?_take→Sh,of_mem_zip→Sl,find?_cons→Sn,nil_append→So,take_append_drop→Sr,range_succ→Ss,flatMap_cons→SD,perm_append_singleton→SG,drop_drop→SR,getElem_mem→SS,mem_flatMap→SU,filterMap_cons→SV,replicate_succ→SX,getElem?_range→SY,mem_filterMap→Td,all_cons→Th,getElem?_drop→Tj,take_left'→Tq,length_eq_zero_iff→Tr,getElem?_set_self→Tt,drop_eq_nil_of_le→Tv,drop_of_length_le→Tw,filter_eq_nil_iff→Tz,getElem?_set→TM,getElem_take→TQ,length_range→TR,filter_congr→TU,length_drop→T9,ext_getElem→T_,getElem?_set_ne→Ub,mem_iff_getElem→Ug,sum_cons→Uk,filter_eq_self→Uq,length_reverse→Ut,map_append→Uu,filter_filter→UD,Perm→UR,range'→U1,Pairwise→U4,any_eq_true→U8,nodup_range→U_,map_nil→Ve,nodup_nil→Vv,drop_zero→VA,foldl→Wc,take→Wq,set→Ww
open Nat renaming le_refl→Pt,ne_of_lt→PU,le_trans→P7,lt_of_lt_of_le→P8,zero_le→QJ,lt_irrefl→Ra,lt_or_eq_of_le→Rf,zero_add→Rx,ne_of_gt→Rz,lt_succ_self→RQ,not_lt_of_le→R9,le_of_lt→Sk,le_of_lt_succ→SA,mul_le_mul_right→SK,lt_trans→S5,lt_or_ge→S7,not_lt_zero→To,not_lt→Um,mod_lt→UW,lt_succ_of_lt→UY,succ_le_succ→U7,min_eq_left→Vo,le_succ→VD,add_assoc→VQ,mul_comm→VX,beq→V8,blt→Wt
open Array renaming length_toList→PF,getElem?_toList→PH,getElem_mem→Qf,getElem?_eq_getElem→QZ,getElem?_eq_some_iff→Rh,mem_toList_iff→Rv,getElem?_eq_none→Sd,getElem_extract→Sq,toList_push→UU
open PyProof.Rows renaming SortSt→PQ,Keyed→Ql,slot_tuple_getitem→Qx,boot_repr→Rk,callWith_type1→RE,boot_list→RJ,boot_isinstance→Sg,SortKind→Sz,boot_int→T7,listUpdate_at→Uj,AllBare→UZ,listItems_at→Vk,get?_update_seq→Vl,seqEpoch_at→VF,Subscript_→Wa
open Bool renaming and_eq_true→PV,false_ne_true→Qd,eq_iff_iff→Vi
open PySem.Challenge renaming pw_fallcounts_k21_orders_listed→P2,rw_fallcounts_k21_orders_listed→QW
open PySem.Value renaming ref→Qa,none→QL,int→Sj,type→TB,bool→Ul,str→VI,isInt→V2
open PySem.PassesOwn renaming never→Qz
open PySem.Obj renaming data_mapFields→QA,isFreed_of_fields→Q5,mapSeq→R0,mapFields→R6,cls_mapFields→UO
open PySem.SetTable renaming below→QG,bits→QK,runEnd→Q3,insertAt→Q7,leap→Rw,turns→RU,Probe→TX,grown→TY,advance→Ua,sizeAbove→UB,fresh→VB,fill→VR
open Option.some renaming inj→QM
open PySem.SeqAt renaming EqAt→QP,RcNeAt→VO
open Int renaming mul_le_mul_of_nonneg_right→QU,toNat_natCast→TJ,natCast_add→Uw,pow_pos→U5,le_of_lt→V0
open PySem.F renaming slot_dict_keyiterator_next→Q8,slot_tuple_iterator_next→RM,excBase_ValueError→RO,called_set→Su,args_tuple_add_2→S3,slot_list_append→S9,type_list_append→S_,entry_tuple_add→Tg,slot_tuple_add→Tu,slot_dict_get→T4
open Option renaming map_eq_some_iff→Ri,isSome_iff_exists→RY,map_some→Vh,map→VT
open PySem.Heap.SameBut renaming update→Rm
open ForInStep renaming yield→RF
open PySem.W.Fast renaming tw5923862056798008813→RK
open True renaming intro→RP
open PySem.PyData renaming int→RR,tuple→Sv,depth→S6,leavesShort→Tn,bulkAll→TZ,leavesShortAll→T5,showable→Up,bulk→Uv,showableAll→UA,hasDictAll→UQ,depthAll→Vj,hasDict→Vx,list→VG,shown→VZ
open PySem.Builtin.Slice renaming slicePlaces→RS,sliceAdjust→SO
open False renaming elim→RX
open PySem.Builtin.Tuple renaming tupleExact→RZ
open PySem.Builtin.List renaming listTooLong→R3
open PySem.Calls renaming spliced_cons→Se,Name_function_global→SE,spliced_nil→UM
open PySem.Code renaming quiet_builtin→Si
open PySem.NameKind renaming free→Sx
open Ne renaming symm→SW
open PySem.Builtin.Int renaming intBits→S0
open List.Pairwise renaming imp_of_mem→S8,nil→TH
open PyProof.Rows.F renaming plain_set_update_loop→Ts
open PySem.SetTable.layClean renaming free→Tx
open PySem.Within renaming cons→TN
open PySem.Around renaming frames_deeper→Ud,under_plainId→Uh
open PySem.SeqAt.EqAt renaming bool_bool→Ue
open PySem.SetTable.probe renaming go→UX
open List.cons renaming injEq→Vm
open PySem.W.Looks renaming here→Vs
open PySem.pickOrder renaming go→VY
open Eq renaming trans→V1
open Sum renaming inl→V3,inr→Wj
open PyProof.Rows.SortSt renaming mk'→Wg
open PySem.Expr renaming Name→Wm
open Or renaming inl→Wn
namespace L2.FE
open PySem PySem.W PySem.Calls
abbrev DM:List Obj->BT->Nat->Option BT
 | [],t,_=>Wx t
 | o::r,t,n=>match ((t.ins n o).get n).isSome with
  | true=>DM r (t.ins n o) (n+1)
  | false=>Wy
def uP {life:Life}:∀{r:List Obj}{t T:BT}{n:Nat}{a:Array Obj},DM r t n=Wx T->absHeap t n life=⟨a,life⟩->absHeap T (n+r.length) life=⟨a++r.toArray,life⟩
 | [],t,T,n,a,h,e=>by cases h;simpa using e
 | o::r,t,T,n,a,h,e=>by
  unfold DM at h
  cases g:((t.ins n o).get n).isSome with
  | false=>rw[g] at h;cases h
  | true=>
   rw[g] at h
   have x:absHeap (t.ins n o) (n+1) life=⟨a.push o,life⟩:=by rw[absHeap_ins g,e];rfl
   have:=uP h x
   rw[Qp,show n+(r.length+1)=n+1+r.length by omega,this]
   simp
abbrev yM (p:PJ) (w:Qc) (n₀:Nat) (ann:Option Pp):Nat->Wh->Thread->Option Wh
 | 0,_,_=>Wy
 | n+1,s,t=>match through t with
  | true=>Wx s
  | false=>match PySem.W.Fast.tw6613529449190102663 n₀ ann t with
   | false=>Wy
   | true=>match PySem.W.Fast.tw10156331382660048174 (PySem.W.Fast.tw11892475500146522536 PySem.W.Fast.tw14364793385576792824) p w s t with
    | some (s',t')=>yM p w n₀ ann n s' t'
    | none=>Wy
def sP {p:PJ}{w:Qc}{n₀:Nat}{ann:Option Pp}:∀{n:Nat}{s r:Wh}{t:Thread},yM p w n₀ ann n s t=Wx r->topRun treeTable p w n₀ ann n s.abs t=Wx r.abs
 | 0,_,_,_,h=>by cases h
 | n+1,s,r,t,h=>by
  unfold yM at h
  unfold topRun
  cases ht:through t with
  | true=>rw[ht] at h;cases h;rfl
  | false=>
   rw[ht,<- PySem.W.Fast.te6613529449190102663] at h
   cases hk:stepOk n₀ ann t with
   | false=>simp only[hk] at h;cases h
   | true=>
    simp only[hk] at h
    rw[<- PySem.W.Fast.te10156331382660048174,<- PySem.W.Fast.te11892475500146522536,<- PySem.W.Fast.te14364793385576792824] at h
    cases hs:stepT (denote treeTable) p w s t with
    | none=>rw[hs] at h;cases h
    | some x=>obtain⟨s₂,t₂⟩:=x;rw[hs] at h;rw[stepT_spec hs];exact sP h
abbrev pN (p:PJ) (w:Qc) (N:Nat) (os:VS):Option Wh:=
 match (Q_ w.params).isNs mainGlobals with
 | true=>(DM (Q_ w.params).objs.toList .nil 0).bind fun T=>yM p w (Q_ w.params).objs.size ((Q_ w.params).nsMap mainGlobals (Str.ofString "__annotations__")) N ⟨T,(Q_ w.params).objs.size,(Q_ w.params).life,#[],Vq,VH,os⟩ (topStub p)
 | false=>Wy
abbrev CU (p:PJ) (w:Qc) (s₁:Pr):Bool:=staticsOk (RK p.main.body) (Q_ w.params) s₁.heap&&namesBound p s₁.heap&&gensDone s₁&&laidKept (Q_ w.params) s₁.heap
def zw {p q:PJ}{loose:List Str}{Xt:Pr->Bool}{α:Type}{Yf:Pr->α}{Ya:Qc->α}{N:Nat} (hN:Nat.ble 600 N=Wz) (e:opening p=plainProg p.main.scope.names) (f:∀s,fenceModules? p s=Wx s)
  (h1:∀(w:Qc) (os:VS),(pN p w N os).map (fun s=>CU p w s.abs)=Wx Wz)
  (h2:∀(w:Qc) (os:VS),(pN p w N os).map (fun s=>PySem.W.Fast.tw4187177175401517315 q loose (RK p.main.body) Xt Wz s.abs)=Wx (openGood q loose))
  (h3:∀(w:Qc) (os:VS),(pN p w N os).map (fun s=>Yf s.abs)=Wx (Ya w)):LeftO p q loose Xt Yf Ya N:=fun w=>by
 obtain⟨s,hs,e'⟩:=Ri.mp (boot_open e hN f w)
 obtain⟨H,gs,d,k,os⟩:=s
 obtain⟨rfl,rfl,rfl,rfl⟩:H=Q_ w.params/\gs=_/\d=Vq/\k=VH:=by simpa using e'
 obtain⟨r,hr,l1⟩:=Ri.mp (h1 w os)
 obtain⟨r2,hr2,l2⟩:=Ri.mp (h2 w os)
 obtain⟨r3,hr3,l3⟩:=Ri.mp (h3 w os)
 obtain rfl:r=r2:=QM (hr.symm.trans hr2)
 obtain rfl:r=r3:=QM (hr.symm.trans hr3)
 unfold CU at l1
 rw[<- PySem.W.Fast.te5923862056798008813] at l1
 rw[<- PySem.W.Fast.te4187177175401517315,<- PySem.W.Fast.te5923862056798008813] at l2
 unfold pN at hr
 cases hn:(Q_ w.params).isNs mainGlobals with
 | false=>rw[hn] at hr;cases hr
 | true=>
  rw[hn] at hr
  obtain⟨T,hT,hr⟩:=Option.bind_eq_some_iff.mp hr
  have z:=uP (life:=(Q_ w.params).life) (n:=0) (a:=#[]) hT rfl
  have z':absHeap T (Q_ w.params).objs.size (Q_ w.params).life=Q_ w.params:=by
   rw[Rx,PF] at z
   rw[z]
   simp
  have hr:=sP hr
  have st:(Wh.mk T (Q_ w.params).objs.size (Q_ w.params).life #[] Vq VH os).abs=⟨Q_ w.params,#[],Vq,VH,os⟩:=by
   show Pr.mk _ _ _ _ _=_
   rw[z']
  rw[st] at hr
  unfold openEnds
  rw[hs]
  show VT _ (topFrom treeTable p w N _)=_
  have t:topFrom treeTable p w N ⟨Q_ w.params,#[],Vq,VH,os⟩=Wx r.abs:=by
   unfold topFrom
   dsimp only
   rw[hn]
   rw[hr]
   show(match staticsOk (importedModules p.main.body) (Q_ w.params) r.abs.heap&&namesBound p r.abs.heap&&gensDone r.abs&&laidKept (Q_ w.params) r.abs.heap with | true=>_ | false=>_)=_
   rw[l1]
  rw[t]
  show Wx (openSeen q loose (importedModules p.main.body) Xt Wz r.abs,Yf r.abs)=_
  rw[l2,l3]
abbrev viewOf (p:PJ) (keep:List Nat):PJ:={ p with main:={ p.main with body:=keep.filterMap fun i=>p.main.body[i]? } }
end L2.FE
section
open PySem PySem.W PyProof.Rows
abbrev FC.Q:PJ:=L2.FE.viewOf P2 [1,2,3,4,5,6,7,8,10,11,12,14,16,17,18,19,20,21,22,23,24,25,26,27,29,30,31,32,33,34,35,36,37,38,39,40,41]
def FC.Lc:∀(w:Qc) (os:VS),(L2.FE.pN P2 w 5326 os).map (fun s=>L2.FE.CU P2 w s.abs)=some true:=fun w os=>by kernel_rfl
def FC.Km:∀(w:Qc) (os:VS),(L2.FE.pN P2 w 5326 os).map (fun s=>PySem.W.Fast.tw4187177175401517315 FC.Q [] (RK P2.main.body) (fun s=>xlAt FC.Q [] s&&recOk (RowW.records (OpenRow.toRowW (Wi.row QW))) s) true s.abs)=some (openGood FC.Q []):=fun w os=>by kernel_rfl
def FC.hw:QW.wellSaid=true:=by kernel_rfl
end
namespace L2
open PySem PySem.Spec PyProof.Rows
@[inline]abbrev Key:=Sum Int Str
abbrev pJ:Key->Pp->Bool
 | .inl k,v=>V2 k v
 | .inr x,v=>Pp.isStrOf x v
abbrev MW (w:Qc):Key->Int
 | .inl k=>hashInt k
 | .inr x=>hashStr w x
def bJ:∀{k:Key}{v:Pp},pJ k v=Wz->(∃i t,k=V3 i/\v=Sj i t)\/(∃x t,k=Wj x/\v=VI x t)
 | .inl i,v,h=>by
  obtain⟨t,e⟩:=Pp.isInt_shape (k:=i) (v:=v) h
  exact .inl ⟨i,t,rfl,e⟩
 | .inr x,v,h=>by
  obtain⟨t,e⟩:=Pp.isStrOf_shape (x:=x) (v:=v) h
  exact .inr ⟨x,t,rfl,e⟩
def za (i:Int) (t:Tok):pJ (.inl i) (.int i t)=true:=by simp[pJ,V2]
def zv (x) (t):pJ (.inr x) (.str x t)=true:=by simp[pJ,Pp.isStrOf]
def Ij (a b):decide ((V3 a:Key)=V3 b)=(a == b):=by
 grind
def GV (a b):decide ((Wj a:Key)=Wj b)=decide (a=b):=by
 simp
def G5 (a:Int) (b:Str):decide ((V3 a:Key)=Wj b)=false:=decide_eq_false (fun q=>nomatch q)
def Jp (a:Str) (b:Int):decide ((Wj a:Key)=V3 b)=false:=decide_eq_false (fun q=>nomatch q)
abbrev bM (prog) (w):PySem.KeyKind prog w Key where
 is:=pJ
 hash:=MW w
 inj:=fun v a b ha hb=>by
  rcases bJ ha with⟨i,t,rfl,rfl⟩ | ⟨x,t,rfl,rfl⟩
  ·rcases bJ hb with⟨j,u,rfl,e⟩ | ⟨y,u,rfl,e⟩
   ·injection e with e1 _;rw[e1]
   ·exact nomatch e
  ·rcases bJ hb with⟨j,u,rfl,e⟩ | ⟨y,u,rfl,e⟩
   ·exact nomatch e
   ·injection e with e1 _;rw[e1]
 byValue:=fun k v h=>by
   rcases bJ h with⟨i,t,rfl,rfl⟩ | ⟨x,t,rfl,rfl⟩<;>rfl
 pyHash:=fun hv h=>by
  rcases bJ hv with⟨i,t,rfl,rfl⟩ | ⟨x,t,rfl,rfl⟩
  ·exact wpAny_pyHash_int h
  ·exact wpAny_pyHash_str h
 eqBool:=fun hu hv h=>by
  rcases bJ hu with⟨i,t,rfl,rfl⟩ | ⟨x,t,rfl,rfl⟩
  ·rcases bJ hv with⟨j,u,rfl,rfl⟩ | ⟨y,u,rfl,rfl⟩
   ·rw[Ij] at h;exact wpAny_eqBool_int h
   ·rw[G5] at h;exact QP.int_str i t y u _ _ _ _ h
  ·rcases bJ hv with⟨j,u,rfl,rfl⟩ | ⟨y,u,rfl,rfl⟩
   ·rw[Jp] at h;exact QP.str_int x t j u _ _ _ _ h
   ·rw[GV] at h;exact wpAny_eqBool_str h
 «strs»:=fun k x t v h=>by
  rcases bJ h with⟨i,u,rfl,e⟩ | ⟨y,u,rfl,e⟩
  ·exact nomatch e
  ·injection e with e1 _
   subst e1
   cases v<;>rfl
def vj (prog) (w) (i) (t):(bM prog w).is (.inl i) (.int i t)=true:=za i t
def sZ (prog) (w) (x) (t):(bM prog w).is (.inr x) (.str x t)=true:=zv x t
inductive V where
 | non | bl (b:Bool) | int (i:Int) | str (x:Str) | byt (b:Array UInt8) | flt (b:UInt64) | ref (a:PN) | ty (n:String)
 deriving DecidableEq
abbrev RelV:V->Pp->Prop
 | .non,u=>u=QL
 | .bl b,u=>u=Ul b
 | .int i,u=>∃t,u=Sj i t
 | .str x,u=>∃t,u=VI x t
 | .byt b,u=>∃t,u=Pp.bytes b t
 | .flt b,u=>∃t,u=Pp.float b t
 | .ref a,u=>u=Qa a
 | .ty n,u=>u=TB n
@[inline]abbrev Vals:List V->List Pp->Prop:=Paired RelV
def Vals.length (r:Vals xs us):xs.length=us.length:=Paired.length r
def Vals.get:∀{xs:List V}{us:List Pp}{i:Nat}{x:V},Vals xs us->xs[i]?=Wx x->∃u,us[i]?=Wx u/\RelV x u
 | _,_,_,_,.nil,e=>by simp at e
 | _,_,0,_,.cons r _,e=>by simp_all
 | _,_,i+1,x,.cons _ t,e=>by
  obtain⟨u,h1,h2⟩:=Vals.get (i:=i) (x:=x) t (by simp_all)
  simp_all
def Vals.set {x:V}{u:Pp} (r:RelV x u):∀{xs:List V}{us:List Pp} (i:Nat),Vals xs us->Vals (xs.set i x) (us.set i u)
 | _,_,_,.nil=>.nil
 | _,_,0,.cons _ t=>.cons r t
 | _,_,i+1,.cons q t=>.cons q (Vals.set r i t)
def Vals.append:∀{xs ys:List V}{us ws:List Pp},Vals xs us->Vals ys ws->Vals (xs++ys) (us++ws)
 | _,_,_,_,.nil,s=>s
 | _,_,_,_,.cons r t,s=>.cons r (Vals.append t s)
def Vals.take:∀{xs:List V}{us:List Pp} (n:Nat),Vals xs us->Vals (xs.take n) (us.take n)
 | _,_,0,_=>.nil
 | _,_,_+1,.nil=>.nil
 | _,_,n+1,.cons r t=>.cons r (Vals.take n t)
def Vals.drop:∀{xs:List V}{us:List Pp} n , Vals xs us->Vals (xs.drop n) (us.drop n)
 | _,_,0,r=>r
 | _,_,_+1,.nil=>.nil
 | _,_,n+1,.cons _ t=>Vals.drop n t
abbrev jM:Option V->Option Pp->Prop
 | some v,Wx u=>RelV v u
 | none,Wy=>True
 | _,_=>False
abbrev KV:List (κ × V)->List (κ × Pp)->Prop:=Paired fun(p:κ × V) (q:κ × Pp)=>p.1=q.1/\RelV p.2 q.2
abbrev kV:Key->V
 | .inl i=>.int i
 | .inr x=>.str x
inductive HO where
 | lst (xs:List V)
 | tup (xs:List V)
 | dK (kvs:List (Key × V)) | dT (kvs:List (List Key × V))
 | set (S:Int->Bool) (n:Nat)
 | ins (C dx:PN) (fs:List (Str × V))
 | own (x:PN)
 | xd (fs:List (Str × V))
 | met (f x:PN)
 | rng (lo hi:Int)
 | frz (o:Obj) (u:HO)
 | tbl (ps:Array Pp)
 | ext (φ:QQ->Prop)
@[inline]abbrev Hp:=PN->Option HO
abbrev upd (H:Hp) (a:PN) (o:HO):Hp:=fun b=>if b=a then Wx o else H b
def aL:upd H a o a=Wx o:=by unfold upd;simp
def aw (h:b≠a):upd H a o b=H b:=by unfold upd;simp_all
def GN {H:Hp} (h:H a=Wx o) (h':H b=Wx u) (d:o≠u):a≠b:=by
 grind
def aE {H:Hp} (h:H a=Wx o) (h':H b=Wy):a≠b:=by
 grind
abbrev mF (h:QQ) (a:PN) (its:Array Pp):Prop:=∃o,h.get? a=Wx o/\(o.cls=.type "tuple" /\ ∃n,o.data=.seq its n)/\o.dict=Wy
def mF.tup {h:QQ}{a:PN}{its:Array Pp} (x:mF h a its):IsTup h a its:=let ⟨o,e,⟨c,n,d⟩,_⟩:=x;⟨o,e,c,n,d⟩
def mF.new (h:QQ) (its):mF (h.push { cls:=.type "tuple", data:=.seq its }) h.objs.size its:=⟨_,Pu _ rfl,⟨rfl,_,rfl⟩,rfl⟩
section
variable (P:PJ) (w:Qc)
abbrev a_ (H:Hp) (h:QQ) (a:PN):HO->Prop
 | .lst xs=>xs.length<=sizeLine/\∃its n,Vals xs its/\h.get? a=Wx { cls:=.type "list", data:=.seq its.toArray n }
 | .tup xs=>xs.length<=sizeLine/\∃its:List Pp,Vals xs its/\mF h a its.toArray
 | .dK kvs=>kvs.length<=sizeLine/\(a == sysModules)=WA/\∃vs,KV kvs vs/\h.DictOf (bM P w) a vs
 | .dT kvs=>kvs.length<=sizeLine/\(a == sysModules)=WA/\∃xs:List (List Key × PN × Pp),
   Paired (fun(p:List Key × V) (q:List Key × PN × Pp)=>p.1=q.1/\H q.2.1=Wx (.tup (p.1.map kV))/\RelV p.2 q.2.2) kvs xs ∧
   ∃o es ep,h.get? a=Wx o/\o.ExactDict/\o.data=.dict es ep/\es.toList=xs.map (entryOfKey (tupleKind (bM P w)))/\(xs.map (·.1)).Nodup
 | .set S n=>h.SetOf (intKind P w) a S n
 | .ins C dx fs=>H dx=Wx (.own a)/\fs.length<=1000/\dx≠a/\h.get? a=Wx (Vb C dx) ∧
   ∃mA,h.Ns1 dx mA/\(∀f,jM (fs.lookup f) (mA f))/\T3 mA (fs.map (·.1))
 | .own _=>∃o,h.get? a=Wx o
 | .xd fs=>∃mA,h.Ns1 a mA/\∀f,jM (fs.lookup f) (mA f)
 | .rng lo hi=>∃t u v,h.get? a=Wx { cls:=.type "range", data:=.fields #[.int lo t,.int hi u,.int 1 v] }
 | .frz o u=>h.get? a=Wx o/\a_ H h a u
 | .tbl ps=>h.get? a=Wx { cls:=.none,data:=.fields ps }
 | .met f x=>h.get? a=Wx (UH (.ref f) (.ref x))
 | .ext φ=>φ h/\(∃o,h.get? a=Wx o)/\∀h1 h2:QQ,φ h1->(∀o,h1.get? a=Wx o->h2.get? a=Wx o)->φ h2
abbrev HOk (H:Hp) (h:QQ):Prop:=∀a o,H a=Wx o->a_ P w H h a o
end
section
variable {P:PJ}{w:Qc}{H H':Hp}{h h':QQ}{a:PN}{o:HO}
def a_.lt (x:a_ P w H h a o):a<h.objs.size:=by
 cases o with
 | lst xs=>obtain⟨_,_,_,_,e⟩:=x;exact Pq e
 | tup xs=>obtain⟨_,_,_,_,e,_⟩:=x;exact Pq e
 | dK kvs=>obtain⟨_,_,_,_,o,_,_,e,_⟩:=x;exact Pq e
 | dT kvs=>obtain⟨_,_,_,_,o,_,_,e,_⟩:=x;exact Pq e
 | set S n=>obtain⟨o,_,_,_,e,_⟩:=x;exact Pq e
 | ins C dx fs=>obtain⟨_,_,_,e,_⟩:=x;exact Pq e
 | own y=>obtain⟨_,e⟩:=x;exact Pq e
 | xd fs=>obtain⟨_,⟨_,_,_,e,_⟩,_⟩:=x;exact Pq e
 | rng lo hi=>obtain⟨_,_,_,e⟩:=x;exact Pq e
 | frz ob u=>obtain⟨e,_⟩:=x;exact Pq e
 | tbl ps=>exact Pq (show h.get? a=Wx _ from x)
 | met f y=>exact Pq (show h.get? a=Wx _ from x)
 | ext φ=>obtain⟨_,⟨_,e⟩,_⟩:=x;exact Pq e
def Paired.rJ {α β:Type}{F G:α->β->Prop}{l₁:List α}{l₂:List β} (h:Paired F l₁ l₂) (f:∀a b,F a b->G a b):Paired G l₁ l₂:=by
 induction h with
 | nil=>exact .nil
 | cons r t ih=>exact .cons (f _ _ r) ih
def a_.iB (x:a_ P w H h a o) (k:∀b u,(b=a\/H b=Wx (.own a))->h.get? b=Wx u->h'.get? b=Wx u)
  (ho:∀b,H b=Wx (.own a)->H' b=Wx (.own a)) (ht:∀b xs,H b=Wx (.tup xs)->H' b=Wx (.tup xs)):a_ P w H' h' a o:=by
 induction o with
 | lst xs=>obtain⟨z,its,n,r,e⟩:=x;exact⟨z,its,n,r,k _ _ (.inl rfl) e⟩
 | tup xs=>obtain⟨z,its,r,ob,e,c⟩:=x;exact⟨z,its,r,ob,k _ _ (.inl rfl) e,c⟩
 | dK kvs=>obtain⟨z,y,vs,r,ob,es,ep,e,c⟩:=x;exact⟨z,y,vs,r,ob,es,ep,k _ _ (.inl rfl) e,c⟩
 | dT kvs=>
  obtain⟨z,y,xs,r,ob,es,ep,e,c⟩:=x
  exact⟨z,y,xs,Paired.rJ r fun p q z=>⟨z.1,ht _ _ z.2.1,z.2.2⟩,ob,es,ep,k _ _ (.inl rfl) e,c⟩
 | set S n=>obtain⟨ob,es,ep,t,e,c⟩:=x;exact⟨ob,es,ep,t,k _ _ (.inl rfl) e,c⟩
 | ins C dx fs=>
  obtain⟨d,z,ne,e,mA,⟨od,es,ep,e2,c⟩,r⟩:=x
  exact⟨ho _ d,z,ne,k _ _ (.inl rfl) e,mA,⟨od,es,ep,k _ _ (.inr d) e2,c⟩,r⟩
 | own y=>obtain⟨ob,e⟩:=x;exact⟨ob,k _ _ (.inl rfl) e⟩
 | xd fs=>obtain⟨mA,⟨od,es,ep,e,c⟩,r⟩:=x;exact⟨mA,⟨od,es,ep,k _ _ (.inl rfl) e,c⟩,r⟩
 | rng lo hi=>obtain⟨t,u,v,e⟩:=x;exact⟨t,u,v,k _ _ (.inl rfl) e⟩
 | frz ob u ih=>obtain⟨e,q⟩:=x;exact⟨k _ _ (.inl rfl) e,ih q⟩
 | tbl ps=>
  have e:h.get? a=Wx { cls:=.none,data:=.fields ps }:=x
  show h'.get? a=Wx { cls:=.none,data:=.fields ps }
  simp_all
 | met f y=>
  have e:h.get? a=Wx (UH (.ref f) (.ref y)):=x
  show h'.get? a=Wx (UH (.ref f) (.ref y))
  simp_all
 | ext φ=>obtain⟨p,⟨o,e⟩,st⟩:=x;exact⟨st _ _ p fun o q=>k _ _ (.inl rfl) q,⟨o,k _ _ (.inl rfl) e⟩,st⟩
def HOk.lt (x:HOk P w H h) (e:H a=Wx o):a<h.objs.size:=(x a o e).lt
def HOk.fresh (x:HOk P w H h) (e:h.objs.size<=a):H a=none:=by
 cases q:H a with
 | none=>rfl
 | some u=>exact absurd (P8 (x.lt q) e) (Ra _)
def HOk.kept (x:HOk P w H h) (k:∀b u,h.get? b=Wx u->h'.get? b=Wx u):HOk P w H h':=fun a o e=>
 (x a o e).iB (fun b u _ q=>k b u q) (fun _ q=>q) fun _ _ q=>q
def HOk.laid (x:HOk P w H h) (k:∀b u,h.get? b=Wx u->h'.get? b=Wx u) (hp:h.objs.size<=a) (new:a_ P w (upd H a o) h' a o):HOk P w (upd H a o) h':=fun b u e=>by
 have hn:=x.fresh hp
 by_cases hb:b=a
 ·subst hb;rw[aL] at e;simp_all
 ·rw[aw hb] at e
  exact(x b u e).iB (fun c v _ q=>k c v q) (fun c q=>by rw[aw (aE q hn)];exact q) fun c xs q=>by rw[aw (aE q hn)];exact q
end
abbrev Rd (H:Hp) (a:PN) (u:HO):Prop:=H a=Wx u\/∃o,H a=Wx (.frz o u)
def Rd.ok (r:Rd H a u) (x:HOk P w H h):a_ P w H h a u:=by
 rcases r with r | ⟨o,r⟩
 ·exact x a u r
 ·obtain⟨_,q⟩:=x a _ r
  exact q
abbrev Mut:Option HO->Prop
 | some (.lst _)=>True
 | some (.dK _)=>True
 | some (.dT _)=>True
 | some (.set _ _)=>True
 | some (.ins _ _ _)=>True
 | some (.ext _)=>True
 | _=>False
section
variable {P:PJ}{w:Qc}{H:Hp}{h h':QQ}{x e:PN}{o':HO}
def HOk.write (ok:HOk P w H h) (mu:Mut (H x)) (he:e=x\/H e=Wx (.own x)) (k:∀b u,b≠e->h.get? b=Wx u->h'.get? b=Wx u) (heo:∃u,h'.get? e=Wx u)
  (new:a_ P w (upd H x o') h' x o'):HOk P w (upd H x o') h':=fun b u q=>by
 have nown:∀c y,H c=Wx (.own y)->c≠x:=fun c y r z=>by subst z;rw[r] at mu;exact mu
 have ntup:∀c xs,H c=Wx (.tup xs)->c≠x:=fun c xs r z=>by subst z;rw[r] at mu;exact mu
 by_cases hb:b=x
 ·subst hb;rw[aL] at q;simp_all
 ·rw[aw hb] at q
  by_cases hbe:b=e
  ·have q':H b=Wx (.own x):=by
    simp_all
   rw[q] at q';cases q'
   obtain⟨v,hv⟩:=heo
   exact⟨v,by simp_all⟩
  ·refine(ok b u q).iB (fun c v hc r=>k c v ?_ r) (fun c r=>by rw[aw (nown c b r)];exact r) fun c xs r=>by rw[aw (ntup c xs r)];exact r
   grind
end
structure Un (fs ex:List PN) (H H':Hp) (h h':QQ):Prop where
 keep:∀b o,h.get? b=some o->H b=none->b∉fs->b∉ex->h'.get? b=some o
 slot:∀b o,h.get? b=some o->H b=none->b∈fs->b∉ex->∃sl,h'.get? b=some { o with slots:=sl }
 free:∀b o,h.get? b=some o->H b=none->b∉ex->H' b=none
 there:∀b o,h.get? b=some o->b∉ex->∃o',h'.get? b=some o'
 iY:∀b xs,H b=some (.tup xs)->H' b=some (.tup xs)
 jz:∀b o u,H b=some (.frz o u)->H' b=some (.frz o u)
 lO:∀b ps,H b=some (.tbl ps)->∃more,H' b=some (.tbl (ps++more))
section
variable {fs fs' ex ex':List PN}{H H1 H2:Hp}{h h1 h2 h':QQ}{a x e:PN}{o:HO}
def Un.any (u:Un fs ex H H1 h h1) (q:h.get? b=Wx ob) (n:H b=Wy) (hx:b∉ex):∃sl,h1.get? b=Wx { ob with slots:=sl }:=by
 by_cases hb:b∈fs
 ·exact u.slot b ob q n hb hx
 ·exact⟨ob.slots,u.keep b ob q n hb hx⟩
def Un.kept (k:∀b u,h.get? b=Wx u->h'.get? b=Wx u):Un fs ex H H h h':=
 ⟨fun b ob q _ _ _=>k b ob q,fun b ob q _ _ _=>⟨ob.slots,k b ob q⟩,fun _ _ _ n _=>n,fun b ob q _=>⟨ob,k b ob q⟩,fun _ _ q=>q,fun _ _ _ q=>q,fun _ ps q=>⟨#[],by grind⟩⟩
def Un.refl:Un fs ex H H h h:=Un.kept fun _ _ q=>q
def Un.laid (k:∀b u,h.get? b=Wx u->h'.get? b=Wx u) (hp:h.objs.size<=a) (hn:H a=Wy):Un fs ex H (upd H a o) h h' where
 keep:=fun b u q _ _ _=>k b u q
 slot:=fun b u q _ _ _=>⟨u.slots,k b u q⟩
 free:=fun b u q n _=>by rw[aw (PU (P8 (Pq q) hp))];exact n
 there:=fun b u q _=>⟨u,k b u q⟩
 iY:=fun b xs q=>by rw[aw (aE q hn)];exact q
 jz:=fun b u xs q=>by rw[aw (aE q hn)];exact q
 lO:=fun b ps q=>⟨#[],by rw[aw (aE q hn),q];simp⟩
def Un.write (mu:Mut (H x)) (he:e=x\/H e=Wx (.own x)) (k:∀b u,b≠e->h.get? b=Wx u->h'.get? b=Wx u) (heo:∃u,h'.get? e=Wx u):Un fs ex H (upd H x o) h h':=by
 have hx:∀b,H b=Wy->b≠x:=fun b n z=>by subst z;rw[n] at mu;exact mu
 have hb:∀b,H b=Wy->b≠e:=fun b n z=>by
  simp_all
 have hm:∀b u,H b=Wx u->¬ Mut (Wx u)->b≠x:=fun b u q nm z=>by simp_all
 refine⟨fun b u q n _ _=>k b u (hb b n) q,fun b u q n _ _=>⟨u.slots,k b u (hb b n) q⟩,fun b u q n _=>by rw[aw (hx b n)];exact n,fun b u q _=>?_,
  fun b xs q=>by rw[aw (hm b _ q fun z=>z)];exact q,fun b u xs q=>by rw[aw (hm b _ q fun z=>z)];exact q,fun b ps q=>⟨#[],by rw[aw (hm b _ q fun z=>z),q];simp⟩⟩
 grind
end
abbrev trk (h:QQ) (H:Hp):List PN:=(Py h.objs.size).filter fun a=>(H a).isSome
abbrev pB (h:QQ) (H:Hp):QQ:=Uo h (trk h H)
def Al (h) (H):(pB h H).objs.size=h.objs.size:=PySem.W.hideAll_size _ _
def CA (e:h.get? b=Wx o) (n:H b=Wy):(pB h H).get? b=Wx o:=
 Rl _ e fun hm=>by
  have q:(H b).isSome=true:=(RD.mp hm).2
  simp_all
def FZ (e:(pB h H).get? b=Wx o):h.get? b=Wx o/\H b=none:=by
 have e':h.get? b=Wx o:=Ta (trk h H) e
 refine⟨e',?_⟩
 cases q:H b with
 | none=>rfl
 | some x=>
  have hm:b∈trk h H:=RD.mpr ⟨QX.mpr (Pq e'),by simp[q]⟩
  have z:(pB h H).get? b=none:=PySem.W.hideAll_none (trk h H) hm
  simp_all
structure Mod (K:Pk) (mg) (base):Prop where
 kin:K.In base
 glob:base.Ns mainGlobals mg
 blt:∃mb,base.Ns builtinsNs mb/\∀x:Str,x≠"__name__" -> mb x=bootBuiltins x
 nolimit:base.NoLimit
structure Cx where
 prog:PJ
 w:Qc
 K:Pk
 mg:Str->Option Pp
 base:QQ
 A:P9
 N:List Str
 ax:Pr
 aD:Hp
 env:Env
 outer:List Env
 stack:List Env
 ex:List PN
 fn:Str->Bool
 calm:Bool
 pn:List (PN × Obj)
 xe:Pp->Pr->Prop
abbrev frs (l:List Env):List PN:=l.filterMap (·.frame)
@[inline]abbrev Cx.fs (X:Cx):List PN:=frs X.outer
abbrev Vis (sc:Ui) (x:Str):Prop:=sc.names.lookup x=Wx .local\/sc.names.lookup x=Wx .cell\/sc.names.lookup x=Wx .free
abbrev Loc (sc:Ui) (x:Str):Prop:=sc.names.lookup x=Wx .local\/sc.names.lookup x=Wx .cell
abbrev Look (env:Env) (h:QQ) (m:Str->Option Pp) (x:Str) (u:Pp):Prop:=
 (env.kindOf x=Wx .local/\m x=Wx u)\/((env.kindOf x=Wx .cell\/env.kindOf x=Wx .free)/\∃c,env.cells.lookup x=Wx c/\h.IsCell c (Wx u))
structure Cx.Ok (X:Cx):Prop where
 mod:Mod X.K X.mg X.base
 kind:X.env.scope.kind=.function
 glob:X.env.globals=mainGlobals
 blt:X.env.builtins=builtinsNs
 above:X.ax.heap.objs.size<=X.env.locals
 inj:∀x y c,X.env.cells.lookup x=some c->X.env.cells.lookup y=some c->x=y
 has:∀x,(X.env.kindOf x=some .cell\/X.env.kindOf x=some .free)->∃c,X.env.cells.lookup x=some c
 cab:∀x c,X.fn x=true->X.env.cells.lookup x=some c->X.ax.heap.objs.size<=c
 hd:X.calm=true->X.A.handled=none
 frames:X.A.frames=some X.stack
 stk:X.stack=X.outer\/(X.stack=X.env::X.outer/\X.env.frame=some X.env.locals)
 exf:∀b∈X.ex,b≠X.env.locals/\∀x c,X.env.cells.lookup x=some c->c≠b
 bs:∀b o,X.base.get? b=some o->X.ax.heap.get? b=some o/\X.aD b=none
 bsz:X.base.objs.size<=X.ax.heap.objs.size
 rL:∀b o,X.base.get? b=some o->b∉X.ex
 ur:∀b∈X.ex,b∉X.fs
 ic:X.ax.heap.FunFrames X.base X.outer
 frf:∀b∈X.fs,X.aD b=none
structure Inv (X:Cx) (pins) (σ:List (Option V)) (H) (s:Pr):Prop where
 ok:X.Ok
 os:s.os=X.ax.os
 bare:UZ s.gens
 base:Un X.fs X.ex X.aD H X.ax.heap s.heap
 loc:∃m,s.heap.Ns X.env.locals m/\∀(i:Nat) x v , X.N[i]?=some x->σ[i]?=some (some v)->Vis X.env.scope x->∃u,RelV v u/\Look X.env s.heap m x u
 cell:∀x c,X.env.cells.lookup x=some c->∃v,s.heap.IsCell c v
 free:H X.env.locals=none
 cL:∀x c,X.env.cells.lookup x=some c->H c=none
 pin:∀p∈X.pn++pins,s.heap.get? p.1=some p.2/\H p.1=none/\p.1≠X.env.locals/\p.1∉X.fs/\∀v,p.2.data≠.cell v
 hok:HOk X.prog X.w H s.heap
 len:σ.length=X.N.length
section
variable {X:Cx}{pins:List (PN × Obj)}{σ:List (Option V)}{H H':Hp}{s:Pr}{h':QQ}
def Cx.Ok.MX (ok:X.Ok) (e:X.base.get? b=Wx o):b∉X.fs:=fun hb=>by
 have:=(ok.ic.mem hb).1
 simp_all
def Inv.bs (I:Inv X pins σ H s):∀b o,X.base.get? b=Wx o->s.heap.get? b=Wx o/\H b=none:=fun b o e=>
 ⟨I.base.keep b o (I.ok.bs b o e).1 (I.ok.bs b o e).2 (I.ok.MX e) (I.ok.rL b o e),I.base.free b o (I.ok.bs b o e).1 (I.ok.bs b o e).2 (I.ok.rL b o e)⟩
def Inv.bk (I:Inv X pins σ H s):∀b o,X.base.get? b=Wx o->s.heap.get? b=Wx o:=fun b o e=>(I.bs b o e).1
def Inv.mod (I:Inv X pins σ H s):Mod X.K X.mg X.base:=I.ok.mod
def Inv.kIn (I:Inv X pins σ H s):X.K.In s.heap:=I.ok.mod.kin.keeps I.bk
def Inv.nolimit (I:Inv X pins σ H s):s.heap.NoLimit:=I.ok.mod.nolimit.keeps I.bk
def Inv.lt (I:Inv X pins σ H s):X.env.locals<s.heap.objs.size:=let ⟨_,hn,_⟩:=I.loc;hn.lt
def Inv.sz (I:Inv X pins σ H s):X.ax.heap.objs.size<=s.heap.objs.size:=P7 I.ok.above (Sk I.lt)
def Inv.LH (I:Inv X pins σ H s){a:PN} (h:s.heap.objs.size<=a):a∉X.fs:=fun hb=>by
 obtain⟨_,o,ho,_⟩:=I.ok.ic.mem hb
 exact absurd (P8 (Pq ho) (P7 I.sz h)) (Ra _)
def Inv.cne (I:Inv X pins σ H s):∀x c,X.env.cells.lookup x=Wx c->c≠X.env.locals:=fun x c e z=>by
 obtain⟨v,o,ho,hd⟩:=I.cell x c e
 obtain⟨m,⟨o',es,ep,ho',hd',_⟩,_⟩:=I.loc
 simp_all
def Inv.ic (I:Inv X pins σ H s):s.heap.FunFrames X.base X.outer:=by
 have all:∀(l:List Env),(∀b∈frs l,b∈X.fs)->X.ax.heap.FunFrames X.base l->s.heap.FunFrames X.base l:=by
  intro l
  induction l with
  | nil=>intro _ _;trivial
  | cons env r ih=>
   intro hs hl
   obtain⟨hk,⟨L,o,hf,hn,ho,hd⟩,hr⟩:=hl
   have hL:L∈X.fs:=hs L (by unfold frs;simp_all)
   obtain⟨sl,e⟩:=I.base.slot L o ho (I.ok.frf L hL) hL fun z=>I.ok.ur L z hL
   exact⟨hk,⟨L,_,hf,hn,e,hd⟩,ih (fun b hb=>hs b (by unfold frs;rw[SV,hf];exact Po _ hb)) hr⟩
 exact all X.outer (fun _ hb=>hb) I.ok.ic
def Inv.stack (I:Inv X pins σ H s):s.heap.FunFrames X.base X.stack:=by
 rcases I.ok.stk with e | ⟨e,hf⟩
 ·rw[e];exact I.ic
 ·rw[e]
  obtain⟨m,hn,_⟩:=I.loc
  refine .cons (by rw[I.ok.kind];decide) hf hn ?_ I.ic
  exact SH (P7 I.ok.bsz I.ok.above)
def Inv.fB (I:Inv X pins σ H s):∀b∈frs X.stack,b∈X.env.locals::X.fs:=fun b hb=>by
 rcases I.ok.stk with e | ⟨e,hf⟩
 ·simp_all
 ·rw[e] at hb
  unfold frs at hb
  rw[SV,hf] at hb
  exact hb
def Inv.lZ (I:Inv X pins σ H s):∀b∈frs X.stack,H b=none:=fun b hb=>by
 rcases PL.mp (I.fB b hb) with e | hb
 ·rw[e];exact I.free
 ·obtain⟨_,o,ho,_⟩:=I.ok.ic.mem hb
  exact I.base.free b o ho (I.ok.frf b hb) fun z=>I.ok.ur b z hb
def Inv.step {g':Array GenState}{t':Nat}{d':Drawn}{ch:List PN} (I:Inv X pins σ H s)
  (hch:∀b∈ch,(b∈X.ex\/X.ax.heap.objs.size<=b)/\b≠X.env.locals/\(∀x c,X.env.cells.lookup x=Wx c->c≠b)/\∀p∈X.pn++pins,p.1≠b)
  (keep:∀b o,b≠X.env.locals->b∉X.fs->b∉ch->s.heap.get? b=Wx o->H b=Wy->h'.get? b=Wx o)
  (slot:∀b o,b≠X.env.locals->b∈X.fs->b∉ch->s.heap.get? b=Wx o->H b=Wy->∃sl,h'.get? b=Wx { o with slots:=sl }) (free:∀b o,b∉ch->s.heap.get? b=Wx o->H b=Wy->H' b=Wy)
  (there:∀b o,b∉ch->s.heap.get? b=Wx o->∃o',h'.get? b=Wx o')
  (iY:∀b xs,H b=Wx (.tup xs)->H' b=Wx (.tup xs)) (jz:∀b o u,H b=Wx (.frz o u)->H' b=Wx (.frz o u)) (lO:∀b ps,H b=Wx (.tbl ps)->∃more,H' b=Wx (.tbl (ps++more)))
  (ns:∀m,s.heap.Ns X.env.locals m->h'.Ns X.env.locals m) (hok:HOk X.prog X.w H' h') (hg:UZ g') :
  Inv X pins σ H' { s with heap:=h',gens:=g',drawn:=d',toks:=t' }:=by
 have neL:∀b o,X.ax.heap.get? b=Wx o->b≠X.env.locals:=fun b o e=>PU (P8 (Pq e) I.ok.above)
 have neC:∀b o,X.ax.heap.get? b=Wx o->b∉X.ex->b∉ch:=fun b o e hx hb=>by
  rcases(hch b hb).1 with z | z
  ·grind
  ·exact absurd (P8 (Pq e) z) (Ra _)
 have cellK:∀x c,X.env.cells.lookup x=Wx c->∀v,s.heap.IsCell c v->h'.IsCell c v:=fun x c e v ⟨o,ho,hd⟩=>by
  have nch:c∉ch:=fun z=>(hch c z).2.2.1 x c e rfl
  by_cases hc:c∈X.fs
  ·obtain⟨sl,q⟩:=slot c o (I.cne x c e) hc nch ho (I.cL x c e)
   exact⟨_,q,hd⟩
  ·exact⟨o,keep c o (I.cne x c e) hc nch ho (I.cL x c e),hd⟩
 refine⟨I.ok,I.os,hg,⟨fun b o e n hb hx=>?_,fun b o e n hb hx=>?_,fun b o e n hx=>?_,fun b o e hx=>?_,fun b xs e=>iY b xs (I.base.iY b xs e),fun b o xs e=>jz b o xs (I.base.jz b o xs e),fun b ps e=>?_⟩,?_,fun x c e=>?_,?_,fun x c e=>?_,fun p hp=>?_,hok,I.len⟩
 ·exact keep b o (neL b o e) hb (neC b o e hx) (I.base.keep b o e n hb hx) (I.base.free b o e n hx)
 ·obtain⟨sl,e1⟩:=I.base.slot b o e n hb hx
  obtain⟨sl',e2⟩:=slot b _ (neL b o e) hb (neC b o e hx) e1 (I.base.free b o e n hx)
  simp_all
 ·obtain⟨o',e1⟩:=I.base.there b o e hx
  exact free b o' (neC b o e hx) e1 (I.base.free b o e n hx)
 ·obtain⟨o',e1⟩:=I.base.there b o e hx
  exact there b o' (neC b o e hx) e1
 ·obtain⟨m1,e1⟩:=I.base.lO b ps e
  grind
 ·obtain⟨m,hn,hl⟩:=I.loc
  refine⟨m,ns m hn,fun i x v e1 e2 e3=>?_⟩
  obtain⟨u,r,l⟩:=hl i x v e1 e2 e3
  refine⟨u,r,?_⟩
  rcases l with l | ⟨k,c,e,z⟩
  ·exact .inl l
  ·exact .inr ⟨k,c,e,cellK x c e _ z⟩
 ·obtain⟨v,z⟩:=I.cell x c e
  grind
 ·obtain⟨m,⟨o,_,_,ho,_⟩,_⟩:=I.loc
  exact free _ o (fun z=>(hch _ z).2.1 rfl) ho I.free
 ·obtain⟨v,o,ho,hd⟩:=I.cell x c e
  exact free c o (fun z=>(hch c z).2.2.1 x c e rfl) ho (I.cL x c e)
 ·obtain⟨e,n,ne,nf,d⟩:=I.pin p hp
  grind
def Inv.un {t':Nat} (I:Inv X pins σ H s) (u:Un X.fs [] H H' s.heap h') (hok:HOk X.prog X.w H' h'):Inv X pins σ H' { s with heap:=h',toks:=t' }:=by
 obtain⟨m,⟨o,es,ep,ho,r⟩,_⟩:=id I.loc
 obtain⟨sl,hL⟩:=u.any ho I.free {..}
 exact I.step (g':=s.gens) (d':=s.drawn) (ch:=[]) (fun _ z=>nomatch z) (fun b o _ hb _ e n=>u.keep b o e n hb {..}) (fun b o _ hb _ e n=>u.slot b o e n hb {..}) (fun b o _ e n=>u.free b o e n {..}) (fun b o _ e=>u.there b o e {..}) u.iY u.jz u.lO (fun m' hm=>by
  obtain⟨o',es',ep',ho',r'⟩:=hm
  rw[ho] at ho';cases ho'
  exact⟨_,es',ep',hL,r'⟩) hok I.bare
def Inv.call (I:Inv X pins σ H s) (u:Un (frs X.stack) ch H H' s.heap h') (hok:HOk X.prog X.w H' h') (hg:UZ g')
  (hch:∀b∈ch,(b∈X.ex\/X.ax.heap.objs.size<=b)/\b≠X.env.locals/\(∀x c,X.env.cells.lookup x=Wx c->c≠b)/\∀p∈X.pn++pins,p.1≠b) :
  Inv X pins σ H' { s with heap:=h',gens:=g',drawn:=d',toks:=t' }:=by
 obtain⟨m,⟨o,es,ep,ho,r⟩,_⟩:=id I.loc
 obtain⟨sl,hL⟩:=u.any ho I.free fun z=>(hch _ z).2.1 rfl
 exact I.step (ch:=ch) hch (fun b o hL hb hc e n=>u.keep b o e n (fun z=>(PL.mp (I.fB b z)).elim hL hb) hc) (fun b o _ _ hc e n=>u.any e n hc) (fun b o hc e n=>u.free b o e n hc) (fun b o hc e=>u.there b o e hc) u.iY u.jz u.lO (fun m' hm=>by
  obtain⟨o',es',ep',ho',r'⟩:=hm
  rw[ho] at ho';cases ho'
  exact⟨_,es',ep',hL,r'⟩) hok hg
def Inv.turned (I:Inv X pins σ H s) (k:∀b o,b≠it->s.heap.get? b=Wx o->h'.get? b=Wx o) (hn:H it=Wy) (hL:it≠X.env.locals)
  (h1:it∈X.ex\/X.ax.heap.objs.size<=it) (h2:∀x c,X.env.cells.lookup x=Wx c->c≠it) (h3:∀p∈X.pn++pins,p.1≠it):Inv X pins σ H { s with heap:=h',toks:=t' }:=by
 have nit:∀b u,H b=Wx u->b≠it:=fun b u e z=>by simp_all
 refine I.step (g':=s.gens) (d':=s.drawn) (ch:=[it]) (fun b hb=>?_) (fun b o _ _ hc e _=>k b o (fun z=>hc (by simp[z])) e) (fun b o _ _ hc e _=>⟨o.slots,k b o (fun z=>hc (by simp[z])) e⟩) (fun _ _ _ _ n=>n)
  (fun b o hc e=>⟨o,k b o (fun z=>hc (by simp[z])) e⟩) (fun _ _ e=>e) (fun _ _ _ e=>e) (fun b ps e=>⟨#[],by grind⟩) (fun m hm=>?_) (fun b u e=>?_) I.bare
 ·grind
 ·obtain⟨o,es,ep,ho,r⟩:=hm
  exact⟨o,es,ep,k _ o (SW hL) ho,r⟩
 ·refine(I.hok b u e).iB (fun c v hc q=>k c v ?_ q) (fun _ q=>q) fun _ _ q=>q
  grind
def Inv.tok (I:Inv X pins σ H s) (t):Inv X pins σ H { s with toks:=t }:=I.un (h':=s.heap) (t':=t) Un.refl I.hok
def Inv.kept (I:Inv X pins σ H s) (k:∀b u,s.heap.get? b=Wx u->h'.get? b=Wx u):Inv X pins σ H { s with heap:=h',toks:=t' }:=I.un (Un.kept k) (I.hok.kept k)
def Inv.laid {a:PN} (I:Inv X pins σ H s) (k:∀b u,s.heap.get? b=Wx u->h'.get? b=Wx u) (hp:s.heap.objs.size<=a) (new:a_ X.prog X.w (upd H a o) h' a o) :
  Inv X pins σ (upd H a o) { s with heap:=h',toks:=t' }:=I.un (Un.laid k hp (I.hok.fresh hp)) (I.hok.laid k hp new)
def Inv.write (I:Inv X pins σ H s) (mu:Mut (H x)) (he:e=x\/H e=Wx (.own x)) (k:∀b u,b≠e->s.heap.get? b=Wx u->h'.get? b=Wx u) (heo:∃u,h'.get? e=Wx u)
  (new:a_ X.prog X.w (upd H x o) h' x o):Inv X pins σ (upd H x o) { s with heap:=h',toks:=t' }:=I.un (Un.write mu he k heo) (I.hok.write mu he k heo new)
def Inv.my (I:Inv X pins σ H s) (h:∀p∈pins',s.heap.get? p.1=Wx p.2/\H p.1=Wy/\p.1≠X.env.locals/\p.1∉X.fs/\∀v,p.2.data≠.cell v):Inv X pins' σ H s:=
 ⟨I.ok,I.os,I.bare,I.base,I.loc,I.cell,I.free,I.cL,fun p hp=>(Qr.mp hp).elim (fun z=>I.pin p (Ru _ z)) (h p),I.hok,I.len⟩
def uN {N:List Str} (hN:N.Nodup){i j:Nat} (a:N[i]?=Wx x) (b:N[j]?=Wx x):i=j:=by
 obtain⟨h1,e1⟩:=Qj.mp a
 obtain⟨h2,e2⟩:=Qj.mp b
 exact(List.getElem_inj hN).mp (e1.trans e2.symm)
def Ar (I:Inv X pins σ H s) (hN:X.N.Nodup) (hi:X.N[i]?=Wx x) (hx:Loc X.env.scope x) (r:RelV v u)
  (h:∀s',Inv X pins (σ.set i (Wx v)) H s'->(∃a,Ry a s.heap s'.heap/\(a=X.env.locals\/X.env.cells.lookup x=Wx a))->Q () s') (hf:X.fn x=Wz\/X.env.scope.names.lookup x=Wx .local:=by first | exact .inl rfl | exact .inr rfl | assumption):wpAny M A (storeName X.env x u) Q E s:=by
 obtain⟨m,hn,hl⟩:=id I.loc
 have hcls:(X.env.scope.kind == .class || (X.env.scope.kind == .module&&X.env.locals != X.env.globals))=false:=by rw[I.ok.kind];rfl
 have hiσ:i<σ.length:=by rw[I.len];grind
 have cne:=I.cne
 have tracked:∀{a:PN} {h':QQ},(∃o,s.heap.get? a=Wx o/\H a=Wy)->Ry a s.heap h'->HOk X.prog X.w H h':=fun{a h'} ha hs b ob e=>by
  obtain⟨_,_,hfree⟩:=ha
  refine(I.hok b ob e).iB (fun c w' hc q=>(hs.2 c ?_).trans q) (fun _ q=>q) fun _ _ q=>q
  grind
 rcases hx with hk | hk
 ·refine wpAny_storeName_local hk hn (fun h' hn' hs=>?_) hcls
  obtain⟨oL,_,_,hoL,_⟩:=id hn
  refine h _ ⟨I.ok,I.os,I.bare,⟨fun b o e n hb hx=>?_,fun b o e n hb hx=>?_,I.base.free,fun b o e hx=>?_,I.base.iY,I.base.jz,I.base.lO⟩,⟨_,hn',fun j y v' e1 e2 e3=>?_⟩,fun y c e=>?_,I.free,I.cL,fun p hp=>?_,tracked ⟨oL,hoL,I.free⟩ hs,by simpa using I.len⟩ ⟨_,hs,.inl rfl⟩
  ·exact(hs.2 b (PU (P8 (Pq e) I.ok.above))).trans (I.base.keep b o e n hb hx)
  ·obtain⟨sl,e1⟩:=I.base.slot b o e n hb hx
   exact⟨sl,(hs.2 b (PU (P8 (Pq e) I.ok.above))).trans e1⟩
  ·obtain⟨o',e1⟩:=I.base.there b o e hx
   exact⟨o',(hs.2 b (PU (P8 (Pq e) I.ok.above))).trans e1⟩
  ·by_cases hj:j=i
   ·subst hj
    rw[hi] at e1;cases e1
    rw[Tt hiσ] at e2
    cases e2
    exact⟨u,r,.inl ⟨hk,{..}⟩⟩
   ·rw[Ub (SW hj)] at e2
    obtain⟨u',r',q⟩:=hl j y v' e1 e2 e3
    refine⟨u',r',?_⟩
    rcases q with⟨k,e⟩ | ⟨k,c,e,z⟩
    ·refine .inl ⟨k,?_⟩
     have:y≠x:=fun e=>hj (uN hN e1 (e ▸ hi))
     simp_all
    ·exact .inr ⟨k,c,e,z.sameBut hs (cne y c e)⟩
  ·obtain⟨w',z⟩:=I.cell y c e
   exact⟨w',z.sameBut hs (cne y c e)⟩
  ·obtain⟨e,n,ne,nf,d⟩:=I.pin p hp
   exact⟨(hs.2 p.1 ne).trans e,n,ne,nf,d⟩
 ·have hfn:X.fn x=true:=by
   simp_all
  obtain⟨c,hc⟩:=I.ok.has x (.inl hk)
  obtain⟨w',z⟩:=I.cell x c hc
  refine wpAny_storeName_cell I.ok.kind hk hc z (fun h' hc' hs=>?_)
  obtain⟨oc,hoc,hocd⟩:=id z
  refine h { s with heap:=h' } ⟨I.ok,I.os,I.bare,⟨fun b o e n hb hx=>?_,fun b o e n hb hx=>?_,I.base.free,fun b o e hx=>?_,I.base.iY,I.base.jz,I.base.lO⟩,⟨m,hn.sameBut hs (SW (cne x c hc)),fun j y v' e1 e2 e3=>?_⟩,fun y c' e=>?_,I.free,I.cL,fun p hp=>?_,tracked ⟨oc,hoc,I.cL x c hc⟩ hs,by simpa using I.len⟩ ⟨c,hs,.inr hc⟩
  ·exact(hs.2 b (PU (P8 (Pq e) (I.ok.cab x c hfn hc)))).trans (I.base.keep b o e n hb hx)
  ·obtain⟨sl,e1⟩:=I.base.slot b o e n hb hx
   exact⟨sl,(hs.2 b (PU (P8 (Pq e) (I.ok.cab x c hfn hc)))).trans e1⟩
  ·obtain⟨o',e1⟩:=I.base.there b o e hx
   exact⟨o',(hs.2 b (PU (P8 (Pq e) (I.ok.cab x c hfn hc)))).trans e1⟩
  ·by_cases hj:j=i
   ·subst hj
    rw[hi] at e1;cases e1
    rw[Tt hiσ] at e2
    cases e2
    exact⟨u,r,.inr ⟨.inl hk,c,hc,hc'⟩⟩
   ·rw[Ub (SW hj)] at e2
    obtain⟨u',r',q⟩:=hl j y v' e1 e2 e3
    refine⟨u',r',?_⟩
    rcases q with q | ⟨k,c',e,z'⟩
    ·exact .inl q
    ·refine .inr ⟨k,c',e,z'.sameBut hs ?_⟩
     rintro rfl
     exact hj (uN hN e1 (I.ok.inj _ _ _ e hc ▸ hi))
  ·by_cases hcc:c'=c
   ·grind
   ·obtain⟨w2,z2⟩:=I.cell y c' e
    exact⟨w2,z2.sameBut hs hcc⟩
  ·obtain⟨e,n,ne,nf,d⟩:=I.pin p hp
   refine⟨(hs.2 p.1 ?_).trans e,n,ne,nf,d⟩
   grind
def ie (I:Inv X pins σ H s) (hN:X.N.Nodup) (hi:X.N[i]?=Wx x) (hx:Loc X.env.scope x) (r:RelV v u)
  (h:∀s',Inv X pins (σ.set i (Wx v)) H s'->Q () s') (hf:X.fn x=Wz\/X.env.scope.names.lookup x=Wx .local:=by first | exact .inl rfl | exact .inr rfl | assumption):wpAny M A (storeName X.env x u) Q E s:=
 Ar I hN hi hx r (fun s' I' _=>h s' I') hf
def Inv.uy (I:Inv X pins σ H s) (ho:s'.os=s.os) (u:Un (frs X.stack) ch H H' s.heap s'.heap) (hok:HOk X.prog X.w H' s'.heap) (hg:UZ s'.gens)
  (hch:∀b∈ch,(b∈X.ex\/X.ax.heap.objs.size<=b)/\b≠X.env.locals/\(∀x c,X.env.cells.lookup x=Wx c->c≠b)/\∀p∈X.pn++pins,p.1≠b):Inv X pins σ H' s':=by
 obtain⟨h',g',d',t',o'⟩:=s'
 have e:o'=s.os:=ho
 subst e
 exact I.call (g':=g') (t':=t') (d':=d') u hok hg hch
end
@[inline]abbrev XK:=Pp->Option PN->Hp->Prop
@[inline]abbrev St:=List (Option V)
@[inline]abbrev VK:=V->Hp->Prop
@[inline]abbrev TE:=St->Hp->VK->Prop
@[inline]abbrev TT:=St->Hp->(Bool->Hp->Prop)->Prop
@[inline]abbrev TA:=St->Hp->(List V->Hp->Prop)->Prop
structure Ends where
 nx:St->Hp->Prop
 rt:VK
 bk:St->Hp->Prop:=fun _ _=>False
 ct:St->Hp->Prop:=fun _ _=>False
@[inline]abbrev TS:=Ends->St->Hp->Prop
abbrev EP (X:Cx) (pins:List (PN × Obj)) (σ:St) (Q:VK) (u:Pp) (s':Pr):Prop:=∃v H',Inv X pins σ H' s'/\RelV v u/\Q v H'
abbrev TP (X:Cx) (pins:List (PN × Obj)) (σ:St) (Q:Bool->Hp->Prop) (b:Bool) (s':Pr):Prop:=∃H',Inv X pins σ H' s'/\Q b H'
abbrev AP (X:Cx) (pins:List (PN × Obj)) (σ:St) (Q:List V->Hp->Prop) (us:List Pp) (s':Pr):Prop:=∃vs H',Inv X pins σ H' s'/\Vals vs us/\Q vs H'
abbrev SP (X:Cx) (pins:List (PN × Obj)) (D:Ends) (f:Flow) (s':Pr):Prop:=
 match f with
 | .next=>∃σ' H',Inv X pins σ' H' s'/\D.nx σ' H'
 | .brk=>∃σ' H',Inv X pins σ' H' s'/\D.bk σ' H'
 | .cont=>∃σ' H',Inv X pins σ' H' s'/\D.ct σ' H'
 | .ret u=>∃v σ' H',Inv X pins σ' H' s'/\RelV v u/\D.rt v H'
abbrev PE (X:Cx) (e:Rb) (t:TE):Prop:=
 ∀pins s (σ:St) H Q , Inv X pins σ H s->t σ H Q->wpAny (model X.prog X.w) X.A (eval e X.env) (EP X pins σ Q) X.xe s
abbrev PT (X:Cx) (e:Rb) (t:TT):Prop:=
 ∀pins s (σ:St) H Q , Inv X pins σ H s->t σ H Q->wpAny (model X.prog X.w) X.A (isTrue e X.env (eval e X.env)) (TP X pins σ Q) X.xe s
abbrev PW (X:Cx) (e:Rb) (t:TT):Prop:=
 ∀whole pins s (σ:St) H Q , Inv X pins σ H s->t σ H Q->wpAny (model X.prog X.w) X.A (isTrue e X.env whole) (TP X pins σ Q) X.xe s
def PW.pt (h:PW X e t):PT X e t:=h _
abbrev PA (X:Cx) (es:List Rb) (t:TA):Prop:=
 ∀pos pins s (σ:St) H Q , Inv X pins σ H s->t σ H Q->wpAny (model X.prog X.w) X.A (spliced (backTo pos (starEach es X.env))) (AP X pins σ Q) X.xe s
abbrev PS (X:Cx) (st:TF) (t:TS):Prop:=
 ∀pins s (σ:St) H D , Inv X pins σ H s->t D σ H->wpAny (model X.prog X.w) X.A (exec st X.env) (SP X pins D) X.xe s
abbrev PSs (X:Cx) (st:List TF) (t:TS):Prop:=
 ∀pins s (σ:St) H D , Inv X pins σ H s->t D σ H->wpAny (model X.prog X.w) X.A (execs st X.env) (SP X pins D) X.xe s
def thn {M:Model}{A:P9}{E:Pp->Pr->Prop}{s:Pr} (h:wpAny M A t Q E s) (hQ:∀a s,Q a s->Q' a s):wpAny M A t Q' E s:=P4 h hQ fun _ _ x=>x
section
variable {X:Cx}
abbrev M1 (i:Nat):TE:=fun σ H Q=>∃v,σ[i]?=Wx (Wx v)/\Q v H
abbrev tC (v:V):TE:=fun _ H Q=>Q v H
def AN {pos:Pos} (hN:X.N[i]?=Wx x) (hv:Vis X.env.scope x) (hd:(x == ("__debug__" : Str))=false:=by decide) (hcd:(x == ("__classdict__" : Str))=false:=by decide):PE X (.Name x pos) (M1 i):=by
 intro pins s σ H Q I h
 obtain⟨v,e,h⟩:=h
 obtain⟨m,hn,hl⟩:=I.loc
 obtain⟨u,r,l⟩:=hl i x v hN e hv
 have fin:EP X pins σ Q u s:=⟨v,H,I,r,h⟩
 rcases l with⟨hk,hm⟩ | ⟨hk,c,hc,hcell⟩
 ·exact UI (Uc I.ok.kind hk hn hm fin) hd
 ·rcases hk with hk | hk
  ·exact UI (wpAny_loadName_cell I.ok.kind hk hc hcell fin) hd
  ·exact UI (wpAny_loadName_free I.ok.kind hk hc hcell fin hcd) hd
def Jz:PE X (.Constant (.int i) j pos) (tC (.int i)):=fun _ _ _ H _ I h=>wpAny_Constant_int ⟨.int i,H,I.tok _,⟨_,rfl⟩,h⟩
def KZ:PE X (.Constant (.bool b) j pos) (tC (.bl b)):=fun _ _ _ H _ I h=>Constant_bool ⟨.bl b,H,I,rfl,h⟩
def Io:PE X (.Constant (.str x) j pos) (tC (.str x)):=fun _ _ _ H _ I h=>Calls.Constant_str ⟨.str x,H,I.tok _,⟨_,rfl⟩,h⟩
abbrev Gl (X:Cx) (x:Str):Prop:=X.env.kindOf x=Wx .globalImplicit
def f6 {σ:St} (I:Inv X pins σ H s) (hg:Gl X x) (hm:X.mg x=Wx u) (h:Q u s)
  (hd:(x == ("__debug__" : Str))=false:=by decide):wpAny (model X.prog X.w) X.A (eval (.Name x pos) X.env) Q E s:=
 SE I.ok.kind hg (Calls.loadGlobal_global (by rw[I.ok.glob];exact I.mod.glob.keeps I.bk) hm h) hd
def kc {E:Pp->Pr->Prop}{σ:St}{pos:Pos} (I:Inv X pins σ H s) (hg:Gl X x) (hm:X.mg x=Wy) (hv:bootBuiltins x=Wx u) (h:Q u s)
  (hn:x≠"__name__" := by decide) (hd:(x == ("__debug__" : Str))=false:=by decide):wpAny (model X.prog X.w) X.A (eval (.Name x pos) X.env) Q E s:=by
 obtain⟨mb,h1,h2⟩:=I.mod.blt
 exact SE I.ok.kind hg (Calls.loadGlobal_builtin (by rw[I.ok.glob];exact I.mod.glob.keeps I.bk) hm (by rw[I.ok.blt];exact h1.keeps I.bk) ((h2 x hn).trans hv) h) hd
def Fn (hg:Gl X x) (hm:X.mg x=Wx u) (r:RelV v u) (hd:(x == ("__debug__" : Str))=false:=by decide):PE X (.Name x pos) (tC v):=
 fun _ _ _ H _ I h=>f6 I hg hm ⟨v,H,I,r,h⟩ hd
def xE {pos:Pos} (hg:Gl X x) (hm:X.mg x=Wy) (hv:bootBuiltins x=Wx u) (r:RelV v u) (hn:x≠"__name__" := by decide) (hd:(x == ("__debug__" : Str))=false:=by decide):PE X (.Name x pos) (tC v):=
 fun _ _ _ H _ I h=>kc I hg hm hv ⟨v,H,I,r,h⟩ hn hd
variable {a b:Rb}{ta tb:TE}{pos:Pos}
variable {tA tB':TT}{rest:List Rb}
abbrev N9 (t u:TT):TT:=fun σ H Q=>t σ H fun c H1=>if c=Wz then u σ H1 Q else Q WA H1
abbrev tOr (t u:TT):TT:=fun σ H Q=>t σ H fun c H1=>if c=Wz then Q Wz H1 else u σ H1 Q
abbrev Nq (t:TT):TT:=fun σ H Q=>t σ H fun c H1=>Q (!c) H1
def pw_and1 (ha:PT X a tA):PW X (.BoolOp .And [a] pos) tA:=by
 intro wh pins s σ H Q I h
 refine isTrue_and (thn (ha pins s σ H Q I h) fun c s1 e=>?_)
 cases c with
 | true=>exact isTrue_and_nil e
 | false=>exact e
def pw_or1 (ha:PT X a tA):PW X (.BoolOp .Or [a] pos) tA:=by
 intro wh pins s σ H Q I h
 refine isTrue_or (thn (ha pins s σ H Q I h) fun c s1 e=>?_)
 cases c with
 | false=>exact isTrue_or_nil e
 | true=>exact e
def pw_and (ha:PT X a tA) (hb:PW X (.BoolOp .And (b::rest) pos) tB'):PW X (.BoolOp .And (a::b::rest) pos) (N9 tA tB'):=by
 intro wh pins s σ H Q I h
 refine isTrue_and (thn (ha pins s σ H _ I h) fun c s1 ⟨H1,I1,q1⟩=>?_)
 cases c with
 | true=>exact hb wh pins s1 σ H1 Q I1 q1
 | false=>assumption
def pw_or (ha:PT X a tA) (hb:PW X (.BoolOp .Or (b::rest) pos) tB'):PW X (.BoolOp .Or (a::b::rest) pos) (tOr tA tB'):=by
 intro wh pins s σ H Q I h
 refine isTrue_or (thn (ha pins s σ H _ I h) fun c s1 ⟨H1,I1,q1⟩=>?_)
 cases c with
 | true=>assumption
 | false=>exact hb wh pins s1 σ H1 Q I1 q1
def Jh (ha:PT X a tA):PT X (.UnaryOp .Not a pos) (Nq tA):=by
 intro pins s σ H Q I h
 exact isTrue_not (ha pins s σ H (fun c H1=>Q (!c) H1) I h)
abbrev Kz (ta tb:TE):TE:=fun σ H Q=>ta σ H fun x H1=>∃c,x=.bl c/\if c=Wz then tb σ H1 Q else Q (.bl WA) H1
abbrev Kj (ta:TE):TE:=fun σ H Q=>ta σ H fun x H1=>∃c,x=.bl c/\Q (.bl (!c)) H1
def Ib (h:PE X a t):PE X (.BoolOp op [a] pos) t:=fun pins s σ H Q I hw=>BoolOp_one (h pins s σ H Q I hw)
def IT (ha:PE X a ta) (hb:PE X (.BoolOp .And (b::rest) pos) tb):PE X (.BoolOp .And (a::b::rest) pos) (Kz ta tb):=by
 intro pins s σ H Q I h
 refine BoolOp_and (thn (ha pins s σ H _ I h) fun v s1 zq1=>?_)
 obtain⟨x,H1,I1,r1,q1⟩:=zq1
 obtain⟨c,rfl,q1⟩:=q1
 cases r1
 refine RB ?_
 cases c with
 | true=>exact hb pins s1 σ H1 Q I1 q1
 | false=>exact⟨.bl WA,H1,I1,rfl,q1⟩
def Jq (ha:PE X a ta):PE X (.UnaryOp .Not a pos) (Kj ta):=by
 intro pins s σ H Q I h
 refine UnaryOp_ (thn (ha pins s σ H _ I h) fun v s1 zq1=>?_)
 obtain⟨x,H1,I1,r1,q1⟩:=zq1
 obtain⟨c,rfl,q1⟩:=q1
 cases r1
 exact not_of (RB ⟨.bl (!c),H1,I1,rfl,q1⟩)
abbrev tIf (t:TT) (ta tb:TE):TE:=fun σ H Q=>t σ H fun c H1=>if c=Wz then ta σ H1 Q else tb σ H1 Q
def BX {c:Rb} (hc:PT X c tA) (ha:PE X a ta) (hb:PE X b tb):PE X (.IfExp c a b pos) (tIf tA ta tb):=by
 intro pins s σ H Q I h
 refine wpAny_IfExp (thn (hc pins s σ H _ I h) fun d s1 zq1=>?_)
 obtain⟨H1,I1,q1⟩:=zq1
 cases d with
 | true=>exact ha pins s1 σ H1 Q I1 q1
 | false=>exact hb pins s1 σ H1 Q I1 q1
end
abbrev SqL (K:Pk) (H:Hp) (a:PN) (xs:List V):Prop:=
 Rd H a (.lst xs) ∨
  ∃o its n,K.lookup a=Wx o/\o.cls=.type "list" /\ o.dict=Wy/\o.data=.seq its n/\its.size<=sizeLine/\Vals xs its.toList
abbrev SqT (K:Pk) (H:Hp) (a:PN) (xs:List V):Prop:=
 Rd H a (.tup xs) ∨
  ∃o its n,K.lookup a=Wx o/\o.cls=.type "tuple" /\ o.data=.seq its n/\its.size<=sizeLine/\Vals xs its.toList
abbrev Mv:Pp->Option V
 | .none=>Wx .non
 | .bool b=>Wx (.bl b)
 | .int i _=>Wx (.int i)
 | .str x _=>Wx (.str x)
 | .bytes b _=>Wx (.byt b)
 | .float b _=>Wx (.flt b)
 | .ref a=>Wx (.ref a)
 | .type n=>Wx (.ty n)
 | _=>Wy
def RelV.abs (r:RelV x u):Mv u=Wx x:=by
 cases x with
 | non=>cases r;rfl
 | bl _=>cases r;rfl
 | int _=>obtain⟨t,rfl⟩:=r;rfl
 | str _=>obtain⟨t,rfl⟩:=r;rfl
 | byt _=>obtain⟨t,rfl⟩:=r;rfl
 | flt _=>obtain⟨t,rfl⟩:=r;rfl
 | ref _=>cases r;rfl
 | ty _=>cases r;rfl
def RelV.inj (r:RelV x u) (q:RelV y u):x=y:=QM (r.abs.symm.trans q.abs)
def Vals.inj {xs ys:List V}{us:List Pp} (a:Vals xs us) (b:Vals ys us):xs=ys:=by
 induction a generalizing ys with
 | nil=>cases b;rfl
 | cons r t ih=>
  cases b with | cons r' t'=>
  rw[r.inj r',ih t']
section
variable {X:Cx}{pins:List (PN × Obj)}{σ:St}{H:Hp}{s:Pr}{a:PN}{xs ys:List V}
def SqL.of {K:Pk} (h:H a=Wx (.lst xs)):SqL K H a xs:=.inl (.inl h)
def SqT.of {K:Pk} (h:H a=Wx (.tup xs)):SqT K H a xs:=.inl (.inl h)
def Inv.list (I:Inv X pins σ H s) (h:SqL X.K H a xs):∃its:List Pp,Vals xs its/\PlainL s.heap a its.toArray/\xs.length<=sizeLine:=by
 rcases h with h | ⟨o,its,n,hk,hc,hd,hs,hz,r⟩
 ·obtain⟨z,its,n,r,e⟩:=h.ok I.hok
  exact⟨its,r,⟨_,n,e,rfl,rfl,rfl⟩,z⟩
 ·refine⟨its.toList,r,⟨o,n,I.kIn a o hk,hc,hd,by omega⟩,?_⟩
  have e:=r.length
  simp_all
def Inv.tuple (I:Inv X pins σ H s) (h:SqT X.K H a xs):∃its:List Pp,Vals xs its/\IsTup s.heap a its.toArray/\xs.length<=sizeLine:=by
 rcases h with h | ⟨o,its,n,hk,hc,hs,hz,r⟩
 ·obtain⟨z,its,r,p⟩:=h.ok I.hok
  exact⟨its,r,p.tup,z⟩
 ·refine⟨its.toList,r,⟨o,I.kIn a o hk,hc,n,by omega⟩,?_⟩
  have e:=r.length
  simp_all
def Inv.nM (I:Inv X pins σ H s) (h:SqL X.K H a xs) (h':SqL X.K H a ys):xs=ys:=by
 obtain⟨its,r,⟨o,n,e,_,_,d⟩,_⟩:=I.list h
 obtain⟨its',r',⟨o',n',e',_,_,d'⟩,_⟩:=I.list h'
 rw[e] at e';cases e'
 rw[d] at d'
 injection d' with d1 _
 have:its=its':=by simp_all
 subst this
 exact r.inj r'
def Inv.kL (I:Inv X pins σ H s) (h:SqT X.K H a xs) (h':SqT X.K H a ys):xs=ys:=by
 obtain⟨its,r,⟨o,e,_,n,d⟩,_⟩:=I.tuple h
 obtain⟨its',r',⟨o',e',_,n',d'⟩,_⟩:=I.tuple h'
 rw[e] at e';cases e'
 rw[d] at d'
 injection d' with d1 _
 have:its=its':=by simp_all
 subst this
 exact r.inj r'
end
@[inline]abbrev Cx.jZ (X:Cx) (E:Pp->Pr->Prop):Cx:={ X with xe:=E }
@[inline]abbrev Cx.nox (X:Cx):Cx:=X.jZ fun _ _=>False
def Cx.Ok.jZ {X:Cx} (ok:X.Ok) (E):(X.jZ E).Ok:=
 ⟨ok.mod,ok.kind,ok.glob,ok.blt,ok.above,ok.inj,ok.has,ok.cab,ok.hd,ok.frames,ok.stk,ok.exf,ok.bs,ok.bsz,ok.rL,ok.ur,ok.ic,ok.frf⟩
def Cx.Ok.eI {X:Cx} (ok:(X.jZ E).Ok):X.Ok:=
 ⟨ok.mod,ok.kind,ok.glob,ok.blt,ok.above,ok.inj,ok.has,ok.cab,ok.hd,ok.frames,ok.stk,ok.exf,ok.bs,ok.bsz,ok.rL,ok.ur,ok.ic,ok.frf⟩
section
variable {X:Cx}{pins:List (PN × Obj)}{σ:St}{H:Hp}{s:Pr}{E:Pp->Pr->Prop}
def Inv.jZ (I:Inv X pins σ H s) (E):Inv (X.jZ E) pins σ H s:=⟨I.ok.jZ E,I.os,I.bare,I.base,I.loc,I.cell,I.free,I.cL,I.pin,I.hok,I.len⟩
def Inv.eI (I:Inv (X.jZ E) pins σ H s):Inv X pins σ H s:=⟨I.ok.eI,I.os,I.bare,I.base,I.loc,I.cell,I.free,I.cL,I.pin,I.hok,I.len⟩
def SP.eI (h:SP (X.jZ E) pins D f s'):SP X pins D f s':=by
 cases f with
 | next=>obtain⟨σ',H',I,q⟩:=h;exact⟨σ',H',I.eI,q⟩
 | brk=>obtain⟨σ',H',I,q⟩:=h;exact⟨σ',H',I.eI,q⟩
 | cont=>obtain⟨σ',H',I,q⟩:=h;exact⟨σ',H',I.eI,q⟩
 | ret u=>obtain⟨v,σ',H',I,r,q⟩:=h;exact⟨v,σ',H',I.eI,r,q⟩
def PE.nox {e:Rb}{t:TE} (h:PE X.nox e t):PE X e t:=fun pins s σ H Q I hw=>
 P4 (h pins s σ H Q (I.jZ _) hw) (fun _ _ ⟨v,H',I',r,q⟩=>⟨v,H',I'.eI,r,q⟩) fun _ _ z=>RX z
def PT.nox {e:Rb}{t:TT} (h:PT X.nox e t):PT X e t:=fun pins s σ H Q I hw=>
 P4 (h pins s σ H Q (I.jZ _) hw) (fun _ _ ⟨H',I',q⟩=>⟨H',I'.eI,q⟩) fun _ _ z=>RX z
def PSs.nox {st:List TF} (h:PSs X.nox st t):PSs X st t:=fun pins s σ H D I hw=>
 P4 (h pins s σ H D (I.jZ _) hw) (fun _ _ q=>q.eI) fun _ _ z=>RX z
end
section
variable {X:Cx}{st:TF}{rest:List TF}{t u:TS}{e:Rb}{te:TE}{pos:Pos}
abbrev K2:TS:=fun D σ H=>D.nx σ H
abbrev NN (t u:TS):TS:=fun D σ H=>t { D with nx:=u D } σ H
def F8:PSs X [] K2:=fun _ _ σ H _ I h=>Tc ⟨σ,H,I,h⟩
def Di (h1:PS X st t) (h2:PSs X rest u):PSs X (st::rest) (NN t u):=by
 intro pins s σ H D I h
 refine T8 (thn (h1 pins s σ H { D with nx:=u D } I h) fun f s1 q=>?_)
 cases f with
 | next=>
  obtain⟨σ',H',I',q⟩:=q
  exact h2 pins s1 σ' H' D I' q
 | ret v=>exact q
 | brk=>exact q
 | cont=>exact q
def yf (h1:PS X st t):PSs X [st] t:=by
 intro pins s σ H D I h
 refine T8 (thn (h1 pins s σ H D I h) fun f s1 q=>?_)
 cases f with
 | next=>exact Tc q
 | ret v=>exact q
 | brk=>exact q
 | cont=>exact q
def Inv.quiet {pins:List (PN × Obj)}{σ:St}{H:Hp}{s:Pr} (I:Inv X pins σ H s):interactive X.env=false:=by simp[interactive,I.ok.kind]
abbrev JR (te:TE):TS:=fun D σ H=>te σ H fun _ H1=>D.nx σ H1
def DT (he:PE X e te) (hs:swapsWith e Wy pos.line X.env=pure false:=by rfl):PS X (.Expr e pos) (JR te):=by
 intro pins s σ H D I h
 exact wpAny_Expr_any (thn (he pins s σ H _ I h) fun v s1 ⟨x,H1,I1,r1,q1⟩=>⟨σ,H1,I1,q1⟩) I.quiet hs
abbrev M5 (te:TE):TS:=fun D σ H=>te σ H D.rt
def BH (he:PE X e te):PS X (.Return (Wx e) pos) (M5 te):=by
 intro pins s σ H D I h
 exact wpAny_Return_some (thn (he pins s σ H _ I h) fun v s1 ⟨x,H1,I1,r1,q1⟩=>⟨x,σ,H1,I1,r1,q1⟩)
abbrev M8 (c:TT) (t u:TS):TS:=fun D σ H=>c σ H fun b H1=>if b=Wz then t D σ H1 else u D σ H1
def Ko {c:Rb}{a b:List TF}{tc:TT} (hc:PT X c tc) (ha:PSs X a t) (hb:PSs X b u):PS X (.If c a b pos) (M8 tc t u):=by
 intro pins s σ H D I h
 refine wpAny_If (thn (hc pins s σ H _ I h) fun d s1 zq1=>?_)
 obtain⟨H1,I1,q1⟩:=zq1
 cases d with
 | true=>exact ha pins s1 σ H1 D I1 q1
 | false=>exact hb pins s1 σ H1 D I1 q1
end
@[inline]abbrev TG:=V->St->Hp->(St->Hp->Prop)->Prop
@[inline]abbrev TGs:=List V->St->Hp->(St->Hp->Prop)->Prop
abbrev PG (X:Cx) (target:Rb) (t:TG):Prop:=
 ∀pins s (σ:St) H v u Q , Inv X pins σ H s->RelV v u->t v σ H Q →
  wpAny (model X.prog X.w) X.A (assign target X.env u) (fun _ s'=>∃σ' H',Inv X pins σ' H' s'/\Q σ' H') X.xe s
abbrev PGs (X:Cx) (ts:List Rb) (t:TGs):Prop:=
 ∀pins s (σ:St) H vs us Q , Inv X pins σ H s->Vals vs us->t vs σ H Q →
  wpAny (model X.prog X.w) X.A (assignInOrder ((assignEach ts X.env).map (·.2)) us) (fun _ s'=>∃σ' H',Inv X pins σ' H' s'/\Q σ' H') X.xe s
@[inline]abbrev wD:=V->V->V->Hp->(Hp->Prop)->Prop
abbrev Et (X:Cx) (t:wD):Prop:=
 ∀pins s (σ:St) H o i v ov iv u Q , Inv X pins σ H s->RelV o ov->RelV i iv->RelV v u->t o i v H Q →
  wpAny (model X.prog X.w) X.A (setItem ov iv u) (fun _ s'=>∃H',Inv X pins σ H' s'/\Q H') X.xe s
@[inline]abbrev TIp:=V->V->Hp->VK->Prop
abbrev PIp (X:Cx) (op:Operator) (t:TIp):Prop:=
 ∀pins s (σ:St) H x y v u Q , Inv X pins σ H s->RelV x v->RelV y u->t x y H Q →
  wpAny (model X.prog X.w) X.A (inplaceOp op v u) (EP X pins σ Q) X.xe s
section
variable {X:Cx}{pos:Pos}
abbrev gy (i:Nat):TG:=fun v σ H Q=>Q (σ.set i (Wx v)) H
def jq (hN:X.N.Nodup) (hi:X.N[i]?=Wx x) (hx:Loc X.env.scope x) (hf:X.fn x=Wz\/X.env.scope.names.lookup x=Wx .local:=by first | exact .inl rfl | exact .inr rfl | assumption):PG X (.Name x pos) (gy i):=by
 intro pins s σ H v u Q I r h
 exact UJ (ie I hN hi hx r (fun s' I'=>⟨_,H,I',h⟩) hf)
abbrev Lq:TGs:=fun vs σ H Q=>vs=[]/\Q σ H
abbrev Dn (t:TG) (u:TGs):TGs:=fun vs σ H Q=>∃v r,vs=v::r/\t v σ H fun σ' H'=>u r σ' H' Q
def sE:PGs X [] Lq:=by
 intro pins s σ H vs us Q I r h
 obtain⟨e,h⟩:=h
 subst e
 cases r
 exact assignInOrder_nil ⟨σ,H,I,h⟩
def fQ {e:Rb}{es:List Rb}{t:TG}{u:TGs} (h1:PG X e t) (h2:PGs X es u)
  (hs:(assignEach (e::es) X.env).map (·.2)=assign e X.env::(assignEach es X.env).map (·.2):=by rfl):PGs X (e::es) (Dn t u):=by
 intro pins s σ H vs us Q I r h
 obtain⟨v,vr,e1,h⟩:=h
 subst e1
 cases r with
 | cons r rr=>
  rw[hs]
  refine assignInOrder_cons (thn (h1 pins s σ H _ _ _ I r h) fun _ s1 zq1=>?_)
  obtain⟨σ1,H1,I1,q1⟩:=zq1
  exact h2 pins s1 σ1 H1 _ _ Q I1 rr q1
abbrev Kp (K:Pk) (n:Nat) (t:TGs):TG:=fun v σ H Q=>∃a xs,v=.ref a/\SqT K H a xs/\xs.length=n/\t xs σ H Q
def wy {k:Nat} (hc:X.calm=Wz) (h:PGs X es t)
  (hn:(assignEach es X.env).length=n:=by rfl) (hst:(assignEach es X.env).findIdx? (·.1)=none:=by rfl):PG X (.Tuple es k pos) (Kp X.K n t):=by
 intro pins s σ H v u Q I r hw
 obtain⟨a,xs,e1,hq,hl,hw⟩:=hw
 subst e1
 cases r
 obtain⟨its,rv,ht,hz⟩:=I.tuple hq
 refine assign_Tuple_tuple (I.ok.hd hc) ht (by simp[hn,<- hl,rv.length]) hst fun h' hx=>?_
 have I1:Inv X pins σ H { s with heap:=h' }:=I.kept (t':=s.toks) fun b o e=>hx b o (PU (Pq e)) e
 exact h pins _ σ H xs _ Q I1 {} hw
abbrev NA (to ti:TE) (t:wD):TG:=fun v σ H Q=>to σ H fun o H1=>ti σ H1 fun i H2=>t o i v H2 fun H3=>Q σ H3
def G6 {o i:Rb}{to ti:TE}{t:wD} (ho:PE X o to) (hi:PE X i ti) (hs:Et X t)
  (ha:∀v,assign (.Subscript o i pos) X.env v=(do
   let ov ← holding [v] (eval o X.env)
   let iv ← holding [v,ov] (eval i X.env)
   standAt pos
   holding [v,ov,iv] (setItem ov iv v)
   release [v,ov,iv] []):=by intro _;rfl):PG X (.Subscript o i pos) (NA to ti t):=by
 intro pins s σ H v u Q I r h
 rw[ha]
 refine gV (P6 (thn (ho pins s σ H _ I h) fun ov s1 zq1=>?_))
 obtain⟨x,H1,I1,r1,q1⟩:=zq1
 refine gV (P6 (thn (hi pins s1 σ H1 _ I1 q1) fun iv s2 zq1=>?_))
 obtain⟨y,H2,I2,r2,q2⟩:=zq1
 refine gV (QR (gV (P6 (thn (hs pins s2 σ H2 x y v ov iv u _ I2 r1 r2 r q2) fun _ s3 zq1=>?_))))
 obtain⟨H3,I3,q3⟩:=zq1
 exact wpAny_release ⟨σ,H3,I3,q3⟩
abbrev Fb (te:TE) (g:TG):TS:=fun D σ H=>te σ H fun x H1=>g x σ H1 D.nx
def I_ {tg e:Rb}{te:TE}{g:TG} (he:PE X e te) (hg:PG X tg g) (hs:swapsWithSole [tg] e pos.line X.env=pure false:=by rfl) (hw:swappedStores [tg] e X.env=pure none:=by rfl)
  (h1:(assignEach [tg] X.env).map (·.2)=[assign tg X.env]:=by rfl):PS X (.Assign [tg] e pos) (Fb te g):=by
 intro pins s σ H D I h
 refine wpAny_Assign_stores (thn (he pins s σ H _ I h) fun v s1 ⟨x,H1,I1,r1,q1⟩=>?_) hs hw
 rw[h1]
 exact thn (hg pins s1 σ H1 x v _ I1 r1 q1) fun _ s2 q=>q
def Jr {i:Nat}{x:Str}{e:Rb}{te:TE}{pos':Pos} (hN:X.N.Nodup) (hi:X.N[i]?=Wx x) (hx:Loc X.env.scope x) (he:PE X e te) (hs:swapsWith e (Wx (.Name x pos')) pos.line X.env=pure false:=by rfl) (hf:X.fn x=Wz\/X.env.scope.names.lookup x=Wx .local:=by first | exact .inl rfl | exact .inr rfl | assumption) :
  PS X (.Assign [.Name x pos'] e pos) (Fb te (gy i)):=by
 intro pins s σ H D I h
 refine wpAny_Assign_Name (thn (he pins s σ H _ I h) fun v s1 ⟨y,H1,I1,r1,q1⟩=>?_) hs
 exact ie I1 hN hi hx r1 (fun s2 I2=>⟨_,H1,I2,q1⟩) hf
abbrev JY (to ti te:TE) (tget:V->V->Hp->VK->Prop) (tip:TIp) (tset:wD):TS:=fun D σ H=>to σ H fun o H1=>ti σ H1 fun i H2=>tget o i H2 fun x H3=>te σ H3 fun y H4=>tip x y H4 fun z H5=>tset o i z H5 fun H6=>D.nx σ H6
abbrev Lu (X:Cx) (t:V->V->Hp->VK->Prop):Prop:=
 ∀pins s (σ:St) H o i ov iv Q , Inv X pins σ H s->RelV o ov->RelV i iv->t o i H Q →
  wpAny (model X.prog X.w) X.A (getItem ov iv) (EP X pins σ Q) X.xe s
def FY {o i e:Rb}{to ti te:TE}{tget:V->V->Hp->VK->Prop}{tip:TIp}{tset:wD}{op:Operator}{tpos:Pos} (ho:PE X o to) (hi:PE X i ti) (hg:Lu X tget) (he:PE X e te) (hp:PIp X op tip) (hs:Et X tset)
  (ha:∀ov iv new,augStore i ov iv new=(do holding [new,ov,iv] (setItem ov iv new);release [new,ov,iv] [];pure .next):=by intros;rfl):PS X (.AugAssign (.Subscript o i tpos) op e pos) (JY to ti te tget tip tset):=by
 intro pins s σ H D I h
 refine wpAny_AugAssign_SubscriptAny (thn (ho pins s σ H _ I h) fun ov s1 ⟨x1,H1,I1,r1,q1⟩=>?_) ha
 refine thn (hi pins s1 σ H1 _ I1 q1) fun iv s2 zq1=>?_
 obtain⟨x2,H2,I2,r2,q2⟩:=zq1
 refine thn (hg pins s2 σ H2 x1 x2 ov iv _ I2 r1 r2 q2) fun old s3 zq1=>?_
 obtain⟨x3,H3,I3,r3,q3⟩:=zq1
 refine thn (he pins s3 σ H3 _ I3 q3) fun v s4 zq1=>?_
 obtain⟨x4,H4,I4,r4,q4⟩:=zq1
 refine thn (hp pins s4 σ H4 x3 x4 old v _ I4 r3 r4 q4) fun new s5 zq1=>?_
 obtain⟨x5,H5,I5,r5,q5⟩:=zq1
 exact thn (hs pins s5 σ H5 x1 x2 x5 ov iv new _ I5 r1 r2 r5 q5) fun _ s6 ⟨H6,I6,q6⟩=>⟨σ,H6,I6,q6⟩
abbrev ipI (f:Int->Int->Int):TIp:=fun x y H Q=>∃i j,x=.int i/\y=.int j/\Q (.int (f i j)) H
def IU:PIp X .Add (ipI fun i j=>i+j):=by
 intro pins s σ H x y v u Q I r1 r2 h
 obtain⟨i,j,e1,e2,q⟩:=h
 subst e1;subst e2
 obtain⟨t,rfl⟩:=r1
 obtain⟨t',rfl⟩:=r2
 exact iadd_int ⟨.int _,H,I.tok _,⟨_,rfl⟩,q⟩
end
structure It where
 go:Nat->Hp->Prop
 yld:Nat->Hp->V->Hp->Prop
 stop:Nat->Hp->Prop
abbrev lJ (X:Cx) (pins:List (PN × Obj)) (H:Hp) (b:PN):Prop:=
 H b=Wy/\b≠X.env.locals/\b∉X.fs/\(b∈X.ex\/X.ax.heap.objs.size<=b)/\(∀x c,X.env.cells.lookup x=Wx c->c≠b)/\∀p∈X.pn++pins,p.1≠b
def Inv.Ff {σ:St}{b:PN} (I:Inv X pins σ H s) (hb:s.heap.objs.size<=b) (hn:H' b=Wy):lJ X pins H' b:=by
 refine⟨hn,Rz (P8 I.lt hb),I.LH hb,.inr (P7 I.sz hb),fun x c e z=>?_,fun p hp z=>?_⟩
 ·obtain⟨v,q⟩:=I.cell x c e
  exact absurd (P8 q.lt (by simp_all)) (Ra _)
 ·exact absurd (P8 (Pq (I.pin p hp).1) (by simp_all)) (Ra _)
structure Turn (P) (w) (K) (tg) (J:It) (fp:List PN) (it) (tn:Nat->QQ->Prop):Prop where
 mem:it∈fp
 obj:∀i h,tn i h->∀b∈fp,∃o,h.get? b=some o/\∀v,o.data≠.cell v
 keep:∀i h h',tn i h->(∀b∈fp,∀o,h.get? b=some o->h'.get? b=some o)->tn i h'
 item:∀X , X.prog=P->X.w=w->X.K=K->X.calm=true->∀i pins s (σ:St) H E , Inv X pins σ H s->(∀b∈fp,lJ X pins H b)->tn i s.heap->J.go i H →
  wpAny (model P w) X.A (pyNext (.ref it)) (fun r s1=>∃u,r=some u ∧
   wpAny (model P w) X.A (letOwnedTupleGo tg (.ref it) u) (fun _ s2=>∃x H',Inv X pins σ H' s2/\RelV x u/\J.yld i H x H'/\tn (i+1) s2.heap/\∀b∈fp,H' b=none) E s1) E s
 done:∀X , X.prog=P->X.w=w->X.K=K->X.calm=true->∀i pins s (σ:St) H E , Inv X pins σ H s->(∀b∈fp,lJ X pins H b)->tn i s.heap->J.stop i H →
  wpAny (model P w) X.A (pyNext (.ref it)) (fun r s1=>r=none/\Inv X pins σ H s1) E s
 self:∀A i s Q E , tn i s.heap->Q (.ref it) s->wpAny (model P w) A (pyIter (.ref it)) Q E s
@[inline]abbrev TI:=St->Hp->(It->Hp->Prop)->Prop
abbrev PIE (X:Cx) (pins:List (PN × Obj)) (σ:St) (tg:Rb) (R:It->Hp->Prop) (itv:Pp) (s2:Pr):Prop:=
 ∃it fp tn J H',itv=.ref it/\Inv X pins σ H' s2/\Turn X.prog X.w X.K tg J fp it tn/\tn 0 s2.heap/\(∀b∈fp,lJ X pins H' b)/\R J H'
abbrev PI (X:Cx) (tg iter:Rb) (wi:TI):Prop:=
 ∀pins s (σ:St) H R , Inv X pins σ H s->wi σ H R →
  wpAny (model X.prog X.w) X.A (eval iter X.env) (fun v s1=>wpAny (model X.prog X.w) X.A (pyIter v) (PIE X pins σ tg R) X.xe s1) X.xe s
def AU (ho:s.heap.get? it=Wx o) (hc:o.cls=.type n) (hd:o.data=.fields vs)
  (hn:["enumerate", "zip", "dict_itemiterator", "dict_reverseitemiterator", "odict_iterator", "itertools.zip_longest", "itertools.pairwise"].contains n=WA) (hQ:Q () s):wpAny M A (letOwnedTupleGo tg (.ref it) u) Q E s:=by
 unfold letOwnedTupleGo
 cases tg<;>first
  | exact Pl hQ
  | (cases u<;>first
    | exact Pl hQ
    | (refine gV (V_ ho ?_)
       rw[hc,hd]
       show wpAny M A (if (["enumerate", "zip", "dict_itemiterator", "dict_reverseitemiterator", "odict_iterator", "itertools.zip_longest", "itertools.pairwise"].contains n&&vs[0]? == Wx (rawInt _))=Wz then _ else _) Q E s
       rw[if_neg (by simp_all)]
       exact Pl hQ))
abbrev Itl (K:Pk) (a:PN):It:=
 ⟨fun i H=>∃xs x,SqL K H a xs/\xs[i]?=Wx x,fun i H x H'=>H'=H/\∀xs,SqL K H a xs->xs[i]?=Wx x,fun i H=>∃xs,SqL K H a xs/\xs.length<=i⟩
abbrev Itt (K:Pk) (a:PN):It:=
 ⟨fun i H=>∃xs x,SqT K H a xs/\xs[i]?=Wx x,fun i H x H'=>H'=H/\∀xs,SqT K H a xs->xs[i]?=Wx x,fun i H=>∃xs,SqT K H a xs/\xs.length<=i⟩
abbrev Itr (lo:Int) (n:Nat):It:=⟨fun i _=>i<n,fun i H x H'=>H'=H/\x=.int (lo+i),fun i _=>n<=i⟩
def Aj {K:Pk} (a it):Turn P w K tg (Itl K a) [it] it (fun i h=>h.IsListIter it a i) where
 mem:={..}
 obj:=fun i h st b hb=>by
  have e:b=it:=by simp_all
  subst e
  obtain⟨o,e,c,d⟩:=st
  simp_all
 keep:=fun i h h' st k=>st.at fun o e=>k it {..} o e
 item:=by
  intro X hP hw hK hc i pins s σ H E I hf st hg
  subst hP hw hK
  obtain⟨xs,x,hq,hx⟩:=hg
  obtain⟨its,rv,p,hz⟩:=I.list hq
  obtain⟨u,hu,ru⟩:=rv.get hx
  obtain⟨f0,f1,f2,f3,f4,f5⟩:=hf it {..}
  refine wpAny_pyNext_list_item st p.isList (x:=u) (by simp_all) fun h' st' sb=>?_
  have I1:Inv X pins σ H { s with heap:=h' }:=I.turned (t':=s.toks) (fun b o hb e=>(sb.2 b hb).trans e) f0 f1 f3 f4 f5
  obtain⟨o,e,c,d⟩:=id st'
  exact⟨u,rfl,AU (s:={ s with heap:=h' }) e c d (by decide) ⟨x,H,I1,ru,⟨rfl,fun ys hy=>by rw[I.nM hy hq];exact hx⟩,st',fun b hb=>(hf b hb).1⟩⟩
 done:=by
  intro X hP hw hK hc i pins s σ H E I hf st hg
  subst hP hw hK
  obtain⟨xs,hq,hx⟩:=hg
  obtain⟨its,rv,p,hz⟩:=I.list hq
  obtain⟨f0,f1,f2,f3,f4,f5⟩:=hf it {..}
  have hl:=rv.length
  exact wpAny_pyNext_list_end (I.ok.hd hc) st p.isList (by grind) fun h' eb=>⟨rfl,I.turned (t':=s.toks) (fun b o hb e=>eb b o hb e) f0 f1 f3 f4 f5⟩
 self:=fun _ _ _ _ _ st h=>wpAny_pyIter_listiter st h
def wd {K:Pk} (a it):Turn P w K tg (Itt K a) [it] it (fun i h=>h.IsTupleIter it a i) where
 mem:={..}
 obj:=fun i h st b hb=>by
  have e:b=it:=by simp_all
  subst e
  obtain⟨o,e,c,d⟩:=st
  simp_all
 keep:=fun i h h' st k=>st.at fun o e=>k it {..} o e
 item:=by
  intro X hP hw hK hc i pins s σ H E I hf st hg
  subst hP hw hK
  obtain⟨xs,x,hq,hx⟩:=hg
  obtain⟨its,rv,p,hz⟩:=I.tuple hq
  obtain⟨u,hu,ru⟩:=rv.get hx
  obtain⟨f0,f1,f2,f3,f4,f5⟩:=hf it {..}
  refine wpAny_pyNext_tuple_item st (show s.heap.IsTuple a its.toArray from p) (x:=u) (by simp_all) fun h' st' sb=>?_
  have I1:Inv X pins σ H { s with heap:=h' }:=I.turned (t':=s.toks) (fun b o hb e=>(sb.2 b hb).trans e) f0 f1 f3 f4 f5
  obtain⟨o,e,c,d⟩:=id st'
  exact⟨u,rfl,AU (s:={ s with heap:=h' }) e c d (by decide) ⟨x,H,I1,ru,⟨rfl,fun ys hy=>by rw[I.kL hy hq];exact hx⟩,st',fun b hb=>(hf b hb).1⟩⟩
 done:=by
  intro X hP hw hK hc i pins s σ H E I hf st hg
  subst hP hw hK
  obtain⟨xs,hq,hx⟩:=hg
  obtain⟨its,rv,p,hz⟩:=I.tuple hq
  obtain⟨f0,f1,f2,f3,f4,f5⟩:=hf it {..}
  have hl:=rv.length
  exact wpAny_pyNext_tuple_end (I.ok.hd hc) st (show s.heap.IsTuple a its.toArray from p) (by grind) fun h' eb=>⟨rfl,I.turned (t':=s.toks) (fun b o hb e=>eb b o hb e) f0 f1 f3 f4 f5⟩
 self:=fun _ _ _ _ _ st h=>wpAny_pyIter_tupleiter st h
def we {K:Pk} (it) (lo) (n):Turn P w K tg (Itr lo n) [it] it (fun i h=>IsRangeIter h it (lo+(i:Nat)*1) ((n:Int) - (i:Nat)) 1) where
 mem:={..}
 obj:=fun i h st b hb=>by
  simp_all
 keep:=fun i h h' st k=>k it {..} _ st
 item:=by
  intro X hP hw hK hc i pins s σ H E I hf st hg
  subst hP hw hK
  obtain⟨f0,f1,f2,f3,f4,f5⟩:=hf it {..}
  have W:=Wr.range (prog:=X.prog) (w:=X.w) (I.ok.hd hc) it lo 1 n
  refine W.item i s _ _ hg st fun v h' tk hv st' kk=>?_
  obtain⟨t,rfl⟩:=hv
  have I1:Inv X pins σ H { s with heap:=h',toks:=tk }:=I.turned (fun b o hb e=>kk b o (by simp_all) e) f0 f1 f3 f4 f5
  refine⟨_,rfl,AU (s:={ s with heap:=h',toks:=tk }) (n:="range_iterator") st' rfl rfl (by decide) ⟨.int (lo+i),H,I1,⟨t,?_⟩,⟨rfl,rfl⟩,st',fun b hb=>(hf b hb).1⟩⟩
  simp
 done:=by
  intro X hP hw hK hc i pins s σ H E I hf st hg
  subst hP hw hK
  obtain⟨f0,f1,f2,f3,f4,f5⟩:=hf it {..}
  exact wpAny_pyNext_range_end (I.ok.hd hc) st (by have:n<=i:=hg;lia) fun h' eb=>⟨rfl,I.turned (t':=s.toks) (fun b o hb e=>eb b o hb e) f0 f1 f3 f4 f5⟩
 self:=fun _ _ _ _ _ st h=>wpAny_pyIter_rangeiter st h
section
variable {X:Cx}{tg:Rb}
def vn {σ:St}{lo hi:Int} (I:Inv X pins σ H s) (h1:-(2 ^ 62)<=lo) (h2:lo<2 ^ 62) (h3:-(2 ^ 62)<=hi) (h4:hi<2 ^ 62)
  (q:R (Itr lo (hi - lo).toNat) H):wpAny (model X.prog X.w) X.A (pyIter (.ref s.heap.objs.size)) (PIE X pins σ tg R) E { s with heap:=s.heap.push { cls:=.type "range", data:=.fields #[.int lo t,.int hi u,.int 1 v] },toks:=tk }:=by
 refine wpAny_pyIter_range (IsRange.new ..) (small_one h1 h2 h3 h4) ?_
 have I1:Inv X pins σ H { s with heap:=s.heap.push { cls:=.type "range", data:=.fields #[.int lo t,.int hi u,.int 1 v] },toks:=tk }:=I.kept fun b o e=>Pn _ e
 refine⟨(s.heap.push { cls:=.type "range", data:=.fields #[.int lo t,.int hi u,.int 1 v] }).objs.size,[(s.heap.push { cls:=.type "range", data:=.fields #[.int lo t,.int hi u,.int 1 v] }).objs.size],_,_,H,rfl,
  I1.kept (t':=tk) fun b o e=>Pn _ e,we _ lo (hi - lo).toNat,?_,fun b hb=>?_,q⟩
 ·have e1:lo+((0:Nat):Int)*1=lo:={..}
  have e2:(((hi - lo).toNat:Nat):Int) - ((0:Nat):Int)=Qq.Range.rangeSize lo hi 1:=by rw[rangeSize_one];lia
  show IsRangeIter _ _ (lo+((0:Nat):Int)*1) ((((hi - lo).toNat:Nat):Int) - ((0:Nat):Int)) 1
  rw[e1,e2]
  exact Pu _ rfl
 ·have e:b=(s.heap.push { cls:=.type "range", data:=.fields #[.int lo t,.int hi u,.int 1 v] }).objs.size:=by simp_all
  subst e
  exact I1.Ff (Pt _) (I1.hok.fresh (Pt _))
abbrev Kh (ta:TA):TI:=fun σ H R=>ta σ H fun vs H1=>∃j:Int,vs=[.int j]/\-(2 ^ 62)<=j/\j<2 ^ 62/\R (Itr 0 j.toNat) H1
abbrev Ka (ta:TA):TI:=fun σ H R=>ta σ H fun vs H1=>∃i j:Int,vs=[.int i,.int j]/\(-(2 ^ 62)<=i/\i<2 ^ 62/\-(2 ^ 62)<=j/\j<2 ^ 62)/\R (Itr i (j - i).toNat) H1
def zq {a:Rb}{ta:TA}{p pos:Pos} (hg:Gl X "range") (hm:X.mg "range" = Wy) (ha:PA X [a] ta) (hs:starEach [a] X.env=[(WA,eval a X.env)]:=by rfl):PI X tg (.Call (.Name "range" p) [a] [] pos) (Kh ta):=by
 intro pins s σ H R I h
 refine Call_ (kc I hg hm boot_range (RE (thn (ha pos pins s σ H _ I h) fun us s1 ⟨vs,H1,I1,r1,q1⟩=>?_) hs rfl))
 obtain⟨j,e,q1,q2,q⟩:=q1
 subst e
 cases r1 with
 | cons r rr=>
  cases rr
  obtain⟨t,rfl⟩:=r
  exact call_range_1 (vn I1 {} {} q1 q2 (by simp_all))
def zZ {a b:Rb}{ta:TA}{p pos:Pos} (hg:Gl X "range") (hm:X.mg "range" = Wy) (ha:PA X [a,b] ta) (hs:starEach [a,b] X.env=[(WA,eval a X.env),(WA,eval b X.env)]:=by rfl) (hs2:starEach [b] X.env=[(WA,eval b X.env)]:=by rfl) :
  PI X tg (.Call (.Name "range" p) [a,b] [] pos) (Ka ta):=by
 intro pins s σ H R I h
 refine Call_ (kc I hg hm boot_range (RE (thn (ha pos pins s σ H _ I h) fun us s1 ⟨vs,H1,I1,r1,q1⟩=>?_) (by rw[hs,hs2]) (by rw[hs2];rfl)))
 obtain⟨i,j,e,⟨q1,q2,q3,q4⟩,q⟩:=q1
 subst e
 cases r1 with
 | cons r rr=>
  cases rr with
  | cons r' rr=>
   cases rr
   obtain⟨t,rfl⟩:=r
   obtain⟨t',rfl⟩:=r'
   exact call_range_2 (vn I1 q1 q2 q3 q4 q)
abbrev N8 (wi:TI) (g:TG) (tb:TS):TS:=fun D σ H=>wi σ H fun J H1=>∃W:Nat->Nat->St->Hp->Prop,(∃m,W 0 m σ H1)/\∀i m σ H,W i m σ H →
 (J.stop i H/\D.nx σ H)\/(J.go i H/\∃N:St->Hp->Prop,(∀σ' H',N σ' H'->∃m',m'<m/\W (i+1) m' σ' H')/\∀x H',J.yld i H x H'->g x σ H' fun σ2 H2=>tb { D with nx:=N,ct:=N,bk:=D.nx } σ2 H2)
abbrev gH (fp:List PN) (h:QQ):List (PN × Obj):=fp.filterMap fun b=>(h.get? b).map fun o=>(b,o)
def cg (hb:b∈fp) (e:h.get? b=Wx o):(b,o)∈gH fp h:=Td.mpr ⟨b,hb,by grind⟩
def zI (hp:p∈gH fp h):p.1∈fp/\h.get? p.1=Wx p.2:=by
 obtain⟨b,hb,e⟩:=Td.mp hp
 cases q:h.get? b with
 | none=>simp_all
 | some o=>
  grind
def Inv.pinned {σ:St} (I:Inv X pins σ H s) (hf:∀b∈fp,lJ X pins H b) (ho:∀b∈fp,∃o,s.heap.get? b=Wx o/\∀v,o.data≠.cell v):Inv X (pins++gH fp s.heap) σ H s:=
 I.my fun p hp=>(Qr.mp hp).elim (fun z=>I.pin p (Px _ z)) fun z=>by
  obtain⟨hb,e⟩:=zI z
  obtain⟨f0,f1,f2,_⟩:=hf p.1 hb
  grind
def Inv.fM {σ:St} (I:Inv X (pins++pl) σ H s):Inv X pins σ H s:=I.my fun p hp=>I.pin p (Px _ (Ru _ hp))
def IZ {iter:Rb}{body:List TF}{wi:TI}{g:TG}{tb:TS}{pos:Pos} (hp:UK (model X.prog X.w) X.A X.env X.xe) (hc:X.calm=Wz) (hi:PI X tg iter wi) (hg:PG X tg g) (hb:PSs X body tb)
  (hs:∀x,foldedSetIterable iter X.env x=pure x:=by intro _;rfl):PS X (.For tg iter body [] pos) (N8 wi g tb):=by
 intro pins s σ H D I h
 refine wpAny_For (thn (hi pins s σ H _ I h) fun v s1 h1=>thn h1 fun itv s2 h2=>?_) hs
 obtain⟨it,fp,tn,J,H2,e,I2,T,st2,f2,W,⟨m0,w0⟩,turn⟩:=h2
 subst e
 -- what stays Wz of the iterator's objects through the loop
 have stat:∀{H':Hp},(∀b∈fp,H' b=Wy)->∀b∈fp,lJ X pins H' b:=fun hn b hb=>⟨hn b hb,(f2 b hb).2⟩
 refine codeAny_forLoop_any (fun n s'=>∃i σ' H',Inv X pins σ' H' s'/\tn i s'.heap/\(∀b∈fp,H' b=Wy)/\W i n σ' H') ?_ m0 ⟨0,σ,H2,I2,st2,fun b hb=>(f2 b hb).1,w0⟩
 rintro n s3 ⟨i,σ3,H3,I3,st3,fr3,w3⟩
 rcases turn i n σ3 H3 w3 with⟨stop,qn⟩ | ⟨go,N,hN,step⟩
 ·refine Te hp (thn (T.done X rfl rfl rfl hc i pins s3 σ3 H3 X.xe I3 (stat fr3) st3 stop) fun r s4 zq1=>?_)
  obtain⟨hr,I4⟩:=zq1
  subst hr
  exact Tc ⟨σ3,H3,I4,qn⟩
 ·refine Te hp (thn (T.item X rfl rfl rfl hc i pins s3 σ3 H3 X.xe I3 (stat fr3) st3 go) fun r s4 zq1=>?_)
  obtain⟨u,hr,h4⟩:=zq1
  subst hr
  refine Te hp (thn h4 fun _ s5 zq1=>?_)
  obtain⟨x,H5,I5,r5,y5,st5,fr5⟩:=zq1
  have I5':=I5.pinned (stat fr5) (T.obj _ _ st5)
  refine Te hp (thn (hg _ s5 σ3 H5 x u _ I5' r5 (step x H5 y5)) fun _ s6 zq1=>?_)
  obtain⟨σ6,H6,I6,q6⟩:=zq1
  refine Te hp (thn (hb _ s6 σ6 H6 _ I6 q6) fun f s7 q7=>?_)
  have again:∀{σ7:St} {H7:Hp},Inv X (pins++gH fp s5.heap) σ7 H7 s7->N σ7 H7->∃m,m<n/\∃i σ' H',Inv X pins σ' H' s7/\tn i s7.heap/\(∀b∈fp,H' b=Wy)/\W i m σ' H':=fun{σ7 H7} I7 n7=>by
   obtain⟨m',hm,w7⟩:=hN σ7 H7 n7
   refine⟨m',hm,i+1,σ7,H7,I7.fM,T.keep _ _ _ st5 fun b hb o e=>(I7.pin (b,o) (Px _ (Px _ (cg hb e)))).1,fun b hb=>?_,w7⟩
   obtain⟨o,e,d⟩:=T.obj _ _ st5 b hb
   exact(I7.pin (b,o) (Px _ (Px _ (cg hb e)))).2.1
  cases f with
  | next=>obtain⟨σ7,H7,I7,n7⟩:=q7;exact again I7 n7
  | cont=>obtain⟨σ7,H7,I7,n7⟩:=q7;exact again I7 n7
  | brk=>obtain⟨σ7,H7,I7,q7⟩:=q7;exact⟨σ7,H7,I7.fM,q7⟩
  | ret v=>obtain⟨x7,σ7,H7,I7,r7,q7⟩:=q7;exact⟨x7,σ7,H7,I7.fM,r7,q7⟩
end
@[inline]abbrev R2:=V->V->Hp->VK->Prop
abbrev OpR (X:Cx) (f:Pp->Pp->Sem Pp) (r:R2):Prop:=
 ∀pins s (σ:St) H x y v u Q , Inv X pins σ H s->RelV x v->RelV y u->r x y H Q →
  wpAny (model X.prog X.w) X.A (f v u) (EP X pins σ Q) X.xe s
abbrev UnR (X:Cx) (f:Pp->Sem Pp) (r:V->Hp->VK->Prop):Prop:=
 ∀pins s (σ:St) H x v Q , Inv X pins σ H s->RelV x v->r x H Q →
  wpAny (model X.prog X.w) X.A (f v) (EP X pins σ Q) X.xe s
abbrev aV (X:Cx) (f:Pp) (r:List V->Hp->VK->Prop):Prop:=
 ∀pins s (σ:St) H xs us Q , Inv X pins σ H s->Vals xs us->r xs H Q →
  wpAny (model X.prog X.w) X.A (call f us) (EP X pins σ Q) X.xe s
abbrev M0 (X:Cx) (r:V->Hp->(Bool->Hp->Prop)->Prop):Prop:=
 ∀pins s (σ:St) H x v Q , Inv X pins σ H s->RelV x v->r x H Q →
  wpAny (model X.prog X.w) X.A (truthy v) (TP X pins σ Q) X.xe s
abbrev tOp (r:R2) (ta tb:TE):TE:=fun σ H Q=>ta σ H fun x H1=>tb σ H1 fun y H2=>r x y H2 Q
abbrev tUn (r:V->Hp->VK->Prop) (ta:TE):TE:=fun σ H Q=>ta σ H fun x H1=>r x H1 Q
abbrev rI (C:Int->Int->Prop) (g:Int->Int->V):R2:=fun x y H Q=>∃i j,x=.int i/\y=.int j/\C i j/\Q (g i j) H
abbrev rI0 (g:Int->Int->V):R2:=fun x y H Q=>∃i j,x=.int i/\y=.int j/\Q (g i j) H
abbrev rU (g:Int->V):V->Hp->VK->Prop:=fun x H Q=>∃i,x=.int i/\Q (g i) H
section
variable {X:Cx}{a b c:Rb}{ta tb tc:TE}{pos:Pos}
def Ji (ha:PE X a ta) (hb:PE X b tb){σ:St}{R:V->V->Hp->Prop} (I:Inv X pins σ H s)
  (h:ta σ H fun x H1=>tb σ H1 fun y H2=>R x y H2) {f:Pp->Pp->Sem Pp}
  (hf:∀v u s2 x y H2,Inv X pins σ H2 s2->RelV x v->RelV y u->R x y H2->wpAny (model X.prog X.w) X.A (f v u) Q X.xe s2) :
  wpAny (model X.prog X.w) X.A (eval a X.env) (fun v s₁=>wpAny (model X.prog X.w) X.A (eval b X.env) (fun u s₂=>wpAny (model X.prog X.w) X.A (f v u) Q X.xe s₂) X.xe s₁) X.xe s:=by
 refine thn (ha pins s σ H _ I h) fun v s1 zq1=>?_
 obtain⟨x,H1,I1,r1,q1⟩:=zq1
 refine thn (hb pins s1 σ H1 _ I1 q1) fun u s2 zq1=>?_
 obtain⟨y,H2,I2,r2,q2⟩:=zq1
 grind
def LQ (ho:OpR X (binaryOp op) r) (ha:PE X a ta) (hb:PE X b tb):PE X (.BinOp a op b pos) (tOp r ta tb):=by
 intro pins s σ H Q I h
 exact wpAny_BinOp (Ji ha hb I h fun v u s2 x y H2 I2 rx ry q=>ho pins s2 σ H2 x y v u Q I2 rx ry q)
def Lf {op:UnaryOp}{r:V->Hp->VK->Prop} (ho:UnR X (unaryOp op) r) (ha:PE X a ta):PE X (.UnaryOp op a pos) (tUn r ta):=by
 intro pins s σ H Q I h
 exact UnaryOp_ (thn (ha pins s σ H _ I h) fun v s1 ⟨x,H1,I1,r1,q1⟩=>ho pins s1 σ H1 x v Q I1 r1 q1)
def opI {g:Int->Int->Int}
  (rule:∀i j t u s Q E , C i j->Q (.int (g i j) s.toks) { s with toks:=s.toks+1 }->wpAny (model X.prog X.w) X.A (f (.int i t) (.int j u)) Q E s) :
  OpR X f (rI C fun i j=>.int (g i j)):=by
 intro pins s σ H x y v u Q I rx ry h
 obtain⟨i,j,rfl,rfl,hc,q⟩:=h
 obtain⟨t,rfl⟩:=rx
 obtain⟨t',rfl⟩:=ry
 exact rule i j t t' s _ _ hc ⟨.int (g i j),H,I.tok _,⟨_,rfl⟩,q⟩
def JU {g:Int->Int->Int}
  (rule:∀i j t u s Q E , Q (.int (g i j) s.toks) { s with toks:=s.toks+1 }->wpAny (model X.prog X.w) X.A (f (.int i t) (.int j u)) Q E s) :
  OpR X f (rI0 fun i j=>.int (g i j)):=by
 intro pins s σ H x y v u Q I rx ry h
 obtain⟨i,j,rfl,rfl,q⟩:=h
 obtain⟨t,rfl⟩:=rx
 obtain⟨t',rfl⟩:=ry
 exact rule i j t t' s _ _ ⟨.int (g i j),H,I.tok _,⟨_,rfl⟩,q⟩
def E_ {g:Int->Int->Bool}
  (rule:∀i j t u s Q E , Q (.bool (g i j)) s->wpAny (model X.prog X.w) X.A (f (.int i t) (.int j u)) Q E s) :
  OpR X f (rI0 fun i j=>.bl (g i j)):=by
 intro pins s σ H x y v u Q I rx ry h
 obtain⟨i,j,rfl,rfl,q⟩:=h
 obtain⟨t,rfl⟩:=rx
 obtain⟨t',rfl⟩:=ry
 exact rule i j t t' s _ _ ⟨.bl (g i j),H,I,rfl,q⟩
def HR:OpR X (binaryOp .Add) (rI0 fun i j=>.int (i+j)):=JU fun _ _ _ _ _ _ _ q=>add_int q
def IC:OpR X (binaryOp .Sub) (rI0 fun i j=>.int (i - j)):=JU fun _ _ _ _ _ _ _ q=>sub_int q
def Ir:OpR X (binaryOp .Mod) (rI (fun _ j=>0<j) fun i j=>.int (i % j)):=opI fun i j _ _ _ _ _ hc q=>by
 have h1:(0:Int)<j:=hc
 exact mod_int' {} (by grind)
def unI {g:Int->Int}
  (rule:∀i t s Q E , Q (.int (g i) s.toks) { s with toks:=s.toks+1 }->wpAny (model X.prog X.w) X.A (f (.int i t)) Q E s) :
  UnR X f (rU fun i=>.int (g i)):=by
 intro pins s σ H x v Q I rx h
 obtain⟨i,rfl,q⟩:=h
 obtain⟨t,rfl⟩:=rx
 exact rule i t s _ _ ⟨.int (g i),H,I.tok _,⟨_,rfl⟩,q⟩
def vG:UnR X (unaryOp .USub) (rU fun i=>.int (-i)):=unI fun _ _ _ _ _ q=>neg_int q
end
section
variable {X:Cx}{a b c:Rb}{ta tb tc:TE}{pos:Pos}
def F9:OpR X (compareOp .Lt) (rI0 fun i j=>.bl (decide (i<j))):=E_ fun _ _ _ _ _ _ _ q=>lt_int q
def xK:OpR X (compareOp .LtE) (rI0 fun i j=>.bl (decide (i<=j))):=E_ fun _ _ _ _ _ _ _ q=>le_int q
def Kx:OpR X (compareOp .Gt) (rI0 fun i j=>.bl (decide (j<i))):=E_ fun _ _ _ _ _ _ _ q=>gt_int q
def Kw:OpR X (compareOp .GtE) (rI0 fun i j=>.bl (decide (j<=i))):=E_ fun _ _ _ _ _ _ _ q=>ge_int q
def cj (b) (h:op≠.In:=by decide) (h2:op≠.NotIn:=by decide):behindInMarks op b=false:=by
 have e1:(op == CmpOp.In)=false:=by simp_all
 have e2:(op == CmpOp.NotIn)=false:=by simp_all
 cases b<;>simp[behindInMarks,e1,e2]
def FW (ho:OpR X (compareOp op) r) (ha:PE X a ta) (hb:PE X b tb) (hm:behindInMarks op b=WA):PE X (.Compare a [op] [b] pos) (tOp r ta tb):=by
 intro pins s σ H Q I h
 exact wpAny_Compare1 (Ji ha hb I h fun v u s2 x y H2 I2 rx ry q=>ho pins s2 σ H2 x y v u Q I2 rx ry q) hm
abbrev Dx (t:TE):TT:=fun σ H Q=>t σ H fun x H'=>∃k,x=.bl k/\Q k H'
def Em {op:CmpOp}{r:R2} (ho:OpR X (compareOp op) r) (ha:PE X a ta) (hb:PE X b tb) (hm:behindInMarks op b=WA):PT X (.Compare a [op] [b] pos) (Dx (tOp r ta tb)):=by
 intro pins s σ H Q I h
 refine wpAny_isTrue_Compare1 (thn (ha pins s σ H _ I h) fun v s1 ⟨x,H1,I1,r1,q1⟩=>thn (hb pins s1 σ H1 _ I1 q1) fun u s2 ⟨y,H2,I2,r2,q2⟩=>
  thn (ho pins s2 σ H2 x y v u _ I2 r1 r2 q2) fun c s3 ⟨z,H3,I3,r3,k,e,q3⟩=>?_) hm
 subst e
 cases r3
 exact RB ⟨H3,I3,q3⟩
abbrev vT (r r':R2) (ta tb tc:TE):TE:=fun σ H Q=>ta σ H fun x H1=>tb σ H1 fun y H2=>r x y H2 fun z H3=>∃k,z=.bl k ∧
 (if k=Wz then tc σ H3 fun w' H4=>r' y w' H4 Q else Q (.bl WA) H3)
def Cc {op op':CmpOp}{r r':R2} (ho:OpR X (compareOp op) r) (ho':OpR X (compareOp op') r') (ha:PE X a ta) (hb:PE X b tb) (hc:PE X c tc)
  (hm:lastMarks [op,op'] [b,c]=false:=by with_unfolding_all rfl):PE X (.Compare a [op,op'] [b,c] pos) (vT r r' ta tb tc):=by
 intro pins s σ H Q I h
 refine Compare_chain (thn (ha pins s σ H _ I h) fun v s1 ⟨x,H1,I1,r1,q1⟩=>chain_link (thn (hb pins s1 σ H1 _ I1 q1) fun u s2 ⟨y,H2,I2,r2,q2⟩=>
  thn (ho pins s2 σ H2 x y v u _ I2 r1 r2 q2) fun d s3 ⟨z,H3,I3,r3,k,e,q3⟩=>?_)) hm
 subst e
 cases r3
 refine RB ?_
 cases k with
 | false=>exact ite_ff ⟨.bl WA,H3,I3,rfl,q3⟩
 | true=>exact ite_tt (chain_last (thn (hc pins s3 σ H3 _ I3 q3) fun w' s4 ⟨z',H4,I4,r4,q4⟩=>ho' pins s4 σ H4 y z' u w' Q I4 r2 r4 q4))
def Bm {op op':CmpOp}{r r':R2} (ho:OpR X (compareOp op) r) (ho':OpR X (compareOp op') r') (ha:PE X a ta) (hb:PE X b tb) (hc:PE X c tc)
  (hm:lastMarks [op,op'] [b,c]=false:=by with_unfolding_all rfl):PT X (.Compare a [op,op'] [b,c] pos) (Dx (vT r r' ta tb tc)):=by
 intro pins s σ H Q I h
 refine isTrue_chain (thn (ha pins s σ H _ I h) fun v s1 ⟨x,H1,I1,r1,q1⟩=>test_link (thn (hb pins s1 σ H1 _ I1 q1) fun u s2 ⟨y,H2,I2,r2,q2⟩=>
  thn (ho pins s2 σ H2 x y v u _ I2 r1 r2 q2) fun d s3 ⟨z,H3,I3,r3,k,e,q3⟩=>?_)) hm
 subst e
 cases r3
 refine RB ?_
 cases k with
 | false=>
  obtain⟨k',e',q'⟩:=q3
  cases e'
  exact ite_ff ⟨H3,I3,q'⟩
 | true=>
  refine ite_tt (test_last (thn (hc pins s3 σ H3 _ I3 q3) fun w' s4 ⟨z',H4,I4,r4,q4⟩=>thn (ho' pins s4 σ H4 y z' u w' _ I4 r2 r4 q4) fun d' s5 zq1=>?_))
  obtain⟨z2,H5,I5,r5,k2,e2,q5⟩:=zq1
  subst e2
  cases r5
  exact RB ⟨H5,I5,q5⟩
abbrev Ek (K:Pk) (x:V) (H:Hp) (k:Bool):Prop:=
 match x with
 | .non=>k=WA
 | .bl b=>k=b
 | .int i=>k=(i != 0)
 | .str y=>y.length<=sizeLine/\k=((y.length:Int) != 0)
 | .byt y=>y.size<=sizeLine/\k=((y.size:Int) != 0)
 | .ref p=>(∃xs,SqL K H p xs/\k = !xs.isEmpty)\/(∃xs,SqT K H p xs/\k = !xs.isEmpty)\/∃kvs,H p=Wx (.dK kvs)/\k = !kvs.isEmpty
 | _=>False
def vC (r:KV kvs vs):(!vs.isEmpty) = !kvs.isEmpty:=by
 cases r<;>rfl
def nR (r:Vals xs its):(!its.toArray.isEmpty) = !xs.isEmpty:=by
 cases r<;>simp
def gE:(sizeLine:Nat)<2 ^ 63:=by rw[QN];decide
def II:M0 X (fun x H Q=>∃k,Ek X.K x H k/\Q k H):=by
 intro pins s σ H x v Q I rx h
 obtain⟨k,e,q⟩:=h
 have hl:=gE
 have hs:sizeLine=16777216:=QN
 cases x with
 | non=>
  cases rx
  have e':k=false:=e
  subst e'
  exact truthy_none ⟨H,I,q⟩
 | bl b=>
  cases rx
  have e':k=b:=e
  subst e'
  exact RB ⟨H,I,q⟩
 | int i=>
  obtain⟨t,rfl⟩:=rx
  have e':k=(i != 0):=e
  subst e'
  exact PySem.P.truthy_int ⟨H,I,q⟩
 | str y=>
  obtain⟨t,rfl⟩:=rx
  obtain⟨hy,e'⟩:y.length<=sizeLine/\k=((y.length:Int) != 0):=e
  subst e'
  exact PySem.P.truthy_str {} ⟨H,I.tok _,q⟩
 | byt y=>
  obtain⟨t,rfl⟩:=rx
  obtain⟨hy,e'⟩:y.size<=sizeLine/\k=((y.size:Int) != 0):=e
  subst e'
  exact PySem.W.truthy_bytes {} ⟨H,I.tok _,q⟩
 | ref p=>
  cases rx
  have e':(∃xs,SqL X.K H p xs/\k = !xs.isEmpty)\/(∃xs,SqT X.K H p xs/\k = !xs.isEmpty)\/∃kvs,H p=Wx (.dK kvs)/\k = !kvs.isEmpty:=e
  rcases e' with⟨xs,hx,e'⟩ | ⟨xs,hx,e'⟩ | ⟨kvs,hx,e'⟩
  ·subst e'
   obtain⟨its,r,pl,hz⟩:=I.list hx
   have hlen:=r.length
   exact wpAny_truthy_list pl.isList (by grind) ⟨H,I.tok _,by rw[nR r];exact q⟩
  ·subst e'
   obtain⟨its,r,pl,hz⟩:=I.tuple hx
   have hlen:=r.length
   exact truthy_tuple pl (by grind) ⟨H,I.tok _,by rw[nR r];exact q⟩
  ·subst e'
   obtain⟨hz,hS,vs,r,m⟩:kvs.length<=sizeLine/\(p == sysModules)=WA/\∃vs,KV kvs vs/\s.heap.DictOf (bM X.prog X.w) p vs:=I.hok p _ hx
   have hlen:kvs.length=vs.length:=Paired.length r
   exact wpAny_truthy_dict hS m {} ⟨H,I.tok _,by rw[vC r];exact q⟩
 | _=>exact(show False from e).elim
def Cp (ha:PE X a ta) (he:∀whole,isTrue a X.env whole=(do let v ← whole;standAt a.pos;holding [v] (truthy v))) :
  PT X a (fun σ H Q=>ta σ H fun x H'=>∃k,Ek X.K x H' k/\Q k H'):=by
 intro pins s σ H Q I h
 exact isTrue_plain (thn (ha pins s σ H _ I h) fun v s1 ⟨x,H1,I1,r1,q1⟩=>II pins s1 σ H1 x v Q I1 r1 q1) (he _)
def wo:OpR X (binaryOp .Add) (fun x y H Q=>∃i j,x=.str i/\y=.str j/\i.length+j.length<=sizeLine/\Q (.str (i++j)) H):=by
 intro pins s σ H x y v u Q I rx ry h
 obtain⟨i,j,rfl,rfl,hz,q⟩:=h
 obtain⟨t,rfl⟩:=rx
 obtain⟨t',rfl⟩:=ry
 exact add_str (fun t' tk=>⟨.str (i++j),H,I.tok _,⟨_,rfl⟩,q⟩) hz
def vals1 (r:Vals [x] us):∃u,us=[u]/\RelV x u:=by
 cases r with
 | cons r1 r2=>cases r2;simp_all
def vals2 (r:Vals [x,y] us):∃u w',us=[u,w']/\RelV x u/\RelV y w':=by
 cases r with
 | cons r1 r2=>
  cases r2 with
  | cons r3 r4=>cases r4;grind
def Aw (hc:X.calm=Wz):aV X (.builtin "max") (fun xs H Q=>∃i j,xs=[.int i,.int j]/\Q (.int (if j > i then j else i)) H):=by
 intro pins s σ H xs us Q I r h
 obtain⟨i,j,rfl,q⟩:=h
 obtain⟨u,w',rfl,⟨t,rfl⟩,⟨t',rfl⟩⟩:=vals2 r
 refine max_two_ints (I.ok.hd hc) fun h' tk k=>⟨_,H,I.kept k,?_,q⟩
 by_cases hj:j > i
 ·rw[if_pos hj,if_pos hj];exact⟨_,rfl⟩
 ·rw[if_neg hj,if_neg hj];exact⟨_,rfl⟩
def pE:aV X (.type "int") (fun xs H Q=>(∃i,xs=[.int i]/\Q (.int i) H)\/∃k,xs=[.bl k]/\Q (.int (if k then 1 else 0)) H):=by
 intro pins s σ H xs us Q I r h
 rcases h with⟨i,rfl,q⟩ | ⟨k,rfl,q⟩
 ·obtain⟨u,rfl,t,rfl⟩:=vals1 r
  exact call_int_int ⟨.int i,H,I,⟨_,rfl⟩,q⟩
 ·obtain⟨u,rfl,r1⟩:=vals1 r
  cases r1
  exact call_int_bool ⟨.int (if k then 1 else 0),H,I.tok _,⟨_,rfl⟩,q⟩
end
structure G1 (h:QQ) (x dx C) (mA):Prop where
 obj:h.get? x=some (Vb C dx)
 ns:h.Ns1 dx mA
 ne:dx≠x
def Ae {h:QQ} (n:h.Ns1 dx mA):∃od,h.get? dx=Wx od/\∀name,Vt name od=Wx (mA name):=by
 obtain⟨o,es,ep,ho,hd,hk,_,hm⟩:=n
 refine⟨o,ho,fun name=>?_⟩
 have e:=hm name
 unfold nsFind findBy at e
 rw[<- Array.find?_toList] at e
 unfold Vt
 rw[hd]
 dsimp only
 split
 ·simp_all
 ·rename_i q
  rw[q] at e
  have a:es.toList.any (·.refKey)=false:=by
   rw[List.any_eq_false]
   intro y hy
   obtain⟨z,t,hkey⟩:=hk y (Rv.mp hy)
   simp[Wk.refKey,hkey]
  simp_all
def G1.look {h:QQ}{x dx C:PN}{mA:Str->Option Pp} (I:G1 h x dx C mA):∃od,PySem.W.InstAt h x (Vb C dx) C (Wx od)/\∀name,Vt name od=Wx (mA name):=
 let ⟨od,ho,hl⟩:=Ae I.ns
 ⟨od,⟨I.obj,rfl,rfl,ho⟩,hl⟩
def jM.some_of (r:jM (Wx v) o):∃u,o=Wx u/\RelV v u:=by
 cases o with
 | none=>exact(show False from r).elim
 | some u=>exact⟨u,rfl,r⟩
section
variable {P:PJ}{w:Qc}{H H':Hp}{h h':QQ}{a C dx:PN}{fs fs':List (Str × V)}
def EB (hok:HOk P w H h) (e:H a=Wx (.ins C dx fs)):∃mA,G1 h a dx C mA/\(∀f,jM (fs.lookup f) (mA f))/\T3 mA (fs.map (·.1))/\fs.length<=1000/\H dx=Wx (.own a):=by
 obtain⟨d,z,ne,ob,mA,n,r,q⟩:=(show a_ P w H h a (.ins C dx fs) from hok a _ e)
 exact⟨mA,⟨ob,n,ne⟩,r,q,z,d⟩
end
structure Cls (K) (C):Prop where
 pg:PySem.W.plainGet K C Str.empty=true
 hd:PySem.W.hasDictIn K C=true
 po:PySem.W.plainOver K C=true
 sa:PySem.W.findIn K (.ref C) "__setattr__" = some (some (.builtin "object.__setattr__"))
def Cls.get {K:Pk} (c:Cls K C) (f):PySem.W.plainGet K C f=true:=c.pg
section
variable {X:Cx}{pins:List (PN × Obj)}{σ:St}{H:Hp}{s:Pr}{a C dx:PN}{fs:List (Str × V)}{f:Str}{v:V}{A:P9}{E:Pp->Pr->Prop}
def Ec (hb:attributeBase e f env (eval e env)=eval e env)
  (h:wpAny (model prog w) A (eval e env) (fun o s₁=>wpAny (model prog w) A (getAttr o f Wz) Q E s₁) E s):wpAny (model prog w) A (eval (.Attribute e f pos) env) Q E s:=
 Attribute_any_ h (by rw[arm_eval_Attribute,hb])
end
section
variable {X:Cx}{pins:List (PN × Obj)}{σ:St}{H:Hp}{s:Pr}{A:P9}{E:Pp->Pr->Prop}{Q:Pp->Pr->Prop}{c:Pp}{b:Bool}
inductive i_ (K) (H:Hp):V->Pp->Prop where
 | non:i_ K H .non (.type "NoneType")
 | bl (x):i_ K H (.bl x) (.type "bool")
 | int (i):i_ K H (.int i) (.type "int")
 | str (x):i_ K H (.str x) (.type "str")
 | flt (x):i_ K H (.flt x) (.type "float")
 | lst (e:H a=some (.lst xs)):i_ K H (.ref a) (.type "list")
 | frz (e:H a=some (.frz o (.lst xs))):i_ K H (.ref a) (.type "list")
 | tup (e:H a=some (.tup xs)):i_ K H (.ref a) (.type "tuple")
 | eC (e:H a=some (.frz o (.dK kvs))):i_ K H (.ref a) (.type "dict")
 | dK (e:H a=some (.dK kvs)):i_ K H (.ref a) (.type "dict")
 | dT (e:H a=some (.dT kvs)):i_ K H (.ref a) (.type "dict")
 | ins (e:H a=some (.ins C dx fs)) (cl:Cls K C) (ha:PySem.W.findIn K (.ref C) "__class__" = some (some (.builtin "object.__class__")))
   (hn:PySem.W.specialIn K (.builtin "object.__class__") "__get__" = some (some (.builtin "getset_descriptor.__get__"))) (htk:PySem.W.takesIn K (.builtin "object.__class__")=some true)
   (hm:PySem.W.mroIn K C (.type "object")=some true):i_ K H (.ref a) (.ref C)
def Ad {x:V}{u t:Pp} (I:Inv X pins σ H s) (rx:RelV x u) (ty:i_ X.K H x t) (e:Q9 X.K t c=Wx b) (h:∀tk,Q (.bool b) { s with toks:=tk }) :
  wpAny (model X.prog X.w) A (call (.builtin "isinstance") [u,c]) Q E s:=by
 cases ty with
 | non=>cases (show u=QL from rx);exact QE PySem.W.kitx_none I.kIn RP e (fun z=>nomatch z) h
 | bl y=>cases (show u=Ul y from rx);exact QE PySem.W.kitx_bool I.kIn RP e (fun z=>nomatch z) h
 | int i=>obtain⟨t,q⟩:=(show ∃t,u=Sj i t from rx);cases q;exact QE PySem.W.kitx_int I.kIn RP e (fun z=>nomatch z) h
 | str y=>obtain⟨t,q⟩:=(show ∃t,u=VI y t from rx);cases q;exact QE PySem.W.kitx_str I.kIn RP e (fun z=>nomatch z) h
 | flt y=>obtain⟨t,q⟩:=(show ∃t,u=Pp.float y t from rx);cases q;exact QE PySem.W.kitx_float I.kIn RP e (fun z=>nomatch z) h
 | @lst a xs ea=>
  cases (show u=Qa a from rx)
  obtain⟨_,_,n,_,h1⟩:=(show a_ X.prog X.w H s.heap a (.lst xs) from I.hok a _ ea)
  exact QE PySem.W.kitx_list I.kIn ⟨_,h1,rfl⟩ e (fun z=>nomatch z) h
 | @frz a ob xs ea=>
  cases (show u=Qa a from rx)
  obtain⟨_,_,_,n,_,h1⟩:=(show a_ X.prog X.w H s.heap a (.frz ob (.lst xs)) from I.hok a _ ea)
  exact QE PySem.W.kitx_list I.kIn ⟨_,h1,rfl⟩ e (fun z=>nomatch z) h
 | @tup a xs ea=>
  cases (show u=Qa a from rx)
  obtain⟨_,_,_,p⟩:=(show a_ X.prog X.w H s.heap a (.tup xs) from I.hok a _ ea)
  obtain⟨o,h1,⟨h2,_⟩,_⟩:=p
  exact QE PySem.W.kitx_tuple I.kIn ⟨o,h1,h2⟩ e (fun z=>nomatch z) h
 | @eC a ob kvs ea=>
  cases (show u=Qa a from rx)
  obtain⟨_,_,_,vs,_,p⟩:=(show a_ X.prog X.w H s.heap a (.frz ob (.dK kvs)) from I.hok a _ ea)
  obtain⟨o,es,ep,h1,h2,_⟩:=p
  exact QE UL I.kIn ⟨o,h1,h2.1⟩ e (fun z=>nomatch z) h
 | @dK a kvs ea=>
  cases (show u=Qa a from rx)
  obtain⟨_,_,vs,_,p⟩:=(show a_ X.prog X.w H s.heap a (.dK kvs) from I.hok a _ ea)
  obtain⟨o,es,ep,h1,h2,_⟩:=p
  exact QE UL I.kIn ⟨o,h1,h2.1⟩ e (fun z=>nomatch z) h
 | @dT a kvs ea=>
  cases (show u=Qa a from rx)
  obtain⟨_,_,xs,_,o,es,ep,h1,h2,_⟩:=(show a_ X.prog X.w H s.heap a (.dT kvs) from I.hok a _ ea)
  exact QE UL I.kIn ⟨o,h1,h2.1⟩ e (fun z=>nomatch z) h
 | @ins a C dx fs ea cl ha hn htk hm=>
  cases (show u=Qa a from rx)
  obtain⟨mA,O,_⟩:=EB I.hok ea
  obtain⟨od,J,_⟩:=O.look
  exact QE (PySem.W.kitx_own (cl.get _) cl.hd ha hn htk hm) I.kIn J e (fun z=>nomatch z) h
end
structure bF (k) (A:P9):Prop where
 hd:A.handled=none
 dp:A.depth+3*k+5<recursionLimit
 un:A.units+16*k+200<cLine
 gd:A.guards=some []
def bF.mono (r:bF k A) (h:j<=k):bF j A:=⟨r.hd,by have:=r.dp;lia,by have:=r.un;lia,r.gd⟩
def bF.deeper (r:bF (k+1) A) (env):bF k (A.deeper env):=
 ⟨r.hd,by have:=r.dp;show A.depth+1+3*k+5<_;lia,by have:=r.un;show A.units+3+16*k+200<_;lia,r.gd⟩
def v9 {A:P9}:(A.under (.builtin "type.__call__" ⟨.ref C::us,kw⟩)).depth=A.depth+1:=by
 rfl
def wH {A:P9}:(A.under (.builtin "type.__call__" ⟨.ref C::us,kw⟩)).units=A.units+1:=by
 rfl
def bF.make (r:bF (k+1) A) (C) (us) (kw):bF k (A.under (.builtin "type.__call__" ⟨.ref C::us,kw⟩)):=
 ⟨r.hd,by have:=r.dp;rw[v9];lia,by have:=r.un;rw[wH];lia,by first | exact r.gd | (simpa [P9.under,Code.envs,Code.isFrame,Code.isGuard,guardIds] using r.gd)⟩
def bF.depth (r:bF k A):A.depth<recursionLimit:=by have:=r.dp;lia
def bF.units (r:bF k A):A.units+64<cLine:=by have:=r.un;lia
abbrev LC:TA:=fun _ H Q=>Q [] H
abbrev GO (ta:TE) (tr:TA):TA:=fun σ H Q=>ta σ H fun x H1=>tr σ H1 fun xs H2=>Q (x::xs) H2
section
variable {X:Cx}{e:Rb}{es:List Rb}{te:TE}{t:TA}{pos:Pos}
def g_:PA X [] LC:=fun _ _ _ _ H Q I h=>UM ⟨[],H,I,.nil,h⟩
def dq (ha:PE X e te) (hr:PA X es t) (hs:starEach (e::es) X.env=(WA,eval e X.env)::starEach es X.env:=by rfl):PA X (e::es) (GO te t):=by
 intro pos pins s σ H Q I h
 rw[hs]
 show wpAny _ _ (spliced ((WA,eval e X.env)::backTo pos (starEach es X.env))) _ _ s
 refine Se (thn (ha pins s σ H _ I h) fun u s1 zq1=>?_)
 obtain⟨x,H1,I1,r1,q1⟩:=zq1
 exact thn (hr pos pins s1 σ H1 _ I1 q1) fun us s2 ⟨xs,H2,I2,r2,q2⟩=>⟨x::xs,H2,I2,.cons r1 r2,q2⟩
abbrev Nz (t:TA):TE:=fun σ H Q=>t σ H fun xs H1=>xs.length<=sizeLine/\∀p,H1 p=Wy->Q (.ref p) (upd H1 p (.tup xs))
abbrev Nh (t:TA):TE:=fun σ H Q=>t σ H fun xs H1=>xs.length<=sizeLine/\∀p,H1 p=Wy->Q (.ref p) (upd H1 p (.lst xs))
def Iy {x1} (h:PA X es t):PE X (.Tuple es x1 pos) (Nz t):=by
 intro pins s σ H Q I hq
 refine wpAny_Tuple_spliced (thn (h pos pins s σ H _ I hq) fun us s1 ⟨xs,H1,I1,r,z,q⟩=>⟨by rw[<- r.length];exact z,?_⟩)
 have hf:H1 s1.heap.objs.size=none:=I1.hok.fresh (Pt _)
 refine⟨.ref s1.heap.objs.size,upd H1 s1.heap.objs.size (.tup xs),I1.laid (t':=s1.toks) (fun b u e=>Pn _ e) (Pt _) ?_,rfl,q _ hf⟩
 exact⟨z,us,r,⟨_,Pu _ rfl,⟨rfl,_,rfl⟩,rfl⟩⟩
def Iz (h:PA X es t):PE X (.List es pos) (Nh t):=by
 intro pins s σ H Q I hq
 refine wpAny_List_spliced (thn (h pos pins s σ H _ I hq) fun us s1 ⟨xs,H1,I1,r,z,q⟩=>⟨by rw[<- r.length];exact z,?_⟩)
 have hf:H1 s1.heap.objs.size=none:=I1.hok.fresh (Pt _)
 refine⟨.ref s1.heap.objs.size,upd H1 s1.heap.objs.size (.lst xs),I1.laid (t':=s1.toks) (fun b u e=>Pn _ e) (Pt _) ?_,rfl,q _ hf⟩
 exact⟨z,us,0,r,Pu _ rfl⟩
end
@[inline]abbrev Sp:=List V->Hp->VK->XK->Prop
@[inline]abbrev CXT:=List Env->Hp->Pr->XK->Pp->Pr->Prop
structure vN (P) (w) (K) (mg) (base) (A:P9) (outer) (s:Pr) (H:Hp):Prop where
 frames:A.frames=some outer
 mod:Mod K mg base
 bs:∀b o,base.get? b=some o->s.heap.get? b=some o/\H b=none
 bsz:base.objs.size<=s.heap.objs.size
 ic:s.heap.FunFrames base outer
 frf:∀b∈frs outer,H b=none
 hok:HOk P w H s.heap
 bare:UZ s.gens
abbrev CE (outer:List Env) (P:PJ) (w:Qc) (H:Hp) (s:Pr) (Q:VK) (u:Pp) (s':Pr):Prop:=
 ∃v H',s'.os=s.os/\UZ s'.gens/\Un (frs outer) [] H H' s.heap s'.heap/\HOk P w H' s'.heap/\RelV v u/\Q v H'
abbrev CR (CX:CXT) (outer:List Env) (P:PJ) (w:Qc) (H:Hp) (s:Pr) (Q:VK) (E:XK) (r:Wv) (s':Pr):Prop:=
 match r with
 | .ok (.ret u)=>CE outer P w H s Q u s'
 | .ok _=>False
 | .error e=>CX outer H s E e s'
structure b9 (P) (w) (K) (mg) (base) (CX) (k) (f) (fd) (ps:List Str) (sp:Sp):Prop where
 len:∀vs H Q E,sp vs H Q E->vs.length=ps.length
 run:∀A outer s H args us vs Q E , bF k A->vN P w K mg base A outer s H->VU s fd args (ps.zip us)->Vals vs us->sp vs H Q E →
  codeAny (model P w) A (.call (.ref f) args) (CR CX outer P w H s Q E) s
def b9.mono {K:Pk} (F:b9 P w K mg base CX j f fd ps sp) (h:j<=k) :
  b9 P w K mg base CX k f fd ps sp:=⟨F.len,fun A outer s H args us vs Q E hr=>F.run A outer s H args us vs Q E (hr.mono h)⟩
def b9.imp {K:Pk} (F:b9 P w K mg base CX k f fd ps sp)
  (h:∀vs H Q E,sp' vs H Q E->sp vs H Q E):b9 P w K mg base CX k f fd ps sp':=
 ⟨fun vs H Q E q=>F.len vs H Q E (h _ _ _ _ q),fun A outer s H args us vs Q E hr he hb hv hs=>F.run A outer s H args us vs Q E hr he hb hv (h _ _ _ _ hs)⟩
section
variable {X:Cx}{pins:List (PN × Obj)}{σ:St}{H:Hp}{s s':Pr}
def Inv.Ia (I:Inv X pins σ H s):vN X.prog X.w X.K X.mg X.base X.A X.stack s H:=
 ⟨I.ok.frames,I.ok.mod,I.bs,P7 I.ok.bsz I.sz,I.stack,I.lZ,I.hok,I.bare⟩
def Inv.after (I:Inv X pins σ H s) (h:CE X.stack X.prog X.w H s Q u s'):EP X pins σ Q u s':=by
 obtain⟨v,H',os,bare,un,hok,r,q⟩:=h
 obtain⟨hh,g,d,t,os'⟩:=s'
 obtain rfl:os'=s.os:=os
 exact⟨v,H',I.call (h':=hh) (g':=g) (d':=d) (t':=t) (ch:=[]) un hok bare (fun b z=>absurd z {..}),r,q⟩
end
abbrev GI (sp:Sp) (dvs:List V) (E:XK) (t:TA):TE:=fun σ H Q=>t σ H fun vs H1=>sp (vs++dvs) H1 Q E
abbrev Binds (K:Pk) (fd:RV) (ps:List Str) (ds:List Pp):Prop:=
 ∀s us , K.In s.heap->(us++ds).length=ps.length->VU s fd ⟨us,[]⟩ (ps.zip (us++ds))
def Binds.all {K:Pk} (h:∀us:List Pp,us.length=ps.length->bindArgs fd ⟨us,[]⟩=pure (ps.zip us)):Binds K fd ps []:=fun s us _ hl=>by
 rw[QO] at hl ⊢
 exact .of_eq (h us hl)
abbrev Passes (CX:CXT) (X:Cx) (E:XK):Prop:=∀pins (σ:St) H s e s' , Inv X pins σ H s->CX X.stack H s E e s'->X.xe e s'
section
variable {X:Cx}{CX:CXT}{k:Nat}{f C:PN}{fd:RV}{ps:List Str}{sp:Sp}{dvs:List V}{ds:List Pp}{E:XK}{x m:Str}{p pos apos:Pos}{e o:Rb}{es:List Rb}{ta:TE}{t:TA}
def IY {σ:St} (F:b9 X.prog X.w X.K X.mg X.base CX k f fd ps sp) (hr:bF k X.A) (hb:Binds X.K fd ps ds) (hd:Vals dvs ds) (hx:Passes CX X E)
  (I:Inv X pins σ H s) (r:Vals vs us) (h:sp (vs++dvs) H Q E):wpAny (model X.prog X.w) X.A (call (.ref f) us) (EP X pins σ Q) X.xe s:=by
 have r2:Vals (vs++dvs) (us++ds):=r.append hd
 have hl:(us++ds).length=ps.length:=by rw[<- r2.length];exact F.len _ _ _ _ h
 refine Sw (RA (F.run X.A X.stack s H ⟨us,[]⟩ (us++ds) (vs++dvs) Q E hr I.Ia (hb s us I.kIn hl) r2 h) fun r s' hq=>?_)
 cases r with
 | error e=>exact hx pins σ H s e s' I hq
 | ok fl=>
  cases fl with
  | ret u=>exact I.after hq
  | next=>assumption
  | brk=>assumption
  | cont=>assumption
def xS (F:b9 X.prog X.w X.K X.mg X.base CX k f fd ps sp) (hr:bF k X.A) (hg:Gl X x) (hm:X.mg x=Wx (.ref f)) (hk:Qk X.K (.ref f)=Wz) (hb:Binds X.K fd ps ds) (hd:Vals dvs ds) (hx:Passes CX X E)
  (ha:PA X (e::es) t) (hdb:(x == ("__debug__" : Str))=false:=by decide) (he:starEach (e::es) X.env=(WA,eval e X.env)::starEach es X.env:=by rfl) (hpl:(backTo pos (starEach es X.env)).any (·.1)=false:=by rfl) :
  PE X (.Call (.Name x p) (e::es) [] pos) (GI sp dvs E t):=by
 intro pins s σ H Q I h
 refine Sf (f6 I hg hm ?_ hdb)
 refine Tf (h₀:=X.base) I.ok.mod.kin hk (thn (ha pos pins s σ H _ I h) fun us s1 ⟨vs,H1,I1,r,q⟩=>⟨I1.kIn,?_⟩) he hpl
 exact IY F hr hb hd hx I1 r q
end
structure az (N P:List Str) (sc:Ui):Prop where
 kind:sc.kind=.function
 co:sc.isCoroutine=false
 gen:sc.isGenerator=false
 nd:N.Nodup
 pre:N.take P.length=P
 par:∀x∈P,sc.names.lookup x=some .local\/sc.names.lookup x=some .cell
 JC:∀y∈sc.names,y.2≠.free
def pU {kindOf:Str->Option RH}{x:Str}:∀{binds:List (Str × Pp)}{m:Str->Option Pp},(∀v,(x,v)∉binds)->bindL kindOf binds m x=m x
 | [],_,_=>rfl
 | (n,v)::r,m,h=>by
  unfold bindL
  rw[pU fun w hw=>h w (Po _ hw)]
  split
  ·grind
  ·rfl
def p8 {kindOf:Str->Option RH}:∀{binds:List (Str × Pp)}{m:Str->Option Pp},(∀v,(x,v)∉binds)->bindC kindOf binds m x=m x
 | [],_,_=>rfl
 | (n,v)::r,m,h=>by
  unfold bindC
  rw[p8 fun w hw=>h w (Po _ hw)]
  split
  ·rfl
  grind
def iu {kindOf:Str->Option RH}{x:Str}{v:Pp}:∀{P:List Str}{vs:List Pp}{i:Nat}{m:Str->Option Pp},P.Nodup->P[i]?=Wx x->vs[i]?=Wx v->kindOf x=Wx .local →
  bindL kindOf (P.zip vs) m x=Wx v
 | [],_,_,_,_,h,_,_=>by simp at h
 | _::_,[],_,_,_,_,h,_=>by simp at h
 | p::P,w::vs,0,m,nd,h1,h2,hk=>by
  simp at h1 h2;subst h1;subst h2
  show bindL kindOf ((p,w)::P.zip vs) m p=_
  unfold bindL
  rw[pU fun v hv=>(Qs.mp nd).1 (Sl hv).1,if_pos hk]
  simp
 | p::P,w::vs,i+1,m,nd,h1,h2,hk=>by
  show bindL kindOf ((p,w)::P.zip vs) m x=_
  unfold bindL
  exact iu (i:=i) (Qs.mp nd).2 (by simp_all) (by simp_all) hk
def qf {kindOf:Str->Option RH}{x:Str}{v:Pp}:∀{P:List Str}{vs:List Pp}{i:Nat}{m:Str->Option Pp},P.Nodup->P[i]?=Wx x->vs[i]?=Wx v->kindOf x≠Wx .local →
  bindC kindOf (P.zip vs) m x=Wx v
 | [],_,_,_,_,h,_,_=>by simp at h
 | _::_,[],_,_,_,_,h,_=>by simp at h
 | p::P,w::vs,0,m,nd,h1,h2,hk=>by
  simp at h1 h2;subst h1;subst h2
  show bindC kindOf ((p,w)::P.zip vs) m p=_
  unfold bindC
  rw[p8 fun v hv=>(Qs.mp nd).1 (Sl hv).1,if_neg hk]
  simp
 | p::P,w::vs,i+1,m,nd,h1,h2,hk=>by
  show bindC kindOf ((p,w)::P.zip vs) m x=_
  unfold bindC
  exact qf (i:=i) (Qs.mp nd).2 (by simp_all) (by simp_all) hk
abbrev start (N:List Str) (vs:List V):St:=vs.map Wx++PY (N.length - vs.length) Wy
abbrev dR (CX:CXT) (P:PJ) (w:Qc) (K:Pk) (mg:Str->Option Pp) (base:QQ) (N:List Str) (qual:Str) (scope:Ui) (f:PN) (cd:Pp) (A:P9) (outer:List Env) (s:Pr) (H:Hp) (E:XK):Cx where
 prog:=P
 w:=w
 K:=K
 mg:=mg
 base:=base
 A:=A.deeper (envOfC qual scope s.heap.objs.size f cd)
 N:=N
 ax:=s
 aD:=H
 env:=envOfC qual scope s.heap.objs.size f cd
 outer:=outer
 stack:=envOfC qual scope s.heap.objs.size f cd::outer
 ex:=[]
 calm:=Wz
 fn:=fun _=>Wz
 pn:=[]
 xe:=fun e s'=>wpAny (model P w) (A.deeper (envOfC qual scope s.heap.objs.size f cd)) (leaving (envOfC qual scope s.heap.objs.size f cd) e) (fun _ s''=>CX outer H s E e s'') (fun e' s''=>CX outer H s E e' s'') s'
def sJ {sc:Ui} (h:sc.names.lookup x=Wx .cell):∃c,(cellsFrom n sc.names []).lookup x=Wx c:=by
 have q:=RI sc.names n [] (.inl h)
 exact RY.mp q
def j_ {K:Pk}
  (S:az N ps scope) (hd:A.handled=Wy) (e0:vN P w K mg base A outer s H) (hl:vs.length=ps.length) (r:Vals vs us)
  (x:InCallC s s.heap.objs.size (bindL (envOfC qual scope s.heap.objs.size f cd).kindOf (ps.zip us) fun _=>Wy) (cellsFrom (s.heap.objs.size+1) scope.names []) (bindC (envOfC qual scope s.heap.objs.size f cd).kindOf (ps.zip us) fun _=>Wy) s1) :
  Inv (dR CX P w K mg base N qual scope f cd A outer s H E) [] (start N vs) H s1:=by
 have hpl:ps.length<=N.length:=by have:=congrArg List.length S.pre;grind
 obtain⟨h1,tk,rfl,hk⟩:=x.done
 have noA:∀b:PN,b∉(dR CX P w K mg base N qual scope f cd A outer s H E).ex:=fun b z=>absurd (show b∈([]:List PN) from z) {..}
 refine⟨⟨e0.mod,S.kind,rfl,rfl,Pt _,fun y z c h1 h2=>?_,fun y hy=>?_,fun y c _ h=>?_,fun _=>hd,Ud e0.frames,.inr ⟨rfl,rfl⟩,fun b z=>absurd z (noA b),e0.bs,e0.bsz,fun b _ _=>noA b,fun b z=>absurd z (noA b),e0.ic,e0.frf⟩,
  rfl,e0.bare,Un.kept hk,⟨_,x.toInCall.ns,fun i y v h1 h2 h3=>?_⟩,fun y c h=>⟨_,x.cell y c h⟩,e0.hok.fresh (Pt _),fun y c h=>?_,fun p hp=>absurd (show p∈([]:List (PN × Obj)) from hp) {..},e0.hok.kept hk,?_⟩
 ·exact name_of_addr x.apart (R5 h1) (R5 h2)
 ·have hy:scope.names.lookup y=Wx .cell\/scope.names.lookup y=Wx .free:=hy
  rcases hy with hy | hy
  ·exact sJ hy
  ·exact absurd rfl (S.JC _ (R5 hy))
 ·exact Sk (x.above y c (R5 h))
 ·have hi:i<vs.length:=by
   unfold start at h2
   grind
  have ha:vs[i]?=Wx v:=by
   unfold start at h2
   grind
  obtain⟨u,hu,rv⟩:=r.get ha
  have hp:ps[i]?=Wx y:=by
   rw[<- S.pre,List.getElem?_take_of_lt {}];exact h1
  have ndP:ps.Nodup:=by rw[<- S.pre];exact S.nd.sublist (List.take_sublist _ _)
  refine⟨u,rv,?_⟩
  rcases S.par y (P0 hp) with k | k
  ·exact .inl ⟨k,iu ndP hp hu k⟩
  ·obtain⟨c,e⟩:=sJ (n:=s.heap.objs.size+1) k
   refine .inr ⟨.inl k,c,e,?_⟩
   have q:=x.cell y c e
   rw[qf ndP hp hu (by show scope.names.lookup y≠_;simp_all)] at q
   exact q
 ·exact e0.hok.fresh (Sk (x.above y c (R5 h)))
 ·unfold start
  show _=N.length
  simp_all
def Gr {CX:CXT}{P:PJ}{w:Qc}{K:Pk}{mg:Str->Option Pp}{base:QQ}{k:Nat}{f:PN}{name qual:Str}{params:VJ}{body:List TF}{scope:Ui}{dV kV doc pm cdv ct oc:Pp}{an od:Option PN}
  {osl:Array (Option Pp)} {N ps:List Str} {sp:Sp} (lk:K.lookup f=Wx ⟨oc,od,.func (QH name qual params body scope dV kV doc pm an cdv ct),osl⟩) (hcd:SN K cdv qual=Wz) (S:az N ps scope)
  (len:∀vs H Q E,sp vs H Q E->vs.length=ps.length)
  (hbody:∀(A:P9) (outer:List Env) (s:Pr) (H:Hp) (vs:List V) (Q:VK) (E:XK),bF k (A.deeper (envOfC qual scope s.heap.objs.size f cdv))->sp vs H Q E →
   ∃t,PSs (dR CX P w K mg base N qual scope f cdv A outer s H E) body t/\t { nx:=fun _ H'=>Q .non H',rt:=Q } (start N vs) H) :
  b9 P w K mg base CX (k+1) f (QH name qual params body scope dV kV doc pm an cdv ct) ps sp:=by
 refine⟨len,fun A outer s H args us vs Q E hr e0 hb r hsp=>?_⟩
 have hl:=len _ _ _ _ hsp
 have KX:K.In s.heap:=e0.mod.kin.keeps fun b o e=>(e0.bs b o e).1
 have lim:s.heap.NoLimit:=e0.mod.nolimit.keeps fun b o e=>(e0.bs b o e).1
 have hkind:∀y∈ps.zip us,scope.names.lookup y.1=Wx .local\/(scope.names.lookup y.1=Wx .cell/\((cellsFrom (s.heap.objs.size+1) scope.names []).lookup y.1).isSome=Wz):=fun⟨n,v⟩ hy=>by
  rcases S.par n (Sl hy).1 with q | q
  ·exact .inl q
  ·exact .inr ⟨q,RI _ _ _ (.inl q)⟩
 refine Sm hr.depth (KX _ _ lk) rfl S.co S.gen rfl (Uy KX hcd) (hb _ _ _ _ ?_)
 refine RL S.kind hkind fun env he s1 x=>?_
 subst he
 refine⟨lim.keeps x.toInCall.keep,Vc ?_⟩
 obtain⟨t,ht,hq⟩:=hbody A outer s H vs Q E (hr.deeper _) hsp
 have I:Inv (dR CX P w K mg base N qual scope f cdv A outer s H E) [] (start N vs) H s1:=j_ S hr.hd e0 hl r x
 refine P4 (ht [] s1 (start N vs) H _ I hq) (fun fl s' hs=>?_) fun e s' hs=>hs
 have fin:∀{σ':St} {H':Hp} {v:V} {u:Pp},Inv (dR CX P w K mg base N qual scope f cdv A outer s H E) [] σ' H' s'->RelV v u->Q v H'->CE outer P w H s Q u s':=
  fun{σ' H' v u} J rv q=>⟨v,H',J.os,J.bare,J.base,J.hok,rv,q⟩
 cases fl with
 | ret u=>
  obtain⟨v,σ',H',J,rv,q⟩:=hs
  exact fin J rv q
 | next=>
  obtain⟨σ',H',J,q⟩:=hs
  exact fin (v:=V.non) (u:=QL) J rfl q
 | brk=>
  obtain⟨_,_,_,q⟩:=hs
  exact RX q
 | cont=>
  obtain⟨_,_,_,q⟩:=hs
  exact RX q
section
variable {X:Cx}{x:Str}{p pos:Pos}{e:Rb}{es:List Rb}{t:TA}{id T:String}{r:List V->Hp->VK->Prop}
abbrev tCB (r:List V->Hp->VK->Prop) (t:TA):TE:=fun σ H Q=>t σ H fun vs H1=>r vs H1 Q
def gG (hc:aV X (.builtin id) r) (hg:Gl X x) (hm:X.mg x=Wy) (hv:bootBuiltins x=Wx (.builtin id)) (ha:PA X (e::es) t) (hn:x≠"__name__" := by decide) (hdb:(x == ("__debug__" : Str))=false:=by decide)
  (he:starEach (e::es) X.env=(WA,eval e X.env)::starEach es X.env:=by rfl) (hpl:(backTo pos (starEach es X.env)).any (·.1)=false:=by rfl):PE X (.Call (.Name x p) (e::es) [] pos) (tCB r t):=by
 intro pins s σ H Q I h
 refine Sf (kc I hg hm hv ?_ hn hdb)
 exact PyProof.Rows.callWith_builtin1 (thn (ha pos pins s σ H _ I h) fun us s1 ⟨vs,H1,I1,r1,q1⟩=>hc pins s1 σ H1 vs us Q I1 r1 q1) he hpl
def iy (hc:aV X (.type T) r) (hg:Gl X x) (hm:X.mg x=Wy) (hv:bootBuiltins x=Wx (.type T)) (ha:PA X (e::es) t) (hn:x≠"__name__" := by decide) (hdb:(x == ("__debug__" : Str))=false:=by decide)
  (he:starEach (e::es) X.env=(WA,eval e X.env)::starEach es X.env:=by rfl) (hpl:(backTo pos (starEach es X.env)).any (·.1)=false:=by rfl):PE X (.Call (.Name x p) (e::es) [] pos) (tCB r t):=by
 intro pins s σ H Q I h
 refine Sf (kc I hg hm hv ?_ hn hdb)
 exact RE (thn (ha pos pins s σ H _ I h) fun us s1 ⟨vs,H1,I1,r1,q1⟩=>hc pins s1 σ H1 vs us Q I1 r1 q1) he hpl
end
end L2
namespace HT
open PySem PyProof.Rows
section
variable {prog:PJ}{w:Qc}{A:P9}{E:Pp->Pr->Prop}{s:Pr}
def F3 (ht:IsTup s.heap t vs.toArray) (hb:IsTup s.heap b ws.toArray) (hv:vs≠[])
  (h1:ws=[]->Q (.ref t) s) (h2:ws≠[]->Q (.ref s.heap.objs.size) { s with heap:=s.heap.push { cls:=.type "tuple", data:=.seq (vs++ws).toArray } })
  (hsz:vs.length+ws.length<=sizeLine):wpAny (model prog w) A (binaryOp .Add (.ref t) (.ref b)) Q E s:=by
 obtain⟨⟨cls,dd,data,sl⟩,ho,hc,n,hd⟩:=id ht
 obtain⟨⟨cls2,dd2,data2,sl2⟩,ho2,hc2,n2,hd2⟩:=id hb
 simp only at hc hd hc2 hd2
 subst hc hd hc2 hd2
 have e:vs.toArray++ws.toArray=(vs++ws).toArray:={..}
 by_cases hw:ws=[]
 ·exact VV ⟨_,ho,rfl⟩ ⟨_,ho2,rfl⟩ U6 VL Tu Tg (S3 _ _)
   (tuple_addW1 t b vs.toArray ws.toArray n n2 dd dd2 sl sl2 (by simp_all) (by simp[hw])) ⟨ho,ho2,h1 hw⟩
 ·refine VV ⟨_,ho,rfl⟩ ⟨_,ho2,rfl⟩ U6 VL Tu Tg (S3 _ _)
   (tuple_addW2 t b vs.toArray ws.toArray n n2 dd dd2 sl sl2 (by simp_all) (by simp_all) (by omega)) ⟨ho,ho2,?_⟩
  simp_all
abbrev sIx (n d:Nat):Option Int->Nat
 | none=>d
 | some v=>if v<0 then (v+(n:Int)).toNat else min v.toNat n
def Ig (n d) (hd:d<=n) (o):sIx n d o<=n:=by
 cases o with
 | none=>exact hd
 | some v=>
  show(if v<0 then (v+(n:Int)).toNat else min v.toNat n)<=n
  grind
def yr (v) (n d:Nat):(if v<0 then max (v+(n:Int)) 0 else min v (n:Int))=((sIx n d (Wx v):Nat):Int):=by
 show(if v<0 then max (v+(n:Int)) 0 else min v (n:Int))=(((if v<0 then (v+(n:Int)).toNat else min v.toNat n):Nat):Int)
 grind
def wc (lo hi) (n:Nat):SO lo hi 1 (n:Int)=(((sIx n 0 lo:Nat):Int),((sIx n n hi:Nat):Int)):=by
 have h1:¬ ((1:Int)<0):={}
 unfold SO
 simp only[h1,if_false]
 refine Prod.ext ?_ ?_
 ·cases lo with
  | none=>rfl
  | some v=>exact yr v n 0
 ·cases hi with
  | none=>rfl
  | some v=>exact yr v n n
def vW (i j:Nat):RS (i:Int) (j:Int) 1=j - i:=by
 unfold RS
 lia
def m_ (p:VM v o) (h:Q o s):wpAny (model prog w) A (Qq.Slice.slicePartIndex v) Q E s:=by
 cases p with
 | none=>exact slicePart_none h
 | int i t=>exact slicePart_int h
def fH {sl:PN}{vl vu:Pp}{lo hi:Option Int}{n:Nat}{Q:Int × Int × Nat->Pr->Prop} (hs:s.heap.IsSliceOf sl vl vu .none) (pl:VM vl lo) (pu:VM vu hi)
  (h:Q (((sIx n 0 lo:Nat):Int),1,sIx n n hi - sIx n 0 lo) s):wpAny (model prog w) A (Qq.Slice.sliceApplied (.ref sl) (pure (n:Int))) Q E s:=by
 obtain⟨os,hos,hcs,hds⟩:=id hs
 unfold Qq.Slice.sliceApplied Qq.Slice.sliceFields
 refine gV (gV (RT hos hds (x:=vl) rfl (gV (RT hos hds (x:=vu) rfl (gV (RT hos hds (x:=.none) rfl (Pl ?_)))))))
 refine gV (slicePart_none ?_)
 show wpAny _ _ (if ((1:Int) == 0)=Wz then _ else _) _ _ s
 rw[if_neg (by decide)]
 refine gV (m_ pl (gV (m_ pu (gV (Pl ?_)))))
 show wpAny _ _ (match SO lo hi 1 (n:Int) with | (lo,hi)=>pure (lo,(1:Int),RS lo hi 1)) _ _ s
 rw[wc lo hi n]
 show wpAny _ _ (pure (((sIx n 0 lo:Nat):Int),(1:Int),RS ((sIx n 0 lo:Nat):Int) ((sIx n n hi:Nat):Int) 1)) _ _ s
 rw[vW]
 exact Pl h
def Bk (xs:Array Pp) (i k:Nat):((Py k).filterMap fun(m:Nat)=>xs[((i:Int)+(m:Int)*1).toNat]?).toArray=((xs.toList.drop i).take k).toArray:=by
 have e:(fun(m:Nat)=>xs[((i:Int)+(m:Int)*1).toNat]?)=fun m=>xs[i+m]?:=by
  grind
 rw[e]
 have:=pick_run xs i k
 rw[List.filterMap_map] at this
 have e2:((fun x=>xs[x]?) ∘ fun x=>i+x)=fun m=>xs[i+m]?:=rfl
 simp_all
def jF {lo hi:Option Int} (ht:IsTup s.heap t items) (hs:s.heap.IsSliceOf sl vl vu .none) (pl:VM vl lo) (pu:VM vu hi)
  (hw:¬ (sIx items.size 0 lo=0/\sIx items.size items.size hi=items.size))
  (h:Q (.ref s.heap.objs.size) { s with heap:=s.heap.push { cls:=.type "tuple", data:=.seq ((items.toList.drop (sIx items.size 0 lo)).take (sIx items.size items.size hi - sIx items.size 0 lo)).toArray } })
  (hsz:items.size<=sizeLine):wpAny (model prog w) A (getItem (.ref t) (.ref sl)) Q E s:=by
 have htake:sizeOk (.seq ((items.toList.drop (sIx items.size 0 lo)).take (sIx items.size items.size hi - sIx items.size 0 lo)).toArray):=by
  show((items.toList.drop (sIx items.size 0 lo)).take (sIx items.size items.size hi - sIx items.size 0 lo)).toArray.size<=sizeLine
  grind
 have hj:sIx items.size items.size hi<=items.size:=Ig _ _ (Pt _) hi
 obtain⟨os,hos,hcs,hds⟩:=id hs
 have hTs:s.TypeIs (.ref sl) "slice" := ⟨os,hos,hcs⟩
 unfold getItem
 try with_reducible refine P6 ?_
 first | refine gV (Pl ?_) | skip
 refine gV (wpAny_sequenceKey ht.typeIs (by decide) ?_)
 refine gV (QD (name:=Str.ofString "__getitem__") ht.typeIs Qx
  (Qw Qx ht.typeIs entry_tuple_getitem ?_ (args_tuple_getitem _ _)))
 show wpAny _ _ (Qq.Tuple.tupleItemsOf (.ref t) >>= _) _ _ s
 refine gV (tupleItemsOf_ ht ?_)
 refine gV (S4 hTs ?_)
 rw[if_pos (by decide)]
 refine gV (fH hs pl pu ?_)
 have hno:¬ ((((sIx items.size 0 lo:Nat):Int) == 0&&(1:Int) == 1&&(sIx items.size items.size hi - sIx items.size 0 lo) == items.size)=Wz):=by
  simp_all
 show wpAny _ _ (if (((sIx items.size 0 lo:Nat):Int) == 0&&(1:Int) == 1&&(sIx items.size items.size hi - sIx items.size 0 lo) == items.size)=Wz then _ else _) _ _ s
 rw[if_neg hno,Bk]
 first
  | exact gV (m:=RZ _) (Qn (Pl ⟨_,rfl,Pl h⟩) htake)
  | exact gV (m:=RZ _) (Qn (gV (Pl (Pl ⟨_,rfl,Pl h⟩))) htake)
  | exact gV (gV (m:=RZ _) (Qn (Pl (Pl ⟨_,rfl,Pl h⟩)) htake))
  | exact gV (gV (m:=RZ _) (Qn (Pl ⟨_,rfl,Pl h⟩) htake))
end
end HT
namespace L2
open PySem PySem.Spec PyProof.Rows
@[inline]abbrev TO:=St->Hp->(Option Int->Hp->Prop)->Prop
abbrev PO (X:Cx) (e:Option Rb) (t:TO):Prop:=
 ∀pins s (σ:St) H Q , Inv X pins σ H s->t σ H Q →
  wpAny (model X.prog X.w) X.A (evalPart e X.env) (fun u s'=>∃o H',Inv X pins σ H' s'/\VM u o/\Q o H') X.xe s
abbrev LK (t:TE):TO:=fun σ H Q=>t σ H fun x H1=>∃i,x=.int i/\Q (Wx i) H1
section
variable {X:Cx}{e:Rb}{te:TE}{lo hi:Option Rb}{tl th:TO}{pos p2:Pos}
def Ex (h:PE X e te):PO X (Wx e) (LK te):=by
 intro pins s σ H Q I hw
 rw[evalPart_some]
 refine thn (h pins s σ H _ I hw) fun u s1 zq1=>?_
 obtain⟨x,H1,I1,r1,q1⟩:=zq1
 obtain⟨i,rfl,q⟩:=q1
 obtain⟨t,rfl⟩:=r1
 exact⟨Wx i,H1,I1,.int i t,q⟩
abbrev SlR (X:Cx) (r:V->Option Int->Option Int->Hp->VK->Prop):Prop:=
 ∀pins s (σ:St) H x v vl vu lo hi sl Q , Inv X pins σ H s->RelV x v->s.heap.IsSliceOf sl vl vu .none->VM vl lo->VM vu hi->r x lo hi H Q →
  ∃T id,typeLookup (.type T) "__getitem__" = pure (Wx (.builtin id))/\s.TypeIs v T/\wpAny (model X.prog X.w) X.A (getItem v (.ref sl)) (EP X pins σ Q) X.xe s
def SlR.or (h:SlR X r) (h':SlR X r'):SlR X (fun x lo hi H Q=>r x lo hi H Q\/r' x lo hi H Q):=by
 intro pins s σ H x v vl vu lo hi sl Q I rx hs pl pu q
 rcases q with q | q
 ·exact h pins s σ H x v vl vu lo hi sl Q I rx hs pl pu q
 ·exact h' pins s σ H x v vl vu lo hi sl Q I rx hs pl pu q
abbrev tSl (r:V->Option Int->Option Int->Hp->VK->Prop) (te:TE) (tl th:TO):TE:=fun σ H Q=>te σ H fun x H1=>tl σ H1 fun l H2=>th σ H2 fun u H3=>r x l u H3 Q
def BZ {r:V->Option Int->Option Int->Hp->VK->Prop} (hr:SlR X r) (he:PE X e te) (hl:PO X lo tl) (hu:PO X hi th):PE X (.Subscript e (.Slice lo hi Wy p2) pos) (tSl r te tl th):=by
 intro pins s σ H Q I h
 refine Wa (thn (he pins s σ H _ I h) fun v s1 zq1=>?_)
 obtain⟨x,H1,I1,r1,q1⟩:=zq1
 refine wpAny_Slice (thn (hl pins s1 σ H1 _ I1 q1) fun vl s2 ⟨l,H2,I2,pl,q2⟩=>thn (hu pins s2 σ H2 _ I2 q2) fun vu s3 zq1=>?_)
 obtain⟨u,H3,I3,pu,q3⟩:=zq1
 rw[evalPart_none]
 refine Pl ?_
 have I4:Inv X pins σ H3 { s3 with heap:=s3.heap.push { cls:=.type "slice", data:=.fields #[vl,vu,.none] } }:=I3.kept (t':=s3.toks) fun b ob q=>Pn _ q
 obtain⟨T,id,hT,ht,hg⟩:=hr pins { s3 with heap:=s3.heap.push { cls:=.type "slice", data:=.fields #[vl,vu,.none] } } σ H3 x v vl vu l u s3.heap.objs.size Q I4 r1 (QQ.IsSliceOf.new ..) pl pu q3
 show wpAny (model X.prog X.w) X.A (subscriptTail e (.Slice lo hi Wy p2) v (.ref s3.heap.objs.size)) (EP X pins σ Q) X.xe { s3 with heap:=s3.heap.push { cls:=.type "slice", data:=.fields #[vl,vu,.none] } }
 exact tail_any (ops:=[.ref s3.heap.objs.size,v]) ht hT hg (by rfl)
abbrev pq (xs:List V) (lo hi:Option Int):List V:=(xs.drop (HT.sIx xs.length 0 lo)).take (HT.sIx xs.length xs.length hi - HT.sIx xs.length 0 lo)
def kW (xs:List V) (lo hi:Option Int):(pq xs lo hi).length<=xs.length:=by
 unfold pq
 rw[Qh,T9]
 lia
abbrev N2 (K:Pk):V->Option Int->Option Int->Hp->VK->Prop:=fun x lo hi H Q=>∃a xs,x=.ref a/\SqT K H a xs ∧
 ¬ (HT.sIx xs.length 0 lo=0/\HT.sIx xs.length xs.length hi=xs.length)/\∀p,H p=Wy->Q (.ref p) (upd H p (.tup (pq xs lo hi)))
def HU:SlR X (N2 X.K):=by
 intro pins s σ H x v vl vu lo hi sl Q I rx hs pl pu h
 obtain⟨a,xs,rfl,hx,hw,q⟩:=h
 cases rx
 obtain⟨its,r,ht,hz⟩:=I.tuple hx
 have hlen:its.toArray.size=xs.length:=by rw[Qo];exact r.length.symm
 refine⟨"tuple", _,Qx.lookup,ht.typeIs,?_⟩
 refine HT.jF ht hs pl pu (by rw[hlen];exact hw) ?_ (by rw[hlen];exact hz)
 rw[hlen]
 refine⟨.ref s.heap.objs.size,_,I.laid (t':=s.toks) (o:=.tup (pq xs lo hi)) (fun b ob q=>Pn _ q) (Pt _) ?_,rfl,q _ (I.hok.fresh (Pt _))⟩
 exact⟨P7 (kW xs lo hi) hz,_,(r.drop (HT.sIx xs.length 0 lo)).take (HT.sIx xs.length xs.length hi - HT.sIx xs.length 0 lo),mF.new _ _⟩
abbrev F_ (K:Pk):R2:=fun x y H Q=>∃a b xs ys,x=.ref a/\y=.ref b/\SqT K H a xs/\SqT K H b ys/\xs≠[]/\xs.length+ys.length<=sizeLine ∧
 (ys=[]->Q (.ref a) H)/\(ys≠[]->∀p,H p=Wy->Q (.ref p) (upd H p (.tup (xs++ys))))
def Vals.sD (r:Vals xs us):us=[]↔xs=[]:=by
 cases r with
 | nil=>simp
 | cons _ _=>simp
def DL:OpR X (binaryOp .Add) (F_ X.K):=by
 intro pins s σ H x y v u Q I rx ry h
 obtain⟨a,b,xs,ys,rfl,rfl,ha,hb,hx,hz,q1,q2⟩:=h
 cases rx
 cases ry
 obtain⟨its,r1,p1,_⟩:=I.tuple ha
 obtain⟨its2,r2,p2,_⟩:=I.tuple hb
 refine HT.F3 p1 p2 (fun z=>hx (r1.sD.mp z)) (fun z=>⟨.ref a,H,I,rfl,q1 (r2.sD.mp z)⟩) (fun z=>?_) (by rw[<- r1.length,<- r2.length];exact hz)
 refine⟨.ref s.heap.objs.size,_,I.laid (t':=s.toks) (o:=.tup (xs++ys)) (fun b ob q=>Pn _ q) (Pt _) ?_,rfl,q2 (fun w=>z (r2.sD.mpr w)) _ (I.hok.fresh (Pt _))⟩
 exact⟨by simp_all,_,r1.append r2,mF.new _ _⟩
end
abbrev ixN (n:Nat) (i:Int):Option Nat:=if 0<=i then (if i<n then Wx i.toNat else Wy) else if -(n:Int)<=i then Wx (i+n).toNat else Wy
abbrev atI {α:Type} (xs:List α) (i:Int):Option α:=(ixN xs.length i).bind fun j=>xs[j]?
def xO (h:ixN n i=Wx j):seqIndex? i n=Wx j/\j<n/\-(n:Int)<=i/\i<n:=by
 unfold ixN at h
 by_cases h0:0<=i
 ·rw[if_pos h0] at h
  by_cases h1:i<n
  ·rw[if_pos h1] at h
   have e:i.toNat=j:=QM h
   exact⟨by rw[VC h0 h1,e],{},{},h1⟩
  simp_all
 ·rw[if_neg h0] at h
  by_cases h1:-(n:Int)<=i
  ·rw[if_pos h1] at h
   have e:(i+n).toNat=j:=QM h
   exact⟨by rw[Vd {} h1,e],{},h1,{}⟩
  simp_all
def l_ (h:atI xs i=Wx v):∃j,seqIndex? i xs.length=Wx j/\xs[j]?=Wx v/\j<xs.length/\-(xs.length:Int)<=i/\i<xs.length:=by
 unfold atI at h
 cases e:ixN xs.length i with
 | none=>simp_all
 | some j=>
  rw[e] at h
  obtain⟨h1,h2,h3,h4⟩:=xO e
  simp_all
def Fu {j:Nat}{v:α} (h:xs[j]?=Wx v):atI xs (j:Int)=Wx v:=by
 have hj:j<xs.length:=(Qj.mp h).1
 have e:ixN xs.length (j:Int)=Wx j:=by
  unfold ixN
  simp_all
 unfold atI;simp_all
abbrev xX (b:Rb):Prop:=∀o i,subscripted b WA o i=operate [o,i] (getItem o i)
abbrev IxR (X:Cx) (r:R2):Prop:=
 ∀value slice pins s (σ:St) H x y v u Q , Inv X pins σ H s->RelV x v->RelV y u->r x y H Q →
  subscripted slice WA v u=operate [v,u] (getItem v u)->wpAny (model X.prog X.w) X.A (subscriptTail value slice v u) (EP X pins σ Q) X.xe s
abbrev MtR (X:Cx) (id:String) (r:V->List V->Hp->VK->Prop):Prop:=
 ∀pins s (σ:St) H x xs v us Q , Inv X pins σ H s->RelV x v->Vals xs us->r x xs H Q →
  wpAny (model X.prog X.w) X.A (call (.builtin id) (v::us)) (EP X pins σ Q) X.xe s
section
variable {X:Cx}{a b:Rb}{ta tb:TE}{pos:Pos}
def IxR.or (h:IxR X r) (h':IxR X r'):IxR X (fun x y H Q=>r x y H Q\/r' x y H Q):=by
 intro value slice pins s σ H x y v u Q I rx ry q hs
 rcases q with q | q
 ·exact h value slice pins s σ H x y v u Q I rx ry q hs
 ·exact h' value slice pins s σ H x y v u Q I rx ry q hs
def JV (hr:IxR X r) (ha:PE X a ta) (hb:PE X b tb) (hs:xX b):PE X (.Subscript a b pos) (tOp r ta tb):=by
 intro pins s σ H Q I h
 exact Wa (Ji ha hb I h fun v u s2 x y H2 I2 rx ry q=>hr a b pins s2 σ H2 x y v u Q I2 rx ry q (hs _ _))
abbrev HE (K:Pk):R2:=fun x y H Q=>∃p xs i v,x=.ref p/\y=.int i/\SqL K H p xs/\atI xs i=Wx v/\Q v H
abbrev Lr (K:Pk):R2:=fun x y H Q=>∃p xs i v,x=.ref p/\y=.int i/\SqT K H p xs/\atI xs i=Wx v/\Q v H
abbrev K4:R2:=fun x y H Q=>∃z i c,x=.str z/\y=.int i/\z.length<=sizeLine/\atI z.cps.toList i=Wx c/\Q (.str ⟨#[c]⟩) H
def Fo:IxR X (HE X.K):=by
 intro value slice pins s σ H x y v u Q I rx ry h hs
 obtain⟨p,xs,i,z,rfl,rfl,hq,he,q⟩:=h
 cases rx
 obtain⟨t,rfl⟩:=ry
 obtain⟨its,r,pl,hz⟩:=I.list hq
 obtain⟨j,h1,h2,h3,h4,h5⟩:=l_ he
 obtain⟨w,ew,rw'⟩:=r.get h2
 have hl:=r.length
 have hn:=gE
 have fin:EP X pins σ Q w s:=⟨z,H,I,rw',q⟩
 by_cases h0:0<=i
 ·have hj:i.toNat=j:=by
   rw[VC h0 h5] at h1
   simp_all
  exact item_listR pl.isList h0 {} (by simp_all) fin hs
 ·have hj:(i+(its.toArray.size:Int)).toNat=j:=by
   rw[Vd {} h4] at h1
   simp_all
  exact subscriptTail_builtinR (x:=w) pl.isList.typeIs slot_list_getitem.lookup
   (wpAny_getItem_list_neg (Q:=fun r s'=>r=w/\EP X pins σ Q r s') pl.isList {} (by simp_all) {} (by simp_all) ⟨rfl,fin⟩) hs
def HI:IxR X (Lr X.K):=by
 intro value slice pins s σ H x y v u Q I rx ry h hs
 obtain⟨p,xs,i,z,rfl,rfl,hq,he,q⟩:=h
 cases rx
 obtain⟨t,rfl⟩:=ry
 obtain⟨its,r,pl,hz⟩:=I.tuple hq
 obtain⟨j,h1,h2,h3,h4,h5⟩:=l_ he
 obtain⟨w,ew,rw'⟩:=r.get h2
 have hl:=r.length
 have hn:=gE
 have fin:EP X pins σ Q w s:=⟨z,H,I,rw',q⟩
 exact subscriptTail_builtinR (x:=w) pl.typeIs slot_tuple_getitem.lookup
  (getItem_tuple (j:=j) (Q:=fun r s'=>r=w/\EP X pins σ Q r s') pl {} {} (by simp_all) (by simp_all) ⟨rfl,fin⟩) hs
def Jb:IxR X K4:=by
 intro value slice pins s σ H x y v u Q I rx ry h hs
 obtain⟨z,i,c,rfl,rfl,hz,he,q⟩:=h
 obtain⟨t,rfl⟩:=rx
 obtain⟨t',rfl⟩:=ry
 obtain⟨j,h1,h2,h3,h4,h5⟩:=l_ he
 have hl:z.cps.toList.length=z.length:=by rfl
 rw[hl] at h1 h4 h5
 have hn:=gE
 exact tail_any (typeIs_str s z t) slot_str_getitem.lookup (getItem_str (c:=c) (by
  grind) (by simp_all) ⟨.str ⟨#[c]⟩,H,I.tok _,⟨_,rfl⟩,q⟩) hs
abbrev rIx (K:Pk):R2:=fun x y H Q=>HE K x y H Q\/Lr K x y H Q\/K4 x y H Q
def He:IxR X (rIx X.K):=Fo.or (HI.or Jb)
def w_ (its:List Pp) (n j) (u):R0 (·.setIfInBounds j u) { cls:=.type "list", data:=.seq its.toArray n }={ cls:=.type "list", data:=.seq (its.set j u).toArray n }:=by
 simp[R0]
def Inv.lst {σ:St}{H:Hp}{s:Pr}{p:PN}{xs:List V} (I:Inv X pins σ H s) (h:H p=Wx (.lst xs)) :
  ∃its n,Vals xs its/\s.heap.get? p=Wx { cls:=.type "list", data:=.seq its.toArray n }/\xs.length<=sizeLine:=by
 obtain⟨z,its,n,r,e⟩:=I.hok p _ h
 simp_all
def Inv.HS {σ:St}{its its':List Pp} (I:Inv X pins σ H s) (h:H p=Wx (.lst xs))
  (ho:s.heap.get? p=Wx { cls:=.type "list", data:=.seq its.toArray n }) (hf:f { cls:=.type "list", data:=.seq its.toArray n }={ cls:=.type "list", data:=.seq its'.toArray n' }) (r:Vals ys its') (hz:ys.length<=sizeLine) (t) :
  Inv X pins σ (upd H p (.lst ys)) { s with heap:=s.heap.update p f,toks:=t }:=by
 have e:(s.heap.update p f).get? p=Wx { cls:=.type "list", data:=.seq its'.toArray n' }:=by
  rw[Qt f ho (by rw[hf]<;>rfl),hf]
 refine I.write (x:=p) (e:=p) (by rw[h];trivial) (.inl rfl) (fun b u hb q=>(QI _ _ (SW hb)).trans q) ⟨_,e⟩ ?_
 exact⟨hz,its',n',r,e⟩
abbrev GC:V->V->V->Hp->(Hp->Prop)->Prop:=fun o i v H Q=>∃p xs k j,o=.ref p/\i=.int k/\H p=Wx (.lst xs)/\ixN xs.length k=Wx j/\Q (upd H p (.lst (xs.set j v)))
def set_list:Et X GC:=by
 intro pins s σ H o i v ov iv u Q I ro ri rv h
 obtain⟨p,xs,k,j,rfl,rfl,hp,hj,q⟩:=h
 cases ro
 obtain⟨t,rfl⟩:=ri
 obtain⟨its,n,r,ho,hz⟩:=I.lst hp
 obtain⟨h1,h2,h3,h4⟩:=xO hj
 have hl:=r.length
 have hn:=gE
 have I':Inv X pins σ (upd H p (.lst (xs.set j v))) { s with heap:=s.heap.update p (R0 (·.setIfInBounds j u)) }:=
  I.HS hp ho (w_ its n j u) (r.set rv j) (by simp_all) s.toks
 by_cases h0:0<=k
 ·have hk:k.toNat=j:=by
   rw[VC h0 h4] at h1
   simp_all
  exact PySem.W.ki_setAt ho h0 {} (by simp_all) (by grind)
 ·have hk:(k+(its.toArray.size:Int)).toNat=j:=by
   rw[Vd {} h3] at h1
   simp_all
  exact PySem.W.ki_setBack ho {} (by simp_all) {} (by grind)
def qP (lo hi:Option Int) (n:Nat):(sliceBounds lo hi Wy n).1=((HT.sIx n 0 lo:Nat):Int)/\(sliceBounds lo hi Wy n).2.1=((HT.sIx n n hi:Nat):Int)/\(sliceBounds lo hi Wy n).2.2=1:=by
 refine⟨?_,?_,rfl⟩
 ·cases lo with
  | none=>rfl
  | some i=>
   simp only[sliceBounds,HT.sIx,Option.getD_none,show(1:Int) > 0 by decide,if_true]
   grind
 ·cases hi with
  | none=>rfl
  | some i=>
   simp only[sliceBounds,HT.sIx,Option.getD_none,show(1:Int) > 0 by decide,if_true]
   grind
def o9 (its:List Pp) (lo hi):slicePick its.toArray lo hi Wy=((its.drop (HT.sIx its.length 0 lo)).take (HT.sIx its.length its.length hi - HT.sIx its.length 0 lo)).toArray:=by
 obtain⟨h1,h2,h3⟩:=qP lo hi its.toArray.size
 unfold slicePick
 rw[h1,h2,h3]
 simp only[sliceRange_one,pick_run,Qo]<;>rfl
abbrev NY (K:Pk):V->Option Int->Option Int->Hp->VK->Prop:=fun x lo hi H Q=>∃a xs,x=.ref a/\SqL K H a xs/\∀p,H p=Wy->Q (.ref p) (upd H p (.lst (pq xs lo hi)))
def FQ:SlR X (NY X.K):=by
 intro pins s σ H x v vl vu lo hi sl Q I rx hs pl pu h
 obtain⟨a,xs,rfl,hx,q⟩:=h
 cases rx
 obtain⟨its,r,ht,hz⟩:=I.list hx
 have hlen:=r.length
 refine⟨"list", _,slot_list_getitem.lookup,ht.isList.typeIs,?_⟩
 refine wpAny_getItem_list_slice ht.isList hs pl pu .none {..} ?_ (by simp_all)
 rw[o9,<- hlen]
 refine⟨.ref s.heap.objs.size,_,I.laid (t':=s.toks) (o:=.lst (pq xs lo hi)) (fun b ob q=>Pn _ q) (Pt _) ?_,rfl,q _ (I.hok.fresh (Pt _))⟩
 exact⟨P7 (kW xs lo hi) hz,_,0,(r.drop (HT.sIx xs.length 0 lo)).take (HT.sIx xs.length xs.length hi - HT.sIx xs.length 0 lo),Pu _ rfl⟩
abbrev iG:V->Bool
 | .non=>Wz
 | .bl _=>Wz
 | .int _=>Wz
 | .str _=>Wz
 | _=>WA
abbrev eqV:V->V->Bool
 | .non,.non=>Wz
 | .bl a,.bl b=>a == b
 | .bl a,.int b=>(if a then 1 else 0) == b
 | .int a,.bl b=>a == (if b then 1 else 0)
 | .int a,.int b=>a == b
 | .str a,.str b=>a == b
 | _,_=>WA
def Ht (ry:RelV y u) (rx:RelV x v) (fy:iG y=Wz) (fx:iG x=Wz):QP A s u v (eqV y x):=by
 cases y with
 | non=>
  cases ry
  cases x with
  | non=>cases rx;exact QP.same _
  | bl b=>cases rx;exact QP.none_bool b
  | int b=>obtain⟨t,rfl⟩:=rx;exact QP.none_int b t
  | str b=>obtain⟨t,rfl⟩:=rx;exact QP.none_str b t
  | _=>exact absurd (show WA=Wz from fx) Qd
 | bl a=>
  cases ry
  cases x with
  | non=>cases rx;exact QP.bool_none a
  | bl b=>cases rx;exact Ue a b
  | int b=>obtain⟨t,rfl⟩:=rx;exact QP.bool_int a b t
  | str b=>obtain⟨t,rfl⟩:=rx;exact QP.bool_str a b t
  | _=>exact absurd (show WA=Wz from fx) Qd
 | int a=>
  obtain⟨t',rfl⟩:=ry
  cases x with
  | non=>cases rx;exact QP.int_none a t'
  | bl b=>cases rx;exact QP.int_bool a t' b
  | int b=>obtain⟨t,rfl⟩:=rx;exact QP.int_int a t' b t
  | str b=>obtain⟨t,rfl⟩:=rx;exact QP.int_str a t' b t
  | _=>exact absurd (show WA=Wz from fx) Qd
 | str a=>
  obtain⟨t',rfl⟩:=ry
  cases x with
  | non=>cases rx;exact QP.str_none a t'
  | bl b=>cases rx;exact QP.str_bool a t' b
  | int b=>obtain⟨t,rfl⟩:=rx;exact QP.str_int a t' b t
  | str b=>obtain⟨t,rfl⟩:=rx;exact QP.str_str a t' b t
  | _=>exact absurd (show WA=Wz from fx) Qd
 | _=>exact absurd (show WA=Wz from fy) Qd
abbrev eqU (x:V) (u:Pp):Bool:=match u with
 | .none=>eqV .non x
 | .bool b=>eqV (.bl b) x
 | .int i _=>eqV (.int i) x
 | .str z _=>eqV (.str z) x
 | _=>WA
def BS (r:RelV y u) (f:iG y=Wz):eqU x u=eqV y x:=by
 cases y with
 | non=>cases r;rfl
 | bl b=>cases r;rfl
 | int i=>obtain⟨t,rfl⟩:=r;rfl
 | str z=>obtain⟨t,rfl⟩:=r;rfl
 | _=>exact absurd (show WA=Wz from f) Qd
def qR {x:V}:∀{xs:List V}{us:List Pp},Vals xs us->xs.all iG=Wz->us.any (eqU x)=xs.any fun y=>eqV y x
 | _,_,.nil,_=>rfl
 | y::xs,u::us,.cons r t,f=>by
  rw[Th,PV] at f
  rw[Rc,Rc,BS r f.1,qR t f.2]
def nG {A:P9}{s:Pr}{x:V}{v:Pp} (rx:RelV x v) (fx:iG x=Wz):∀{xs:List V}{us:List Pp},Vals xs us->xs.all iG=Wz->∀u∈us,QP A s u v (eqU x u)
 | _,_,.nil,_=>fun u hu=>by cases hu
 | y::xs,u::us,.cons r t,f=>fun u' hu=>by
  rw[Th,PV] at f
  rcases PL.mp hu with rfl | hu
  ·rw[BS r f.1];exact Ht r rx f.1 fx
  ·exact nG rx fx t f.2 u' hu
abbrev inV (x:V) (xs:List V):Bool:=xs.any fun y=>eqV y x
abbrev rIn (K:Pk) (neg:Bool):R2:=fun x y H Q=>∃p xs,y=.ref p/\(SqL K H p xs\/SqT K H p xs)/\iG x=Wz/\xs.all iG=Wz/\Q (.bl (if neg then !inV x xs else inV x xs)) H
def ji:OpR X (compareOp .NotIn) (rIn X.K Wz):=by
 intro pins s σ H x y v u Q I rx ry h
 obtain⟨p,xs,rfl,hq,fx,fs,q⟩:=h
 cases ry
 rcases hq with hq | hq
 ·obtain⟨its,r,pl,hz⟩:=I.list hq
  refine SeqAt.notIn_listAt (eqU x) pl.isList (fun w hw=>nG rx fx r fs w (by simp_all)) ⟨.bl _,H,I,rfl,?_⟩
  rw[show its.toArray.any (eqU x)=its.any (eqU x) by simp,qR r fs]
  exact q
 ·obtain⟨its,r,pl,hz⟩:=I.tuple hq
  refine SeqAt.notIn_tupleAt (eqU x) pl (fun w hw=>nG rx fx r fs w (by simp_all)) ⟨.bl _,H,I,rfl,?_⟩
  rw[show its.toArray.any (eqU x)=its.any (eqU x) by simp,qR r fs]
  exact q
def qL:aV X (.builtin "len") (fun xs H Q=>∃p ys,xs=[.ref p]/\(SqL X.K H p ys\/SqT X.K H p ys)/\Q (.int ys.length) H):=by
 intro pins s σ H xs us Q I r h
 obtain⟨p,ys,rfl,hq,q⟩:=h
 obtain⟨u,rfl,rx⟩:=vals1 r
 cases rx
 have hn:=gE
 rcases hq with hq | hq
 ·obtain⟨its,r',pl,hz⟩:=I.list hq
  have hlen:=r'.length
  exact Calls.call_len_list pl.isList (by grind) ⟨.int ys.length,H,I.tok _,⟨s.toks+1,by simp_all⟩,q⟩
 ·obtain⟨its,r',pl,hz⟩:=I.tuple hq
  have hlen:=r'.length
  exact len_tuple pl (by grind) ⟨.int ys.length,H,I.tok _,⟨s.toks+1,by simp_all⟩,q⟩
def sj:aV X (.builtin "len") (fun xs H Q=>∃z,xs=[.str z]/\z.length<=sizeLine/\Q (.int z.length) H):=by
 intro pins s σ H xs us Q I r h
 obtain⟨z,rfl,hz,q⟩:=h
 obtain⟨u,rfl,t,rfl⟩:=vals1 r
 have hn:=gE
 exact len_str {} ⟨.int z.length,H,I.tok _,⟨_,rfl⟩,q⟩
def aV.or (h:aV X f r) (h':aV X f r'):aV X f (fun xs H Q=>r xs H Q\/r' xs H Q):=by
 intro pins s σ H xs us Q I rs q
 rcases q with q | q
 ·exact h pins s σ H xs us Q I rs q
 ·exact h' pins s σ H xs us Q I rs q
def oY:aV X (.type "tuple") (fun xs H Q=>∃p ys,xs=[.ref p]/\((SqL X.K H p ys/\∀l,H l=Wy->Q (.ref l) (upd H l (.tup ys)))\/(SqT X.K H p ys/\Q (.ref p) H))):=by
 intro pins s σ H xs us Q I r h
 obtain⟨p,ys,rfl,h⟩:=h
 obtain⟨u,rfl,rx⟩:=vals1 r
 cases rx
 rcases h with⟨hq,q⟩ | ⟨hq,q⟩
 ·obtain⟨its,r',pl,hz⟩:=I.list hq
  have hlen:=r'.length
  refine call_tuple_list pl.isList (fun h' kp=>?_) (by simp_all)
  have I1:Inv X pins σ H { s with heap:=h' }:=I.kept (t':=s.toks) kp
  have I2:Inv X pins σ (upd H h'.objs.size (.tup ys)) { s with heap:=h'.push { cls:=.type "tuple", data:=.seq its.toArray } }:=
   I1.laid (t':=s.toks) (fun b o e=>Pn _ e) (Pt _) (show a_ X.prog X.w _ _ _ (.tup ys) from⟨hz,its,r',mF.new _ _⟩)
  exact⟨.ref h'.objs.size,_,I2,rfl,q _ (I1.hok.fresh (Pt _))⟩
 ·obtain⟨its,r',pl,hz⟩:=I.tuple hq
  exact call_tuple_same pl ⟨.ref p,H,I,rfl,q⟩
abbrev tyV (K:Pk) (T:String) (x:V) (H:Hp):Prop:=match x with
 | .str _=>T="str"
 | .int _=>T="int"
 | .ref p=>(T="list" /\ ∃xs,SqL K H p xs)\/(T="tuple" /\ ∃o,K.lookup p=Wx o/\o.cls=.type "tuple" /\ o.dict=Wy) ∨
   (T="dict" /\ ((∃kvs,H p=Wx (.dK kvs))\/∃kvs,H p=Wx (.dT kvs)))\/(T="set" /\ ∃S n,H p=Wx (.set S n))\/(T="tuple" /\ ∃xs,H p=Wx (.tup xs))
 | _=>False
def GZ {pins:List (PN × Obj)}{σ:St}{H:Hp}{s:Pr}{T:String}{x:V}{v:Pp} (I:Inv X pins σ H s) (r:RelV x v) (ty:tyV X.K T x H) :
  s.TypeIs v T/\∀a,v=.ref a->∃ob,s.heap.get? a=Wx ob/\ob.dict=none:=by
 cases x with
 | str z=>
  obtain⟨t,rfl⟩:=r
  cases (show T="str" from ty)
  exact⟨typeIs_str s z t,fun _ e=>nomatch e⟩
 | int i=>
  obtain⟨t,rfl⟩:=r
  cases (show T="int" from ty)
  exact⟨Wb s i t,fun _ e=>nomatch e⟩
 | ref p=>
  cases r
  rcases ty with⟨rfl,xs,hq⟩ | ⟨rfl,o,hk,hc,hd⟩ | ⟨rfl,hk⟩ | ⟨rfl,S,n,hk⟩ | ⟨rfl,xs,hk⟩
  ·obtain⟨its,_,pl,_⟩:=I.list hq
   refine⟨pl.isList.typeIs,fun a e=>?_⟩
   cases e
   obtain⟨o,n,e,c,hd,_⟩:=pl
   simp_all
  ·refine⟨⟨o,I.kIn p o hk,hc⟩,fun a e=>?_⟩
   cases e
   exact⟨o,I.kIn _ o hk,hd⟩
  ·have z:∃o,s.heap.get? p=Wx o/\o.ExactDict:=by
    rcases hk with⟨kvs,hk⟩ | ⟨kvs,hk⟩
    ·obtain⟨_,_,_,_,o,_,_,e,ex,_⟩:=I.hok p _ hk
     simp_all
    ·obtain⟨_,_,_,_,o,_,_,e,ex,_⟩:=I.hok p _ hk
     simp_all
   obtain⟨o,e,ex⟩:=z
   refine⟨⟨o,e,ex.1⟩,fun a e2=>?_⟩
   cases e2
   exact⟨o,e,ex.2.1⟩
  ·obtain⟨o,_,_,_,e,ex,_⟩:=I.hok p _ hk
   refine⟨⟨o,e,ex.1⟩,fun a e2=>?_⟩
   cases e2
   exact⟨o,e,ex.2.1⟩
  ·obtain⟨_,_,_,o,e,⟨c,_⟩,hd⟩:=I.hok p _ hk
   refine⟨⟨o,e,c⟩,fun a e2=>?_⟩
   simp_all
 | _=>exact RX ty
abbrev tBM (K:Pk) (T:String) (r:V->List V->Hp->VK->Prop) (to:TE) (t:TA):TE:=fun σ H Q=>to σ H fun x H1=>tyV K T x H1/\t σ H1 fun xs H2=>r x xs H2 Q
variable {o e:Rb}{es:List Rb}{to:TE}{t:TA}{name:Str}{apos cpos:Pos}{T id:String}{r:V->List V->Hp->VK->Prop}
def KD (pa:PlainAttrs T) (slot:Slot T name id) (hty:typeOf (.builtin id)=pure (.type "method_descriptor")) (hm:MtR X id r) (ho:PE X o to) (ha:PA X (e::es) t)
  (hbase:attributeBase o name X.env (eval o X.env)=eval o X.env:=by rfl)
  (hfew:((backTo cpos (starEach (e::es) X.env)).all (fun x=>!x.1)&&(backToKw cpos (keywordEach [] X.env)).all (fun x=>x.1.isSome)
   && decide ((e::es).length+([]:List V4).length+(if ([]:List V4).isEmpty then 0 else 1)<30))=true:=by rfl)
  (hline:(apos.endLine == cpos.line)=true:=by rfl) (hs:starEach (e::es) X.env=(WA,eval e X.env)::starEach es X.env:=by rfl) (hplain:(backTo cpos (starEach es X.env)).any (·.1)=false:=by rfl) :
  PE X (.Call (.Attribute o name apos) (e::es) [] cpos) (tBM X.K T r to t):=by
 intro pins s σ H Q I h
 refine wpAny_Call_method_late hbase hfew hline rfl (thn (ho pins s σ H _ I h) fun v s1 zq1=>?_)
 obtain⟨x,H1,I1,r1,ty,q1⟩:=zq1
 obtain⟨h1,h2⟩:=GZ I1 r1 ty
 refine⟨T,id,pa,slot,hty,h1,h2,?_⟩
 have hA:=ha cpos pins s1 σ H1 _ I1 q1
 rw[hs] at hA ⊢
 refine Calls.callWith_builtin (by simp_all) (Calls.evalArgs_plain ?_)
 exact thn hA fun us s2 ⟨vs,H2,I2,r2,q2⟩=>hm pins s2 σ H2 x vs v us Q I2 r1 r2 q2
/- xs.append(e),list.index on a module's tuple .. are MtR facts of 06m -/
end
abbrev MtM (X:Cx) (id:String) (r:V->List V->Hp->VK->Prop):Prop:=
 ∀pins s (σ:St) H x xs v us Q , Inv X pins σ H s->RelV x v->Vals xs us->r x xs H Q →
  wpAny (model X.prog X.w) X.A (call (.builtin id) (v::us)) (EP X pins σ Q) X.xe s
def Vals.one {x:V}{us:List Pp} (h:Vals [x] us):∃u,us=[u]/\RelV x u:=by
 cases h with | cons r t=>
 cases t
 exact⟨_,rfl,r⟩
def Vals.rep {xs:List V}{us:List Pp} (h:Vals xs us):∀k:Nat,Vals (PY k xs).flatten (PY k us).flatten
 | 0=>.nil
 | k+1=>by
  rw[SX,SX,List.flatten_cons,List.flatten_cons]
  exact Vals.append h (Vals.rep h k)
def foldl_rep (its:List Pp):∀(k:Nat) (acc:List Pp),
  Wc (fun x1 x2=>x1++x2) acc.toArray (PY k its.toArray)=(acc++(PY k its).flatten).toArray
 | 0,acc=>{..}
 | k+1,acc=>by
  have e:acc.toArray++its.toArray=(acc++its).toArray:={..}
  have e2:(acc++its)++(PY k its).flatten=acc++(PY (k+1) its).flatten:=by
   grind
  rw[<- e2,<- foldl_rep its k (acc++its),<- e,SX,R1]
section
variable {X:Cx}{pins:List (PN × Obj)}{σ:St}{H:Hp}{s:Pr}{l b:PN}{xs ys zs:List V}
def Inv.LD {its its':List Pp} (I:Inv X pins σ H s) (hH:H l=Wx (.lst xs))
  (e:s.heap.get? l=Wx { cls:=.type "list", data:=.seq its.toArray n }) (hf:f its.toArray=its'.toArray) (hv:Vals ys its') (hz:ys.length<=sizeLine) :
  Inv X pins σ (upd H l (.lst ys)) { s with heap:=s.heap.update l (R0 f),toks:=t' }:=by
 have q:=PySem.IsL.update e f
 rw[hf] at q
 refine I.write (x:=l) (e:=l) (by rw[hH];exact trivial) (.inl rfl) (fun b' u hb hu=>(QI s.heap (R0 f) (SW hb)).trans hu) ⟨_,q⟩ ?_
 exact⟨hz,its',_,hv,q⟩
def Inv.HW (I:Inv X pins σ H s) (hv:Vals ys its) (hz:ys.length<=sizeLine) :
  Inv X pins σ (upd H s.heap.objs.size (.lst ys)) { s with heap:=s.heap.push { cls:=.type "list", data:=.seq its.toArray },toks:=t' }:=
 I.laid (fun _ _ q=>Pn _ q) (Pt _) ⟨hz,its,0,hv,Pu _ rfl⟩
def Inv.fresh (I:Inv X pins σ H s):H s.heap.objs.size=none:=I.hok.fresh (Pt _)
def Inv.Lo (I:Inv X pins σ H s) (hH:H l=Wx (.lst xs)):xs.length<=sizeLine/\∃its n,Vals xs its/\xs.length=its.length/\s.heap.get? l=Wx { cls:=.type "list", data:=.seq its.toArray n }:=by
 obtain⟨z,its,n,r,e⟩:=I.hok l _ hH
 exact⟨z,its,n,r,r.length,e⟩
def um (h:n<=sizeLine):R3 n=false:=by
 unfold R3
 simp_all
end
section
variable {X:Cx}
abbrev xr:V->List V->Hp->VK->Prop:=fun x vs H Q=>∃l xs y,x=.ref l/\vs=[y]/\H l=Wx (.lst xs)/\xs.length<sizeLine/\Q .non (upd H l (.lst (xs++[y])))
def fP:MtM X "list.append" xr:=by
 intro pins s σ H x vs v us Q I rx rv h
 obtain⟨l,xs,y,rfl,rfl,hH,hz,q⟩:=h
 cases rx
 obtain⟨u,rfl,ru⟩:=rv.one
 obtain⟨z,its,n,r,hl,e⟩:=I.Lo hH
 refine UN F.slot_list_append ⟨_,e,rfl⟩ F.entry_list_append (F.args_list_append_2 _ _) (PySem.list_append l its.toArray n u (by simp_all)) ⟨e,?_⟩
 refine⟨.non,_,I.LD (its':=its++[u]) hH e {..} (r.append (.cons ru .nil)) ?_,rfl,q⟩
 grind
def len_rep {α:Type} (xs:List α) (k):(PY k xs).flatten.length=k*xs.length:=by
 simp
end
end L2
namespace Att
open PySem PySem.W PySem.Calls PyProof.Rows
def lT:∀ns vs , WellAll P h vs (ns.map WData.int)->IntsAre vs ns:=by
 intro ns
 induction ns with
 | nil=>
  intro vs w
  rw[Ve] at w
  cases w
  exact .nil
 | cons n ns ih=>
  intro vs w
  rw[PC] at w
  cases w with
  | cons a b=>
   cases a
   exact .cons _ _ (ih _ b)
def zk {l:Wi} (hn:l.most=Wx n)
  (hpre:l.row.toRowW.claim.pre args=Wz) (hwl:WellAll P h vals args) :
  ∃a vs ns,vals=[Qa a]/\args=[WData.list (ns.map WData.int)]/\h.get? a=Wx { cls:=.type "list", data:=.seq vs.toArray }/\IntsAre vs ns/\ns.length<=n:=by
 have hsh:WShape.hasAll [] args [.list .int]=true:=(pre_splitW hpre).1
 have hc:l.pre.holds [] { args:=args }=true:=(pre_splitW hpre).2
 obtain⟨d,r,rfl,h1,h2⟩:=hasAllW_cons hsh
 obtain rfl:=hasAllW_nil h2
 obtain⟨xs,rfl,h3⟩:=hasW_list h1
 obtain⟨ns,rfl⟩:=items_int h3
 have hlen:ns.length<=n:=by
  unfold Wi.pre at hc
  have h4:(WTm.not (.lt (.lit (.int (n:Int))) (.len (.arg 0)))).holds [] { args:=[.list (ns.map .int)] }=true:=by
   have h4:=(holds_andW hc).1
   simp_all
  have h5:=condW_of h4 (w_not (w_lt w_lit (w_len_list (w_arg rfl))))
  simp_all
 cases hwl with
 | cons w1 w2=>
  cases w2
  cases w1 with
  | list ho hall=>exact⟨_,_,ns,rfl,rfl,ho,lT ns _ hall,hlen⟩
def zL (l:Wi) (args):l.row.toRowW.claim.post args (.bool Wz) args=true:=
 postW_of (r:=l.row.toRowW) (X:=(Wz == Wz))
  (show WShape.has [] (.bool Wz) .bool=Wz by rfl)
  (show(WTm.eq .res (.lit (.bool Wz))).value [] { args:=args,res:=Wx (.bool Wz),after:=args }=Wx (.bool (Wz == Wz)) from w_eq_bool (w_res rfl) w_lit) rfl
def uZ {l:Wi}
  (hn:l.most=Wx n) (hdf:d.params.defaults=[])
  (call:∀w ax s₁ mg mb fa o pm cd doc a vs ns ,
   Ground q loose [] XP w ax mg mb s₁.heap->YP w s₁.heap →
   s₁.heap.get? fa=Wx o->o.data=.func (docDef d.name d.params d.body d.scope pm cd doc)->s₁.heap.CodeRec cd d.name->mg d.name=Wx (.ref fa) →
   s₁.heap.get? a=Wx { cls:=.type "list", data:=.seq vs.toArray }->IntsAre vs ns->ns.length<=n->s₁.gens = #[] →
   codeAny (model l.prog w) callerA (.call (.ref fa) ⟨[.ref a],[]⟩) (fun r s'=>r=.ok (.ret (.bool Wz))/\OldK s₁.heap s'.heap/\s'.os=s₁.os/\UZ s'.gens) s₁) :
  WalkO q loose XP YP l.row.toRowW d [] (fun f vs=>Wd f vs):=by
 intro w ax s₁ mg mb G Y fa o pm cd doc dV kV ho hd hcd hD hmg hg args vals as hpre hlay hrd hwl hlo
 obtain rfl:dV=.none:=Dflts.none hD hdf
 obtain rfl:kV=.none:=Dflts.noKw hD
 obtain⟨a,vs,ns,rfl,rfl,hobj,hints,hlen⟩:=zk hn hpre hwl
 refine enter_call (RA (call w ax s₁ mg mb fa o pm cd doc a vs ns G Y ho (fd_plain hd) hcd hmg hobj hints hlen hg) fun r s' hq=>?_)
 obtain⟨rfl,h2,h3,h4⟩:=hq
 exact⟨.inl ⟨.bool Wz,.bool Wz,[],rfl,fun _=>rfl,.bool Wz,zL l _,fun _=>⟨TH,fun _ hm=>(nomatch hm)⟩⟩,h2,h3,h4⟩
end Att
namespace L2
open PySem PySem.Spec PyProof.Rows
def pG:∀{vs:List Pp}{ns:List Int},IntsAre vs ns->Vals (ns.map V.int) vs
 | _,_,.nil=>.nil
 | _,_,.cons n t h=>.cons ⟨t,rfl⟩ (pG h)
abbrev Oc (H:Hp):Prop:=∀b,H b=Wy\/∃o xs,H b=Wx (.frz o (.lst xs))
end L2
/- THE LAST THEOREM (shape;LID,My.* are yours):
  My.Adr: a structure of the addresses that your layer names (classes,functions);My.Txt K t: a structure (Prop) of the equations over K;
  My.txt_mk:{K} {implicit addresses ..} (e1:nsIn K mainGlobals "law" = Wx (Wx (.ref f))) (e2:K.lookup f=Wx ⟨oc,od,.func (fnOf "law" "law" params body scope dV kV doc pm an cdv ct),sl⟩) (e3:codeIn K cdv "law" = Wz) .. : ∃t,My.Txt K t
(the tactic k_is has no namespace: write k_is) -/
namespace L2
open PySem PySem.Spec PyProof.Rows
abbrev cb (s:TF):VJ:=match s with
 | .FunctionDef _ a _ _ _ _ _ _ _ _=>a
 | _=>{ posonlyargs:=[],args:=[],vararg:=Wy,kwonlyargs:=[],kw_defaults:=[],kwarg:=Wy,defaults:=[] }
abbrev aP (s:TF):List TF:=match s with
 | .FunctionDef _ _ b _ _ _ _ _ _ _=>b
 | _=>[]
abbrev ag (s:TF):Ui:=match s with
 | .FunctionDef _ _ _ _ _ _ sc _ _ _=>sc
 | _=>{ kind:=.function,names:=[],isGenerator:=WA,isCoroutine:=WA }
@[inline]abbrev CX0:CXT:=fun _ _ _ _ _ _=>False
@[inline]abbrev E0:XK:=fun _ _ _=>False
def JX:Passes CX0 X E0:=fun _ _ _ _ _ _ _ h=>h.elim
structure Fun (K) (x qual) (st) (f) (fd):Prop where
 ex:∃oc od kV doc pm an cdv ct osl,
  fd=QH x qual (cb st) (aP st) (ag st) .none kV doc pm an cdv ct/\K.lookup f=some ⟨oc,od,.func fd,osl⟩/\SN K cdv qual=true
 kp:Qk K (.ref f)=true
section
variable {P:PJ}{w:Qc}{K:Pk}{mg:Str->Option Pp}{base:QQ}
def Fun.ok {st:TF} (F:Fun K x qual st f fd) (S:az N ps (ag st)) (len:∀vs H Q E,sp vs H Q E->vs.length=ps.length)
  (hbody:∀cdv A outer s H vs Q E , bF k (A.deeper (envOfC qual (ag st) s.heap.objs.size f cdv))->sp vs H Q E →
   ∃t,PSs (dR CX0 P w K mg base N qual (ag st) f cdv A outer s H E).nox (aP st) t/\t { nx:=fun _ H'=>Q .non H',rt:=Q } (start N vs) H):b9 P w K mg base CX0 (k+1) f fd ps sp:=by
 obtain⟨oc,od,kV,doc,pm,an,cdv,ct,osl,rfl,lk,hcd⟩:=F.ex
 refine Gr lk hcd S len fun A outer s H vs Q E hr hsp=>?_
 obtain⟨t,h,q⟩:=hbody cdv A outer s H vs Q E hr hsp
 exact⟨t,h.nox,q⟩
def Fun.binds {st:TF} (F:Fun K x qual st f fd)
  (h:∀kV doc pm an cdv ct us , us.length=ps.length->bindArgs (QH x qual (cb st) (aP st) (ag st) .none kV doc pm an cdv ct) ⟨us,[]⟩=pure (ps.zip us)):Binds K fd ps []:=by
 obtain⟨oc,od,kV,doc,pm,an,cdv,ct,osl,rfl,lk,hcd⟩:=F.ex
 exact .all (h kV doc pm an cdv ct)
def wu {st:TF}{kV doc pm cdv ct:Pp} (l:K.lookup f=Wx ⟨oc,od,.func (QH x qual (cb st) (aP st) (ag st) .none kV doc pm an cdv ct),osl⟩)
  (c:SN K cdv qual=Wz) (k:Qk K (.ref f)=Wz):Fun K x qual st f (QH x qual (cb st) (aP st) (ag st) .none kV doc pm an cdv ct):=⟨⟨oc,od,kV,doc,pm,an,cdv,ct,osl,rfl,l,c⟩,k⟩
end
abbrev PTs (X:Cx) (ifs:List Rb) (t:TT):Prop:=
 ∀pins s (σ:St) H Q , Inv X pins σ H s->t σ H Q →
  wpAny (model X.prog X.w) X.A (forIn ifs Wz fun c r=>if r=Wz then do let ok ← isTrue c X.env (eval c X.env);pure (RF ok) else pure (RF r)) (TP X pins σ Q) X.xe s
abbrev KN:TT:=fun _ H Q=>Q Wz H
def Fx:PTs X [] KN:=fun _ _ _ H _ I h=>wpAny_tests_nil ⟨H,I,h⟩
def D3 (h:PT X c t):PTs X [c] t:=fun pins s σ H Q I q=>wpAny_tests_one (h pins s σ H Q I q)
def vo (I:Nat->Pr->Prop)
  (turn:∀n s,I n s->wpAny (model prog w) A (pyNext it) (fun r s₁=>match r with
   | none=>R (.ok .next) s₁
   | some v=>wpAny (model prog w) A (letOwnedTupleGo target it v) (fun _ s₁=>wpAny (model prog w) A (assign target env v) (fun _ s₂=>
     wpAny (model prog w) A (forIn ifs Wz fun c r=>if r=Wz then do let ok ← isTrue c env (eval c env);pure (RF ok) else pure (RF r)) (fun ok s₃=>
      if ok=Wz then wpAny (model prog w) A (eval elt env) (fun x s₄=>
       wpAny (model prog w) A (call (.builtin "list.append") [acc,x]) (fun _ s₅=>∃m,m<n/\I m s₅) (fun _ _=>False) s₄) (fun _ _=>False) s₃
      else ∃m,m<n/\I m s₃) (fun _ _=>False) s₂) (fun _ _=>False) s₁) (fun _ _=>False) s₁) (fun _ _=>False) s)
  (n) (h:I n s) :
  codeAny (model prog w) A (.compLoop (.ListComp elt [⟨target,iter,ifs,0⟩] scope pos) 0 it acc env) R s:=by
 refine VW rfl I (fun n s hI=>?_) n h
 refine V5 ?_
 refine U0 ?_
 refine gV (QR (gV (P4 (turn n s hI) (fun r s₁ h₁=>?_) fun _ _ h'=>h')))
 cases r with
 | none=>exact Pl h₁
 | some v=>
  refine gV (P4 h₁ (fun _ s₁' h₁'=>?_) fun _ _ h'=>h')
  refine gV (P4 h₁' (fun _ s₂ h₂=>gV (P4 h₂ (fun ok s₃ h₃=>?_) fun _ _ h'=>h')) fun _ _ h'=>h')
  cases ok with
  | false=>exact Pl ⟨rfl,h₃⟩
  | true=>
   exact gV (gV (P4 h₃ (fun x s₄ h₄=>gV (P4 h₄ (fun _ s₅ h₅=>Pl (Pl ⟨rfl,h₅⟩)) fun _ _ h'=>h')) fun _ _ h'=>h'))
abbrev aZ (X:Cx) (scope:Ui) (cl:List (Str × PN)) (C:PN) (ax:Pr) (aD:Hp) (fp:List PN) (N':List Str):Cx:=
 { X with N:=N',ax:=ax,aD:=aD,env:=compEnvC scope cl C X.env,outer:=X.stack,ex:=fp,fn:=fun _=>WA,pn:=[] }
def iW {env:Env}:∀(names:List (Str × RH)) (cs:List (Str × PN)),(∀y∈names,y.2=.free->∃a,env.cells.lookup y.1=Wx a)->(∀x c,cs.lookup x=Wx c->env.cells.lookup x=Wx c) →
  ∃cl:List (Str × PN),(forIn names cs fun(y:Str × RH) (r:List (Str × PN))=>if (y.2 == Sx)=Wz then do let a ← cellOf env y.1;pure (RF ((y.1,a)::r)) else pure (RF r):Sem (List (Str × PN)))=pure cl ∧
   (∀x c,cl.lookup x=Wx c->env.cells.lookup x=Wx c)/\(∀x,((x,Sx)∈names\/∃c,cs.lookup x=Wx c)->∃c,cl.lookup x=Wx c)
 | [],cs,_,h=>⟨cs,rfl,h,fun x hx=>by
   simp_all⟩
 | (n,k)::r,cs,hf,h=>by
  by_cases hk:k=.free
  ·subst hk
   obtain⟨a,ha⟩:=hf (n,.free) {..} rfl
   obtain⟨cl,e,h1,h2⟩:=iW r ((n,a)::cs) (fun y hy=>hf y (Po _ hy)) (fun x c q=>by
    grind)
   refine⟨cl,?_,h1,fun x hx=>?_⟩
   ·rw[List.forIn_cons]
    have e0:cellOf env n=pure a:=by unfold cellOf;rw[ha]
    simp_all
   ·have hc:∀z c,cs.lookup z=Wx c->∃c,((n,a)::cs).lookup z=Wx c:=fun z c q=>by
     grind
    rcases hx with z | ⟨c,z⟩
    ·rcases PL.mp z with q | q
     ·simp_all
     simp_all
    simp_all
  ·obtain⟨cl,e,h1,h2⟩:=iW r cs (fun y hy=>hf y (Po _ hy)) h
   grind
def ph (h:∀y∈scope.names,y.2=.free->∃a,env.cells.lookup y.1=Wx a) :
  ∃cl:List (Str × PN),closureFor scope env=pure cl/\(∀x c,cl.lookup x=Wx c->env.cells.lookup x=Wx c)/\(∀x,(x,Sx)∈scope.names->∃c,cl.lookup x=Wx c):=by
 obtain⟨cl,e,h1,h2⟩:=iW scope.names [] h (fun x c q=>by cases q)
 refine⟨cl,?_,h1,fun x hx=>h2 x (.inl hx)⟩
 exact V1 (congrArg (fun t:Sem (List (Str × PN))=>t >>= fun cs=>pure cs) e) rfl
def lookup_mem {x:Str}{k:RH}:∀{names:List (Str × RH)},names.lookup x=Wx k->(x,k)∈names
 | [],h=>by cases h
 | (n,j)::r,h=>by
  rw[List.lookup_cons] at h
  cases hx:x == n with
  | true=>
   simp_all
  | false=>rw[hx] at h;exact Po _ (lookup_mem h)
def d9 {env:Env} (hf:env.scope.kind=.function):∀{names:List (Str × RH)}{x:Str},names.lookup x=Wx .free->env.kindOf x=Wx .cell →
  (names.map fun(n,k)=>if (k == Sx&&env.scope.kind == .function&&env.kindOf n == Wx .cell) then (n,RH.cell) else (n,k)).lookup x=Wx .cell
 | [],_,h,_=>by cases h
 | (n,k)::r,x,h,hc=>by
  have ih:=@d9 env hf r x
  grind
def gc {env:Env}:∀{names:List (Str × RH)}{x:Str}{k:RH},(names.map fun(n,k)=>if (k == Sx&&env.scope.kind == .function&&env.kindOf n == Wx .cell) then (n,RH.cell) else (n,k)).lookup x=Wx k →
  names.lookup x=Wx k\/(names.lookup x=Wx .free/\k=.cell)
 | [],_,_,h=>by cases h
 | (n,j)::r,x,k,h=>by
  have ih:=@gc env r x k
  grind
abbrev sQ (ix:List Nat) (σ:St):St:=none::ix.map fun i=>(σ[i]?).join
@[inline]abbrev LJ (J:It) (tt:TT) (te:TE) (σ':V->St) (acc:PN) (H1:Hp) (Q:VK):Prop:=
 ∃W:Nat->Nat->List V->Hp->Prop,(∃m,W 0 m [] (upd H1 acc (.lst [])))/\∀i m ys H,W i m ys H →
  (J.stop i H/\Q (.ref acc) H)\/(J.go i H/\∀x H',J.yld i H x H'->tt (σ' x) H' fun b H2=>if b=Wz then te (σ' x) H2 fun y H3=>
    H3 acc=Wx (.lst ys)/\ys.length<sizeLine/\∃m',m'<m/\W (i+1) m' (ys++[y]) (upd H3 acc (.lst (ys++[y])))
   else ∃m',m'<m/\W (i+1) m' ys H2)
abbrev Gb (wi:TI) (ix:List Nat) (tt:TT) (te:TE):TE:=fun σ H Q=>wi σ H fun J H1=>∀acc,H1 acc=Wy->LJ J tt te (fun x=>(sQ ix σ).set 0 (Wx x)) acc H1 Q
def HOk.sameBut (x:HOk P w H h) (hn:H C=Wy) (k:∀b u,b≠C->h.get? b=Wx u->h'.get? b=Wx u):HOk P w H h':=fun b u e=>by
 have nC:∀b u,H b=Wx u->b≠C:=fun b u e z=>by simp_all
 refine(x b u e).iB (fun c v hc q=>k c v ?_ q) (fun _ q=>q) fun _ _ q=>q
 grind
section
variable {X:Cx}
def tW:aV X (.builtin "isinstance") (fun vs H Q=>∃x t n b,vs=[x,.ty n]/\i_ X.K H x t/\Q9 X.K t (.type n)=Wx b/\Q (.bl b) H):=by
 intro pins s σ H xs us Q I r h
 obtain⟨x,t,n,b,rfl,ty,e,q⟩:=h
 obtain⟨u,w',rfl,r1,r2⟩:=vals2 r
 cases r2
 exact Ad I r1 ty e fun tk=>⟨.bl b,H,I.tok tk,rfl,q⟩
def oF:aV X (.builtin "len") (fun vs H Q=>∃p S n,vs=[.ref p]/\H p=Wx (.set S n)/\Q (.int n) H):=by
 intro pins s σ H xs us Q I r h
 obtain⟨p,S,n,rfl,hH,q⟩:=h
 obtain⟨u,rfl,rx⟩:=vals1 r
 cases rx
 obtain⟨o,es,ep,tb,ho,hex,hd,hel,hmem,hsz,hfit,rfl⟩:=(show s.heap.SetOf (intKind X.prog X.w) p S n from I.hok p _ hH)
 have hb:(es.size:Int)<2 ^ 63:=by unfold scanBound at hsz;lia
 exact PySem.call_len_set ho hex hd hfit hb ⟨.int es.size,H,I.tok _,⟨_,rfl⟩,q⟩
def iC {lo hi:Option Int} (ht:IsTup s.heap t items) (hs:s.heap.IsSliceOf sl vl vu .none) (pl:VM vl lo) (pu:VM vu hi)
  (h1:HT.sIx items.size 0 lo=0) (h2:HT.sIx items.size items.size hi=items.size) (h:Q (.ref t) s):wpAny (model prog w) A (getItem (.ref t) (.ref sl)) Q E s:=by
 obtain⟨os,hos,hcs,hds⟩:=id hs
 have hTs:s.TypeIs (.ref sl) "slice" := ⟨os,hos,hcs⟩
 unfold getItem
 try with_reducible refine P6 ?_
 refine gV (wpAny_sequenceKey ht.typeIs (by decide) ?_)
 refine gV (QD ht.typeIs Qx (Qw Qx ht.typeIs entry_tuple_getitem ?_ (args_tuple_getitem _ _)))
 show wpAny _ _ (Qq.Tuple.tupleItemsOf (.ref t) >>= _) _ _ s
 refine gV (tupleItemsOf_ ht (gV (S4 hTs ?_)))
 refine gV (HT.fH hs pl pu ?_)
 rw[h1,h2]
 show wpAny _ _ (if (((0:Nat):Int) == 0&&(1:Int) == 1&&(items.size - 0) == items.size)=Wz then _ else _) _ _ s
 rw[if_pos {..}]
 refine gV (gV (S4 ht.typeIs (Pl ?_)))
 refine gV (Vr ?_)
 first
  | exact Pl ⟨_,rfl,Pl h⟩
  | exact gV (Pl (Pl ⟨_,rfl,Pl h⟩))
abbrev LP (K:Pk):V->Option Int->Option Int->Hp->VK->Prop:=fun x lo hi H Q=>∃a xs,x=.ref a/\SqT K H a xs/\HT.sIx xs.length 0 lo=0/\HT.sIx xs.length xs.length hi=xs.length/\Q (.ref a) H
def Fj:SlR X (LP X.K):=by
 intro pins s σ H x v vl vu lo hi sl Q I rx hs pl pu h
 obtain⟨a,xs,rfl,hx,h1,h2,q⟩:=h
 cases rx
 obtain⟨its,r,ht,hz⟩:=I.tuple hx
 have hlen:its.toArray.size=xs.length:=by rw[Qo];exact r.length.symm
 refine⟨"tuple", _,Qx.lookup,ht.typeIs,?_⟩
 exact iC ht hs pl pu (by simp_all) (by simp_all) ⟨.ref a,H,I,rfl,q⟩
abbrev Be (K:Pk):R2:=fun x y H Q=>∃a b ys,x=.ref a/\y=.ref b/\SqT K H a []/\SqT K H b ys/\Q (.ref b) H
def A7:OpR X (binaryOp .Add) (Be X.K):=by
 intro pins s σ H x y v u Q I rx ry h
 obtain⟨a,b,ys,rfl,rfl,ha,hb,q⟩:=h
 cases rx
 cases ry
 obtain⟨its,r1,p1,_⟩:=I.tuple ha
 obtain⟨its2,r2,p2,_⟩:=I.tuple hb
 cases r1
 obtain⟨⟨cls,dd,data,sl⟩,ho,hc,n,hd⟩:=id p1
 obtain⟨⟨cls2,dd2,data2,sl2⟩,ho2,hc2,n2,hd2⟩:=id p2
 subst hc hd hc2 hd2
 exact VV ⟨_,ho,rfl⟩ ⟨_,ho2,rfl⟩ U6 VL Tu Tg (S3 _ _)
  (tuple_addW0 a b _ _ n n2 dd dd2 sl sl2 {..}) ⟨ho,ho2,⟨.ref b,H,I,rfl,q⟩⟩
end
open AutoSeq1 (wpAny_loadPart')
abbrev rk (a:PN) (lo hi st:Int):HO:=.ext fun h=>∃t u v,h.get? a=Wx { cls:=.type "range", data:=.fields #[.int lo t,.int hi u,.int st v] }
abbrev sR (lo st:Int) (n:Nat):List Int:=(Py n).map fun(i:Nat)=>lo+(i:Int)*st
def sO (lo st:Int) (n:Nat):(sR lo st n).length=n:=by simp[sR]
def vE {lo st:Int} (h:Ws (fun i v=>∃t,v=.int (lo+i*st) t) acc n):Vals ((sR lo st n).map V.int) acc.toList:=by
 obtain⟨hs,hv⟩:=h
 have key:∀(l:List Pp) (k:Nat),(∀j v,l[j]?=Wx v->∃t,v=Sj (lo+((k+j:Nat):Int)*st) t)->Vals (((U1 k l.length).map fun(i:Nat)=>lo+(i:Int)*st).map V.int) l:=by
  intro l
  induction l with
  | nil=>intro k _;exact .nil
  | cons a r ih=>
   intro k hk
   refine .cons ?_ (ih (k+1) fun j v e=>?_)
   ·obtain⟨t,q⟩:=hk 0 a rfl
    exact⟨t,{}⟩
   ·obtain⟨t,q⟩:=hk (j+1) v (by simp_all)
    grind
 have:=key acc.toList 0 fun j v e=>by
  simp_all
 unfold sR
 rw[RW,<- hs]
 omega
section
variable {X:Cx}
def Inv.rng {pins:List (PN × Obj)}{σ:St}{H:Hp}{s:Pr}{lo hi st:Int}{t u v:Tok}{tk:Nat} (I:Inv X pins σ H s) :
  Inv X pins σ (upd H s.heap.objs.size (rk s.heap.objs.size lo hi st)) { s with heap:=s.heap.push { cls:=.type "range", data:=.fields #[.int lo t,.int hi u,.int st v] },toks:=tk }:=by
 refine I.laid (fun b o e=>Pn _ e) (Pt _) ?_
 refine⟨⟨t,u,v,Pu _ rfl⟩,⟨_,Pu _ rfl⟩,fun h1 h2 ⟨a,b,c,e⟩ k=>⟨a,b,c,k _ e⟩⟩
def zF:aV X (.type "range") (fun vs H Q=>∃j,vs=[.int j]/\∀p,H p=Wy->Q (.ref p) (upd H p (rk p 0 j 1))):=by
 intro pins s σ H xs us Q I r h
 obtain⟨j,rfl,q⟩:=h
 obtain⟨u,rfl,t,rfl⟩:=vals1 r
 exact call_range_1 ⟨.ref _,_,I.rng,rfl,q _ (I.hok.fresh (Pt _))⟩
def Ag:aV X (.type "range") (fun vs H Q=>∃i j,vs=[.int i,.int j]/\∀p,H p=Wy->Q (.ref p) (upd H p (rk p i j 1))):=by
 intro pins s σ H xs us Q I r h
 obtain⟨i,j,rfl,q⟩:=h
 obtain⟨u,w',rfl,⟨t,rfl⟩,⟨t',rfl⟩⟩:=vals2 r
 exact call_range_2 ⟨.ref _,_,I.rng,rfl,q _ (I.hok.fresh (Pt _))⟩
structure xT (lo hi st) (n:Nat):Prop where
 sm:Qq.Range.small lo hi st=true
 sz:Qq.Range.rangeSize lo hi st=n
 le:n<=2 ^ 20
def Inv.JW {σ:St}{lo hi st:Int} (I:Inv X pins σ H s) (h:H p=Wx (rk p lo hi st)):∃t u v,IsRange s.heap p lo hi st t u v:=by
 obtain⟨⟨t,u,v,e⟩,_⟩:=I.hok p _ h
 grind
def pD (hc:X.calm=Wz):aV X (.type "list") (fun vs H Q=>∃p lo hi st n,vs=[.ref p]/\H p=Wx (rk p lo hi st)/\xT lo hi st n/\∀l,H l=Wy->Q (.ref l) (upd H l (.lst ((sR lo st n).map V.int)))):=by
 intro pins s σ H xs us Q I r h
 obtain⟨p,lo,hi,st,n,rfl,hp,ok,q⟩:=h
 obtain⟨u,rfl,rx⟩:=vals1 r
 cases rx
 obtain⟨t,u,v,hr⟩:=I.JW hp
 have hn:=ok.le
 refine call_list_range (I.ok.hd hc) hr ok.sm ok.sz {} fun h' tk acc c kp e hi=>?_
 have hv:=vE hi
 refine⟨.ref s.heap.objs.size,_,I.laid kp (Pt _) (show a_ X.prog X.w _ h' _ (.lst _) from⟨?_,acc.toList,c,hv,by omega⟩),rfl,q _ (I.hok.fresh (Pt _))⟩
 rw[PR,sO,QN];lia
end
section
variable {X:Cx}
def Bz (h1:-1000000<=a) (h2:a<=1000000) (h3:-1000000<=b) (h4:b<=1000000) (h:b - a<=1000000):xT a b 1 (b - a).toNat:=
 ⟨small_one {} {} {} {},by rw[rangeSize_one];lia,{}⟩
inductive RdD (K) (H):V->Vu->Prop
 | non:RdD K H .non .none
 | bl (b):RdD K H (.bl b) (.bool b)
 | int (i):RdD K H (.int i) (.int i)
 | str (x):RdD K H (.str x) (.str x)
 | tup (h:SqT K H a xs) (hl:xs.length=ds.length) (hx:∀(i:Nat) x d,xs[i]?=some x->ds[i]?=some d->RdD K H x d):RdD K H (.ref a) (.tuple ds)
 | lst (h:SqL K H a xs) (hl:xs.length=ds.length) (hx:∀(i:Nat) x d,xs[i]?=some x->ds[i]?=some d->RdD K H x d):RdD K H (.ref a) (.list ds)
def gR {h:QQ}:∀{us:List Pp}{ds:List Vu},us.length=ds.length->(∀(i:Nat) u d,us[i]?=Wx u->ds[i]?=Wx d->∃as,Reads h u d as)->∃as,ReadsAll h us ds as
 | [],[],_,_=>⟨_,.nil⟩
 | [],_::_,hl,_=>by grind
 | _::_,[],hl,_=>by grind
 | u::us,d::ds,hl,hx=>by
  obtain⟨as,h1⟩:=hx 0 u d rfl rfl
  obtain⟨bs,h2⟩:=gR (by simpa using hl) fun i u d e1 e2=>hx (i+1) u d (by simp_all) (by simp_all)
  exact⟨_,.cons h1 h2⟩
def Vals.get' {xs:List V}{us:List Pp}{i:Nat}{u:Pp} (r:Vals xs us) (h:us[i]?=Wx u):∃x,xs[i]?=Wx x/\RelV x u:=by
 have hl:=r.length
 have hi:i<xs.length:=by rw[hl];exact(Qj.mp h).1
 obtain⟨u',e1,e2⟩:=r.get (Pz hi)
 rw[h] at e1;cases e1
 exact⟨_,Pz hi,e2⟩
def Inv.reads {σ:St} (I:Inv X pins σ H s) (r:RdD X.K H x d):∀u,RelV x u->∃as,Reads s.heap u d as:=by
 induction r with
 | non=>intro u ru;cases (show u=QL from ru);exact⟨_,.none⟩
 | bl b=>intro u ru;cases (show u=Ul b from ru);exact⟨_,.bool b⟩
 | int i=>intro u ru;obtain⟨t,q⟩:=(show ∃t,u=Sj i t from ru);cases q;exact⟨_,.int i t⟩
 | str y=>intro u ru;obtain⟨t,q⟩:=(show ∃t,u=VI y t from ru);cases q;exact⟨_,.str y t⟩
 | @tup a xs ds h hl hx ih=>
  intro u ru
  cases (show u=Qa a from ru)
  obtain⟨its,rv,p,hz⟩:=I.tuple h
  obtain⟨o,ho,hc,n,hd⟩:=p
  obtain⟨as,ra⟩:=gR (by rw[<- rv.length,hl]) fun i u d e1 e2=>by
   obtain⟨y,e3,ry⟩:=rv.get' e1
   exact ih i y d e3 e2 u ry
  exact⟨_,.tuple ho hc hd (by omega)⟩
 | @lst a xs ds h hl hx ih=>
  intro u ru
  cases (show u=Qa a from ru)
  obtain⟨its,rv,p,hz⟩:=I.list h
  obtain⟨o,ho,hc,n,hd⟩:=p.isList
  obtain⟨as,ra⟩:=gR (by rw[<- rv.length,hl]) fun i u d e1 e2=>by
   obtain⟨y,e3,ry⟩:=rv.get' e1
   exact ih i y d e3 e2 u ry
  exact⟨_,.list ho hc hd (by omega)⟩
def Ao (hg:X.A.guards=Wx []) (hu:X.A.units+64<cLine):aV X (.builtin "repr") (fun vs H Q=>∃p d,vs=[.ref p]/\RdD X.K H (.ref p) d/\d.showable=Wz/\d.hasDict=WA/\d.depth<=60/\d.shown.length<=sizeLine/\Q (.str d.shown) H):=by
 intro pins s σ H xs us Q I r h
 obtain⟨p,d,rfl,rd,hs,hd,hdp,hz,q⟩:=h
 obtain⟨u,rfl,rx⟩:=vals1 r
 cases rx
 obtain⟨as,ra⟩:=I.reads rd (.ref p) rfl
 exact repr_of_reads' ra hs (Vu.noDict_hsm hd) hg {} (fun _ _ e=>e) (fun h' u tk kp=>⟨.str d.shown,H,I.kept kp,⟨_,rfl⟩,q⟩) hz
def wL:aV X (.builtin "repr") (fun vs H Q=>∃i,vs=[.int i]/\i.natAbs.log2<1920/\Q (.str (toString i)) H):=by
 intro pins s σ H xs us Q I r h
 obtain⟨i,rfl,hi,q⟩:=h
 obtain⟨u,rfl,t,rfl⟩:=vals1 r
 exact PySem.P.repr_of_int hi ⟨.str (toString i),H,I.tok _,⟨_,rfl⟩,q⟩
end
def Inv.G7 {σ:St} (I:Inv X (pins++[(C,o)]) σ H s) (cC:∀x c,X.env.cells.lookup x=Wx c->c≠C) (hC:X.ax.heap.objs.size<=C) (pC:∀p∈X.pn++pins,p.1≠C) (hs:Ry C s.heap h'):Inv X pins σ H { s with heap:=h' }:=by
 have kb:∀b u,b≠C->s.heap.get? b=Wx u->h'.get? b=Wx u:=fun b u hb z=>hs.extBut b u hb z
 obtain⟨q0,q1,q2,q3,q4⟩:=I.pin (C,o) (Px _ (Px _ (P1.mpr rfl)))
 have J:Inv X pins σ H s:=I.my fun p hp=>I.pin p (Px _ (Ru _ hp))
 refine J.uy (s':={ s with heap:=h' }) (ch:=[C]) rfl ⟨fun b u z n a c=>kb b u (fun e=>c (by simp_all)) z,fun b u z n a c=>⟨u.slots,kb b _ (fun e=>c (by simp_all)) z⟩,fun b u z n c=>n,fun b u z c=>⟨u,kb b u (fun e=>c (by simp_all)) z⟩,fun b xs z=>z,fun b ob u z=>z,fun b ps z=>⟨#[],by simp_all⟩⟩ (J.hok.sameBut q1 kb) J.bare fun b hb=>?_
 grind
section
variable {prog:PJ}{w:Qc}{A:P9}{E:Pp->Pr->Prop}{s:Pr}
def vI (hi:s.heap.IsTupleIter it t i) (ht:s.heap.IsTuple t its) (hx:its[i]?=Wx x) (hQ:∀h',h'.IsTupleIter it t (i+1)->Ry it s.heap h'->Q x { s with heap:=h' }) :
  wpAny (model prog w) A (Qq.SmallTypes.nextOf (.ref it)) Q E s:=by
 obtain⟨oi,h1,h2,h3⟩:=id hi
 obtain⟨ot,k1,_,nt,k2⟩:=ht
 refine gV (QD hi.typeIs RM (Qw RM hi.typeIs F.entry_tuple_iterator_next ?_ (F.args_tuple_iterator_next_1 _)))
 refine gV (m:=field (.ref it) 0) (RT h1 h3 rfl ?_)
 show wpAny _ _ (if (Qa t == QL)=Wz then _ else field (.ref it) 1 >>= _) _ _ s
 refine gV (RT h1 h3 rfl (gV (UE k1 k2 ?_)))
 simp only[TJ,hx]
 exact gV (Sb h1 h3 {..} (Pl ⟨x,rfl,Pl (hQ _ ⟨_,Qt _ h1 (Q5 (QA h3 _)),(UO ..).trans h2,by rw[QA h3];rfl⟩ (Rm ..))⟩))
def pL (hh:A.handled=Wy) (hi:s.heap.IsTupleIter it t i) (ht:s.heap.IsTuple t its) (hx:its[i]?=Wy)
  (hE:∀h' e,V6 it s.heap h'->(∃o,h'.get? e=Wx o/\o.cls=.type "StopIteration")->E (.ref e) { s with heap:=h' }):wpAny (model prog w) A (Qq.SmallTypes.nextOf (.ref it)) Q E s:=by
 obtain⟨oi,h1,h2,h3⟩:=id hi
 obtain⟨ot,k1,_,nt,k2⟩:=ht
 refine gV (QD hi.typeIs RM (Qw RM hi.typeIs F.entry_tuple_iterator_next ?_ (F.args_tuple_iterator_next_1 _)))
 refine gV (m:=field (.ref it) 0) (RT h1 h3 rfl ?_)
 show wpAny _ _ (if (Qa t == QL)=Wz then _ else field (.ref it) 1 >>= _) _ _ s
 refine gV (RT h1 h3 rfl (gV (UE k1 k2 ?_)))
 simp only[TJ,hx]
 refine gV (Vr (gV (Sb h1 h3 {..} (gV ?_))))
 refine gV (Qn (gV (U2 (by rfl) (Qn ?_ (by size_fits)))) (by size_fits))
 refine gV (VN ?_)
 rw[show A.in1.handled=Wy from hh]
 exact gV (Pl (V7 (hE _ _ (((Rm ..).extBut.push _).push _) ⟨_,Pu _ rfl,rfl⟩)))
end
def Draws.tup {prog:PJ}{w:Qc}{A:P9} (hh:A.handled=Wy) (it t:PN) (hne:t≠it) (its:Array Pp):Draws prog w A it [it,t] its.size (fun i v=>its[i]?=Wx v) (fun i h=>h.IsTupleIter it t i/\h.IsTuple t its) where
 live:=fun _ _ z=>let ⟨o,ho,_⟩:=z.1;⟨o,ho⟩
 frame:=fun _ _ _ z hk=>⟨z.1.at fun o e=>hk it {..} o e,z.2.at fun o e=>hk t {..} o e⟩
 item:=fun i s Q E hi z hQ=>vI z.1 z.2 (x:=its[i]) (by simp[hi]) fun h' a b=>hQ _ h' s.toks (by simp[hi]) ⟨a,z.2.extBut b.extBut hne⟩ b
 done:=fun s Q E z hE=>pL hh z.1 z.2 {..} hE
section
open AutoSeq1 (wpAny_loadPart')
def wV (t) (its) (n) (dct) (sl) :
  Meets (Qq.«enumerate.__new__» ⟨[.type "enumerate", .ref t],[]⟩) (fun _ R s=>s.heap.get? t=Wx { cls:=.type "tuple", dict:=dct,data:=.seq its n,slots:=sl } ∧
   R (.ok (.ret (.ref (s.heap.push { cls:=.type "tuple_iterator", data:=.fields #[.ref t,.int 0 0] }).objs.size))) { s with heap:=(s.heap.push { cls:=.type "tuple_iterator", data:=.fields #[.ref t,.int 0 0] }).push { cls:=.type "enumerate", data:=.fields #[.none,.bool WA,.ref s.heap.objs.size,rawInt 0,.none,.none] } }):=
 .of_wp fun prog w A R s z=>by
  obtain⟨hp,gs,dr,tk,os⟩:=s;obtain⟨ht,z⟩:=z
  have su:=sub_enumerate
  have hT:QQ.IsTuple (Pr.heap ⟨hp,gs,dr,tk,os⟩) t its:=⟨_,ht,rfl,n,rfl⟩
  wp_walk using Vf ht
  refine wpAny_stack_any fun st=>Pl ?_
  split
  ·rename_i c _ _ _ _ _
   cases (c == TB "enumerate")<;>(wp_walk using Vf ht,Ti hT;exact⟨_,rfl,z⟩)
  ·(wp_walk using Vf ht,Ti hT);exact⟨_,rfl,z⟩
end
section
variable {prog:PJ}{w:Qc}{A:P9}{E:Pp->Pr->Prop}{s:Pr}
def Lh (hT:s.heap.IsTuple t its)
  (q:∀h',Wl h' (s.heap.objs.size+1) s.heap.objs.size 0 .none->h'.IsTupleIter s.heap.objs.size t 0->h'.objs.size=s.heap.objs.size+2->(∀b o,s.heap.get? b=Wx o->h'.get? b=Wx o)->Q (.ref (s.heap.objs.size+1)) { s with heap:=h' }) :
  wpAny (model prog w) A (call (.type "enumerate") [.ref t]) Q E s:=by
 obtain⟨⟨c,dct,dt,sl⟩,ht,hc,n,hd⟩:=hT
 subst hc hd
 refine callType_new F.called_enumerate (by decide) (F.typeCall_enumerate_1 _) (F.newCall_enumerate_1 _) (fun obj=>F.args_object_init_2 obj _) F.entry_enumerate_new (wV t its n dct sl) ⟨ht,?_⟩
 have hz:(s.heap.push { cls:=.type "tuple_iterator", data:=.fields #[.ref t,.int 0 0] }).objs.size=s.heap.objs.size+1:=QQ.size_push ..
 rw[hz]
 have he:Wl ((s.heap.push { cls:=.type "tuple_iterator", data:=.fields #[.ref t,.int 0 0] }).push { cls:=.type "enumerate", data:=.fields #[.none,.bool WA,.ref s.heap.objs.size,rawInt 0,.none,.none] }) (s.heap.objs.size+1) s.heap.objs.size 0 .none:=by
  have y:=Pu (s.heap.push { cls:=.type "tuple_iterator", data:=.fields #[.ref t,.int 0 0] }) (o:={ cls:=.type "enumerate", data:=.fields #[.none,.bool WA,.ref s.heap.objs.size,rawInt 0,.none,.none] }) rfl
  grind
 exact⟨⟨_,he,rfl⟩,q _ he ⟨_,Pn _ (Pu _ rfl),rfl,rfl⟩ {..} fun b o x=>Pn _ (Pn _ x)⟩
end
def Inv.yielded {X:Cx}{pins:List (PN × Obj)}{σ:St}{H:Hp}{s:Pr}{fp:List PN}{T:PN}{o:HO}{h':QQ}{t':Nat} (I:Inv X pins σ H s) (hf:∀b∈fp,lJ X pins H b) (k:∀b u,b∉fp->s.heap.get? b=Wx u->h'.get? b=Wx u)
  (hT:s.heap.objs.size<=T) (new:a_ X.prog X.w (upd H T o) h' T o):Inv X pins σ (upd H T o) { s with heap:=h',toks:=t' }:=by
 have nT:∀b u,s.heap.get? b=Wx u->b≠T:=fun b u e z=>absurd (Pq e) (by rw[z];exact Um.mpr hT)
 have nH:∀b u,H b=Wx u->b≠T:=fun b u e z=>absurd (I.hok.lt e) (by rw[z];exact Um.mpr hT)
 have nf:∀b u,H b=Wx u->b∉fp:=fun b u e z=>by rw[(hf b z).1] at e;cases e
 refine I.uy (s':={ s with heap:=h',toks:=t' }) rfl ⟨fun b u e n _ c=>k b u c e,fun b u e n _ c=>⟨u.slots,k b u c e⟩,fun b u e n c=>by rw[aw (nT b u e)];exact n,fun b u e c=>⟨u,k b u c e⟩,fun b xs e=>by rw[aw (nH b _ e)];exact e,fun b ob u e=>by rw[aw (nH b _ e)];exact e,fun b ps e=>⟨#[],by rw[aw (nH b _ e),e];simp⟩⟩ (fun b u e=>?_) I.bare (fun b hb=>?_)
 ·by_cases hb:b=T
  ·subst hb
   rw[aL] at e
   cases e
   exact new
  ·rw[aw hb] at e
   refine(I.hok b u e).iB (fun c v hc q=>k c v ?_ q) (fun c q=>by rw[aw (nH c _ q)];exact q) fun c xs q=>by rw[aw (nH c _ q)];exact q
   rcases hc with z | z
   ·rw[z];exact nf b u e
   ·exact nf c _ z
 ·obtain⟨_,g1,_,g3,g4,g5⟩:=hf b hb
  exact⟨g3,g1,g4,g5⟩
def Inv.yo {σ:St}{fp:List PN} (I:Inv X pins σ H s) (hf:∀b∈fp,lJ X pins H b) (k:∀b u,b∉fp->s.heap.get? b=Wx u->h'.get? b=Wx u):Inv X pins σ H { s with heap:=h',toks:=t' }:=by
 have nf:∀b u,H b=Wx u->b∉fp:=fun b u e z=>by rw[(hf b z).1] at e;cases e
 refine I.uy (s':={ s with heap:=h',toks:=t' }) rfl ⟨fun b u e n _ c=>k b u c e,fun b u e n _ c=>⟨u.slots,k b u c e⟩,fun b u e n c=>n,fun b u e c=>⟨u,k b u c e⟩,fun b xs e=>e,fun b ob u e=>e,fun b ps e=>⟨#[],by grind⟩⟩ (fun b u e=>?_) I.bare (fun b hb=>?_)
 ·refine(I.hok b u e).iB (fun c v hc q=>k c v ?_ q) (fun c q=>q) fun c xs q=>q
  grind
 ·obtain⟨_,g1,_,g3,g4,g5⟩:=hf b hb
  grind
abbrev Iel (K:Pk) (a:PN):It:=
 ⟨fun i H=>∃xs x,SqL K H a xs/\xs[i]?=Wx x,fun i H x H'=>∃p v,x=.ref p/\H p=Wy/\(∀xs,SqL K H a xs->xs[i]?=Wx v)/\H'=upd H p (.tup [.int i,v]),fun i H=>∃xs,SqL K H a xs/\xs.length<=i⟩
abbrev Iet (K:Pk) (a:PN):It:=
 ⟨fun i H=>∃xs x,SqT K H a xs/\xs[i]?=Wx x,fun i H x H'=>∃p v,x=.ref p/\H p=Wy/\(∀xs,SqT K H a xs->xs[i]?=Wx v)/\H'=upd H p (.tup [.int i,v]),fun i H=>∃xs,SqT K H a xs/\xs.length<=i⟩
def DF {h:QQ}{e it:PN}{i:Int}{old:Pp} (z:Wl h e it i old):∃o,h.get? e=Wx o/\∀v,o.data≠.cell v:=⟨_,z,fun v q=>nomatch q⟩
def nL {St:Nat->QQ->Prop} (D:Draws prog w A.in1 it fp n P St) (e) (hei:e≠it) (hef:e∉fp) (i) (s:Pr) (Q) (E) (hi:i<n)
  (hst:(∃old,Wl s.heap e it i old)/\St i s.heap)
  (hQ:∀T vals h' tk,(∃t x,P i x/\vals = #[.int i t,x])->s.heap.objs.size<=T->mF h' T vals->((∃x,IsEnumOut h' e it ((i:Int)+1) x T)/\St (i+1) h'/\T≠e/\T≠it)->(∀b o,b∉[e,it]->s.heap.get? b=Wx o->h'.get? b=Wx o)->Q (Wx (.ref T)) { s with heap:=h',toks:=tk }) :
  wpAny (model prog w) A (pyNext (.ref e)) Q E s:=by
 obtain⟨⟨old,he⟩,hs⟩:=hst
 refine wpAny_pyNext_enum_itemD D he hs hi hei hef fun x h1 tk hP ho hs1 hT _ hk=>?_
 refine hQ s.heap.objs.size #[.int i tk,x] h1 (tk+1) ⟨tk,x,hP,rfl⟩ (Pt _) ⟨_,hT,⟨rfl,_,rfl⟩,rfl⟩ ⟨⟨_,ho⟩,hs1,Rz (Pq he),?_⟩ fun b o hb y=>hk b o (fun z=>hb (by simp[z])) (fun z=>hb (by simp[z])) y
 obtain⟨_,y⟩:=D.live _ _ hs
 exact Rz (Pq y)
def vJ {P:PJ}{w:Qc}{K:Pk}{elts:List Rb}{k:Nat}{pos:Pos}{a it e:PN} (hei:e≠it):Turn P w K (.Tuple elts k pos) (Iel K a) [e,it] e (fun i h=>(∃old,Wl h e it i old)/\h.IsListIter it a i) where
 mem:={..}
 obj:=fun i h z b hb=>by
  obtain⟨⟨old,z1⟩,z2⟩:=z
  rcases PL.mp hb with rfl | hb
  ·exact DF z1
  ·rw[P1.mp hb]
   obtain⟨o,q,_,d⟩:=z2
   exact⟨o,q,fun v y=>by rw[d] at y;cases y⟩
 keep:=fun i h h' z kk=>⟨let ⟨old,z1⟩:=z.1;⟨old,kk e {..} _ z1⟩,z.2.at fun o q=>kk it {..} o q⟩
 item:=by
  intro X hP hw hK hc i pins s σ H E I hf st hg
  subst hP hw hK
  obtain⟨xs,x,hq,hx⟩:=hg
  obtain⟨its,rv,p,hz⟩:=I.list hq
  obtain⟨u,hu,ru⟩:=rv.get hx
  have hl:=rv.length
  have plt:a<s.heap.objs.size:=by obtain⟨o,q,_⟩:=p.isList;exact Pq q
  have hai:a≠it/\a≠e:=by
   obtain⟨oa,qa,ca,_⟩:=p.isList
   obtain⟨⟨old,z1⟩,oi,qi,ci,_⟩:=st
   exact⟨(fun q=>by rw[q,qi] at qa;cases qa;rw[ci] at ca;injection ca with y;exact absurd y (by decide)),(fun q=>by rw[q,z1] at qa;cases qa;injection ca with y;exact absurd y (by decide))⟩
  have DD:=(Draws.list (prog:=X.prog) (w:=X.w) (A:=X.A.in1) (I.ok.hd hc) it a hai.1 its.toArray)
  have hef0:e∉[it,a]:=by simp;exact⟨hei,fun q=>hai.2 q.symm⟩
  have W:=WalksT.enumerateD (prog:=X.prog) (w:=X.w) (A:=X.A) DD e hei hef0 {..}
  refine nL DD e hei hef0 i s _ _ (by rw[Qo,<- hl];exact(Qj.mp hx).1) ⟨st.1,st.2,p.isList⟩ fun T vals h1 tk hv hT ht hm k1=>?_
  obtain⟨t,v,hv1,hv2⟩:=hv
  have ev:v=u:=by
   have:its[i]?=Wx v:=by simpa using hv1
   rw[hu] at this;exact(QM this).symm
  subst ev
  refine⟨.ref T,rfl,W.go elts k pos i T { s with heap:=h1,toks:=tk } _ _ hm fun h2 st2 k2=>?_⟩
  have kk:∀b o,b∉[e,it]->s.heap.get? b=Wx o->h2.get? b=Wx o:=fun b o hb q=>k2 b o hb (k1 b o hb q)
  have hT2:mF h2 T vals:=by
   obtain⟨o,q,c⟩:=ht
   exact⟨o,k2 T o (fun z=>W.apart _ _ _ hm z) q,c⟩
  have hn:H T=none:=I.hok.fresh hT
  have nTf:∀b∈[e,it],b≠T:=fun b hb z=>by
   have hlt:b<s.heap.objs.size:=by
    rcases PL.mp hb with rfl | hb
    ·obtain⟨old,z1⟩:=st.1;exact Pq z1
    ·rw[P1.mp hb];obtain⟨o,q,_⟩:=st.2;exact Pq q
   rw[z] at hlt;exact absurd hlt (Um.mpr hT)
  refine⟨.ref T,upd H T (.tup [.int i,x]),I.yielded (t':=tk) hf kk hT ⟨by show 2<=sizeLine;decide,[.int i t,v],.cons ⟨t,rfl⟩ (.cons ru .nil),?_⟩,rfl,⟨T,x,rfl,hn,fun ys hy=>by rw[I.nM hy hq];exact hx,rfl⟩,⟨st2.1,st2.2.1⟩,fun b hb=>by rw[aw (nTf b hb)];exact(hf b hb).1⟩
  rw[hv2] at hT2;exact hT2
 done:=by
  intro X hP hw hK hc i pins s σ H E I hf st hg
  subst hP hw hK
  obtain⟨xs,hq,hx⟩:=hg
  obtain⟨its,rv,p,hz⟩:=I.list hq
  obtain⟨⟨old,z1⟩,z2⟩:=st
  have hl:=rv.length
  exact wpAny_pyNext_enum_end (I.ok.hd hc) z1 z2 p.isList (Sd (by rw[Qo];lia)) fun h' eb=>⟨rfl,I.yo (t':=s.toks) hf fun b u hb q=>eb b u (fun z=>hb (by simp[z])) q⟩
 self:=fun A i s Q E z q=>by
  obtain⟨⟨old,z1⟩,z2⟩:=z
  exact TL z1 q
def w8 {P:PJ}{w:Qc}{K:Pk}{elts:List Rb}{k:Nat}{pos:Pos}{a it e:PN} (hei:e≠it):Turn P w K (.Tuple elts k pos) (Iet K a) [e,it] e (fun i h=>(∃old,Wl h e it i old)/\h.IsTupleIter it a i) where
 mem:={..}
 obj:=fun i h z b hb=>by
  obtain⟨⟨old,z1⟩,z2⟩:=z
  rcases PL.mp hb with rfl | hb
  ·simp_all
  ·rw[P1.mp hb]
   obtain⟨o,q,_,d⟩:=z2
   simp_all
 keep:=fun i h h' z kk=>⟨let ⟨old,z1⟩:=z.1;⟨old,kk e {..} _ z1⟩,z.2.at fun o q=>kk it {..} o q⟩
 item:=by
  intro X hP hw hK hc i pins s σ H E I hf st hg
  subst hP hw hK
  obtain⟨xs,x,hq,hx⟩:=hg
  obtain⟨its,rv,p,hz⟩:=I.tuple hq
  obtain⟨u,hu,ru⟩:=rv.get hx
  have hl:=rv.length
  have plt:a<s.heap.objs.size:=by obtain⟨o,q,_⟩:=(show s.heap.IsTuple a its.toArray from p);exact Pq q
  have hai:a≠it/\a≠e:=by
   obtain⟨oa,qa,ca,_⟩:=(show s.heap.IsTuple a its.toArray from p)
   obtain⟨⟨old,z1⟩,oi,qi,ci,_⟩:=st
   grind
  have DD:=(Draws.tup (prog:=X.prog) (w:=X.w) (A:=X.A.in1) (I.ok.hd hc) it a hai.1 its.toArray)
  have hef0:e∉[it,a]:=by grind
  have W:=WalksT.enumerateD (prog:=X.prog) (w:=X.w) (A:=X.A) DD e hei hef0 {..}
  refine nL DD e hei hef0 i s _ _ (by grind) ⟨st.1,st.2,(show s.heap.IsTuple a its.toArray from p)⟩ fun T vals h1 tk hv hT ht hm k1=>?_
  obtain⟨t,v,hv1,hv2⟩:=hv
  have ev:v=u:=by
   simp_all
  subst ev
  refine⟨.ref T,rfl,W.go elts k pos i T { s with heap:=h1,toks:=tk } _ _ hm fun h2 st2 k2=>?_⟩
  have kk:∀b o,b∉[e,it]->s.heap.get? b=Wx o->h2.get? b=Wx o:=fun b o hb q=>k2 b o hb (k1 b o hb q)
  have hT2:mF h2 T vals:=by
   obtain⟨o,q,c⟩:=ht
   exact⟨o,k2 T o (fun z=>W.apart _ _ _ hm z) q,c⟩
  have hn:H T=none:=I.hok.fresh hT
  have nTf:∀b∈[e,it],b≠T:=fun b hb z=>by
   simp_all
  refine⟨.ref T,upd H T (.tup [.int i,x]),I.yielded (t':=tk) hf kk hT ⟨by show 2<=sizeLine;decide,[.int i t,v],.cons ⟨t,rfl⟩ (.cons ru .nil),?_⟩,rfl,⟨T,x,rfl,hn,fun ys hy=>by rw[I.kL hy hq];exact hx,rfl⟩,⟨st2.1,st2.2.1⟩,fun b hb=>by rw[aw (nTf b hb)];exact(hf b hb).1⟩
  simp_all
 done:=by
  intro X hP hw hK hc i pins s σ H E I hf st hg
  subst hP hw hK
  obtain⟨xs,hq,hx⟩:=hg
  obtain⟨its,rv,p,hz⟩:=I.tuple hq
  obtain⟨⟨old,z1⟩,z2⟩:=st
  have hl:=rv.length
  have pt:s.heap.IsTuple a its.toArray:=p
  have DD:Draws X.prog X.w X.A.in1 it [it,a] i (fun _ _=>True) (fun j h=>j=i/\h.IsTupleIter it a j/\h.IsTuple a its.toArray):={
   live:=fun _ _ z=>let ⟨o,ho,_⟩:=z.2.1;⟨o,ho⟩
   frame:=fun _ _ _ z hk=>⟨z.1,z.2.1.at fun o e=>hk it {..} o e,z.2.2.at fun o e=>hk a {..} o e⟩
   item:=fun j s Q E hj z hQ=>absurd z.1 (PU hj)
   done:=fun s Q E z hE=>pL (I.ok.hd hc) z.2.1 z.2.2 (Sd (by simp_all)) hE }
  exact wpAny_pyNext_enum_endD DD z1 ⟨rfl,z2,pt⟩ fun h' eb=>⟨rfl,I.yo (t':=s.toks) hf fun b u hb q=>eb b u (fun z=>hb (by simp[z])) q⟩
 self:=fun A i s Q E z q=>by
  obtain⟨⟨old,z1⟩,z2⟩:=z
  exact TL z1 q
abbrev K0 (K:Pk) (tl:TE):TI:=fun σ H R=>tl σ H fun x H1=>∃a,x=.ref a/\(((∃xs,SqL K H1 a xs)/\R (Iel K a) H1)\/((∃xs,SqT K H1 a xs)/\R (Iet K a) H1))
def E2 {X:Cx}{elts:List Rb}{kt:Nat}{tp p pos:Pos}{l:Rb}{tl:TE} (hg:Gl X "enumerate") (hm:X.mg "enumerate" = Wy) (hl:PE X l tl) (hs:starEach [l] X.env=[(WA,eval l X.env)]:=by rfl) :
  PI X (.Tuple elts kt tp) (.Call (.Name "enumerate" p) [l] [] pos) (K0 X.K tl):=by
 intro pins s σ H R I h
 have h':GO tl LC σ H (fun vs H1=>match vs with
  | [x]=>∃a,x=.ref a/\(((∃xs,SqL X.K H1 a xs)/\R (Iel X.K a) H1)\/((∃xs,SqT X.K H1 a xs)/\R (Iet X.K a) H1))
  | _=>False):=h
 refine Call_ (kc I hg hm PyProof.Rows.boot_enumerate (RE (thn (dq hl g_ hs pos pins s σ H _ I h') fun us s1 ⟨vs,H1,I1,r1,q1⟩=>?_) hs rfl))
 cases r1 with
 | nil=>simp_all
 | cons r rr=>
  cases rr with
  | cons _ _=>simp_all
  | nil=>
   obtain⟨a,rfl,q⟩:=q1
   cases r
   have fp:∀{h':QQ},∀b∈[s1.heap.objs.size+1,s1.heap.objs.size],lJ X pins H1 b:=fun{h'} b hb=>by
    have hb':s1.heap.objs.size<=b:=by
     grind
    exact I1.Ff hb' (I1.hok.fresh hb')
   rcases q with⟨⟨xs,hq⟩,q⟩ | ⟨⟨xs,hq⟩,q⟩
   ·obtain⟨its,rv,pl,hz⟩:=I1.list hq
    refine call_enumerate_list pl.isList fun h2 z1 z2 hsz kp=>TL (s:={ s1 with heap:=h2 }) z1 ?_
    exact⟨s1.heap.objs.size+1,[s1.heap.objs.size+1,s1.heap.objs.size],_,_,H1,rfl,I1.kept kp,vJ (Nat.succ_ne_self _),⟨⟨_,z1⟩,z2⟩,fp (h':=h2),q⟩
   ·obtain⟨its,rv,pl,hz⟩:=I1.tuple hq
    refine Lh (show s1.heap.IsTuple a its.toArray from pl) fun h2 z1 z2 hsz kp=>TL (s:={ s1 with heap:=h2 }) z1 ?_
    exact⟨s1.heap.objs.size+1,[s1.heap.objs.size+1,s1.heap.objs.size],_,_,H1,rfl,I1.kept kp,w8 (Nat.succ_ne_self _),⟨⟨_,z1⟩,z2⟩,fp (h':=h2),q⟩
abbrev vL (nt:Nat) (ix:List Nat) (σ:St):St:=PY nt Wy++ix.map fun i=>(σ[i]?).join
abbrev gu (nt:Nat) (ix:List Nat) (σ σ':St):Prop:=∃ts:St,ts.length=nt/\σ'=ts++ix.map fun i=>(σ[i]?).join
@[inline]abbrev BL (J:It) (nt:Nat) (ix:List Nat) (σ:St) (tg:TG) (tt:TT) (te:TE) (acc:PN) (H1:Hp) (Q:VK):Prop:=
 ∃W:Nat->Nat->List V->Hp->Prop,(∃m,W 0 m [] H1)/\∀i m ys H,W i m ys H →
  (J.stop i H/\Q (.ref acc) H)\/(J.go i H/\∀σ0 x H',gu nt ix σ σ0->J.yld i H x H'->tg x σ0 H' fun σ2 Hn=>gu nt ix σ σ2/\tt σ2 Hn fun b H2=>if b=Wz then te σ2 H2 fun y H3=>
    H3 acc=Wx (.lst ys)/\ys.length<sizeLine/\∃m',m'<m/\W (i+1) m' (ys++[y]) (upd H3 acc (.lst (ys++[y])))
   else ∃m',m'<m/\W (i+1) m' ys H2)
abbrev qU (wi:TI) (nt:Nat) (ix:List Nat) (tg:TG) (tt:TT) (te:TE):TE:=fun σ H Q=>wi σ H fun J H1=>∀acc,H1 acc=Wy->BL J nt ix σ tg tt te acc (upd H1 acc (.lst [])) Q
def pP {X:Cx}{use:Option (Pp->Sem Unit)}{Q2:Pp->Pr->Prop}{pins:List (PN × Obj)}{s:Pr}{σ:St}{H:Hp}{Q:VK}{elt iter tg:Rb}{tn':List Str}{ifs:List Rb}{more:List Comprehension}{scope osc:Ui}{pos:Pos}{wi:TI}{CW:It->PN->Hp->Prop} (ix:List Nat) (N':List Str)
  (hc:X.calm=Wz) (ho:X.env.scope=osc) (hN:N'=tn'++ix.map fun i=>(X.N[i]?).getD ("" : Str)) (hnd:N'.Nodup)
  (hall:(∀y∈scope.names,y.2=.free->osc.names.lookup y.1=Wx .cell)/\(∀y∈scope.names,y.2≠.cell)/\scope.kind=.function/\(∀y∈scope.names,y.2=.local->scope.names.lookup y.1=Wx .local)/\(∀y∈N'.drop tn'.length,scope.names.lookup y=Wx .free))
  (hi:PI X tg iter wi)
  (hs:∀x,foldedSetIterable iter X.env x=pure x) (I:Inv X pins σ H s) (h:wi σ H fun J H1=>∀acc,H1 acc=Wy->CW J acc (upd H1 acc (.lst [])))
  (hfin:∀(acc C:PN) (H5:Hp) (s5:Pr) (o:Obj),Inv X (pins++[(C,o)]) σ H5 s5->(∀x c,X.env.cells.lookup x=Wx c->c≠C)->X.ax.heap.objs.size<=C->(∀p∈X.pn++pins,p.1≠C)->(∃m,∀h':QQ,h'.get? C=Wx o->h'.Ns C m)->Q (.ref acc) H5->compPost (model X.prog X.w) X.A X.xe use Q2 (.ref acc) C (.ok .next) s5)
  (loop:∀(X':Cx) (cl:List (Str × PN)) (C:PN) (s3:Pr) (H3:Hp) (fp:List PN) (it acc:PN) (tn:Nat->QQ->Prop) (J:It) (R:Wv->Pr->Prop) (s4:Pr),aZ X scope cl C s3 H3 fp N'=X'->X'.calm=Wz->Turn X.prog X.w X.K tg J fp it tn->(∀{H':Hp},(∀b∈fp,H' b=Wy)->∀b∈fp,lJ X' [] H' b)->CW J acc H3->Inv X' [] (vL tn'.length ix σ) H3 s4->tn 0 s4.heap->(∀b∈fp,H3 b=Wy) →
   (∀{H5:Hp} {s5:Pr} {σ5:St},Inv X' [] σ5 H5 s5->Q (.ref acc) H5->R (.ok .next) s5)->codeAny (model X.prog X.w) X.A (.compLoop (.ListComp elt (⟨tg,iter,ifs,0⟩::more) scope pos) 0 (.ref it) (.ref acc) X'.env) R s4) :
  wpAny (model X.prog X.w) X.A (comprehension (.ListComp elt (⟨tg,iter,ifs,0⟩::more) scope pos) scope X.env (firstIterPos (⟨tg,iter,ifs,0⟩::more) pos) (newList []) WA (eval iter X.env) use) Q2 X.xe s:=by
 obtain⟨hfr,hcell,hkind,hnames,hcap⟩:=hall
 subst ho
 have outc:=fun y hy q=>hfr y hy q
 obtain⟨cl,hclos,hcl1,hcl2⟩:=ph fun y hy q=>I.ok.has y.1 (.inl (outc y hy q))
 refine wpAny_comprehension_free rfl hs hclos hkind hnames (thn (hi pins s σ H _ I h) fun v s1 h1=>thn h1 fun itv s2 h2=>?_)
 obtain⟨it,fp,tn,J,H2,e,I2,T,st2,f2,rest⟩:=h2
 subst e
 have hf2:=I2.hok.fresh (Pt _)
 have w0:=rest s2.heap.objs.size hf2
 refine Qn ?_
 have I3:=I2.HW (t':=s2.toks) .nil (QJ _)
 have keep3:∀b o,s2.heap.get? b=Wx o->(s2.heap.push { cls:=.type "list", dict:=Wy,data:=.seq ([]:List Pp).toArray }).get? b=Wx o:=fun b o q=>Pn _ q
 have fp3:=T.obj _ _ st2
 have st3:=T.keep _ _ _ st2 fun b _ o q=>keep3 b o q
 have fpn:∀b∈fp,(upd H2 s2.heap.objs.size (HO.lst [])) b=none:=fun b hb=>by
  obtain⟨o,q,_⟩:=fp3 b hb
  rw[aw (PU (Pq q))]
  exact(f2 b hb).1
 revert I3 keep3 st3 fpn w0
 generalize hS3:({ s2 with heap:=s2.heap.push { cls:=.type "list", dict:=Wy,data:=.seq ([]:List Pp).toArray } }:Pr)=s3
 generalize hH3:upd H2 s2.heap.objs.size (HO.lst [])=H3
 intro w0 I3 keep3 st3 fpn
 generalize s2.heap.objs.size=acc at *
 have e3:s2.heap.push { cls:=.type "list", dict:=Wy,data:=.seq ([]:List Pp).toArray }=s3.heap:=by rw[<- hS3]
 have keep3':∀b o,s2.heap.get? b=Wx o->s3.heap.get? b=Wx o:=fun b o q=>by rw[<- e3];exact keep3 b o q
 have st3':tn 0 s3.heap:=by rw[<- e3];exact st3
 refine wpAny_newFunctionEnv hcell (by intro y hy;simp at hy) (fun h₁ hns₁ hsb₁=>?_) hkind
 have hC:s3.heap.objs.size=s3.heap.objs.size:=rfl
 have keep4:∀b o,s3.heap.get? b=Wx o->h₁.get? b=Wx o:=fun b o q=>hsb₁.extBut b o (PU (Pq q)) (Pn _ q)
 have fpC:∀b∈fp,b≠s3.heap.objs.size:=fun b hb=>by
  obtain⟨o,q,_⟩:=fp3 b hb
  exact PU (Pq (keep3' b o q))
 -- the block's context
 generalize hX':aZ X scope cl s3.heap.objs.size s3 H3 fp N'=X'
 have hXp:X'.prog=X.prog:=by rw[<- hX'];rfl
 have hXw:X'.w=X.w:=by rw[<- hX'];rfl
 have hXK:X'.K=X.K:=by rw[<- hX'];rfl
 have hXA:X'.A=X.A:=by rw[<- hX'];rfl
 have hXe:X'.env=compEnvC scope cl s3.heap.objs.size X.env:=by rw[<- hX'];rfl
 have hXc:X'.calm=true:=by rw[<- hX'];exact hc
 have hXf:X'.fs=frs X.stack:=by rw[<- hX'];rfl
 have hXex:X'.ex=fp:=by rw[<- hX'];rfl
 have hXN:X'.N=N':=by rw[<- hX'];rfl
 have hXs:X'.ax=s3:=by rw[<- hX'];rfl
 have hXH:X'.aD=H3:=by rw[<- hX'];rfl
 have hXpn:X'.pn=[]:=by rw[<- hX'];rfl
 have okX:X'.Ok:=by
  rw[<- hX']
  refine⟨I3.ok.mod,hkind,I3.ok.glob,I3.ok.blt,Pt _,fun a b c p q=>I3.ok.inj a b c (hcl1 a c p) (hcl1 b c q),fun y hy=>?_,fun _ _ z=>(by cases z),I3.ok.hd,I3.ok.frames,.inl rfl,fun b hb=>⟨fpC b hb,fun y c p=>(f2 b hb).2.2.2.2.1 y c (hcl1 y c p)⟩,
   I3.bs,P7 I3.ok.bsz I3.sz,fun b o p hb=>?_,fun b hb z=>?_,I3.stack,I3.lZ⟩
  ·have hy':(relabel scope X.env).names.lookup y=Wx .cell\/(relabel scope X.env).names.lookup y=Wx .free:=hy
   have free:scope.names.lookup y=Wx .free->∃c,cl.lookup y=Wx c:=fun q=>hcl2 y (lookup_mem q)
   rcases hy' with q | q
   ·rcases gc q with z | ⟨z,_⟩
    ·exact absurd rfl (hcell _ (lookup_mem z))
    ·exact free z
   ·rcases gc q with z | ⟨_,z⟩
    ·exact free z
    ·cases z
  ·rcases(f2 b hb).2.2.2.1 with z | z
   ·exact I3.ok.rL b o p z
   ·exact absurd (P8 (Pq p) (P7 I3.ok.bsz z)) (Ra _)
  ·rcases PL.mp (I3.fB b z) with q | q
   ·exact(f2 b hb).2.1 q
   ·exact(f2 b hb).2.2.1 q
 have I4:∀tk,Inv X' [] (vL tn'.length ix σ) H3 { s3 with heap:=h₁,toks:=tk }:=fun tk=>by
  have hloc:=I3.loc
  refine⟨okX,by rw[hXs],I3.bare,?_,⟨fun y=>([]:List (Str × Pp)).reverse.lookup y,by rw[hXe];exact hns₁,fun i y v e1 e2 e3=>?_⟩,fun y c p=>?_,?_,fun y c p=>?_,fun p hp=>?_,?_,?_⟩
  ·rw[hXf,hXex,hXH,hXs];exact Un.kept keep4
  ·rw[hXN,hN] at e1
   by_cases hit':i<tn'.length
   ·exfalso
    unfold vL at e2
    rw[PB (by simpa using hit'),List.getElem?_replicate,if_pos hit'] at e2
    cases e2
   ·have e10:N'[i]?=Wx y:=by rw[hN];exact e1
    obtain⟨j,rfl⟩:∃j,i=tn'.length+j:=⟨i - tn'.length,{}⟩
    have e1':(ix.map fun i=>(X.N[i]?).getD ("" : Str))[j]?=Wx y:=by
     rw[PM {}] at e1
     rw[show tn'.length+j - tn'.length=j by lia] at e1
     exact e1
    have e2':(ix.map fun i=>(σ[i]?).join)[j]?=Wx (Wx v):=by
     unfold vL at e2
     rw[PM {..}] at e2
     simpa using e2
    rw[P5] at e1' e2'
    cases hj:ix[j]? with
    | none=>rw[hj] at e1';cases e1'
    | some i0=>
     rw[hj] at e1' e2'
     have e1'':(X.N[i0]?).getD ("" : Str)=y:=by simpa using e1'
     have e2'':(σ[i0]?).join=Wx v:=by simpa using e2'
     have hsv:σ[i0]?=Wx (Wx v):=by
      cases q:σ[i0]? with
      | none=>rw[q] at e2'';cases e2''
      | some z=>rw[q] at e2'';have:z=Wx v:=by simpa using e2''
                rw[this]
     have hlt:i0<X.N.length:=by
      have:=(Qj.mp hsv).1
      rw[I3.len] at this;exact this
     have hNy:X.N[i0]?=Wx y:=by
      rw[Pz hlt] at e1'' ⊢
      simpa using e1''
     have hyt:y∈N'.drop tn'.length:=by
      refine P0 (i:=j) ?_
      rw[Tj];exact e10
     have hyf:=hcap y hyt
     have hyc:=outc (y,.free) (lookup_mem hyf) rfl
     obtain⟨m,hn,hl⟩:=hloc
     obtain⟨u,r,l⟩:=hl i0 y v hNy hsv (.inr (.inl hyc))
     refine⟨u,r,?_⟩
     rcases l with⟨k1,_⟩ | ⟨_,c,p,z⟩
     ·have hyc':X.env.kindOf y=Wx .cell:=hyc
      rw[k1] at hyc';cases hyc'
     ·obtain⟨c',p'⟩:=hcl2 y (lookup_mem hyf)
      have pc:c'=c:=by
       have:=hcl1 y c' p'
       rw[p] at this;cases this;rfl
      subst pc
      refine .inr ⟨.inl ?_,c',by rw[hXe];exact p',?_⟩
      ·rw[hXe];exact d9 I3.ok.kind hyf hyc
      ·obtain⟨o,q1,q2⟩:=z
       exact⟨o,keep4 c' o q1,q2⟩
  ·rw[hXe] at p
   obtain⟨v,o,q1,q2⟩:=I3.cell y c (hcl1 y c p)
   exact⟨v,o,keep4 c o q1,q2⟩
  ·rw[hXe];exact I3.hok.fresh (Pt _)
  ·rw[hXe] at p;exact I3.cL y c (hcl1 y c p)
  ·rw[hXpn] at hp;cases hp
  ·rw[hXp,hXw];exact I3.hok.kept keep4
  ·rw[hXN,hN];simp[vL]
 -- the loop
 have stat:∀{H':Hp},(∀b∈fp,H' b=Wy)->∀b∈fp,lJ X' [] H' b:=fun hn b hb=>by
  refine⟨hn b hb,by rw[hXe];exact fpC b hb,?_,.inl (by rw[hXex];exact hb),fun y c p=>?_,fun p hp=>by rw[hXpn] at hp;cases hp⟩
  ·rw[hXf];intro z
   rcases PL.mp (I3.fB b z) with q | q
   ·exact(f2 b hb).2.1 q
   ·exact(f2 b hb).2.2.1 q
  ·rw[hXe] at p;exact(f2 b hb).2.2.2.2.1 y c (hcl1 y c p)
 have fin:∀{H5:Hp} {s5:Pr} {σ5:St},Inv X' [] σ5 H5 s5->Q (.ref acc) H5->compPost (model X.prog X.w) X.A X.xe use Q2 (.ref acc) s3.heap.objs.size (.ok .next) s5:=fun{H5 s5 σ5} I5 q=>by
  obtain⟨m,hn,_⟩:=I5.loc
  rw[hXe] at hn
  have hn':s5.heap.Ns s3.heap.objs.size m:=hn
  obtain⟨oC,esC,epC,hC1,hC2,hC3⟩:=hn'
  have u5:=I5.base
  rw[hXf,hXex,hXH,hXs] at u5
  have fr:H5 s3.heap.objs.size=none:=by have:=I5.free;rw[hXe] at this;exact this
  have hok5:=I5.hok
  rw[hXp,hXw] at hok5
  have hos:s5.os=s3.os:=by have:=I5.os;rw[hXs] at this;exact this
  have IX:Inv X pins σ H5 s5:=I3.uy (s':=s5) (ch:=fp) hos u5 hok5 I5.bare (fun b hb=>by
   obtain⟨g0,g1,g2,g3,g4,g5⟩:=f2 b hb
   exact⟨g3,g1,g4,g5⟩)
  have cC:∀x c,X.env.cells.lookup x=Wx c->c≠s3.heap.objs.size:=fun x c z e=>by
   obtain⟨v,q⟩:=I3.cell x c z
   exact absurd q.lt (by rw[e];exact Ra _)
  have pC:∀p∈X.pn++pins,p.1≠s3.heap.objs.size:=fun p hp e=>by
   have:=Pq (I3.pin p hp).1
   rw[e] at this
   exact Ra _ this
  refine hfin acc s3.heap.objs.size H5 s5 oC (IX.my fun p hp=>?_) cC I3.sz pC ⟨m,fun h' z=>⟨oC,esC,epC,z,hC2,hC3⟩⟩ q
  rcases Qr.mp hp with z | z
  ·exact IX.pin p (Px _ z)
  ·have e:=P1.mp z
   subst e
   refine⟨hC1,fr,Rz I3.lt,I3.LH (Pt _),fun v e=>?_⟩
   have e':oC.data=.cell v:=e
   rw[hC2] at e';cases e'
 have L:∀tk,codeAny (model X.prog X.w) X.A (.compLoop (.ListComp elt (⟨tg,iter,ifs,0⟩::more) scope pos) 0 (.ref it) (.ref acc) (compEnvC scope cl s3.heap.objs.size X.env)) (compPost (model X.prog X.w) X.A X.xe use Q2 (.ref acc) s3.heap.objs.size) { s3 with heap:=h₁,toks:=tk }:=fun tk=>by
  rw[<- hXe]
  exact loop X' cl _ s3 H3 fp it acc tn J _ _ hX' hXc T stat w0 (I4 tk) (T.keep _ _ _ st3' fun b _ o q=>keep4 b o q) fpn fin
 refine codeAny_compStart_list (L _) ?_
 exact T.self _ 0 _ _ _ (T.keep _ _ _ st3' fun b _ o q=>keep4 b o q) (L _)
def pH {X:Cx}{use:Option (Pp->Sem Unit)}{Q2:Pp->Pr->Prop}{pins:List (PN × Obj)}{s:Pr}{σ:St}{H:Hp}{Q:VK}{elt iter tg:Rb}{tn':List Str}{tgr:TG}{ifs:List Rb}{scope osc:Ui}{pos:Pos}{wi:TI}{tt:TT}{te:TE} (ix:List Nat) (N':List Str)
  (hxe:X.xe=fun _ _=>False) (hc:X.calm=Wz) (ho:X.env.scope=osc) (hN:N'=tn'++ix.map fun i=>(X.N[i]?).getD ("" : Str)) (hnd:N'.Nodup)
  (hall:(∀y∈scope.names,y.2=.free->osc.names.lookup y.1=Wx .cell)/\(∀y∈scope.names,y.2≠.cell)/\scope.kind=.function/\(∀y∈scope.names,y.2=.local->scope.names.lookup y.1=Wx .local)/\(∀y∈N'.drop tn'.length,scope.names.lookup y=Wx .free))
  (hi:PI X tg iter wi) (hg:∀cl C ax aD fp,PG (aZ X scope cl C ax aD fp N') tg tgr)
  (ht:∀cl C ax aD fp,PTs (aZ X scope cl C ax aD fp N') ifs tt)
  (he:∀cl C ax aD fp,PE (aZ X scope cl C ax aD fp N') elt te)
  (hs:∀x,foldedSetIterable iter X.env x=pure x) (I:Inv X pins σ H s) (h:qU wi tn'.length ix tgr tt te σ H Q)
  (hfin:∀(acc C:PN) (H5:Hp) (s5:Pr) (o:Obj),Inv X (pins++[(C,o)]) σ H5 s5->(∀x c,X.env.cells.lookup x=Wx c->c≠C)->X.ax.heap.objs.size<=C->(∀p∈X.pn++pins,p.1≠C)->(∃m,∀h':QQ,h'.get? C=Wx o->h'.Ns C m)->Q (.ref acc) H5->compPost (model X.prog X.w) X.A X.xe use Q2 (.ref acc) C (.ok .next) s5) :
  wpAny (model X.prog X.w) X.A (comprehension (.ListComp elt [⟨tg,iter,ifs,0⟩] scope pos) scope X.env (firstIterPos [⟨tg,iter,ifs,0⟩] pos) (newList []) WA (eval iter X.env) use) Q2 X.xe s:=by
 refine pP (CW:=fun J acc H1=>BL J tn'.length ix σ tgr tt te acc H1 Q) ix N' hc ho hN hnd hall hi hs I h hfin fun X' cl C s3 H3 fp it acc tn J R s4 hX' hXc T stat w0 I4 st4 fpn fin=>?_
 have hXp:X'.prog=X.prog:=by rw[<- hX'];rfl
 have hXw:X'.w=X.w:=by rw[<- hX'];rfl
 have hXK:X'.K=X.K:=by rw[<- hX'];rfl
 have hXA:X'.A=X.A:=by rw[<- hX'];rfl
 have hXx:X'.xe=fun _ _=>False:=by rw[<- hX'];exact hxe
 obtain⟨W,⟨m0,w0⟩,turn⟩:=w0
 refine vo (fun n s'=>∃i ys σ' H',Inv X' [] σ' H' s'/\gu tn'.length ix σ σ'/\tn i s'.heap/\(∀b∈fp,H' b=Wy)/\W i n ys H') (fun n s5 h5=>?_) m0
  ⟨0,[],vL tn'.length ix σ,H3,I4,⟨_,List.length_replicate,rfl⟩,st4,fpn,w0⟩
 obtain⟨i,ys,σ5,H5,I5,hσ,st5,fr5,w5⟩:=h5
 rcases turn i n ys H5 w5 with⟨stop,q⟩ | ⟨go,step⟩
 ·have d:=T.done X' hXp hXw hXK hXc i [] s5 σ5 H5 (fun _ _=>False) I5 (stat fr5) st5 stop
  rw[hXA] at d
  refine thn d fun r s6 zq1=>?_
  obtain⟨hr,I6⟩:=zq1
  subst hr
  exact fin I6 q
 ·have d:=T.item X' hXp hXw hXK hXc i [] s5 σ5 H5 (fun _ _=>False) I5 (stat fr5) st5 go
  rw[hXA] at d
  refine thn d fun r s6 zq1=>?_
  obtain⟨u,hr,h6⟩:=zq1
  subst hr
  refine thn h6 fun _ s7 zq1=>?_
  obtain⟨z,H7,I7,r7,y7,st7,fr7⟩:=zq1
  have I7':=I7.pinned (stat fr7) (T.obj _ _ st7)
  have again:∀{H9:Hp} {s9:Pr} {ys9:List V} {σ9:St},Inv X' ([]++gH fp s7.heap) σ9 H9 s9->gu tn'.length ix σ σ9->(∃m',m'<n/\W (i+1) m' ys9 H9)->∃m',m'<n/\∃i ys σ' H',Inv X' [] σ' H' s9/\gu tn'.length ix σ σ'/\tn i s9.heap/\(∀b∈fp,H' b=Wy)/\W i m' ys H':=fun{H9 s9 ys9 σ9} I9 c9 ⟨m',hm,w9⟩=>by
   refine⟨m',hm,i+1,ys9,_,H9,I9.fM,c9,T.keep _ _ _ st7 fun b hb o e=>(I9.pin (b,o) (Px _ (Px _ (cg hb e)))).1,fun b hb=>?_,w9⟩
   obtain⟨o,e,_⟩:=T.obj _ _ st7 b hb
   exact(I9.pin (b,o) (Px _ (Px _ (cg hb e)))).2.1
  have ht':=ht cl C s3 H3 fp
  have he':=he cl C s3 H3 fp
  have hg':=hg cl C s3 H3 fp
  rw[hX'] at ht' he' hg'
  have a0:=hg' _ s7 σ5 H7 z u _ I7' r7 (step σ5 z H7 hσ y7)
  rw[hXp,hXw,hXA,hXx] at a0
  refine thn a0 fun _ s8 zq1=>?_
  obtain⟨σ8,H8,I8,c8,q8⟩:=zq1
  have a1:=ht' _ s8 _ H8 _ I8 q8
  rw[hXp,hXw,hXA,hXx] at a1
  refine thn a1 fun b s9 zq1=>?_
  obtain⟨H9,I9,q9⟩:=zq1
  cases b with
  | false=>exact again I9 c8 q9
  | true=>
   have a2:=he' _ s9 _ H9 _ I9 q9
   rw[hXp,hXw,hXA,hXx] at a2
   refine thn a2 fun yv s10 zq1=>?_
   obtain⟨y,H10,I10,r10,q1,q2,q3⟩:=zq1
   have a3:=fP (X:=X') _ s10 _ H10 (.ref acc) [y] (.ref acc) [yv] (fun _ Hq=>∃m',m'<n/\W (i+1) m' (ys++[y]) Hq) I10 rfl (.cons r10 .nil) ⟨acc,ys,y,rfl,rfl,q1,q2,q3⟩
   rw[hXp,hXw,hXA,hXx] at a3
   exact thn a3 fun _ s11 ⟨_,H11,I11,_,q11⟩=>again I11 c8 q11
section
variable {X:Cx}{elt iter tg:Rb}{tn':List Str}{tgr:TG}{ifs:List Rb}{scope osc:Ui}{pos:Pos}{wi:TI}{tt:TT}{te:TE}
def CS (ix) (tn' N')
  (hxe:X.xe=fun _ _=>False) (hc:X.calm=Wz) (ho:X.env.scope=osc) (hN:N'=tn'++ix.map fun i=>(X.N[i]?).getD ("" : Str)) (hnd:N'.Nodup)
  (hall:(∀y∈scope.names,y.2=.free->osc.names.lookup y.1=Wx .cell)/\(∀y∈scope.names,y.2≠.cell)/\scope.kind=.function/\(∀y∈scope.names,y.2=.local->scope.names.lookup y.1=Wx .local)/\(∀y∈N'.drop tn'.length,scope.names.lookup y=Wx .free))
  (hi:PI X tg iter wi) (hg:∀cl C ax aD fp,PG (aZ X scope cl C ax aD fp N') tg tgr)
  (ht:∀cl C ax aD fp,PTs (aZ X scope cl C ax aD fp N') ifs tt)
  (he:∀cl C ax aD fp,PE (aZ X scope cl C ax aD fp N') elt te)
  (hs:∀x,foldedSetIterable iter X.env x=pure x:=by intro _;rfl) :
  PE X (.ListComp elt [⟨tg,iter,ifs,0⟩] scope pos) (qU wi tn'.length ix tgr tt te):=by
 intro pins s σ H Q I h
 have e:eval (.ListComp elt [⟨tg,iter,ifs,0⟩] scope pos) X.env=comprehension (.ListComp elt [⟨tg,iter,ifs,0⟩] scope pos) scope X.env (firstIterPos [⟨tg,iter,ifs,0⟩] pos) (newList []) WA (eval iter X.env) none:=by
  rfl
 refine pH ix N' hxe hc ho hN hnd hall hi hg ht he hs I h fun acc C H5 s5 o I5 cC hC pC hm q=>?_
 obtain⟨m,hm⟩:=hm
 exact⟨m,hm _ (I5.pin (C,o) (Px _ (Px _ (P1.mpr rfl)))).1,fun h' hs'=>⟨.ref acc,H5,I5.G7 cC hC pC hs',rfl,q⟩⟩
def t8 {py spos:Pos} (ix) (tn' N')
  (hxe:X.xe=fun _ _=>False) (hc:X.calm=Wz) (ho:X.env.scope=osc) (hN:N'=tn'++ix.map fun i=>(X.N[i]?).getD ("" : Str)) (hnd:N'.Nodup)
  (hall:(∀y∈scope.names,y.2=.free->osc.names.lookup y.1=Wx .cell)/\(∀y∈scope.names,y.2≠.cell)/\scope.kind=.function/\(∀y∈scope.names,y.2=.local->scope.names.lookup y.1=Wx .local)/\(∀y∈N'.drop tn'.length,scope.names.lookup y=Wx .free))
  (hi:PI X tg iter wi) (hg:∀cl C ax aD fp,PG (aZ X scope cl C ax aD fp N') tg tgr)
  (ht:∀cl C ax aD fp,PTs (aZ X scope cl C ax aD fp N') ifs tt)
  (he:∀cl C ax aD fp,PE (aZ X scope cl C ax aD fp N') elt te)
  (hNN:X.N.Nodup) (hy:X.N[i]?=Wx y) (hl:X.env.scope.names.lookup y=Wx .local)
  (hsw:swapsWith (.ListComp elt [⟨tg,iter,ifs,0⟩] scope pos) (Wx (.Name y py)) spos.line X.env=pure true:=by rfl)
  (hs:∀x,foldedSetIterable iter X.env x=pure x:=by intro _;rfl) :
  PS X (.Assign [.Name y py] (.ListComp elt [⟨tg,iter,ifs,0⟩] scope pos) spos) (Fb (qU wi tn'.length ix tgr tt te) (gy i)):=by
 intro pins s σ H D I h
 rw[exec_Assign_Name_used _ _ _ _ hsw]
 refine gV (QR ?_)
 refine gV ?_
 refine gV (pH ix N' hxe hc ho hN hnd hall hi hg ht he hs I h fun acc C H5 s5 o I5 cC hC pC hm q=>?_)
 obtain⟨m,hm⟩:=hm
 refine UJ (ie (v:=.ref acc) I5 hNN hy (.inl hl) rfl (fun s6 I6=>?_) (.inr hl))
 refine⟨m,hm _ (I6.pin (C,o) (Px _ (Px _ (P1.mpr rfl)))).1,fun h' hs'=>?_⟩
 exact Pl (Pl ⟨_,H5,I6.G7 cC hC pC hs',q⟩)
end
section
variable {κ:Type} [DecidableEq κ]
abbrev ju (kvs:List (κ × V)) (k:κ):Option V:=(kvs.find? fun kv=>decide (kv.1=k)).map (·.2)
abbrev putK (kvs:List (κ × V)) (k:κ) (v:V):List (κ × V):=
 if (kvs.any fun kv=>decide (kv.1=k))=Wz then kvs.map (fun kv=>if kv.1=k then (kv.1,v) else kv) else kvs++[(k,v)]
def jP {p:κ × V}{r:List (κ × V)}{k:κ} (e:p.1=k):ju (p::r) k=Wx p.2:=by simp[ju,Sn,e]
def jx {k:κ} (e:¬ p.1=k):ju (p::r) k=ju r k:=by simp[ju,Sn,e]
def uO (k:κ):∀kvs:List (κ × V),(kvs.any fun kv=>decide (kv.1=k))=(ju kvs k).isSome
 | []=>rfl
 | p::r=>by
  rw[Rc]
  by_cases e:p.1=k
  ·simp only[jP e,decide_eq_true e,Bool.true_or,Option.isSome_some]
  ·rw[jx e,decide_eq_false e,Bool.false_or];exact uO k r
def kU (kvs) (k:κ) (v):(putK kvs k v).length<=kvs.length+1:=by
 unfold putK
 grind
def jM.Ac (r:jM o u):o.isSome=u.isSome:=by
 cases o with
 | none=>cases u with
  | none=>rfl
  | some _=>exact(show False from r).elim
 | some _=>cases u with
  | none=>exact(show False from r).elim
  | some _=>rfl
def jM.getD (r:jM o u) (rd:RelV d d'):RelV (o.getD d) (u.getD d'):=by
 cases o with
 | none=>cases u with
  | none=>exact rd
  | some _=>exact(show False from r).elim
 | some _=>cases u with
  | none=>exact(show False from r).elim
  | some _=>exact r
def KV.val (r:KV kvs vs) (k:κ):jM (ju kvs k) (valueAt vs k):=by
 unfold KV at r
 induction r with
 | nil=>exact RP
 | @cons p q ps qs h t ih=>
  obtain⟨h1,h2⟩:=h
  by_cases e:p.1=k
  ·have e':q.1=k:=h1.symm.trans e
   have b:valueAt (q::qs) k=Wx q.2:=by simp[valueAt,Sn,e']
   rw[jP e,b];exact h2
  ·have e':¬ q.1=k:=fun z=>e (h1.trans z)
   have b:valueAt (q::qs) k=valueAt qs k:=by simp[valueAt,Sn,e']
   rw[jx e,b];exact ih
def KV.any (r:KV kvs vs) (k:κ):(kvs.any fun kv=>decide (kv.1=k))=vs.any fun kv=>decide (kv.1=k):=by
 unfold KV at r
 induction r with
 | nil=>rfl
 | cons h t ih=>simp_all
def KV.AA (r:KV kvs vs) (k:κ) (ry:RelV y u) :
  KV (kvs.map fun kv=>if kv.1=k then (kv.1,y) else kv) (vs.map fun kv=>if kv.1=k then (kv.1,u) else kv):=by
 unfold KV at r ⊢
 induction r with
 | nil=>exact .nil
 | @cons p q ps qs h t ih=>
  rw[PC,PC]
  refine .cons ?_ ih
  grind
def KV.put (r:KV kvs vs) (k:κ) (ry:RelV y u):KV (putK kvs k y) (stored vs k u):=by
 unfold putK stored
 rw[r.any k]
 by_cases e:(vs.any fun kv=>decide (kv.1=k))=Wz
 ·rw[if_pos e,if_pos e];exact r.AA k ry
 ·rw[if_neg e,if_neg e];exact Paired.snoc r ⟨rfl,ry⟩
def KV.length {vs:List (κ × Pp)} (r:KV kvs vs):kvs.length=vs.length:=Paired.length r
end
def xJ (r:RelV (kV k) u):(bM P w).is k u=true:=by
 cases k with
 | inl i=>obtain⟨t,e⟩:=(show ∃t,u=Sj i t from r);subst e;exact vj P w i t
 | inr x=>obtain⟨t,e⟩:=(show ∃t,u=VI x t from r);subst e;exact sZ P w x t
def qm {P:PJ}{w:Qc}:∀{ks:List Key}{us:List Pp},Vals (ks.map kV) us->ItemsAre (bM P w) ks us
 | [],_,r=>by rw[Ve] at r;cases r;exact .nil
 | k::ks,_,r=>by
  rw[PC] at r
  cases r with
  | cons h t=>exact .cons (xJ h) (qm t)
@[inline]abbrev KT (H:Hp):List (List Key × V)->List (List Key × PN × Pp)->Prop:=Paired fun p q=>p.1=q.1/\H q.2.1=Wx (.tup (p.1.map kV))/\RelV p.2 q.2.2
def KT.val (r:KT H kvs xs) (k):jM (ju kvs k) ((atKey xs k).map (·.2)):=by
 induction r with
 | nil=>exact RP
 | @cons p q ps qs h t ih=>
  obtain⟨h1,_,h2⟩:=h
  by_cases e:p.1=k
  ·have e':q.1=k:=h1.symm.trans e
   have b:atKey (q::qs) k=Wx q.2:=by simp[atKey,Sn,e']
   rw[jP e,b];exact h2
  ·have e':¬ q.1=k:=fun z=>e (h1.trans z)
   have b:atKey (q::qs) k=atKey qs k:=by simp[atKey,Sn,e']
   rw[jx e,b];exact ih
def KT.AA (r:KT H kvs xs) (k) (ry:RelV y u) :
  KT H (kvs.map fun kv=>if kv.1=k then (kv.1,y) else kv) (xs.map (putAt k u)):=by
 induction r with
 | nil=>exact .nil
 | @cons p q ps qs h t ih=>
  rw[PC,PC]
  refine .cons ?_ ih
  obtain⟨h1,h2,h3⟩:=h
  unfold putAt
  grind
def KT.put (r:KT H kvs xs) (k) (hb:H b=Wx (.tup (k.map kV))) (ry:RelV y u) :
  KT H (putK kvs k y) (storedH xs k b u):=by
 have e:(kvs.any fun kv=>decide (kv.1=k))=(atKey xs k).isSome:=by
  rw[uO,(r.val k).Ac,Option.isSome_map]
 unfold putK storedH
 rw[e]
 by_cases q:(atKey xs k).isSome=Wz
 ·rw[if_pos q,if_pos q];exact r.AA k ry
 ·rw[if_neg q,if_neg q];exact Paired.snoc r ⟨rfl,hb,ry⟩
def KT.keeps (r:KT H kvs xs) (ht:∀b ys,H b=Wx (.tup ys)->H' b=Wx (.tup ys)):KT H' kvs xs:=
 Paired.rJ r fun _ _ z=>⟨z.1,ht _ _ z.2.1,z.2.2⟩
section
variable {P:PJ}{w:Qc}{H:Hp}{h:QQ}{a:PN}
def GL (ok:HOk P w H h) (e:Rd H a u):a_ P w H h a u:=e.ok ok
def uh (ok:HOk P w H h) (e:Rd H a (.dK kvs)):kvs.length<=sizeLine/\(a == sysModules)=WA/\∃vs,KV kvs vs/\h.DictOf (bM P w) a vs:=
 show a_ P w H h a (.dK kvs) from GL ok e
def Lp (ok:HOk P w H h) (e:H a=Wx (.dK kvs)):kvs.length<=sizeLine/\(a == sysModules)=WA/\∃vs,KV kvs vs/\h.DictOf (bM P w) a vs:=uh ok (.inl e)
def mO (ok:HOk P w H h) (e:H a=Wx (.tup (ks.map kV))):(tupleKind (bM P w)).is h ks a:=by
 obtain⟨_,its,r,o,h1,⟨h2,n,h3⟩,_⟩:=(show a_ P w H h a (.tup (ks.map kV)) from ok a _ e)
 exact⟨o,its.toArray,n,h1,h2,h3,by simpa using qm r⟩
def tY {kvs:List (List Key × V)} (ok:HOk P w H h) (e:Rd H a (.dT kvs)):kvs.length<=sizeLine/\(a == sysModules)=WA ∧
  ∃xs,KT H kvs xs/\h.DictOfH (tupleKind (bM P w)) a xs:=by
 obtain⟨z,y,xs,r,o,es,ep,h1,h2,h3,h4,h5⟩:=(show a_ P w H h a (.dT kvs) from GL ok e)
 refine⟨z,y,xs,r,o,es,ep,h1,h2,h3,h4,fun x hx=>?_,h5⟩
 have all:∀{l:List (List Key × V)} {m:List (List Key × PN × Pp)},KT H l m->∀x∈m,(tupleKind (bM P w)).is h x.1 x.2.1:=by
  intro l m q
  induction q with
  | nil=>simp
  | @cons p q ps qs hq t ih=>
   intro x hx
   rcases PL.mp hx with e | hx
   ·subst e
    exact mO ok (by simp_all)
   grind
 grind
def Gk (ok:HOk P w H h) (e:H a=Wx (.dT kvs)):kvs.length<=sizeLine/\(a == sysModules)=WA ∧
  ∃xs,KT H kvs xs/\h.DictOfH (tupleKind (bM P w)) a xs:=tY ok (.inl e)
end
abbrev rT (H:Hp) (a:PN) (y:V) (r:Option V):Prop:=
 (∃kvs k,Rd H a (.dK kvs)/\y=kV k/\r=ju kvs k)\/∃kvs k b,Rd H a (.dT kvs)/\y=.ref b/\H b=Wx (.tup (k.map kV))/\r=ju kvs k
abbrev Bt (H:Hp) (a:PN) (y v:V) (H':Hp):Prop:=
 (∃kvs k,H a=Wx (.dK kvs)/\y=kV k/\kvs.length<sizeLine/\H'=upd H a (.dK (putK kvs k v))) ∨
 ∃kvs k b,H a=Wx (.dT kvs)/\y=.ref b/\H b=Wx (.tup (k.map kV))/\kvs.length<sizeLine/\H'=upd H a (.dT (putK kvs k v))
def rT.t {k:List Key} (e:H a=Wx (.dT kvs)) (eb:H b=Wx (.tup (k.map kV))):rT H a (.ref b) (ju kvs k):=.inr ⟨kvs,k,b,.inl e,rfl,eb,rfl⟩
def Bt.t {k:List Key} (e:H a=Wx (.dT kvs)) (eb:H b=Wx (.tup (k.map kV))) (hl:kvs.length<sizeLine) :
  Bt H a (.ref b) v (upd H a (.dT (putK kvs k v))):=.inr ⟨kvs,k,b,e,rfl,eb,hl,rfl⟩
section
variable {X:Cx}{pins:List (PN × Obj)}{σ:St}{H:Hp}{s:Pr}{a:PN}{y v:V}{u r:Pp}{o:Option V}{A:P9}{E:Pp->Pr->Prop}
def Inv.big (I:Inv X pins σ H s):sysModules<s.heap.objs.size:=by
 have h:mainGlobals<s.heap.objs.size:=(I.mod.glob.keeps I.bk).lt
 exact S5 (by decide) h
def zQ (hu:A.units+1<cLine) (I:Inv X pins σ H s) (g:rT H a y (Wx v)) (ry:RelV y u) (h:∀w' s',Inv X pins σ H s'->RelV v w'->Q w' s') :
  wpAny (model X.prog X.w) A (getItem (.ref a) u) Q E s:=by
 rcases g with⟨kvs,k,e,ey,l⟩ | ⟨kvs,k,b,e,ey,eb,l⟩
 ·subst ey
  obtain⟨z,hd,vs,rel,dd⟩:=uh I.hok e
  obtain⟨w',hw,rw'⟩:=jM.some_of (v:=v) (o:=valueAt vs k) (by rw[l];exact rel.val k)
  exact wpAny_getItem_of (xJ ry) dd.mapOf hw (h w' _ (I.tok _) rw')
 ·subst ey
  cases (show u=Qa b from ry)
  obtain⟨z,hd,xs,rel,dd⟩:=tY I.hok e
  obtain⟨w',hw,rw'⟩:=jM.some_of (v:=v) (o:=(atKey xs k).map (·.2)) (by rw[l];exact rel.val k)
  obtain⟨p,hp,hp2⟩:=Ri.mp hw
  refine wpAny_getItem_heap (Uz hu) (mO I.hok eb) dd hp ?_
  rw[hp2]
  exact h w' _ (I.tok _) rw'
def rG (I:Inv X pins σ H s) (mu:Mut (H a)) (hs:Ry a s.heap h') (he:∃q,h'.get? a=Wx q) (new:a_ X.prog X.w (upd H a ob) h' a ob) :
  Inv X pins σ (upd H a ob) { s with heap:=h',toks:=t' }:=
 I.write (x:=a) (e:=a) mu (.inl rfl) (fun b q hb z=>(hs.2 b hb).trans z) he new
def HQ (z:kvs.length<=sizeLine) (hd:(a == sysModules)=WA) (rel:KV kvs vs) (dd:h'.DictOf (bM P w) a vs) :
  a_ P w H' h' a (.dK kvs):=⟨z,hd,vs,rel,dd⟩
def yZ {H':Hp}{Q:Unit->Pr->Prop} (hu:A.units+1<cLine) (I:Inv X pins σ H s) (g:Bt H a y v H') (ry:RelV y u) (rv:RelV v r) (h:∀s',Inv X pins σ H' s'->Q () s') :
  wpAny (model X.prog X.w) A (setItem (.ref a) u r) Q E s:=by
 rcases g with⟨kvs,k,e,ey,l,eH⟩ | ⟨kvs,k,b,e,ey,eb,l,eH⟩
 ·subst ey eH
  obtain⟨z,hd,vs,rel,dd⟩:=Lp I.hok e
  have hz:vs.length<=sizeLine:=by rw[<- rel.length];exact z
  have hl:(putK kvs k v).length<=sizeLine:=by have:=kU kvs k v;lia
  refine wpAny_setItem_pairs (hsz:=hz) (xJ ry) dd fun h' dd' hs=>h _ ?_
  have he:∃q,h'.get? a=Wx q:=let ⟨q,_,_,hq,_⟩:=dd';⟨q,hq⟩
  exact rG I (by rw[e];exact RP) hs he (HQ hl hd (rel.put k rv) dd')
 ·subst ey eH
  cases (show u=Qa b from ry)
  obtain⟨z,hd,xs,rel,dd⟩:=Gk I.hok e
  have hz:xs.length<=sizeLine:=by rw[<- Paired.length rel];exact z
  have hl:(putK kvs k v).length<=sizeLine:=by have:=kU kvs k v;lia
  refine wpAny_setItem_heap (hsz:=hz) (Uz hu) (mO I.hok eb) dd fun h' dd' hs=>h _ ?_
  obtain⟨q,es,ep,hq,h2,h3,h4,_,h5⟩:=dd'
  refine rG I (by rw[e];exact RP) hs ⟨q,hq⟩ ⟨hl,hd,_,(rel.put k eb rv).keeps fun c ys ec=>?_,q,es,ep,hq,h2,h3,h4,h5⟩
  rw[aw (GN ec e (fun z=>nomatch z))]
  exact ec
end
abbrev Hv (i:Rb):Prop:=∀ov iv,subscripted i WA ov iv=operate [ov,iv] (getItem ov iv)
def D2 {T id:String}
  (hl:typeLookup (.type T) "__getitem__" = pure (Wx (.builtin id))) (hs:Hv slice)
  (h:wpAny (model prog w) A (eval value env) (fun o s₁=>wpAny (model prog w) A (eval slice env) (fun i s₂=>s₂.TypeIs o T/\wpAny (model prog w) A (getItem o i) Q E s₂) E s₁) E s) :
  wpAny (model prog w) A (eval (.Subscript value slice pos) env) Q E s:=by
 refine Wa (P4 h (fun o s₁ h₁=>P4 h₁ (fun i s₂ h₂=>?_) fun _ _ x=>x) fun _ _ x=>x)
 obtain⟨hT,h₂⟩:=h₂
 unfold subscriptTail
 refine gV ?_
 rw[getitemInPython_of_ne hT.not_modules]
 refine gV (Vg hT hl ?_)
 have fin:wpAny (model prog w) A (subscripted slice WA o i) (fun r s₃=>wpAny (model prog w) A (letTemporaryGo value o r >>= fun _=>pure r) Q E s₃) E s₂:=by
  rw[hs o i]
  exact wpAny_operating (P4 h₂ (fun r s₃ h₃=>gV (wpAny_letTemporaryGo (Pl h₃))) fun _ _ x=>x)
 first
  | exact Pl (gV fin)
  | exact gV (Pl (gV fin))
  | exact gV fin
def ue {σ:St} (I:Inv X pins σ H s) (g:rT H a y o):s.TypeIs (.ref a) "dict" := by
 rcases g with⟨kvs,k,e,_,_⟩ | ⟨kvs,k,b,e,_,_,_⟩
 ·obtain⟨_,_,vs,_,dd⟩:=uh I.hok e
  exact dd.typeIs
 ·obtain⟨_,_,xs,_,dd⟩:=tY I.hok e
  exact dd.typeIs
abbrev KW (td ty:TE):TE:=fun σ H Q=>td σ H fun x H1=>ty σ H1 fun y H2=>∃a v,x=.ref a/\rT H2 a y (Wx v)/\Q v H2
abbrev Kk (td ty tv:TE):TS:=fun D σ H=>tv σ H fun v H1=>td σ H1 fun x H2=>ty σ H2 fun y H3=>∃a H4,x=.ref a/\Bt H3 a y v H4/\D.nx σ H4
section
variable {X:Cx}{o i e value:Rb}{pos pos' tpos:Pos}{td ty tv:TE}
def DZ (hu:X.A.units+1<cLine) (ho:PE X o td) (hi:PE X i ty) (hs:Hv i):PE X (.Subscript o i pos) (KW td ty):=by
 intro pins s σ H Q I h
 refine D2 PySem.F.slot_dict_getitem.lookup hs (thn (ho pins s σ H _ I h) fun u s1 ⟨x,H1,I1,rx,q1⟩=>thn (hi pins s1 σ H1 _ I1 q1) fun iv s2 zq1=>?_)
 obtain⟨y,H2,I2,ry,a,v,ex,g,q2⟩:=zq1
 subst ex
 obtain rfl:u=Qa a:=rx
 exact⟨ue I2 g,zQ hu I2 g ry fun w' s3 I3 rw'=>⟨v,H2,I3,rw',q2⟩⟩
def EM (hu:X.A.units+1<cLine) (ho:PE X o td) (hi:PE X i ty) (hv:PE X value tv) (hs:swapsWith value (Wx (.Subscript o i pos')) pos.line X.env=pure WA) :
  PS X (.Assign [.Subscript o i pos'] value pos) (Kk td ty tv):=by
 intro pins s σ H D I h
 refine wpAny_Assign_Subscript (thn (hv pins s σ H _ I h) fun r s1 ⟨v,H1,I1,rv,q1⟩=>thn (ho pins s1 σ H1 _ I1 q1) fun u s2 ⟨x,H2,I2,rx,q2⟩=>thn (hi pins s2 σ H2 _ I2 q2) fun iv s3 ⟨y,H3,I3,ry,a,H4,ex,g,q3⟩=>?_) hs
 subst ex
 obtain rfl:u=Qa a:=rx
 exact yZ hu I3 g ry rv fun s4 I4=>⟨σ,H4,I4,q3⟩
end
def tK (h:QQ) (hb:sysModules<h.objs.size):a_ P w H (h.push { cls:=.type "dict", data:=.dict #[] }) h.objs.size (.dT []):=
 ⟨QJ _,beq_eq_false_iff_ne.mpr (SW (PU hb)),[],.nil,_,#[],0,Pu _ rfl,⟨rfl,rfl,rfl⟩,rfl,rfl,Vv⟩
abbrev IE:TE:=fun _ H Q=>∀p,H p=Wy->Q (.ref p) (upd H p (.dT []))
section
variable {X:Cx}{pos:Pos}
def Bh:PE X (.Dict [] [] pos) IE:=fun pins s σ H Q I h=>
 wpAny_Dict_empty ⟨.ref s.heap.objs.size,_,I.laid (a:=s.heap.objs.size) (o:=.dT []) (t':=s.toks) (fun _ _ q=>Pn _ q) (Pt _) (tK s.heap I.big),rfl,h _ (I.hok.fresh (Pt _))⟩
end
structure M2 (X:Cx) (o) (m) (apos:Pos) (e f) (cpos):Prop where
 base:attributeBase o m X.env (eval o X.env)=eval o X.env
 few:((backTo cpos (starEach [e,f] X.env)).all (fun x=>!x.1)&&(backToKw cpos (keywordEach [] X.env)).all (fun x=>x.1.isSome)
  && decide (([e,f]:List Rb).length+([]:List V4).length+(if ([]:List V4).isEmpty then 0 else 1)<30))=true
 line:(apos.endLine == cpos.line)=true
 trees:backTo cpos (starEach [e,f] X.env)=[(false,eval e X.env),(false,eval f X.env)]
abbrev IsD (H:Hp) (a:PN):Prop:=(∃kvs,Rd H a (.dK kvs))\/∃kvs,Rd H a (.dT kvs)
def Ju {σ:St} (I:Inv X pins σ H s) (d:IsD H a) :
  s.TypeIs (.ref a) "dict" /\ (∀b,Qa a=.ref b->∃ob,s.heap.get? b=Wx ob/\ob.dict=Wy)/\(a == sysModules)=false:=by
 rcases d with⟨kvs,e⟩ | ⟨kvs,e⟩
 ·obtain⟨_,hd,vs,_,dd⟩:=uh I.hok e
  refine⟨dd.typeIs,fun b q=>?_,hd⟩
  cases q
  obtain⟨ob,_,_,h1,h2,_⟩:=dd
  exact⟨ob,h1,h2.2.1⟩
 ·obtain⟨_,hd,xs,_,dd⟩:=tY I.hok e
  refine⟨dd.typeIs,fun b q=>?_,hd⟩
  cases q
  obtain⟨ob,_,_,h1,h2,_⟩:=dd
  exact⟨ob,h1,h2.2.1⟩
section
variable {X:Cx}{pins:List (PN × Obj)}{σ:St}{H:Hp}{s:Pr}{a:PN}{y d:V}{u r:Pp}{o:Option V}{A:P9}{E:Pp->Pr->Prop}
def Jc (hu:A.units+1<cLine) (I:Inv X pins σ H s) (g:rT H a y o) (ry:RelV y u) (rd:RelV d r) (h:∀w' s',Inv X pins σ H s'->RelV (o.getD d) w'->Q w' s') :
  wpAny (model X.prog X.w) A (call (.builtin "dict.get") [.ref a,u,r]) Q E s:=by
 rcases g with⟨kvs,k,e,ey,l⟩ | ⟨kvs,k,b,e,ey,eb,l⟩
 ·subst ey
  obtain⟨z,hd,vs,rel,dd⟩:=uh I.hok e
  refine call_meetsIn T4 dd.typeIs PySem.F.entry_dict_get (PySem.F.args_dict_get_3 _ _ _) (meets_dict_get_default (bM X.prog X.w) a (xJ ry) hd r) ⟨_,dd.mapOf,h _ _ (I.tok _) ?_⟩
  rw[l]
  exact(rel.val k).getD rd
 ·subst ey
  cases (show u=Qa b from ry)
  obtain⟨z,hd,xs,rel,dd⟩:=tY I.hok e
  refine call_meetsIn T4 dd.typeIs PySem.F.entry_dict_get (PySem.F.args_dict_get_3 _ _ _) (meetsH_dict_get_default (tupleKind (bM X.prog X.w)) a b hd r) ⟨Uz hu,k,xs,mO I.hok eb,dd,h _ _ (I.tok _) ?_⟩
  rw[l]
  exact(rel.val k).getD rd
end
abbrev HY (td ty tx:TE):TE:=fun σ H Q=>td σ H fun x H1=>∃a,x=.ref a/\IsD H1 a/\ty σ H1 fun y H2=>tx σ H2 fun z H3=>∃o,rT H3 a y o/\Q (o.getD z) H3
section
variable {X:Cx}{o e f:Rb}{apos cpos:Pos}{td ty tx:TE}
def DG (hu:X.A.units+1<cLine) (ho:PE X o td) (he:PE X e ty) (hf:PE X f tx) (m:M2 X o "get" apos e f cpos):PE X (.Call (.Attribute o "get" apos) [e,f] [] cpos) (HY td ty tx):=by
 intro pins s σ H Q I h
 refine wpAny_Call_method m.base m.few m.line PySem.F.plainAttrs_dict T4 PySem.F.type_dict_get (thn (ho pins s σ H _ I h) fun u s1 zq1=>?_)
 obtain⟨x,H1,I1,rx,a,ex,d,q1⟩:=zq1
 subst ex
 obtain rfl:u=Qa a:=rx
 obtain⟨t1,t2,_⟩:=Ju I1 d
 refine⟨t1,t2,?_⟩
 rw[m.trees]
 refine Calls.callWith_builtin rfl (Calls.evalArgs_plain (Se (thn (he pins s1 σ H1 _ I1 q1) fun iv s2 ⟨y,H2,I2,ry,q2⟩=>
  Se (thn (hf pins s2 σ H2 _ I2 q2) fun fv s3 ⟨z,H3,I3,rz,ov,g,q3⟩=>UM ?_))))
 exact Jc hu I3 g ry rz fun w' s4 I4 rw'=>⟨_,H3,I4,rw',q3⟩
end
end L2
namespace L2.FE
open PySem PySem.Spec PyProof.Rows
inductive D where
 | non | bl (b:Bool) | int (i:Int) | str (x:Str) | tup (ds:List D) | frl (ds:List D) | ref (n:Nat) | fn (x:Str) | edic | scr (ds:List D) | exc (c:Str) (fs:List (Str × Int)) | clo (f:Str) (ds:List D)
inductive O where
 | lst (ds:List D) | set (ns:List Int) | dic (kvs:List (Key × D)) | dit (kvs:List (List Key × D))
@[inline]abbrev Hh:=List O
@[inline]abbrev En:=List (Option D)
structure Xc where
 cls:Str
 fs:List (Str × Int)
inductive R (β:Type) where
 | ok (b:β) (h:Hh)
 | err (x:Xc) (h:Hh)
 | bad
abbrev R.bind (r:R β) (f:β->Hh->R γ):R γ:=match r with
 | .ok b h=>f b h
 | .err x h=>.err x h
 | .bad=>.bad
inductive Fl where
 | nx (e:En) | bk (e:En) | ct (e:En) | rt (d:D)
@[inline]abbrev ME:=En->Hh->R D
@[inline]abbrev MT:=En->Hh->R Bool
@[inline]abbrev MA:=En->Hh->R (List D)
@[inline]abbrev MS:=En->Hh->R Fl
abbrev Fro (K:Pk) (H:Hp) (p:PN) (vs:List V):Prop:=
 (∃o,H p=Wx (.frz o (.lst vs)))\/∃o its n,K.lookup p=Wx o/\o.cls=.type "list" /\ o.dict=Wy/\o.data=.seq its n/\its.size<=sizeLine/\Vals vs its.toList
def Fro.sq {K:Pk} (h:Fro K H p vs):SqL K H p vs:=by
 rcases h with⟨o,h⟩ | h
 ·exact .inl (.inr ⟨o,h⟩)
 ·exact .inr h
abbrev Fr1 (H:Hp) (p:PN) (vs:List V):Prop:=∃o,H p=Wx (.frz o (.lst vs))
def Fr1.fro {K:Pk} (h:Fr1 H p vs):Fro K H p vs:=.inl h
def Fr1.sq {K:Pk}{H:Hp}{p:PN}{vs:List V} (h:Fr1 H p vs):SqL K H p vs:=let ⟨o,h⟩:=h;.inl (.inr ⟨o,h⟩)
def Fr1.rd (h:Fr1 H p vs):Rd H p (.lst vs):=.inr h
abbrev AtO (p:PN) (o:Obj):HO:=.frz o (.ext fun h=>h.get? p=Wx o)
abbrev XFs (H:Hp) (dc:Option PN) (fs:List (Str × Int)):Prop:=(dc=Wy/\fs=[])\/∃dx od,dc=Wx dx/\H dx=Wx (.frz od (.xd (fs.map fun x=>(x.1,V.int x.2))))
abbrev jL (H:Hp) (clos:List (Str × PN)):List Str->List V->Prop:=Paired fun y v=>∃c o u,clos.lookup y=Wx c/\H c=Wx (AtO c o)/\o.data=.cell (Wx u)/\RelV v u
structure sM (f x qual) (ys) (params) (body:Rb) (scope:Ui):Prop where
 tx:∃(p0 p2 p3:Pos) (qs:List (Str × Pos)),qs.map (·.1)=ys/\body=.Call (.Name f p0) (qs.map (fun y=>Wm y.1 y.2)++[.Name x p2]) [] p3
 kind:scope.kind=.function
 co:scope.isCoroutine=false
 gen:scope.isGenerator=false
 Jk:∀z∈scope.names,z.2≠.cell
 glob:scope.names.lookup f=some .globalImplicit
 loc:scope.names.lookup x=some .local
 free:∀y∈ys,scope.names.lookup y=some .free/\(y == ("__debug__" : Str))=false/\(y == ("__classdict__" : Str))=false
 nd:(f == ("__debug__" : Str))=false/\(x == ("__debug__" : Str))=false
 bind:∀clos pm cdv ctv u,bindArgs (PySem.W.kla_fn "<lambda>" qual params body scope clos pm cdv ctv) ⟨[u],[]⟩=pure [(x,u)]
abbrev Gx (f:Str) (clos:List (Str × PN)) (ys:List Str) (o:Obj) (c':PN) (qual:Str):Prop:=
 ∃params body scope pm ctv x,o=Rq "<lambda>" qual params body scope clos pm c' ctv/\sM f x qual ys params body scope
mutual
inductive aC (K) (g) (α) (H):D->V->Prop where
 | non:aC K g α H .non .non
 | bl (b):aC K g α H (.bl b) (.bl b)
 | int (i):aC K g α H (.int i) (.int i)
 | str (x):aC K g α H (.str x) (.str x)
 | ref:α[n]?=some p->aC K g α H (.ref n) (.ref p)
 | tup {ds p vs}:H p=some (.tup vs)->ao K g α H ds vs->aC K g α H (.tup ds) (.ref p)
 | frl {ds p vs}:Fr1 H p vs->ao K g α H ds vs->aC K g α H (.frl ds) (.ref p)
 | scr {ds p vs}:Fro K H p vs->ao K g α H ds vs->aC K g α H (.scr ds) (.ref p)
 | fn:g x=some f->aC K g α H (.fn x) (.ref f)
 | edic:H p=some (.frz o (.dK []))->aC K g α H .edic (.ref p)
 | exc:g c=some C->H p=some (AtO p o)->o.cls=.ref C->(∃vs,o.data=.fields vs)->XFs H o.dict fs->aC K g α H (.exc c fs) (.ref p)
 | clo {f ds p o clos ys vs c' oc qual t vc}:H p=some (AtO p o)->Gx f clos ys o c' qual->H c'=some (AtO c' oc)->oc.data=.fields vc->vc[1]?=some (.str qual t)->jL H clos ys vs->ao K g α H ds vs->aC K g α H (.clo f ds) (.ref p)
inductive ao (K) (g:Str->Option PN) (α:List PN) (H:Hp):List D->List V->Prop where
 | nil:ao K g α H [] []
 | cons:aC K g α H d v->ao K g α H ds vs->ao K g α H (d::ds) (v::vs)
end
structure Ex0 (K:Pk) (α) (H:Hp) (α':List PN) (H':Hp):Prop where
 pre:α <+: α'
 tup:∀p xs , H p=some (.tup xs)->H' p=some (.tup xs)
 frz:∀p o u , H p=some (.frz o u)->H' p=some (.frz o u)
 tbl:∀p ps , H p=some (.tbl ps)->∃more,H' p=some (.tbl (ps++more))
def Ex0.fro {K:Pk} (e:Ex0 K α H α' H') (p) (xs) (h:Fro K H p xs):Fro K H' p xs:=by
 rcases h with⟨o,h⟩ | h
 ·exact .inl ⟨o,e.frz _ _ _ h⟩
 ·exact .inr h
def Ex0.fr1 {K:Pk} (e:Ex0 K α H α' H') (p) (xs) (h:Fr1 H p xs):Fr1 H' p xs:=let ⟨o,h⟩:=h;⟨o,e.frz _ _ _ h⟩
structure Ext (K) (α) (H) (α') (H'):Prop extends Ex0 K α H α' H' where
 kept:∀p o,H p=some o->p∉α->(∀ps,o≠.tbl ps)->H' p=some o
 new:∀p,p∈α'->p∉α->H p=none
section
variable {K:Pk}{g:Str->Option PN}{α α' α'':List PN}{H H' H'':Hp}
def Ext.keep (e:Ext K α H α' H') (p) (o) (h:H p=Wx o) (n:p∉α) (t:∀ps,o≠.tbl ps:=by intro _ z;cases z):H' p=Wx o:=e.kept p o h n t
def Ext.stays (e:Ext K α H α' H'){p:PN}{o:HO} (h:H p=Wx o) (n:p∉α):H' p≠none:=by
 cases o with
 | tbl ps=>obtain⟨m,q⟩:=e.tbl p ps h;simp_all
 | _=>rw[e.keep p _ h n];simp
def Ex0.refl:Ex0 K α H α H:=⟨R8 _,fun _ _ h=>h,fun _ _ _ h=>h,fun _ ps h=>⟨#[],by grind⟩⟩
def Ex0.trans (a:Ex0 K α H α' H') (b:Ex0 K α' H' α'' H''):Ex0 K α H α'' H'':=⟨a.pre.trans b.pre,fun p xs h=>b.tup p xs (a.tup p xs h),fun p o u h=>b.frz p o u (a.frz p o u h),fun p ps h=>by
  obtain⟨m1,e1⟩:=a.tbl p ps h
  obtain⟨m2,e2⟩:=b.tbl p _ e1
  grind⟩
def Ext.refl:Ext K α H α H:=⟨.refl,fun _ _ h _ _=>h,fun _ h n=>absurd h n⟩
def Ext.trans (a:Ext K α H α' H') (b:Ext K α' H' α'' H''):Ext K α H α'' H'':=⟨a.toEx0.trans b.toEx0,fun p o h n t=>b.kept p o (a.kept p o h n t) (fun z=>by rw[a.new p z n] at h;cases h) t,fun p z n=>by
  by_cases q:p∈α'
  ·exact a.new p q n
  ·have:=b.new p z q
   cases e:H p with
   | none=>rfl
   | some o=>exact absurd this (a.stays e n)⟩
def Ex0.get (e:Ex0 K α H α' H'){n:Nat}{p:PN} (h:α[n]?=Wx p):α'[n]?=Wx p:=by
 obtain⟨t,rfl⟩:=e.pre
 have hl:n<α.length:=by
  by_cases hl:n<α.length
  ·exact hl
  ·rw[QC {}] at h;cases h
 rw[PB hl];exact h
mutual
theorem aC.ex0 (e:Ex0 K α H α' H'){d:D}{v:V} (r:aC K g α H d v):aC K g α' H' d v:=by
 cases r with
 | non=>exact .non
 | bl b=>exact .bl b
 | int i=>exact .int i
 | str x=>exact .str x
 | ref h=>exact .ref (e.get h)
 | tup h r=>exact .tup (e.tup _ _ h) (ao.ex0 e r)
 | frl h r=>exact .frl (e.fr1 _ _ h) (ao.ex0 e r)
 | scr h r=>exact .scr (e.fro _ _ h) (ao.ex0 e r)
 | fn h=>exact .fn h
 | edic h=>exact .edic (e.frz _ _ _ h)
 | exc hg h hc hd hf=>
  refine .exc hg (e.frz _ _ _ h) hc hd (hf.imp id ?_)
  rintro⟨dx,od,a,b⟩
  exact⟨dx,od,a,e.frz _ _ _ b⟩
 | clo h l hc hd hv cs r=>
  refine .clo (e.frz _ _ _ h) l (e.frz _ _ _ hc) hd hv (L2.Paired.rJ cs ?_) (ao.ex0 e r)
  rintro _ _ ⟨c,o,u,l,a,b⟩
  exact⟨c,o,u,l,e.frz _ _ _ a,b⟩
theorem ao.ex0 (e:Ex0 K α H α' H'){ds:List D}{vs:List V} (r:ao K g α H ds vs):ao K g α' H' ds vs:=by
 cases r with
 | nil=>exact .nil
 | cons r t=>exact .cons (aC.ex0 e r) (ao.ex0 e t)
end
def aC.ext (e:Ext K α H α' H') (r:aC K g α H d v):aC K g α' H' d v:=r.ex0 e.toEx0
def ao.ext (e:Ext K α H α' H') (r:ao K g α H d v):ao K g α' H' d v:=r.ex0 e.toEx0
def ao.length {ds:List D}{vs:List V} (r:ao K g α H ds vs):ds.length=vs.length:=by
 cases r with
 | nil=>rfl
 | cons _ t=>simp[ao.length t]
def ao.append {ds es:List D}{vs us:List V} (r:ao K g α H ds vs) (s:ao K g α H es us):ao K g α H (ds++es) (vs++us):=by
 cases r with
 | nil=>exact s
 | cons r t=>exact .cons r (ao.append t s)
def ao.get:∀{ds:List D}{vs:List V}{i:Nat}{d:D},ao K g α H ds vs->ds[i]?=Wx d->∃v,vs[i]?=Wx v/\aC K g α H d v
 | _,_,_,_,.nil,e=>by simp at e
 | _,_,0,_,.cons r _,e=>by simp_all
 | _,_,i+1,d,.cons _ t,e=>by
  obtain⟨u,h1,h2⟩:=ao.get t (by simpa using e)
  simp_all
def ao.set {d:D}{v:V} (r:aC K g α H d v):∀{ds:List D}{vs:List V} (i:Nat),ao K g α H ds vs->ao K g α H (ds.set i d) (vs.set i v)
 | _,_,_,.nil=>.nil
 | _,_,0,.cons _ t=>.cons r t
 | _,_,i+1,.cons q t=>.cons q (ao.set r i t)
def ao.take:∀{ds:List D}{vs:List V} (n:Nat),ao K g α H ds vs->ao K g α H (ds.take n) (vs.take n)
 | _,_,0,_=>.nil
 | _,_,_+1,.nil=>.nil
 | _,_,n+1,.cons r t=>.cons r (ao.take n t)
def ao.drop:∀{ds:List D}{vs:List V} n , ao K g α H ds vs->ao K g α H (ds.drop n) (vs.drop n)
 | _,_,0,r=>r
 | _,_,_+1,.nil=>.nil
 | _,_,n+1,.cons _ t=>ao.drop n t
def ao.ints (ns:List Int):ao K g α H (ns.map D.int) (ns.map V.int):=by
 induction ns with
 | nil=>exact .nil
 | cons n r ih=>exact .cons (.int n) ih
def ao.A5:∀{ns:List Int}{vs:List V},ao K g α H (ns.map D.int) vs->vs=ns.map V.int:=by
 intro ns
 induction ns with
 | nil=>intro _ h;cases h;rfl
 | cons n r ih=>
  intro _ h
  cases h with | cons a t=>
  cases a
  rw[ih t];rfl
def ao.flat {ds:List D}{vs:List V} (r:ao K g α H ds vs):∀k,ao K g α H (PY k ds).flatten (PY k vs).flatten
 | 0=>.nil
 | k+1=>by rw[SX];exact r.append (ao.flat r k)
end
abbrev OAt (K:Pk) (g:Str->Option PN) (α:List PN) (H:Hp) (p:PN):O->Prop
 | .lst ds=>∃vs,H p=Wx (.lst vs)/\ao K g α H ds vs
 | .set ns=>H p=Wx (.set (fun k=>ns.any (· == k)) ns.length)
 | .dic kvs=>∃kws,H p=Wx (.dK kws)/\Paired (fun(a:Key × D) (b:Key × V)=>a.1=b.1/\aC K g α H a.2 b.2) kvs kws
 | .dit kvs=>∃kws,H p=Wx (.dT kws)/\Paired (fun(a:List Key × D) (b:List Key × V)=>a.1=b.1/\aC K g α H a.2 b.2) kvs kws
abbrev sU (H:Hp) (q:PN × Pos × Str):Prop:=H q.1=Wx (.tbl #[])\/∃c' oc vc t,H q.1=Wx (.tbl #[rawInt q.2.1.line,rawInt q.2.1.col,.ref c'])/\H c'=Wx (AtO c' oc)/\oc.data=.fields vc/\vc[1]?=Wx (.str q.2.2 t)
abbrev Eo (fd:RV):Option Pos:=match fd.body with
 | .stmts b=>(match b.getLast? with
  | some (.Return (Wx (.Lambda _ _ _ pos)) _)=>Wx pos
  | some (.Return (Wx (.Call _ es _ _)) _)=>(match es.getLast? with | some (.Lambda _ _ _ pos)=>Wx pos | _=>Wy)
  | _=>Wy)
 | _=>Wy
abbrev jy (K:Pk) (f:PN):Option (PN × Pos × Str):=match K.lookup f with
 | some ⟨_,_,.func fd,_⟩=>(match Eo fd,fd.code with
  | some pos,.ref c=>(match K.lookup c with
   | some ⟨_,_,.fields vs,_⟩=>(match (vs[11]?:Option Pp) with | some (.ref P)=>Wx (P,pos,fd.qualname++".<locals>." ++ "<lambda>") | _=>Wy)
   | _=>Wy)
  | _,_=>Wy)
 | _=>Wy
abbrev hG (K:Pk) (H:Hp):Prop:=∀f P,jy K f=Wx P->sU H P
structure aK (K) (g) (α:List PN) (H) (h:Hh):Prop where
 len:α.length=h.length
 inj:∀(n m:Nat) p , α[n]?=some p->α[m]?=some p->n=m
 here:∀(n:Nat) p o , α[n]?=some p->h[n]?=some o->OAt K g α H p o
 tab:hG K H
section
variable {K:Pk}{g:Str->Option PN}{α α':List PN}{H H':Hp}{h:Hh}
def Paired.JH (e:Ex0 K α H α' H') (r:Paired (fun(a:Key × D) (b:Key × V)=>a.1=b.1/\aC K g α H a.2 b.2) kvs kws) :
  Paired (fun(a:Key × D) (b:Key × V)=>a.1=b.1/\aC K g α' H' a.2 b.2) kvs kws:=L2.Paired.rJ r fun _ _ q=>⟨q.1,q.2.ex0 e⟩
def Paired.Ly (e:Ex0 K α H α' H') (r:Paired (fun(a:List Key × D) (b:List Key × V)=>a.1=b.1/\aC K g α H a.2 b.2) kvs kws) :
  Paired (fun(a:List Key × D) (b:List Key × V)=>a.1=b.1/\aC K g α' H' a.2 b.2) kvs kws:=L2.Paired.rJ r fun _ _ q=>⟨q.1,q.2.ex0 e⟩
def sU.mono (t:sU H P) (a:∀b ps,H b=Wx (.tbl ps)->H' b=Wx (.tbl ps)) (z:∀b o u,H b=Wx (.frz o u)->H' b=Wx (.frz o u)):sU H' P:=by
 rcases t with h | ⟨c',oc,vc,tk,h,hc,hd⟩
 ·exact .inl (a _ _ h)
 ·exact .inr ⟨c',oc,vc,tk,a _ _ h,z _ _ _ hc,hd⟩
def hG.mono (t:hG K H) (a:∀b ps,H b=Wx (.tbl ps)->H' b=Wx (.tbl ps)) (z:∀b o u,H b=Wx (.frz o u)->H' b=Wx (.frz o u)):hG K H':=fun f P e=>(t f P e).mono a z
def hG.upd (t:hG K H) (n:H p=Wy\/∃u,H p=Wx u/\(∀ys,u≠.tup ys)/\(∀w ys,u≠.frz w ys)/\∀ps,u≠.tbl ps):hG K (upd H p o):=by
 have ne:∀q u,H q=Wx u->((∃w ys,u=.frz w ys)\/∃ps,u=.tbl ps)->q≠p:=by
  grind
 intro f P e
 rcases t f P e with h | ⟨c',oc,vc,tk,h,hc,hd⟩
 ·exact .inl (by rw[aw (ne _ _ h (.inr ⟨_,rfl⟩))];exact h)
 ·exact .inr ⟨c',oc,vc,tk,by rw[aw (ne _ _ h (.inr ⟨_,rfl⟩))];exact h,by rw[aw (ne _ _ hc (.inl ⟨_,_,rfl⟩))];exact hc,hd⟩
def OAt.isS {p:PN}{o:O} (h:OAt K g α H p o):∃u,H p=Wx u/\(∀ys,u≠.tup ys)/\(∀w ys,u≠.frz w ys)/\∀ps,u≠.tbl ps:=by
 cases o with
 | lst ds=>obtain⟨vs,e,_⟩:=h;simp_all
 | set n=>exact⟨_,h,fun _ z=>(nomatch z),fun _ _ z=>(nomatch z),fun _ z=>nomatch z⟩
 | dic kvs=>obtain⟨vs,e,_⟩:=h;simp_all
 | dit kvs=>obtain⟨vs,e,_⟩:=h;simp_all
def aK.mem (r:aK K g α H h) (hp:p∈α):∃u,H p=Wx u/\(∀ys,u≠.tup ys)/\(∀w ys,u≠.frz w ys)/\∀ps,u≠.tbl ps:=by
 obtain⟨n,hn,e⟩:=Ro hp
 have hn':n<h.length:=by rw[<- r.len];exact hn
 exact(r.here n p _ (by simp_all) (Pz hn')).isS
def OAt.ex0 (e:Ex0 K α H α' H') (h:OAt K g α H p o) (k:∀u,H p=Wx u->H' p=Wx u):OAt K g α' H' p o:=by
 cases o with
 | lst ds=>obtain⟨vs,a,r⟩:=h;exact⟨vs,k _ a,r.ex0 e⟩
 | set n=>exact k _ h
 | dic kvs=>obtain⟨kws,a,r⟩:=h;exact⟨kws,k _ a,Paired.JH e r⟩
 | dit kvs=>obtain⟨kws,a,r⟩:=h;exact⟨kws,k _ a,Paired.Ly e r⟩
abbrev FO (H:Hp) (p:PN):Prop:=H p=Wy\/∃u,H p=Wx u/\(∀ys,u≠.tup ys)/\(∀w ys,u≠.frz w ys)/\∀ps,u≠.tbl ps
def Ex0.upd (n:FO H p):Ex0 K α H α (upd H p o):=by
 have ne:∀q u,H q=Wx u->((∃ys,u=.tup ys)\/(∃w ys,u=.frz w ys)\/∃ps,u=.tbl ps)->q≠p:=by
  rintro q u e z rfl
  rcases n with n | ⟨u',e',n1,n2,n3⟩
  ·simp_all
  simp_all
 refine⟨R8 _,fun q xs h=>?_,fun q o u h=>?_,fun q ps h=>⟨#[],?_⟩⟩
 ·rw[aw (ne q _ h (.inl ⟨_,rfl⟩))];exact h
 ·rw[aw (ne q _ h (.inr (.inl ⟨_,_,rfl⟩)))];exact h
 ·rw[aw (ne q _ h (.inr (.inr ⟨_,rfl⟩))),h];simp
def Ex0.more (e:Ex0 K α H α H') (l):Ex0 K α H (α++l) H':=⟨List.prefix_append _ _,e.tup,e.frz,e.tbl⟩
def Ext.fresh (n:H p=Wy):Ext K α H α (upd H p o):=⟨Ex0.upd (.inl n),fun q u h _ _=>by rw[aw (aE h n)];exact h,fun _ z m=>absurd z m⟩
def Ext.push (n:H p=Wy):Ext K α H (α++[p]) (upd H p o):=⟨(Ex0.upd (.inl n)).more _,fun q u h _ _=>by rw[aw (aE h n)];exact h,fun q z m=>by
 simp_all⟩
def aK.off {p:PN}{o:HO} (r:aK K g α H h) (n:FO H p) (m:p∉α):aK K g α (upd H p o) h:=by
 refine⟨r.len,r.inj,fun k q u a b=>(r.here k q u a b).ex0 (Ex0.upd n) fun w e=>?_,r.tab.upd n⟩
 rw[aw];exact e
 rintro rfl;exact m (P0 a)
def aK.free (r:aK K g α H h) (n:H p=Wy):p∉α:=fun z=>by
 obtain⟨u,e,_⟩:=r.mem z
 simp_all
def aK.grow (r:aK K g α H h) (n:H p=Wy):aK K g α (upd H p o) h:=r.off (.inl n) (r.free n)
def aK.adopt {p:PN}{u:O} (r:aK K g α H h) (n:p∉α) (a:OAt K g (α++[p]) H p u):aK K g (α++[p]) H (h++[u]):=by
 have old:∀{m:Nat} {q:PN},(α++[p])[m]?=Wx q->(α[m]?=Wx q)\/(m=α.length/\q=p):=by
  intro m q h1
  by_cases hm:m<α.length
  ·rw[PB hm] at h1
   exact .inl h1
  ·have hl:m<(α++[p]).length:=by
    by_cases hl:m<(α++[p]).length
    ·exact hl
    ·rw[QC {}] at h1;cases h1
   have e:m=α.length:=by simp at hl;lia
   subst e
   simp at h1
   exact .inr ⟨rfl,h1.symm⟩
 refine⟨by simp[r.len],fun m k q h1 h2=>?_,fun m q w h1 h2=>?_,r.tab⟩
 ·rcases old h1 with a1 | ⟨e1,e2⟩
  ·rcases old h2 with a2 | ⟨e3,e4⟩
   ·exact r.inj m k q a1 a2
   ·rw[e4] at a1;exact absurd (P0 a1) n
  ·rcases old h2 with a2 | ⟨e3,e4⟩
   ·rw[e2] at a2;exact absurd (P0 a2) n
   ·rw[e1,e3]
 ·rcases old h1 with a1 | ⟨e1,e2⟩
  ·have hm:m<α.length:=by
    by_cases hl:m<α.length
    ·exact hl
    ·rw[QC {}] at a1;cases a1
   rw[PB (by rw[<- r.len];exact hm)] at h2
   exact(r.here m q w a1 h2).ex0 (Ex0.refl.more _) fun _ z=>z
  ·subst e1 e2
   rw[r.len] at h2
   simp at h2
   subst h2
   exact a
def aK.push (r:aK K g α H h) (n:H p=Wy) (a:OAt K g (α++[p]) (upd H p o) p u):aK K g (α++[p]) (upd H p o) (h++[u]):=(r.grow n).adopt (r.free n) a
def Ext.write {p:PN}{o:HO}{k:Nat} (r:aK K g α H h) (hk:α[k]?=Wx p):Ext K α H α (upd H p o):=
 ⟨Ex0.upd (.inr (r.mem (P0 hk))),fun q u h m _=>by
  rw[aw];exact h
  rintro rfl;exact m (P0 hk),fun _ z m=>absurd z m⟩
def aK.write (r:aK K g α H h) (hk:α[k]?=Wx p) (a:OAt K g α (upd H p o) p u'):aK K g α (upd H p o) (h.set k u'):=by
 have x:Ext K α H α (upd H p o):=Ext.write r hk
 refine⟨by simp[r.len],r.inj,fun m q w h1 h2=>?_,r.tab.upd (.inr (r.mem (P0 hk)))⟩
 rw[TM] at h2
 by_cases hm:k=m
 ·simp_all
 ·rw[if_neg hm] at h2
  refine(r.here m q w h1 h2).ex0 x.toEx0 fun z e=>?_
  rw[aw];exact e
  rintro rfl;exact hm (r.inj _ _ _ hk h1)
end
@[inline]abbrev GG:=Str->Option PN
@[inline]abbrev EE:=List PN->Hp->Xc->Prop
structure iA (K) (g:GG) (α) (H) (env:En) (σ:St):Prop where
 len:env.length=σ.length
 vars:∀(i:Nat) d , env[i]?=some (some d)->∃v,σ[i]?=some (some v)/\aC K g α H d v
structure cM (K) (g:GG) (α) (H) (env) (σ) (h):Prop where
 heap:aK K g α H h
 vs:iA K g α H env σ
abbrev WQ (K:Pk) (g:GG) (ε:EE) (α:List PN) (H:Hp){β:Type} (r:R β) (k:β->Hh->Prop):Prop:=match r with
 | .ok b h=>k b h
 | .err x h=>∀α' H',Ext K α H α' H'->aK K g α' H' h->ε α' H' x
 | .bad=>False
section
variable {K:Pk}{g:GG}{ε:EE}{α α':List PN}{H H':Hp}{β γ:Type}
def WQ.bind {f:β->Hh->R γ} (w:WQ K g ε α H (r.bind f) k):WQ K g ε α H r fun b h=>WQ K g ε α H (f b h) k:=by
 cases r<;>exact w
def WQ.ext (e:Ext K α H α' H') (w:WQ K g ε α H r k):WQ K g ε α' H' r k:=by
 cases r with
 | ok b h=>exact w
 | err x h=>exact fun a b c d=>w a b (e.trans c) d
 | bad=>exact w
def WQ.mono (w:WQ K g ε α H r k) (m:∀b h,r=.ok b h->k b h->k' b h):WQ K g ε α H r k':=by
 cases r with
 | ok b h=>exact m b h rfl w
 | err x h=>exact w
 | bad=>exact w
def iA.ext {env:En}{σ:St} (v:iA K g α H env σ) (e:Ext K α H α' H'):iA K g α' H' env σ:=
 ⟨v.len,fun i d h=>let ⟨x,a,b⟩:=v.vars i d h;⟨x,a,b.ext e⟩⟩
def cM.ext (v:cM K g α H env σ h) (e:Ext K α H α' H') (r:aK K g α' H' h'):cM K g α' H' env σ h':=⟨r,v.vs.ext e⟩
def iA.set (v:iA K g α H env σ) (r:aC K g α H d x):iA K g α H (env.set i (Wx d)) (σ.set i (Wx x)):=by
 refine⟨by simp[v.len],fun j e h=>?_⟩
 rw[TM] at h ⊢
 by_cases hj:i=j
 ·subst hj
  rw[if_pos rfl] at h ⊢
  have hl:=v.len
  simp_all
 ·rw[if_neg hj] at h ⊢
  exact v.vars j e h
end
abbrev aA (K:Pk) (g:GG) (α:List PN) (H:Hp) (Q:VK):D->Hh->Prop:=fun d h=>∀v H' α',Ext K α H α' H'->aK K g α' H' h->aC K g α' H' d v->Q v H'
abbrev kX (K:Pk) (g:GG) (α:List PN) (H:Hp) (Q:Bool->Hp->Prop):Bool->Hh->Prop:=fun b h=>∀H' α',Ext K α H α' H'->aK K g α' H' h->Q b H'
abbrev Ks (K:Pk) (g:GG) (α:List PN) (H:Hp) (Q:List V->Hp->Prop):List D->Hh->Prop:=fun ds h=>∀vs H' α',Ext K α H α' H'->aK K g α' H' h->ao K g α' H' ds vs->Q vs H'
abbrev cE (K:Pk) (g:GG) (α:List PN) (H:Hp) (E:Ends):Fl->Hh->Prop:=fun fl h=>∀H' α',Ext K α H α' H'->aK K g α' H' h->match fl with
 | .nx e=>∀σ,iA K g α' H' e σ->E.nx σ H'
 | .bk e=>∀σ,iA K g α' H' e σ->E.bk σ H'
 | .ct e=>∀σ,iA K g α' H' e σ->E.ct σ H'
 | .rt d=>∀v,aC K g α' H' d v->E.rt v H'
abbrev tM (K:Pk) (g:GG) (ε:EE) (m:ME):TE:=fun σ H Q=>∃α env h,cM K g α H env σ h/\WQ K g ε α H (m env h) (aA K g α H Q)
abbrev tMT (K:Pk) (g:GG) (ε:EE) (m:MT):TT:=fun σ H Q=>∃α env h,cM K g α H env σ h/\WQ K g ε α H (m env h) (kX K g α H Q)
abbrev tMA (K:Pk) (g:GG) (ε:EE) (m:MA):TA:=fun σ H Q=>∃α env h,cM K g α H env σ h/\WQ K g ε α H (m env h) (Ks K g α H Q)
abbrev tMS (K:Pk) (g:GG) (ε:EE) (m:MS):TS:=fun E σ H=>∃α env h,cM K g α H env σ h/\WQ K g ε α H (m env h) (cE K g α H E)
section
variable {K:Pk}{g:GG}{ε:EE}{α α':List PN}{H H':Hp}{env:En}{σ:St}{h:Hh}
def aA.ext (e:Ext K α H α' H') (p:aA K g α H Q d h):aA K g α' H' Q d h:=fun v H2 α2 e2 r rd=>p v H2 α2 (e.trans e2) r rd
def kX.ext (e:Ext K α H α' H') (p:kX K g α H Q d h):kX K g α' H' Q d h:=fun H2 α2 e2 r=>p H2 α2 (e.trans e2) r
def cE.ext (e:Ext K α H α' H') (p:cE K g α H E d h):cE K g α' H' E d h:=fun H2 α2 e2 r=>p H2 α2 (e.trans e2) r
def WQ.post (e:Ext K α H α' H') (w:WQ K g ε α H r (aA K g α H Q)):WQ K g ε α' H' r (aA K g α' H' Q):=(w.ext e).mono fun _ _ _ p=>p.ext e
def WQ.JN (e:Ext K α H α' H') (w:WQ K g ε α H r (kX K g α H Q)):WQ K g ε α' H' r (kX K g α' H' Q):=(w.ext e).mono fun _ _ _ p=>p.ext e
def WQ.yb (e:Ext K α H α' H') (w:WQ K g ε α H r (cE K g α H E)):WQ K g ε α' H' r (cE K g α' H' E):=(w.ext e).mono fun _ _ _ p=>p.ext e
def tM.use (s:cM K g α H env σ h) (w:WQ K g ε α H (m env h) k)
  (q:∀d h' v H' α',Ext K α H α' H'->cM K g α' H' env σ h'->aC K g α' H' d v->k d h'->Q v H'):tM K g ε m σ H Q:=
 ⟨α,env,h,s,w.mono fun d h' _ kk v H' α' e r rd=>q d h' v H' α' e (s.ext e r) rd kk⟩
def tMT.use (s:cM K g α H env σ h) (w:WQ K g ε α H (m env h) k)
  (q:∀d h' H' α',Ext K α H α' H'->cM K g α' H' env σ h'->k d h'->Q d H'):tMT K g ε m σ H Q:=
 ⟨α,env,h,s,w.mono fun d h' _ kk H' α' e r=>q d h' H' α' e (s.ext e r) kk⟩
def tMA.use (s:cM K g α H env σ h) (w:WQ K g ε α H (m env h) k)
  (q:∀d h' v H' α',Ext K α H α' H'->cM K g α' H' env σ h'->ao K g α' H' d v->k d h'->Q v H'):tMA K g ε m σ H Q:=
 ⟨α,env,h,s,w.mono fun d h' _ kk v H' α' e r rd=>q d h' v H' α' e (s.ext e r) rd kk⟩
def aA.now (p:aA K g α H Q d h) (r:aK K g α H h) (rd:aC K g α H d v):Q v H:=p v H α Ext.refl r rd
end
def PE.imp (h:PE X e t) (i:∀σ H Q,t' σ H Q->t σ H Q):PE X e t':=fun pins s σ H Q I w=>h pins s σ H Q I (i σ H Q w)
def PT.imp (h:PT X e t) (i:∀σ H Q,t' σ H Q->t σ H Q):PT X e t':=fun pins s σ H Q I w=>h pins s σ H Q I (i σ H Q w)
def PW.imp (h:PW X e t) (i:∀σ H Q,t' σ H Q->t σ H Q):PW X e t':=fun wh pins s σ H Q I w=>h wh pins s σ H Q I (i σ H Q w)
def PA.imp (h:PA X e t) (i:∀σ H Q,t' σ H Q->t σ H Q):PA X e t':=fun p pins s σ H Q I w=>h p pins s σ H Q I (i σ H Q w)
def PS.imp (h:PS X e t) (i:∀σ H Q,t' σ H Q->t σ H Q):PS X e t':=fun pins s σ H Q I w=>h pins s σ H Q I (i Q σ H w)
def PSs.imp (h:PSs X e t) (i:∀σ H Q,t' σ H Q->t σ H Q):PSs X e t':=fun pins s σ H Q I w=>h pins s σ H Q I (i Q σ H w)
abbrev af (i:Nat):ME:=fun env h=>match env[i]? with
 | some (Wx d)=>.ok d h
 | _=>.bad
abbrev cC (d:D):ME:=fun _ h=>.ok d h
abbrev av (f:D->D->Hh->R D) (a b:ME):ME:=fun env h=>(a env h).bind fun x h1=>(b env h1).bind fun y h2=>f x y h2
abbrev cUn (f:D->Hh->R D) (a:ME):ME:=fun env h=>(a env h).bind fun x h1=>f x h1
abbrev ak:MA:=fun _ h=>.ok [] h
abbrev aa (a:ME) (r:MA):MA:=fun env h=>(a env h).bind fun x h1=>(r env h1).bind fun xs h2=>.ok (x::xs) h2
abbrev ah (f:List D->Hh->R D) (a:MA):ME:=fun env h=>(a env h).bind fun xs h1=>f xs h1
abbrev aJ (f:D->Hh->R Bool) (a:ME):MT:=fun env h=>(a env h).bind fun x h1=>f x h1
abbrev iK (a:MT):MT:=fun env h=>(a env h).bind fun b h1=>.ok (!b) h1
abbrev CZ (a b:MT):MT:=fun env h=>(a env h).bind fun x h1=>if x=Wz then b env h1 else .ok WA h1
abbrev rZ (a b:MT):MT:=fun env h=>(a env h).bind fun x h1=>if x=Wz then .ok Wz h1 else b env h1
abbrev cIf (c:MT) (a b:ME):ME:=fun env h=>(c env h).bind fun x h1=>if x=Wz then a env h1 else b env h1
abbrev asB:D->Hh->R Bool
 | .bl b,h=>.ok b h
 | _,_=>.bad
abbrev ya (a b:ME):ME:=fun env h=>(a env h).bind fun x h1=>(asB x h1).bind fun k h2=>if k=Wz then b env h2 else .ok (.bl WA) h2
abbrev Nk (a b:ME):ME:=fun env h=>(a env h).bind fun x h1=>(asB x h1).bind fun k h2=>if k=Wz then .ok (.bl Wz) h2 else b env h2
abbrev BQ (a:ME):ME:=fun env h=>(a env h).bind fun x h1=>(asB x h1).bind fun k h2=>.ok (.bl (!k)) h2
abbrev kS (f f':D->D->Hh->R D) (a b c:ME):ME:=fun env h=>(a env h).bind fun x h1=>(b env h1).bind fun y h2=>(f x y h2).bind fun z h3=>(asB z h3).bind fun k h4=>
 if k=Wz then (c env h4).bind fun w h5=>f' y w h5 else .ok (.bl WA) h4
abbrev dw (K:Pk) (g:GG) (ε:EE) (f:D->D->Hh->R D) (r:R2):Prop:=
 ∀α H h a b x y Q , aK K g α H h->aC K g α H a x->aC K g α H b y->WQ K g ε α H (f a b h) (aA K g α H Q)->r x y H Q
abbrev LX (K:Pk) (g:GG) (ε:EE) (f:D->Hh->R D) (r:V->Hp->VK->Prop):Prop:=
 ∀α H h a x Q , aK K g α H h->aC K g α H a x->WQ K g ε α H (f a h) (aA K g α H Q)->r x H Q
abbrev KC (K:Pk) (g:GG) (ε:EE) (f:D->Hh->R Bool) (r:V->Hp->(Bool->Hp->Prop)->Prop):Prop:=
 ∀α H h a x Q , aK K g α H h->aC K g α H a x->WQ K g ε α H (f a h) (kX K g α H Q)->r x H Q
abbrev j7 (K:Pk) (g:GG) (ε:EE) (f:List D->Hh->R D) (r:List V->Hp->VK->Prop):Prop:=
 ∀α H h a x Q , aK K g α H h->ao K g α H a x->WQ K g ε α H (f a h) (aA K g α H Q)->r x H Q
abbrev B4 (K:Pk) (g:GG) (ε:EE) (f:D->List D->Hh->R D) (r:V->List V->Hp->VK->Prop):Prop:=
 ∀α H h o a y x Q , aK K g α H h->aC K g α H o y->ao K g α H a x->WQ K g ε α H (f o a h) (aA K g α H Q)->r y x H Q
section
variable {X:Cx}{g:GG}{ε:EE}{a b c:Rb}{ma mb mc:ME}{pos:Pos}
def ae (i:Nat){x:Str}{pos:Pos} (hN:X.N[i]?=Wx x:=by rfl) (hv:Vis X.env.scope x:=by first | exact Wn rfl | exact Or.inr (Wn rfl) | exact Or.inr (Or.inr rfl)) (hd:(x == ("__debug__" : Str))=false:=by decide)
  (hcd:(x == ("__classdict__" : Str))=false:=by decide):PE X (.Name x pos) (tM X.K g ε (af i)):=by
 refine PE.imp (AN hN hv hd hcd) fun σ H Q zq1=>?_
 obtain⟨α,env,h,s,w⟩:=zq1
 unfold af at w
 cases e:env[i]? with
 | none=>rw[e] at w;exact w.elim
 | some d=>
  cases d with
  | none=>rw[e] at w;exact w.elim
  | some d=>
   rw[e] at w
   obtain⟨v,hv,rd⟩:=s.vs.vars i d e
   exact⟨v,hv,aA.now w s.heap rd⟩
def yK (rd:∀α,aC X.K g α H d v) (t:tM X.K g ε (cC d) σ H Q):tC v σ H Q:=by
 obtain⟨α,env,h,s,w⟩:=t
 exact aA.now w s.heap (rd α)
def au:PE X (.Constant (.int i) j pos) (tM X.K g ε (cC (.int i))):=PE.imp Jz fun _ _ _ t=>yK (fun _=>.int i) t
def jb:PE X (.Constant (.bool i) j pos) (tM X.K g ε (cC (.bl i))):=PE.imp KZ fun _ _ _ t=>yK (fun _=>.bl i) t
def eQ:PE X (.Constant (.str i) j pos) (tM X.K g ε (cC (.str i))):=PE.imp Io fun _ _ _ t=>yK (fun _=>.str i) t
def jN (hg:Gl X x) (hm:X.mg x=Wx (.int i t)) (hd:(x == ("__debug__" : Str))=false:=by decide):PE X (.Name x pos) (tM X.K g ε (cC (.int i))):=
 PE.imp (Fn (v:=.int i) hg hm ⟨t,rfl⟩ hd) fun _ _ _ t=>yK (fun _=>.int i) t
def sy {K:Pk} (im:dw K g ε f r) (t:tM K g ε (av f ma mb) σ H Q):tOp r (tM K g ε ma) (tM K g ε mb) σ H Q:=by
 obtain⟨α,env,h,s,w⟩:=t
 refine tM.use s w.bind fun d1 h1 v1 H1 α1 e1 s1 r1 w1=>?_
 refine tM.use s1 (w1.ext e1).bind fun d2 h2 v2 H2 α2 e2 s2 r2 w2=>?_
 exact im α2 H2 h2 d1 d2 v1 v2 Q s2.heap (r1.ext e2) r2 ((w2.ext e2).mono fun _ _ _ p=>p.ext (e1.trans e2))
def j3 (ho:OpR X (binaryOp op) r) (im:dw X.K g ε f r) (ha:PE X a (tM X.K g ε ma)) (hb:PE X b (tM X.K g ε mb)):PE X (.BinOp a op b pos) (tM X.K g ε (av f ma mb)):=
 PE.imp (LQ ho ha hb) fun _ _ _ t=>sy im t
def rR (ho:OpR X (compareOp op) r) (im:dw X.K g ε f r) (ha:PE X a (tM X.K g ε ma)) (hb:PE X b (tM X.K g ε mb)) (hm:behindInMarks op b=WA):PE X (.Compare a [op] [b] pos) (tM X.K g ε (av f ma mb)):=
 PE.imp (FW ho ha hb hm) fun _ _ _ t=>sy im t
def sY {K:Pk} (ht:∀σ H Q,tM K g ε m σ H Q->t σ H Q) (w:tMT K g ε (aJ asB m) σ H Q):Dx t σ H Q:=by
 obtain⟨α,env,h,s,w⟩:=w
 refine ht _ _ _ (tM.use s w.bind fun d1 h1 v1 H1 α1 e1 s1 r1 w1=>?_)
 cases r1 with
 | bl k=>exact⟨k,rfl,w1 H1 α1 e1 s1.heap⟩
 | _=>exact w1.elim
def cQ (ho:OpR X (compareOp op) r) (im:dw X.K g ε f r) (ha:PE X a (tM X.K g ε ma)) (hb:PE X b (tM X.K g ε mb)) (hm:behindInMarks op b=WA):PT X (.Compare a [op] [b] pos) (tMT X.K g ε (aJ asB (av f ma mb))):=
 PT.imp (Em ho ha hb hm) fun _ _ _ t=>sY (fun _ _ _ u=>sy im u) t
def pX {K:Pk} (im:dw K g ε f r) (im':dw K g ε f' r') (t:tM K g ε (kS f f' ma mb mc) σ H Q):vT r r' (tM K g ε ma) (tM K g ε mb) (tM K g ε mc) σ H Q:=by
 obtain⟨α,env,h,s,w⟩:=t
 refine tM.use s w.bind fun d1 h1 v1 H1 α1 e1 s1 r1 w1=>?_
 refine tM.use s1 (w1.ext e1).bind fun d2 h2 v2 H2 α2 e2 s2 r2 w2=>?_
 refine im α2 H2 h2 d1 d2 v1 v2 _ s2.heap (r1.ext e2) r2 ((w2.ext e2).bind.mono fun z h3 _ w3 v3 H3 α3 e3 hr3 r3=>?_)
 have w4:=w3.bind
 cases r3 with
 | bl k=>
  refine⟨k,rfl,?_⟩
  have s3:=s2.ext e3 hr3
  cases k with
  | true=>
   have w5:WQ K g ε α2 H2 ((mc env h3).bind fun w h5=>f' d2 w h5) _:=w4
   refine tM.use s3 (w5.ext e3).bind fun d4 h4 v4 H4 α4 e4 s4 r4 w6=>?_
   exact im' α4 H4 h4 d2 d4 v2 v4 Q s4.heap (r2.ext (e3.trans e4)) r4 ((w6.ext e4).mono fun _ _ _ p=>p.ext (e1.trans (e2.trans (e3.trans e4))))
  | false=>
   have w5:=w4
   exact w5 _ H3 α3 (e1.trans (e2.trans e3)) s3.heap (.bl WA)
 | _=>exact w4.elim
def DH (ho:OpR X (compareOp op) r) (ho':OpR X (compareOp op') r') (im:dw X.K g ε f r) (im':dw X.K g ε f' r') (ha:PE X a (tM X.K g ε ma)) (hb:PE X b (tM X.K g ε mb)) (hc:PE X c (tM X.K g ε mc))
  (hm:lastMarks [op,op'] [b,c]=false:=by with_unfolding_all rfl):PE X (.Compare a [op,op'] [b,c] pos) (tM X.K g ε (kS f f' ma mb mc)):=PE.imp (Cc ho ho' ha hb hc hm) fun _ _ _ t=>pX im im' t
def BE (ho:OpR X (compareOp op) r) (ho':OpR X (compareOp op') r') (im:dw X.K g ε f r) (im':dw X.K g ε f' r') (ha:PE X a (tM X.K g ε ma)) (hb:PE X b (tM X.K g ε mb)) (hc:PE X c (tM X.K g ε mc))
  (hm:lastMarks [op,op'] [b,c]=false:=by with_unfolding_all rfl):PT X (.Compare a [op,op'] [b,c] pos) (tMT X.K g ε (aJ asB (kS f f' ma mb mc))):=PT.imp (Bm ho ho' ha hb hc hm) fun _ _ _ t=>sY (fun _ _ _ u=>pX im im' u) t
def Dq {op:UnaryOp}{r:V->Hp->VK->Prop}{f:D->Hh->R D} (ho:UnR X (unaryOp op) r) (im:LX X.K g ε f r) (ha:PE X a (tM X.K g ε ma)):PE X (.UnaryOp op a pos) (tM X.K g ε (cUn f ma)):=
 PE.imp (Lf ho ha) fun σ H Q ⟨α,env,h,s,w⟩=>tM.use s w.bind fun d1 h1 v1 H1 α1 e1 s1 r1 w1=>im α1 H1 h1 d1 v1 Q s1.heap r1 (w1.post e1)
def JT (hr:IxR X r) (im:dw X.K g ε f r) (ha:PE X a (tM X.K g ε ma)) (hb:PE X b (tM X.K g ε mb)) (hs:xX b):PE X (.Subscript a b pos) (tM X.K g ε (av f ma mb)):=
 PE.imp (JV hr ha hb hs) fun _ _ _ t=>sy im t
def fO {f:D->Hh->R Bool} (im:KC X.K g ε f (fun x H Q=>∃k,Ek X.K x H k/\Q k H)) (ha:PE X a (tM X.K g ε ma)) (he:∀whole,isTrue a X.env whole=(do let v ← whole;standAt a.pos;holding [v] (truthy v))):PT X a (tMT X.K g ε (aJ f ma)):=
 PT.imp (Cp ha he) fun σ H Q ⟨α,env,h,s,w⟩=>tM.use s w.bind fun d1 h1 v1 H1 α1 e1 s1 r1 w1=>im α1 H1 h1 d1 v1 Q s1.heap r1 (w1.JN e1)
def oo {mt:MT} (ha:PT X a (tMT X.K g ε mt)):PT X (.UnaryOp .Not a pos) (tMT X.K g ε (iK mt)):=
 PT.imp (Jh ha) fun σ H Q ⟨α,env,h,s,w⟩=>tMT.use s w.bind fun d1 h1 H1 α1 e1 s1 w1=>w1 H1 α1 e1 s1.heap
end
section
variable {X:Cx}{g:GG}{ε:EE}{a b c e:Rb}{es:List Rb}{rest:List Rb}{ma mb mc me:ME}{mt mu:MT}{pos:Pos}
def EX (ha:PT X a (tMT X.K g ε mt)):PW X (.BoolOp .And [a] pos) (tMT X.K g ε mt):=pw_and1 ha
def vz (ha:PT X a (tMT X.K g ε mt)):PW X (.BoolOp .Or [a] pos) (tMT X.K g ε mt):=pw_or1 ha
def GW (ha:PT X a (tMT X.K g ε mt)) (hb:PW X (.BoolOp .And (b::rest) pos) (tMT X.K g ε mu)):PW X (.BoolOp .And (a::b::rest) pos) (tMT X.K g ε (CZ mt mu)):=
 PW.imp (pw_and ha hb) fun σ H Q ⟨α,env,h,s,w⟩=>tMT.use s w.bind fun d1 h1 H1 α1 e1 s1 w1=>by
  cases d1 with
  | true=>rw[if_pos rfl] at w1 ⊢;exact tMT.use s1 (w1.ext e1) fun d2 h2 H2 α2 e2 s2 w2=>w2 H2 α2 (e1.trans e2) s2.heap
  | false=>rw[if_neg Qd] at w1 ⊢;exact w1 H1 α1 e1 s1.heap
def yQ (ha:PT X a (tMT X.K g ε mt)) (hb:PW X (.BoolOp .Or (b::rest) pos) (tMT X.K g ε mu)):PW X (.BoolOp .Or (a::b::rest) pos) (tMT X.K g ε (rZ mt mu)):=
 PW.imp (pw_or ha hb) fun σ H Q ⟨α,env,h,s,w⟩=>tMT.use s w.bind fun d1 h1 H1 α1 e1 s1 w1=>by
  cases d1 with
  | true=>rw[if_pos rfl] at w1 ⊢;exact w1 H1 α1 e1 s1.heap
  | false=>rw[if_neg Qd] at w1 ⊢;exact tMT.use s1 (w1.ext e1) fun d2 h2 H2 α2 e2 s2 w2=>w2 H2 α2 (e1.trans e2) s2.heap
def jD (hc:PT X c (tMT X.K g ε mt)) (ha:PE X a (tM X.K g ε ma)) (hb:PE X b (tM X.K g ε mb)):PE X (.IfExp c a b pos) (tM X.K g ε (cIf mt ma mb)):=
 PE.imp (BX hc ha hb) fun σ H Q ⟨α,env,h,s,w⟩=>tMT.use s w.bind fun d1 h1 H1 α1 e1 s1 w1=>by
  cases d1 with
  | true=>rw[if_pos rfl] at w1 ⊢;exact tM.use s1 (w1.ext e1) fun d2 h2 v2 H2 α2 e2 s2 r2 w2=>w2 v2 H2 α2 (e1.trans e2) s2.heap r2
  | false=>rw[if_neg Qd] at w1 ⊢;exact tM.use s1 (w1.ext e1) fun d2 h2 v2 H2 α2 e2 s2 r2 w2=>w2 v2 H2 α2 (e1.trans e2) s2.heap r2
def BU (h:PE X a (tM X.K g ε ma)):PE X (.BoolOp op [a] pos) (tM X.K g ε ma):=Ib h
def C1 {K:Pk}{k:β->Hh->Prop} (r:aC K g α1 H1 d v) (w:WQ K g ε α H ((asB d h).bind f) k):∃b,v=.bl b/\d=.bl b/\WQ K g ε α H (f b h) k:=by
 cases r with
 | bl b=>exact⟨b,rfl,rfl,w⟩
 | _=>exact w.elim
def Co (ha:PE X a (tM X.K g ε ma)) (hb:PE X (.BoolOp .And (b::rest) pos) (tM X.K g ε mb)):PE X (.BoolOp .And (a::b::rest) pos) (tM X.K g ε (ya ma mb)):=
 PE.imp (IT ha hb) fun σ H Q ⟨α,env,h,s,w⟩=>tM.use s w.bind fun d1 h1 v1 H1 α1 e1 s1 r1 w1=>by
  obtain⟨k,rfl,rfl,w2⟩:=C1 r1 w1
  refine⟨k,rfl,?_⟩
  cases k with
  | true=>rw[if_pos rfl] at w2 ⊢;exact tM.use s1 (w2.ext e1) fun d2 h2 v2 H2 α2 e2 s2 r2 w2=>w2 v2 H2 α2 (e1.trans e2) s2.heap r2
  | false=>rw[if_neg Qd] at w2 ⊢;exact w2 _ H1 α1 e1 s1.heap (.bl WA)
def HX (ha:PE X a (tM X.K g ε ma)):PE X (.UnaryOp .Not a pos) (tM X.K g ε (BQ ma)):=
 PE.imp (Jq ha) fun σ H Q ⟨α,env,h,s,w⟩=>tM.use s w.bind fun d1 h1 v1 H1 α1 e1 s1 r1 w1=>by
  obtain⟨k,rfl,rfl,w2⟩:=C1 r1 w1
  exact⟨k,rfl,w2 _ H1 α1 e1 s1.heap (.bl _)⟩
variable {mr:MA}
def ai:PA X [] (tMA X.K g ε ak):=PA.imp g_ fun σ H Q ⟨α,env,h,s,w⟩=>w [] H α Ext.refl s.heap .nil
def Ey (ha:PE X e (tM X.K g ε ma)) (hr:PA X es (tMA X.K g ε mr)) (hs:starEach (e::es) X.env=(WA,eval e X.env)::starEach es X.env:=by rfl):PA X (e::es) (tMA X.K g ε (aa ma mr)):=
 PA.imp (dq ha hr hs) fun σ H Q ⟨α,env,h,s,w⟩=>tM.use s w.bind fun d1 h1 v1 H1 α1 e1 s1 r1 w1=>tMA.use s1 (w1.ext e1).bind fun d2 h2 v2 H2 α2 e2 s2 r2 w2=>w2 _ H2 α2 (e1.trans e2) s2.heap (.cons (r1.ext e2) r2)
abbrev cu:List D->Hh->R D:=fun ds h=>if ds.length<=1000000 then .ok (.tup ds) h else .bad
def aA.tup {K:Pk}{α:List PN}{H:Hp}{h:Hh}{ds:List D}{vs:List V}{Q:VK}{p:PN} (w:aA K g α H Q (.tup ds) h) (r:aK K g α H h) (rd:ao K g α H ds vs) (n:H p=Wy):Q (.ref p) (upd H p (.tup vs)):=
 w _ _ α (Ext.fresh n) (r.grow n) (.tup aL (rd.ext (Ext.fresh n)))
def WQ.cO {K:Pk}{α:List PN}{H:Hp}{β:Type}{c:Prop} [Decidable c]{r:R β}{k:β->Hh->Prop} (w:WQ K g ε α H (if c then r else .bad) k):c/\WQ K g ε α H r k:=by
 by_cases h:c
 ·simp_all
 ·rw[if_neg h] at w;exact w.elim
def fj (h:n<=1000000):n<=sizeLine:=by rw[QN];lia
def Iu {x1} (ha:PA X es (tMA X.K g ε mr)):PE X (.Tuple es x1 pos) (tM X.K g ε (ah cu mr)):=
 PE.imp (Iy ha) fun σ H Q ⟨α,env,h,s,w⟩=>tMA.use s w.bind fun d1 h1 v1 H1 α1 e1 s1 r1 w1=>by
  obtain⟨hl,w2⟩:=WQ.cO w1
  exact⟨fj (by rw[<- r1.length];exact hl),fun p hp=>aA.tup (aA.ext e1 w2) s1.heap r1 hp⟩
def xc {K:Pk} (im:j7 K g ε f r) (t:tM K g ε (ah f mr) σ H Q):tCB r (tMA K g ε mr) σ H Q:=by
 obtain⟨α,env,h,s,w⟩:=t
 exact tMA.use s w.bind fun d1 h1 v1 H1 α1 e1 s1 r1 w1=>im α1 H1 h1 d1 v1 Q s1.heap r1 (w1.post e1)
def aO {id:String}{p:Pos} (hc:aV X (.builtin id) r) (im:j7 X.K g ε f r) (hg:Gl X x) (hm:X.mg x=Wy) (hv:bootBuiltins x=Wx (.builtin id)) (ha:PA X (e::es) (tMA X.K g ε mr)) (hn:x≠"__name__" := by decide) (hdb:(x == ("__debug__" : Str))=false:=by decide)
  (he:starEach (e::es) X.env=(WA,eval e X.env)::starEach es X.env:=by rfl) (hpl:(backTo pos (starEach es X.env)).any (·.1)=false:=by rfl):PE X (.Call (.Name x p) (e::es) [] pos) (tM X.K g ε (ah f mr)):=
 PE.imp (gG hc hg hm hv ha hn hdb he hpl) fun _ _ _ t=>xc im t
def fN {id:String}{p:Pos} (hc:aV X (.type id) r) (im:j7 X.K g ε f r) (hg:Gl X x) (hm:X.mg x=Wy) (hv:bootBuiltins x=Wx (.type id)) (ha:PA X (e::es) (tMA X.K g ε mr)) (hn:x≠"__name__" := by decide) (hdb:(x == ("__debug__" : Str))=false:=by decide)
  (he:starEach (e::es) X.env=(WA,eval e X.env)::starEach es X.env:=by rfl) (hpl:(backTo pos (starEach es X.env)).any (·.1)=false:=by rfl):PE X (.Call (.Name x p) (e::es) [] pos) (tM X.K g ε (ah f mr)):=
 PE.imp (iy hc hg hm hv ha hn hdb he hpl) fun _ _ _ t=>xc im t
end
abbrev cG:MS:=fun env h=>.ok (.nx env) h
abbrev NI:MS:=fun env h=>.ok (.bk env) h
abbrev NZ:MS:=fun env h=>.ok (.ct env) h
abbrev aH (a b:MS):MS:=fun env h=>(a env h).bind fun fl h1=>match fl with
 | .nx e=>b e h1
 | fl=>.ok fl h1
abbrev eg (a:ME):MS:=fun env h=>(a env h).bind fun _ h1=>.ok (.nx env) h1
abbrev a9 (a:ME):MS:=fun env h=>(a env h).bind fun d h1=>.ok (.rt d) h1
abbrev Kn:MS:=fun env h=>.ok (.rt .non) h
abbrev eX (c:MT) (a b:MS):MS:=fun env h=>(c env h).bind fun x h1=>if x=Wz then a env h1 else b env h1
abbrev aW (i:Nat) (a:ME):MS:=fun env h=>(a env h).bind fun d h1=>.ok (.nx (env.set i (Wx d))) h1
abbrev NM (i:Nat) (f:D->D->Hh->R D) (a:ME):MS:=fun env h=>(af i env h).bind fun x h0=>(a env h0).bind fun y h1=>(f x y h1).bind fun z h2=>.ok (.nx (env.set i (Wx z))) h2
abbrev i4 (f:D->D->D->Hh->R Unit) (o i v:ME):MS:=fun env h=>(v env h).bind fun x h1=>(o env h1).bind fun y h2=>(i env h2).bind fun z h3=>(f y z x h3).bind fun _ h4=>.ok (.nx env) h4
section
variable {X:Cx}{g:GG}{ε:EE}{e:Rb}{me:ME}{ms mu:MS}{mt:MT}{st:TF}{rest:List TF}{pos:Pos}
def cM.nx {K:Pk} (s:cM K g α' H' env σ h') (e:Ext K α H α' H') (w:cE K g α H E (.nx env) h'):E.nx σ H':=w H' α' e s.heap σ s.vs
def cB:PSs X [] (tMS X.K g ε cG):=PSs.imp F8 fun E σ H ⟨α,env,h,s,w⟩=>s.nx Ext.refl w
def tMS.use {K:Pk} (s:cM K g α H env σ h) (w:WQ K g ε α H (m env h) k)
  (q:∀fl h' H' α',Ext K α H α' H'->aK K g α' H' h'->k fl h'->match fl with
   | .nx e=>∀σ',cM K g α' H' e σ' h'->E.nx σ' H'
   | .bk e=>∀σ',cM K g α' H' e σ' h'->E.bk σ' H'
   | .ct e=>∀σ',cM K g α' H' e σ' h'->E.ct σ' H'
   | .rt d=>∀v,aC K g α' H' d v->E.rt v H'):tMS K g ε m E σ H:=
 ⟨α,env,h,s,w.mono fun fl h' _ kk H' α' e r=>by
  have:=q fl h' H' α' e r kk
  cases fl with
  | nx e=>exact fun σ' v=>this σ' ⟨r,v⟩
  | bk e=>exact fun σ' v=>this σ' ⟨r,v⟩
  | ct e=>exact fun σ' v=>this σ' ⟨r,v⟩
  | rt d=>lia⟩
def EA (h1:PS X st (tMS X.K g ε ms)) (h2:PSs X rest (tMS X.K g ε mu)):PSs X (st::rest) (tMS X.K g ε (aH ms mu)):=
 PSs.imp (Di h1 h2) fun E σ H ⟨α,env,h,s,w⟩=>tMS.use s w.bind fun fl h' H' α' e r kk=>by
  cases fl with
  | nx env'=>exact fun σ' s'=>⟨α',env',h',s',WQ.yb e kk⟩
  | bk env'=>exact fun σ' s'=>(show cE X.K g α H E (.bk env') h' from kk) H' α' e r σ' s'.vs
  | ct env'=>exact fun σ' s'=>(show cE X.K g α H E (.ct env') h' from kk) H' α' e r σ' s'.vs
  | rt d=>exact fun v rv=>(show cE X.K g α H E (.rt d) h' from kk) H' α' e r v rv
def G9 (h1:PS X st (tMS X.K g ε ms)):PSs X [st] (tMS X.K g ε ms):=yf h1
def fC (he:PE X e (tM X.K g ε me)) (hs:swapsWith e Wy pos.line X.env=pure false:=by rfl):PS X (.Expr e pos) (tMS X.K g ε (eg me)):=
 PS.imp (DT he hs) fun E σ H ⟨α,env,h,s,w⟩=>tM.use s w.bind fun d1 h1 v1 H1 α1 e1 s1 r1 w1=>s1.nx e1 w1
def LL (he:PE X e (tM X.K g ε me)):PS X (.Return (Wx e) pos) (tMS X.K g ε (a9 me)):=
 PS.imp (BH he) fun E σ H ⟨α,env,h,s,w⟩=>tM.use s w.bind fun d1 h1 v1 H1 α1 e1 s1 r1 w1=>(show cE X.K g α H E (.rt d1) h1 from w1) H1 α1 e1 s1.heap v1 r1
def kA {c:Rb}{A B:List TF} (hc:PT X c (tMT X.K g ε mt)) (ha:PSs X A (tMS X.K g ε ms)) (hb:PSs X B (tMS X.K g ε mu)):PS X (.If c A B pos) (tMS X.K g ε (eX mt ms mu)):=
 PS.imp (Ko hc ha hb) fun E σ H ⟨α,env,h,s,w⟩=>tMT.use s w.bind fun d1 h1 H1 α1 e1 s1 w1=>by
  cases d1 with
  | true=>rw[if_pos rfl] at w1 ⊢;exact⟨α1,env,h1,s1,WQ.yb e1 w1⟩
  | false=>rw[if_neg Qd] at w1 ⊢;exact⟨α1,env,h1,s1,WQ.yb e1 w1⟩
def La {i:Nat}{x:Str}{pos':Pos} (hN:X.N.Nodup) (hi:X.N[i]?=Wx x) (hx:Loc X.env.scope x) (he:PE X e (tM X.K g ε me)) (hs:swapsWith e (Wx (.Name x pos')) pos.line X.env=pure false:=by rfl) (hf:X.fn x=Wz\/X.env.scope.names.lookup x=Wx .local:=by first | exact .inl rfl | exact .inr rfl | assumption) :
  PS X (.Assign [.Name x pos'] e pos) (tMS X.K g ε (aW i me)):=
 PS.imp (Jr hN hi hx he hs hf) fun E σ H ⟨α,env,h,s,w⟩=>tM.use s w.bind fun d1 h1 v1 H1 α1 e1 s1 r1 w1=>(show cE X.K g α H E (.nx (env.set i (Wx d1))) h1 from w1) H1 α1 e1 s1.heap _ (s1.vs.set r1)
abbrev Kr (K:Pk) (g:GG) (ε:EE) (f:D->D->D->Hh->R Unit) (t:wD):Prop:=
 ∀α H h o i v x y z Q , aK K g α H h->aC K g α H o x->aC K g α H i y->aC K g α H v z->WQ K g ε α H (f o i v h) (fun _ h'=>∀H' α',Ext K α H α' H'->aK K g α' H' h'->Q H')->t x y z H Q
def xQ {o i:Rb}{mo mi:ME}{t:wD}{f:D->D->D->Hh->R Unit}{p:Pos} (he:PE X e (tM X.K g ε me)) (ho:PE X o (tM X.K g ε mo)) (hi:PE X i (tM X.K g ε mi)) (hp:Et X t) (im:Kr X.K g ε f t)
  (ha:∀v,assign (.Subscript o i p) X.env v=(do
   let ov ← holding [v] (eval o X.env)
   let iv ← holding [v,ov] (eval i X.env)
   standAt p
   holding [v,ov,iv] (setItem ov iv v)
   release [v,ov,iv] []):=by intro _;rfl)
  (hs:swapsWithSole [.Subscript o i p] e pos.line X.env=pure false:=by rfl) (hw:swappedStores [.Subscript o i p] e X.env=pure none:=by rfl)
  (h1:(assignEach [.Subscript o i p] X.env).map (·.2)=[assign (.Subscript o i p) X.env]:=by rfl):PS X (.Assign [.Subscript o i p] e pos) (tMS X.K g ε (i4 f mo mi me)):=
 PS.imp (I_ he (G6 ho hi hp ha) hs hw h1) fun E σ H ⟨α,env,h,s,w⟩=>tM.use s w.bind fun d1 h1 v1 H1 α1 e1 s1 r1 w1=>tM.use s1 (w1.ext e1).bind fun d2 h2 v2 H2 α2 e2 s2 r2 w2=>tM.use s2 (w2.ext e2).bind fun d3 h3 v3 H3 α3 e3 s3 r3 w3=>by
  refine im α3 H3 h3 d2 d3 d1 v2 v3 v1 _ s3.heap (r2.ext e3) r3 ((r1.ext e2).ext e3) ((w3.ext e3).bind.mono fun _ h4 _ w4 H4 α4 e4 hr4=>?_)
  exact(show cE X.K g α H E (.nx env) h4 from w4) H4 α4 (e1.trans (e2.trans (e3.trans e4))) hr4 _ (s3.vs.ext e4)
end
def yp {σ:St} (I:Inv X pins σ H s) (h:H p=Wx u) (mu:Mut (Wx u)):∃o,Inv X pins σ (upd H p (.frz o u)) s:=by
 obtain⟨o,ho⟩:∃o,s.heap.get? p=Wx o:=by
  cases e:s.heap.get? p with
  | some o=>simp
  | none=>
   have q:=I.hok p _ h
   cases u with
   | lst xs=>obtain⟨_,_,_,_,e'⟩:=q;simp_all
   | dK kvs=>obtain⟨_,_,_,_,o,_,_,e',_⟩:=q;simp_all
   | dT kvs=>obtain⟨_,_,_,_,o,_,_,e',_⟩:=q;simp_all
   | set S n=>obtain⟨o,_,_,_,e',_⟩:=q;simp_all
   | ins C dx fs=>obtain⟨_,_,_,e',_⟩:=q;simp_all
   | ext φ=>obtain⟨_,⟨_,e'⟩,_⟩:=q;simp_all
   | _=>exact absurd mu (fun z=>z)
 have nt:∀b xs,H b=Wx (.tup xs)->b≠p:=fun b xs e z=>by subst z;rw[h] at e;cases e;exact mu
 have nf:∀b o u,H b=Wx (.frz o u)->b≠p:=fun b o u e z=>by subst z;rw[h] at e;cases e;exact mu
 have nb:∀b ps,H b=Wx (.tbl ps)->b≠p:=fun b ps e z=>by subst z;rw[h] at e;cases e;exact mu
 have no:∀b y,H b=Wx (.own y)->b≠p:=fun b ps e z=>by subst z;rw[h] at e;cases e;exact mu
 have hok:HOk X.prog X.w (upd H p (.frz o u)) s.heap:=fun b v q=>by
  by_cases hb:b=p
  ·subst hb
   rw[aL] at q;cases q
   exact⟨ho,(I.hok b _ h).iB (fun _ _ _ z=>z) (fun c z=>by rw[aw (no c _ z)];exact z) fun c xs z=>by rw[aw (nt c xs z)];exact z⟩
  ·rw[aw hb] at q
   exact(I.hok b v q).iB (fun _ _ _ z=>z) (fun c z=>by rw[aw (no c _ z)];exact z) fun c xs z=>by rw[aw (nt c xs z)];exact z
 refine⟨o,?_⟩
 have np:∀b,H b=Wy->b≠p:=fun b e z=>by simp_all
 have:=I.un (t':=s.toks) ⟨fun b o q _ _ _=>q,fun b o q _ _ _=>⟨o.slots,q⟩,fun b v q n _=>(by rw[aw (np b n)];exact n),fun b o q _=>⟨o,q⟩,fun b xs q=>(by rw[aw (nt b xs q)];exact q),fun b o v q=>(by rw[aw (nf b o v q)];exact q),fun b ps q=>⟨#[],by rw[aw (nb b ps q),q];simp⟩⟩ hok
 omega
abbrev gA (Q:VK):VK:=fun v H=>Q v H\/∃p u,v=.ref p/\H p=Wx u/\Mut (Wx u)/\∀o,Q v (upd H p (.frz o u))
def EP.frz (h:EP X pins σ (gA Q) u s'):EP X pins σ Q u s':=by
 obtain⟨v,H',I,r,q | ⟨p,u,rfl,e,m,q⟩⟩:=h
 ·exact⟨v,H',I,r,q⟩
 ·obtain⟨o,I'⟩:=yp I e m
  exact⟨_,_,I',r,q o⟩
def PE.frz (h:PE X e t):PE X e fun σ H Q=>t σ H (gA Q):=fun pins s σ H Q I w=>thn (h pins s σ H _ I w) fun _ _ z=>EP.frz z
def OpR.frz (h:OpR X f r):OpR X f fun x y H Q=>r x y H (gA Q):=fun pins s σ H x y v u Q I rx ry q=>thn (h pins s σ H x y v u _ I rx ry q) fun _ _ z=>EP.frz z
def aV.frz (h:aV X f r):aV X f fun xs H Q=>r xs H (gA Q):=fun pins s σ H xs us Q I rx q=>thn (h pins s σ H xs us _ I rx q) fun _ _ z=>EP.frz z
abbrev Ll (D:Ends):Ends:={ D with nx:=fun σ H=>D.nx σ H\/∃p u,H p=Wx u/\Mut (Wx u)/\∀o,D.nx σ (upd H p (.frz o u)) }
def PS.frz {st:TF}{t:TS} (h:PS X st t):PS X st fun E σ H=>t (Ll E) σ H:=fun pins s σ H E I w=>thn (h pins s σ H _ I w) fun fl s' z=>by
 cases fl with
 | next=>
  obtain⟨σ',H',I,q | ⟨p,u,e,m,q⟩⟩:=z
  ·exact⟨σ',H',I,q⟩
  ·obtain⟨o,I'⟩:=yp I e m
   exact⟨σ',_,I',q o⟩
 | brk=>exact z
 | cont=>exact z
 | ret u=>exact z
def Fz {σ:St} (z:gA (fun v H1=>E.nx (σ.set i (Wx v)) H1) v H1):(Ll E).nx (σ.set i (Wx v)) H1:=by
 rcases z with z | ⟨p,u,_,e,m,q⟩
 ·exact .inl z
 ·exact .inr ⟨p,u,e,m,q⟩
@[inline]abbrev NL:=List D->Hh->R D
abbrev kC:NL:=fun ys h2=>.ok (.ref h2.length) (h2++[O.lst ys])
abbrev aI:NL:=fun ys h2=>.ok (.frl ys) h2
class iD (nl:NL):Prop where
 at':∀{K:Pk} {g:GG} {ε:EE} {α1 α2:List PN} {H1 H2:Hp} {h:Hh} {as:List D} {ys:List V} {acc:PN} {Q:D->Hh->Prop} {R:VK},WQ K g ε α1 H1 (nl as h) Q->(∀d h',Q d h'->aA K g α1 H1 R d h')->Ext K α1 H1 α2 H2->aK K g α2 H2 h->ao K g α2 H2 as ys->H2 acc=some (.lst ys)->acc∉α2->H1 acc=none->gA R (.ref acc) H2
instance:iD kC where
 at':=fun{K g ε α1 α2 H1 H2 h as ys acc Q R} w hq x2 hr2 ra ha hna hacc=>by
  have x3:Ext K α1 H1 (α2++[acc]) H2:=⟨x2.toEx0.trans (Ex0.refl.more _),x2.kept,fun p z n=>by
   rcases Qr.mp z with z | z
   ·exact x2.new p z n
   ·rw[P1.mp z];exact hacc⟩
  refine .inl (hq _ _ w _ H2 (α2++[acc]) x3 (hr2.adopt hna ⟨ys,ha,ra.ex0 (Ex0.refl.more _)⟩) (.ref ?_))
  rw[<- hr2.len,PM (Pt _)];simp
instance:iD aI where
 at':=fun{K g ε α1 α2 H1 H2 h as ys acc Q R} w hq x2 hr2 ra ha hna hacc=>by
  refine .inr ⟨acc,_,rfl,ha,trivial,fun o=>?_⟩
  have soft:FO H2 acc:=.inr ⟨_,ha,fun _ z=>(nomatch z),fun _ _ z=>(nomatch z),fun _ z=>nomatch z⟩
  have x6:Ex0 K α2 H2 α2 (upd H2 acc (.frz o (.lst ys))):=Ex0.upd soft
  refine hq _ _ w _ _ α2 ⟨x2.toEx0.trans x6,fun p u z n nt=>?_,x2.new⟩ (hr2.off soft hna) (.frl ⟨o,aL⟩ (ra.ex0 x6))
  rw[aw (aE z hacc)];exact x2.kept p u z n nt
def NL.post [iD nl]{K:Pk}{g:GG}{ε:EE}{α:List PN}{H:Hp}{h:Hh}{ds:List D}{vs:List V}{Q:VK}{p:PN} (w:WQ K g ε α H (nl ds h) (aA K g α H Q)) (r:aK K g α H h) (rd:ao K g α H ds vs) (n:H p=Wy):gA Q (.ref p) (upd H p (.lst vs)):=
 iD.at' w (fun _ _ z=>z) (Ext.fresh n) (r.grow n) (rd.ext (Ext.fresh n)) aL (r.free n) n
abbrev c4 (nl:NL):List D->Hh->R D:=fun ds h=>if ds.length<=1000000 then nl ds h else .bad
def Ip {X:Cx}{g:GG}{ε:EE}{es:List Rb}{mr:MA}{pos:Pos}{nl:NL} [iD nl] (ha:PA X es (tMA X.K g ε mr)):PE X (.List es pos) (tM X.K g ε (ah (c4 nl) mr)):=
 PE.imp (PE.frz (Iz ha)) fun σ H Q ⟨α,env,h,s,w⟩=>tMA.use s w.bind fun d1 h1 v1 H1 α1 e1 s1 r1 w1=>by
  obtain⟨hl,w2⟩:=WQ.cO w1
  exact⟨fj (by rw[<- r1.length];exact hl),fun p hp=>NL.post (w2.post e1) s1.heap r1 hp⟩
abbrev aq (h:Hh) (n:Nat):Option (List D):=match h[n]? with
 | some (.lst ds)=>Wx ds
 | _=>Wy
inductive Src where
 | snap (ds:List D)
 | live (n:Nat)
 | liveE (n:Nat)
@[inline]abbrev MI:=En->Hh->R Src
@[inline]abbrev Rdr:=Hh->Nat->Option (Option D)
abbrev Src.rdr:Src->Rdr
 | .snap ds=>fun _ i=>Wx ds[i]?
 | .live n=>fun h i=>(aq h n).map fun ds=>ds[i]?
 | .liveE n=>fun h i=>(aq h n).map fun ds=>(ds[i]?).map fun d=>D.tup [.int i,d]
abbrev Src.fuel (s:Src) (h:Hh):Nat:=match s with
 | .snap ds=>ds.length
 | .live n=>((aq h n).getD []).length
 | .liveE n=>((aq h n).getD []).length
abbrev Reads (K:Pk) (g:GG) (J:It) (rd:Rdr) (α₀:List PN) (aD:Hp):Prop:=
 ∀α H h , Ext K α₀ aD α H->aK K g α H h->∀i,match rd h i with
  | none=>True
  | some Wy=>J.stop i H
  | some (Wx d)=>J.go i H/\∀x H',J.yld i H x H'->∃α',Ext K α H α' H'/\aK K g α' H' h/\aC K g α' H' d x
abbrev tMI (K:Pk) (g:GG) (ε:EE) (m:MI):TI:=fun σ H T=>∃α env h,cM K g α H env σ h/\WQ K g ε α H (m env h) fun sr h'=>∀J H' α',Ext K α H α' H'->aK K g α' H' h'->Reads K g J sr.rdr α' H'->T J H'
def PI.imp (h:PI X tg e t) (i:∀σ H Q,t' σ H Q->t σ H Q):PI X tg e t':=fun pins s σ H Q I w=>h pins s σ H Q I (i σ H Q w)
abbrev eV (rd:Rdr) (tg:D->En->Hh->R En) (body:MS):Nat->Nat->En->Hh->R Fl
 | k,i,env,h=>match rd h i with
  | none=>.bad
  | some Wy=>.ok (.nx env) h
  | some (Wx d)=>match k with
   | 0=>.bad
   | k+1=>(tg d env h).bind fun e1 h1=>(body e1 h1).bind fun fl h2=>match fl with
    | .nx e=>eV rd tg body k (i+1) e h2
    | .ct e=>eV rd tg body k (i+1) e h2
    | .bk e=>.ok (.nx e) h2
    | .rt d=>.ok (.rt d) h2
abbrev cx (tg:D->En->Hh->R En) (body:MS):List D->En->Hh->R Fl
 | [],env,h=>.ok (.nx env) h
 | d::ds,env,h=>(tg d env h).bind fun e1 h1=>(body e1 h1).bind fun fl h2=>match fl with
  | .nx e=>cx tg body ds e h2
  | .ct e=>cx tg body ds e h2
  | .bk e=>.ok (.nx e) h2
  | .rt d=>.ok (.rt d) h2
def Fe (tg:D->En->Hh->R En) (body:MS) (all:List D):∀(ds:List D) (i:Nat) (env:En) (h:Hh),all.drop i=ds->eV (Src.snap all).rdr tg body ds.length i env h=cx tg body ds env h:=by
 intro ds
 induction ds with
 | nil=>
  intro i env h e
  have:all[i]?=none:=by
   simp_all
  unfold eV cx Src.rdr
  grind
 | cons d ds ih=>
  intro i env h e
  have h0:all[i]?=Wx d:=by
   have:=congrArg (fun l=>l[0]?) e
   grind
  have h1:all.drop (i+1)=ds:=by
   have:=congrArg List.tail e
   simpa using this
  unfold eV cx
  have:(Src.snap all).rdr h i=Wx (Wx d):=by unfold Src.rdr;simp[h0]
  simp_all
abbrev cD (mi:MI) (tg:D->En->Hh->R En) (body:MS):MS:=fun env h=>(mi env h).bind fun sr h1=>match sr with
 | .snap ds=>cx tg body ds env h1
 | .live n=>eV (Src.live n).rdr tg body ((aq h1 n).getD []).length 0 env h1
 | .liveE n=>eV (Src.liveE n).rdr tg body ((aq h1 n).getD []).length 0 env h1
def Fw:cD mi tg body env h=(mi env h).bind fun sr h1=>eV sr.rdr tg body (sr.fuel h1) 0 env h1:=by
 unfold cD
 congr 1
 funext sr h1
 cases sr with
 | snap ds=>exact(Fe tg body ds ds 0 env h1 rfl).symm
 | live n=>rfl
 | liveE n=>rfl
abbrev gN (i:Nat):D->En->Hh->R En:=fun d env h=>.ok (env.set i (Wx d)) h
abbrev gT2 (i j:Nat):D->En->Hh->R En:=fun d env h=>match d with
 | .tup [x,y]=>.ok ((env.set i (Wx x)).set j (Wx y)) h
 | _=>.bad
abbrev IM (K:Pk) (g:GG) (ε:EE) (tg:D->En->Hh->R En) (t:TG):Prop:=
 ∀α H h env σ d x Q , cM K g α H env σ h->aC K g α H d x →
  WQ K g ε α H (tg d env h) (fun e1 h1=>∀σ' H' α',Ext K α H α' H'->cM K g α' H' e1 σ' h1->Q σ' H')->t x σ H Q
def dm {K:Pk}:IM K g ε (gN i) (gy i):=fun α H h env σ d x Q s r w=>w _ H α Ext.refl ⟨s.heap,s.vs.set r⟩
def wR {K:Pk}:IM K g ε (gT2 i j) (Kp K 2 (Dn (gy i) (Dn (gy j) Lq))):=fun α H h env σ d x Q s r w=>by
 cases r with
 | tup hq rs=>
  cases rs with
  | nil=>exact w.elim
  | cons ra rr=>
   cases rr with
   | nil=>exact w.elim
   | cons rb rr=>
    cases rr with
    | nil=>exact⟨_,_,rfl,SqT.of hq,rfl,_,_,rfl,_,_,rfl,rfl,w _ H α Ext.refl ⟨s.heap,(s.vs.set ra).set rb⟩⟩
    | cons _ _=>exact w.elim
 | _=>exact w.elim
section
variable {X:Cx}{g:GG}{ε:EE}
def fc {tg iter:Rb}{body:List TF}{mi:MI}{t:TG}{fg:D->En->Hh->R En}{mb:MS}{pos:Pos} (hp:UK (model X.prog X.w) X.A X.env X.xe) (hc:X.calm=Wz) (hi:PI X tg iter (tMI X.K g ε mi)) (hg:PG X tg t) (ig:IM X.K g ε fg t) (hb:PSs X body (tMS X.K g ε mb))
  (hs:∀x,foldedSetIterable iter X.env x=pure x:=by intro _;rfl):PS X (.For tg iter body [] pos) (tMS X.K g ε (cD mi fg mb)):=by
 refine PS.imp (IZ hp hc hi hg hb hs) fun E σ H zq1=>?_
 obtain⟨α,env,h,s,w⟩:=zq1
 rw[Fw] at w
 refine⟨α,env,h,s,w.bind.mono fun sr h1 _ w1 J H1 α1 e1 hr1 rd=>?_⟩
 refine⟨fun i m σ H=>∃α env h,Ext X.K α1 H1 α H/\cM X.K g α H env σ h/\WQ X.K g ε α H (eV sr.rdr fg mb m i env h) (cE X.K g α H E),⟨sr.fuel h1,α1,env,h1,Ext.refl,s.ext e1 hr1,w1.yb e1⟩,?_⟩
 rintro i m σ2 H2 ⟨α2,env2,h2,x2,s2,w2⟩
 have q:=rd α2 H2 h2 x2 s2.heap i
 unfold eV at w2
 cases e:sr.rdr h2 i with
 | none=>rw[e] at w2;exact w2.elim
 | some od=>
  rw[e] at w2 q
  cases od with
  | none=>exact .inl ⟨q,s2.nx Ext.refl w2⟩
  | some d=>
   cases m with
   | zero=>exact w2.elim
   | succ m=>
    have w3:=WQ.bind (show WQ X.K g ε α2 H2 ((fg d env2 h2).bind _) _ from w2)
    refine .inr ⟨q.1,fun σ' H'=>∃α env h,Ext X.K α1 H1 α H'/\cM X.K g α H' env σ' h/\WQ X.K g ε α H' (eV sr.rdr fg mb m (i+1) env h) (cE X.K g α H' E),fun σ' H' z=>⟨m,RQ _,z⟩,fun x H3 y=>?_⟩
    obtain⟨α3,x3,hr3,rx⟩:=q.2 x H3 y
    refine ig α3 H3 h2 env2 σ2 d x _ (s2.ext x3 hr3) rx ((w3.ext x3).mono fun e4 h4 _ w4 σ4 H4 α4 x4 s4=>?_)
    refine tMS.use s4 ((w4.ext x3).ext x4).bind fun fl h5 H5 α5 x5 hr5 w5=>?_
    have tr:=x3.trans (x4.trans x5)
    cases fl with
    | nx e=>exact fun σ' s'=>⟨α5,e,h5,x2.trans tr,s',((w5.ext x5)).mono fun _ _ _ p=>p.ext tr⟩
    | ct e=>exact fun σ' s'=>⟨α5,e,h5,x2.trans tr,s',((w5.ext x5)).mono fun _ _ _ p=>p.ext tr⟩
    | bk e=>exact fun σ' s'=>(show cE X.K g α2 H2 E (.nx e) h5 from w5) H5 α5 tr hr5 σ' s'.vs
    | rt d=>exact fun v rv=>(show cE X.K g α2 H2 E (.rt d) h5 from w5) H5 α5 tr hr5 v rv
def aK.lst {K:Pk}{α:List PN}{H:Hp}{h:Hh}{n:Nat}{ds:List D} (r:aK K g α H h) (e:aq h n=Wx ds){p:PN} (hp:α[n]?=Wx p):∃vs,H p=Wx (.lst vs)/\ao K g α H ds vs:=by
 unfold aq at e
 cases o:h[n]? with
 | none=>simp_all
 | some o'=>
  rw[o] at e
  have q:=r.here n p o' hp o
  cases o' with
  | lst ds'=>cases e;assumption
  | set n=>cases e
  | dic k=>cases e
  | dit k=>cases e
abbrev pA:D->Hh->R Src
 | .tup ds,h=>.ok (.snap ds) h
 | .frl ds,h=>.ok (.snap ds) h
 | .scr ds,h=>.ok (.snap ds) h
 | .ref n,h=>match aq h n with
  | some _=>.ok (.live n) h
  | none=>.bad
 | _,_=>.bad
abbrev bp (a:ME):MI:=fun env h=>(a env h).bind pA
abbrev M_ (K:Pk) (tl:TE):TI:=fun σ H R=>tl σ H fun x H1=>∃a,x=.ref a/\(((∃xs,SqL K H1 a xs)/\R (Itl K a) H1)\/((∃xs,SqT K H1 a xs)/\R (Itt K a) H1))
def G_ {tg l:Rb}{tl:TE} (hl:PE X l tl):PI X tg l (M_ X.K tl):=by
 intro pins s σ H R I h
 refine thn (hl pins s σ H _ I h) fun v s1 zq1=>?_
 obtain⟨x,H1,I1,r1,q1⟩:=zq1
 obtain⟨a,e,q⟩:=q1
 subst e
 cases r1
 rcases q with⟨⟨xs,hq⟩,q⟩ | ⟨⟨xs,hq⟩,q⟩
 ·obtain⟨its,rv,p,hz⟩:=I1.list hq
  refine UP p.isList ?_
  refine⟨s1.heap.objs.size,[s1.heap.objs.size],_,_,H1,rfl,I1.kept fun b o e=>Pn _ e,Aj a _,⟨_,Pu _ rfl,rfl,rfl⟩,fun b hb=>?_,q⟩
  have e:b=s1.heap.objs.size:=by simp_all
  subst e
  exact I1.Ff (Pt _) (I1.hok.fresh (Pt _))
 ·obtain⟨its,rv,p,hz⟩:=I1.tuple hq
  refine Ti (show s1.heap.IsTuple a its.toArray from p) ?_
  refine⟨s1.heap.objs.size,[s1.heap.objs.size],_,_,H1,rfl,I1.kept fun b o e=>Pn _ e,wd a _,⟨_,Pu _ rfl,rfl,rfl⟩,fun b hb=>?_,q⟩
  have e:b=s1.heap.objs.size:=by simp_all
  subst e
  exact I1.Ff (Pt _) (I1.hok.fresh (Pt _))
def zg {K:Pk} (hq':H a=Wx (.tup vs)) (rs:ao K g α H ds vs):Reads K g (Itt K a) (Src.snap ds).rdr α H:=by
 intro α2 H2 h2 x2 hr i
 have hq2:SqT K H2 a vs:=SqT.of (x2.tup _ _ hq')
 have rs2:=rs.ext x2
 show match Wx ds[i]? with | none=>True | some Wy=>_ | some (Wx d)=>_
 cases e:ds[i]? with
 | none=>
  have:ds.length<=i:=QY.mp e
  exact⟨vs,hq2,by rw[<- rs.length];lia⟩
 | some d=>
  obtain⟨v,ev,rv⟩:=rs2.get e
  refine⟨⟨vs,v,hq2,ev⟩,fun x H' y=>?_⟩
  obtain⟨e1,e2⟩:=y
  subst e1
  have:=e2 vs hq2
  rw[ev] at this
  cases this
  exact⟨α2,Ext.refl,hr,rv⟩
def pI {K:Pk} (hq:Fro K H a vs) (rs:ao K g α H ds vs):Reads K g (Itl K a) (Src.snap ds).rdr α H:=by
 intro α2 H2 h2 x2 hr i
 have hq2:=x2.fro _ _ hq
 have rs2:=rs.ext x2
 show match Wx ds[i]? with | none=>True | some Wy=>_ | some (Wx d)=>_
 cases e:ds[i]? with
 | none=>
  have:ds.length<=i:=QY.mp e
  exact⟨vs,hq2.sq,by rw[<- rs.length];lia⟩
 | some d=>
  obtain⟨v,ev,rv⟩:=rs2.get e
  refine⟨⟨vs,v,hq2.sq,ev⟩,fun x H' y=>?_⟩
  obtain⟨e1,e2⟩:=y
  subst e1
  have:=e2 vs hq2.sq
  rw[ev] at this
  cases this
  exact⟨α2,Ext.refl,hr,rv⟩
def Ak {K:Pk} (ha:α[n]?=Wx a):Reads K g (Itl K a) (Src.live n).rdr α H:=by
 intro α2 H2 h2 x2 hr i
 show match (aq h2 n).map fun ds=>ds[i]? with | none=>True | some Wy=>_ | some (Wx d)=>_
 cases e:aq h2 n with
 | none=>trivial
 | some ds=>
  obtain⟨vs,hq',rs⟩:=hr.lst e (x2.get ha)
  have hq:SqL K H2 a vs:=SqL.of hq'
  show match Wx ds[i]? with | none=>True | some Wy=>_ | some (Wx d)=>_
  cases ei:ds[i]? with
  | none=>
   have:ds.length<=i:=QY.mp ei
   exact⟨vs,hq,by rw[<- rs.length];lia⟩
  | some d=>
   obtain⟨v,ev,rv⟩:=rs.get ei
   refine⟨⟨vs,v,hq,ev⟩,fun x H' y=>?_⟩
   obtain⟨e1,e2⟩:=y
   subst e1
   have:=e2 vs hq
   rw[ev] at this
   cases this
   exact⟨α2,Ext.refl,hr,rv⟩
def dy {tg e:Rb}{me:ME} (he:PE X e (tM X.K g ε me)):PI X tg e (tMI X.K g ε (bp me)):=
 PI.imp (G_ he) fun σ H T ⟨α,env,h,s,w⟩=>tM.use s w.bind fun d1 h1 v1 H1 α1 e1 s1 r1 w1=>by
  unfold pA at w1
  cases r1 with
  | tup hq rs=>exact⟨_,rfl,.inr ⟨⟨_,SqT.of hq⟩,w1 _ H1 α1 e1 s1.heap (zg hq rs)⟩⟩
  | frl hq rs=>exact⟨_,rfl,.inl ⟨⟨_,hq.sq⟩,w1 _ H1 α1 e1 s1.heap (pI hq.fro rs)⟩⟩
  | scr hq rs=>exact⟨_,rfl,.inl ⟨⟨_,hq.sq⟩,w1 _ H1 α1 e1 s1.heap (pI hq rs)⟩⟩
  | @ref n p hp=>
   cases el:aq h1 n with
   | none=>simp only[el] at w1;exact w1.elim
   | some ds=>
    simp only[el] at w1
    obtain⟨vs,hq,_⟩:=s1.heap.lst el hp
    exact⟨p,rfl,.inl ⟨⟨_,SqL.of hq⟩,w1 _ H1 α1 e1 s1.heap (Ak hp)⟩⟩
  | _=>exact w1.elim
abbrev dN (ds:List D):List D:=(Py ds.length).map fun(i:Nat)=>D.tup [.int i,ds.getD i .non]
abbrev nW:D->Hh->R Src
 | .tup ds,h=>.ok (.snap (dN ds)) h
 | .frl ds,h=>.ok (.snap (dN ds)) h
 | .ref n,h=>match aq h n with
  | some _=>.ok (.liveE n) h
  | none=>.bad
 | _,_=>.bad
abbrev kf (a:ME):MI:=fun env h=>(a env h).bind nW
def qk {ds:List D}{i:Nat}:(dN ds)[i]?=(ds[i]?).map fun d=>D.tup [.int i,d]:=by
 unfold dN
 rw[P5]
 by_cases hi:i<ds.length
 ·have e:ds.getD i .non=ds[i]:=by rw[RN,Pz hi];rfl
  rw[SY hi,Pz hi,Vh,Vh,e]
 ·rw[QC (by simpa using hi),QC {}];rfl
def oh {K:Pk}{i:Nat} (hr:aK K g α H h) (rv:aC K g α H d v) (hp:H p=Wy) :
  ∃α',Ext K α H α' (upd H p (.tup [.int i,v]))/\aK K g α' (upd H p (.tup [.int i,v])) h/\aC K g α' (upd H p (.tup [.int i,v])) (.tup [.int i,d]) (.ref p):=
 ⟨α,Ext.fresh hp,hr.grow hp,.tup aL (.cons (.int _) (.cons (rv.ext (Ext.fresh hp)) .nil))⟩
def vt {K:Pk} (hq':H a=Wx (.tup vs)) (rs:ao K g α H ds vs):Reads K g (Iet K a) (Src.snap (dN ds)).rdr α H:=by
 intro α2 H2 h2 x2 hr i
 have hq2:SqT K H2 a vs:=SqT.of (x2.tup _ _ hq')
 have rs2:=rs.ext x2
 show match Wx (dN ds)[i]? with | none=>True | some Wy=>_ | some (Wx d)=>_
 rw[qk]
 cases e:ds[i]? with
 | none=>
  have:ds.length<=i:=QY.mp e
  exact⟨vs,hq2,by rw[<- rs.length];lia⟩
 | some d=>
  obtain⟨v,ev,rv⟩:=rs2.get e
  refine⟨⟨vs,v,hq2,ev⟩,fun x H' y=>?_⟩
  obtain⟨p,v',e1,hp,e2,e3⟩:=y
  subst e1 e3
  have:=e2 vs hq2
  rw[ev] at this
  cases this
  exact oh hr rv hp
def uJ {K:Pk} (hq:Fro K H a vs) (rs:ao K g α H ds vs):Reads K g (Iel K a) (Src.snap (dN ds)).rdr α H:=by
 intro α2 H2 h2 x2 hr i
 have hq2:=(x2.fro _ _ hq).sq
 have rs2:=rs.ext x2
 show match Wx (dN ds)[i]? with | none=>True | some Wy=>_ | some (Wx d)=>_
 rw[qk]
 cases e:ds[i]? with
 | none=>
  have:ds.length<=i:=QY.mp e
  exact⟨vs,hq2,by rw[<- rs.length];lia⟩
 | some d=>
  obtain⟨v,ev,rv⟩:=rs2.get e
  refine⟨⟨vs,v,hq2,ev⟩,fun x H' y=>?_⟩
  obtain⟨p,v',e1,hp,e2,e3⟩:=y
  subst e1 e3
  have:=e2 vs hq2
  rw[ev] at this
  cases this
  exact oh hr rv hp
def uD {K:Pk} (ha:α[n]?=Wx a):Reads K g (Iel K a) (Src.liveE n).rdr α H:=by
 intro α2 H2 h2 x2 hr i
 show match (aq h2 n).map fun ds=>(ds[i]?).map fun d=>D.tup [.int i,d] with | none=>True | some Wy=>_ | some (Wx d)=>_
 cases e:aq h2 n with
 | none=>trivial
 | some ds=>
  obtain⟨vs,hq',rs⟩:=hr.lst e (x2.get ha)
  have hq:SqL K H2 a vs:=SqL.of hq'
  show match Wx ((ds[i]?).map fun d=>D.tup [.int i,d]) with | none=>True | some Wy=>_ | some (Wx d)=>_
  cases ei:ds[i]? with
  | none=>
   have:ds.length<=i:=QY.mp ei
   exact⟨vs,hq,by rw[<- rs.length];lia⟩
  | some d=>
   obtain⟨v,ev,rv⟩:=rs.get ei
   refine⟨⟨vs,v,hq,ev⟩,fun x H' y=>?_⟩
   obtain⟨p,v',e1,hp,e2,e3⟩:=y
   subst e1 e3
   have:=e2 vs hq
   rw[ev] at this
   cases this
   exact oh hr rv hp
def yx {elts:List Rb}{kt:Nat}{tp p pos:Pos}{e:Rb}{me:ME} (hg:Gl X "enumerate") (hm:X.mg "enumerate" = Wy) (he:PE X e (tM X.K g ε me)) (hs:starEach [e] X.env=[(WA,eval e X.env)]:=by rfl):PI X (.Tuple elts kt tp) (.Call (.Name "enumerate" p) [e] [] pos) (tMI X.K g ε (kf me)):=
 PI.imp (E2 hg hm he hs) fun σ H T ⟨α,env,h,s,w⟩=>tM.use s w.bind fun d1 h1 v1 H1 α1 e1 s1 r1 w1=>by
  unfold nW at w1
  cases r1 with
  | tup hq rs=>exact⟨_,rfl,.inr ⟨⟨_,SqT.of hq⟩,w1 _ H1 α1 e1 s1.heap (vt hq rs)⟩⟩
  | frl hq rs=>exact⟨_,rfl,.inl ⟨⟨_,hq.sq⟩,w1 _ H1 α1 e1 s1.heap (uJ hq.fro rs)⟩⟩
  | @ref n p hp=>
   cases el:aq h1 n with
   | none=>simp only[el] at w1;exact w1.elim
   | some ds=>
    simp only[el] at w1
    obtain⟨vs,hq,_⟩:=s1.heap.lst el hp
    exact⟨p,rfl,.inl ⟨⟨_,SqL.of hq⟩,w1 _ H1 α1 e1 s1.heap (uD hp)⟩⟩
  | _=>exact w1.elim
abbrev bD (lo:Int) (n:Nat):List D:=(Py n).map fun(i:Nat)=>D.int (lo+i)
abbrev fq:List D->Hh->R Src
 | [.int j],h=>if j.natAbs<=1000000 then .ok (.snap (bD 0 j.toNat)) h else .bad
 | _,_=>.bad
abbrev qz:List D->Hh->R Src
 | [.int i,.int j],h=>if i.natAbs<=1000000/\j.natAbs<=1000000 then .ok (.snap (bD i (j - i).toNat)) h else .bad
 | _,_=>.bad
abbrev dX (f:List D->Hh->R Src) (a:MA):MI:=fun env h=>(a env h).bind f
def qo {K:Pk}{lo:Int}:Reads K g (Itr lo n) (Src.snap (bD lo n)).rdr α H:=by
 intro α2 H2 h2 x2 hr i
 show match Wx (bD lo n)[i]? with | none=>True | some Wy=>_ | some (Wx d)=>_
 unfold bD
 rw[P5]
 by_cases hi:i<n
 ·rw[SY hi]
  refine⟨hi,fun x H' y=>?_⟩
  obtain⟨e1,e2⟩:=y
  subst e1 e2
  exact⟨α2,Ext.refl,hr,.int _⟩
 ·rw[QC (by simp_all)]
  exact Nat.le_of_not_lt hi
def dI {tg a:Rb}{ma:MA}{p pos:Pos} (hg:Gl X "range") (hm:X.mg "range" = Wy) (ha:PA X [a] (tMA X.K g ε ma)) (hs:starEach [a] X.env=[(WA,eval a X.env)]:=by rfl):PI X tg (.Call (.Name "range" p) [a] [] pos) (tMI X.K g ε (dX fq ma)):=
 PI.imp (zq hg hm ha hs) fun σ H T ⟨α,env,h,s,w⟩=>tMA.use s w.bind fun d1 h1 v1 H1 α1 e1 s1 r1 w1=>by
  cases r1 with
  | nil=>exact w1.elim
  | cons ra rr=>
   cases rr with
   | cons _ _=>cases ra<;>exact w1.elim
   | nil=>
    cases ra with
    | int j=>
     obtain⟨hj,w2⟩:=WQ.cO w1
     exact⟨j,rfl,{},{},w2 _ H1 α1 e1 s1.heap qo⟩
    | _=>exact w1.elim
def yd {tg a b:Rb}{ma:MA}{p pos:Pos} (hg:Gl X "range") (hm:X.mg "range" = Wy) (ha:PA X [a,b] (tMA X.K g ε ma)) (hs:starEach [a,b] X.env=[(WA,eval a X.env),(WA,eval b X.env)]:=by rfl) (hs2:starEach [b] X.env=[(WA,eval b X.env)]:=by rfl):PI X tg (.Call (.Name "range" p) [a,b] [] pos) (tMI X.K g ε (dX qz ma)):=
 PI.imp (zZ hg hm ha hs hs2) fun σ H T ⟨α,env,h,s,w⟩=>tMA.use s w.bind fun d1 h1 v1 H1 α1 e1 s1 r1 w1=>by
  unfold qz at w1
  split at w1
  ·cases r1 with
   | cons ra rr=>
    cases ra
    cases rr with
    | cons rb rr=>
     cases rb
     cases rr
     obtain⟨hj,w2⟩:=WQ.cO w1
     exact⟨_,_,rfl,⟨{},{},{},{}⟩,w2 _ H1 α1 e1 s1.heap qo⟩
  ·exact w1.elim
abbrev sx (c:MT) (b:MS):Nat->En->Hh->R Fl
 | 0,_,_=>.bad
 | k+1,env,h=>(c env h).bind fun x h1=>if x=Wz then (b env h1).bind fun fl h2=>match fl with
   | .nx e=>sx c b k e h2
   | .ct e=>sx c b k e h2
   | .bk e=>.ok (.nx e) h2
   | .rt d=>.ok (.rt d) h2
  else .ok (.nx env) h1
abbrev IA (fuel:Nat) (c:MT) (b:MS):MS:=fun env h=>sx c b fuel env h
end
@[inline]abbrev E00:EE:=fun _ _ _=>False
@[inline]abbrev MF:=List D->Hh->R D
abbrev bG (n:Nat) (m:MS):MF:=fun ds h=>(m (ds.map Wx++PY (n - ds.length) Wy) h).bind fun fl h1=>match fl with
 | .rt d=>.ok d h1
 | .nx _=>.ok .non h1
 | _=>.bad
abbrev spG (K:Pk) (g:GG) (ε:XK->EE) (np:Nat) (m:MF):Sp:=fun vs H Q E=>vs.length=np/\∃α ds h,ao K g α H ds vs/\aK K g α H h/\WQ K g (ε E) α H (m ds h) (aA K g α H Q)
@[inline]abbrev spM (K:Pk) (g:GG) (np:Nat) (m:MF):Sp:=spG K g (fun _=>E00) np m
def ik {K:Pk}{g:GG}{α:List PN}{H:Hp}{N:List Str}{ds:List D}{vs:List V} (r:ao K g α H ds vs):iA K g α H (ds.map Wx++PY (N.length - ds.length) Wy) (start N vs):=by
 have hl:=r.length
 refine⟨by simp[start,hl],fun i d h=>?_⟩
 by_cases hi:i<ds.length
 ·rw[PB (by simpa using hi),P5] at h
  cases e:ds[i]? with
  | none=>rw[e] at h;cases h
  | some d'=>
   rw[e] at h
   cases h
   obtain⟨v,ev,rv⟩:=r.get e
   refine⟨v,?_,rv⟩
   unfold start
   rw[PB (by simp;lia),P5,ev]
   rfl
 ·rw[PM (by simpa using hi),List.getElem?_replicate] at h
  split at h<;>cases h
section
variable {P:PJ}{w:Qc}{K:Pk}{mg:Str->Option Pp}{base:QQ}{g:GG}
def vF {st:TF} (F:Fun K x qual st f fd) (S:az N ps (ag st))
  (hb:∀cdv A outer s H E , bF k (A.deeper (envOfC qual (ag st) s.heap.objs.size f cdv)) →
   PSs (dR CX0 P w K mg base N qual (ag st) f cdv A outer s H E).nox (aP st) (tMS K g E00 mb)):b9 P w K mg base CX0 (k+1) f fd ps (spM K g ps.length (bG N.length mb)):=by
 refine F.ok S (fun vs H Q E h=>h.1) fun cdv A outer s H vs Q E hr h=>⟨_,hb cdv A outer s H E hr,?_⟩
 obtain⟨hl,α,ds,h,rs,hh,w⟩:=h
 refine tMS.use ⟨hh,ik rs⟩ w.bind fun fl h' H' α' e r kk=>?_
 cases fl with
 | nx e'=>exact fun σ' s'=>(show aA K g α H Q .non h' from kk) _ H' α' e r .non
 | bk e'=>exact kk.elim
 | ct e'=>exact kk.elim
 | rt d=>exact fun v rv=>(show aA K g α H Q d h' from kk) _ H' α' e r rv
end
section
variable {X:Cx}{g:GG}
def FG {k:Nat}{f:PN}{fd:RV}{ps:List Str}{m:MF}{np:Nat}{x:Str}{p pos:Pos}{e:Rb}{es:List Rb}{mr:MA} (F:b9 X.prog X.w X.K X.mg X.base CX0 k f fd ps (spM X.K g np m)) (hr:bF k X.A) (hg:Gl X x) (hm:X.mg x=Wx (.ref f)) (hk:Qk X.K (.ref f)=Wz) (hb:Binds X.K fd ps [])
  (ha:PA X (e::es) (tMA X.K g E00 mr)) (hlen:∀env h ds h',mr env h=.ok ds h'->ds.length=np) (hdb:(x == ("__debug__" : Str))=false:=by decide) (he:starEach (e::es) X.env=(WA,eval e X.env)::starEach es X.env:=by rfl) (hpl:(backTo pos (starEach es X.env)).any (·.1)=false:=by rfl) :
  PE X (.Call (.Name x p) (e::es) [] pos) (tM X.K g E00 (ah m mr)):=
 PE.imp (xS F hr hg hm hk hb .nil JX ha hdb he hpl) fun σ H Q ⟨α,env,h,s,w⟩=>⟨α,env,h,s,w.bind.mono fun d1 h1 eq w1 v1 H1 α1 e1 hr1 r1=>by
  show spM X.K g np m (v1++[]) H1 Q E0
  rw[QO]
  refine⟨?_,α1,d1,h1,r1,hr1,w1.post e1⟩
  rw[<- r1.length]
  grind⟩
def ay:∀env h ds h',ak env h=.ok ds h'->ds.length=0:=fun env h ds h' e=>by cases e;rfl
def aj {a:ME}{r:MA}{n:Nat} (q:∀env h ds h',r env h=.ok ds h'->ds.length=n):∀env h ds h',aa a r env h=.ok ds h'->ds.length=n+1:=fun env h ds h' e=>by
 unfold aa at e
 cases e1:a env h with
 | ok d h1=>
  rw[e1] at e
  cases e2:r env h1 with
  | ok ds2 h2=>
   have e3:(R.ok (d::ds2) h2:R (List D))=.ok ds h':=by simpa [R.bind,e2] using e
   grind
  | err x h2=>simp[R.bind,e2] at e
  | bad=>simp[R.bind,e2] at e
 | err x h2=>rw[e1] at e;cases e
 | bad=>rw[e1] at e;cases e
end
abbrev kR (ix:List Nat) (env:En) (d:D):En:=Wx d::ix.map fun i=>(env[i]?).join
abbrev tt1:MT:=fun _ h=>.ok Wz h
abbrev gk (rd:Rdr) (tt:MT) (te:ME) (ee:D->En):Nat->Nat->List D->Hh->R (List D)
 | k,i,acc,h=>match rd h i with
  | none=>.bad
  | some Wy=>.ok acc h
  | some (Wx d)=>match k with
   | 0=>.bad
   | k+1=>(tt (ee d) h).bind fun b h1=>if b=Wz then (te (ee d) h1).bind fun y h2=>gk rd tt te ee k (i+1) (acc++[y]) h2 else gk rd tt te ee k (i+1) acc h1
abbrev cN (tt:MT) (te:ME) (ee:D->En):List D->Hh->R (List D)
 | [],h=>.ok [] h
 | d::ds,h=>(tt (ee d) h).bind fun b h1=>if b=Wz then (te (ee d) h1).bind fun y h2=>(cN tt te ee ds h2).bind fun ys h3=>.ok (y::ys) h3 else cN tt te ee ds h1
def bA (r:R β) (f) (k:γ->Hh->R δ):(r.bind f).bind k=r.bind fun b h=>(f b h).bind k:=by cases r<;>rfl
def Dr (tt:MT) (te:ME) (ee:D->En) (all:List D):∀(ds:List D) (i:Nat) (acc:List D) (h:Hh),all.drop i=ds->gk (Src.snap all).rdr tt te ee ds.length i acc h=(cN tt te ee ds h).bind fun ys h'=>.ok (acc++ys) h':=by
 intro ds
 induction ds with
 | nil=>
  intro i acc h e
  have:all[i]?=none:=by
   simp_all
  unfold gk cN Src.rdr
  simp[this,R.bind]
 | cons d ds ih=>
  intro i acc h e
  have h0:all[i]?=Wx d:=by
   have:=congrArg (fun l=>l[0]?) e
   grind
  have h1:all.drop (i+1)=ds:=by
   have:=congrArg List.tail e
   simpa using this
  unfold gk cN
  have:(Src.snap all).rdr h i=Wx (Wx d):=by unfold Src.rdr;simp[h0]
  rw[this]
  show((tt (ee d) h).bind _)=_
  rw[bA]
  congr 1
  funext b h2
  cases b with
  | false=>simp_all
  | true=>
   rw[if_pos rfl,if_pos rfl,bA]
   congr 1
   funext y h3
   rw[bA]
   have:=ih (i+1) (acc++[y]) h3 h1
   rw[this]
   congr 1
   funext ys h4
   show R.ok (acc++[y]++ys) h4=R.ok (acc++(y::ys)) h4
   simp
abbrev c7 (nl:NL) (mi:MI) (ix:List Nat) (tt:MT) (te:ME):ME:=fun env h=>(mi env h).bind fun sr h1=>if sr.fuel h1<=1000000 then
 (match sr with
  | .snap ds=>cN tt te (kR ix env) ds h1
  | .live n=>gk (Src.live n).rdr tt te (kR ix env) ((aq h1 n).getD []).length 0 [] h1
  | .liveE n=>gk (Src.liveE n).rdr tt te (kR ix env) ((aq h1 n).getD []).length 0 [] h1).bind nl else .bad
def Bg:c7 nl mi ix tt te env h=(mi env h).bind fun sr h1=>if sr.fuel h1<=1000000 then (gk sr.rdr tt te (kR ix env) (sr.fuel h1) 0 [] h1).bind nl else .bad:=by
 unfold c7
 congr 1
 funext sr h1
 cases sr with
 | snap ds=>
  have:=Dr tt te (kR ix env) ds ds 0 [] h1 rfl
  have e:(Src.snap ds).fuel h1=ds.length:=rfl
  rw[e,this,bA]
  rfl
 | live n=>rfl
 | liveE n=>rfl
def Ep {K:Pk}{g:GG}{α:List PN}{H:Hp}{env:En}{σ:St}{ix:List Nat}{d:D}{v:V} (s:iA K g α H env σ) (r:aC K g α H d v):iA K g α H (kR ix env d) ((sQ ix σ).set 0 (Wx v)):=by
 refine⟨by simp[kR,sQ],fun i e h=>?_⟩
 cases i with
 | zero=>
  have:d=e:=by simpa [kR] using h
  subst this
  exact⟨v,by rfl,r⟩
 | succ i=>
  have h':(ix.map fun i=>(env[i]?).join)[i]?=Wx (Wx e):=by assumption
  rw[P5] at h'
  cases ei:ix[i]? with
  | none=>simp_all
  | some j=>
   rw[ei] at h'
   have h2:(env[j]?).join=Wx e:=by simp_all
   cases ej:env[j]? with
   | none=>simp_all
   | some oe=>
    rw[ej] at h2
    have h3:oe=Wx e:=by simp_all
    subst h3
    obtain⟨u,eu,ru⟩:=s.vars j e ej
    refine⟨u,?_,ru⟩
    simp only[sQ,List.set_cons_zero,List.getElem?_cons_succ,P5,ei,Vh,eu]
    rfl
section
variable {X:Cx}{g:GG}
def IL:PTs X [] (tMT X.K g E00 tt1):=fun pins s σ H Q I ⟨α,env,h,s',w⟩=>Fx pins s σ H Q I (w H α Ext.refl s'.heap)
def gZ {mt:MT} (h:PT X c (tMT X.K g E00 mt)):PTs X [c] (tMT X.K g E00 mt):=D3 h
def ve {K:Pk}{nl:NL} [iD nl]{mi:MI}{tt:MT}{te:ME}{ix:List Nat}{σ:St}{H:Hp}{Q R:VK} (hR:∀v H,gA Q v H->R v H) (t:tM K g E00 (c7 nl mi ix tt te) σ H Q):Gb (tMI K g E00 mi) ix (tMT K g E00 tt) (tM K g E00 te) σ H R:=by
 obtain⟨α,env,h,s,w⟩:=t
 rw[Bg] at w
 refine⟨α,env,h,s,w.bind.mono fun sr h1 _ w1 J H1 α1 e1 hr1 rd=>fun acc hacc=>?_⟩
 obtain⟨hf,w1⟩:=WQ.cO w1
 have s1:=s.ext e1 hr1
 refine⟨fun i m ys H=>∃α h as,Ext K α1 H1 α H/\aK K g α H h/\ao K g α H as ys/\H acc=Wx (.lst ys)/\acc∉α/\as.length+m<=1000000 ∧
  WQ K g E00 α1 H1 ((gk sr.rdr tt te (kR ix env) m i as h).bind nl) (aA K g α1 H1 Q),
  ⟨sr.fuel h1,α1,h1,[],Ext.fresh hacc,hr1.grow hacc,.nil,aL,hr1.free hacc,by simp_all,w1.post e1⟩,?_⟩
 rintro i m ys H2 ⟨α2,h2,as,x2,hr2,ra,ha,hna,hm,w2⟩
 have q:=rd α2 H2 h2 x2 hr2 i
 unfold gk at w2
 cases e:sr.rdr h2 i with
 | none=>rw[e] at w2;exact w2.elim
 | some od=>
  rw[e] at w2 q
  cases od with
  | none=>
   refine .inl ⟨q,?_⟩
   exact hR _ _ <| iD.at' (show WQ K g E00 α1 H1 (nl as h2) _ from w2) (fun _ _ z=>z) x2 hr2 ra ha hna hacc
  | some d=>
   cases m with
   | zero=>exact w2.elim
   | succ m=>
    rw[bA] at w2
    have w3:=WQ.bind (show WQ K g E00 α1 H1 ((tt (kR ix env d) h2).bind _) _ from w2)
    refine .inr ⟨q.1,fun x H3 y=>?_⟩
    obtain⟨α3,x3,hr3,rx⟩:=q.2 x H3 y
    have ha3:=x3.keep _ _ ha hna
    have hna3:acc∉α3:=fun z=>by have:=x3.new _ z hna;simp_all
    have s3:cM K g α3 H3 (kR ix env d) ((sQ ix σ).set 0 (Wx x)) h2:=⟨hr3,Ep (s1.vs.ext (x2.trans x3)) rx⟩
    refine tMT.use s3 ((w3.ext x2).ext x3) fun b h4 H4 α4 x4 s4 w4=>?_
    have ha4:=x4.keep _ _ ha3 hna3
    have hna4:acc∉α4:=fun z=>by have:=x4.new _ z hna3;simp_all
    cases b with
    | false=>
     exact⟨m,RQ _,α4,h4,as,x2.trans (x3.trans x4),s4.heap,ra.ext (x3.trans x4),ha4,hna4,{},w4⟩
    | true=>
     rw[if_pos rfl] at w4 ⊢
     rw[bA] at w4
     refine tM.use s4 (((WQ.bind w4).ext x2).ext (x3.trans x4)) fun y h5 v5 H5 α5 x5 s5 r5 w5=>?_
     have ha5:=x5.keep _ _ ha4 hna4
     have hna5:acc∉α5:=fun z=>by have:=x5.new _ z hna4;simp_all
     have soft:FO H5 acc:=.inr ⟨_,ha5,fun _ z=>(nomatch z),fun _ _ z=>(nomatch z),fun _ z=>nomatch z⟩
     have x6:Ex0 K α5 H5 α5 (upd H5 acc (.lst (ys++[v5]))):=Ex0.upd soft
     have tr:=x2.trans (x3.trans (x4.trans x5))
     refine⟨ha5,?_,m,RQ _,α5,h5,as++[y],⟨tr.toEx0.trans x6,fun p o z n nt=>?_,tr.new⟩,s5.heap.off soft hna5,((ra.ext (x3.trans (x4.trans x5))).append (.cons r5 .nil)).ex0 x6,aL,hna5,by grind,w5⟩
     ·rw[<- ra.length,QN];lia
     ·rw[aw (aE z hacc)];exact tr.kept p o z n nt
abbrev unp (m:En->Hh->R β):En->Hh->R β:=fun env h=>match env with
 | some (.tup [x,y])::r=>m (Wx x::Wx y::r) h
 | _=>.bad
end
abbrev sml (i:Int):Bool:=decide (i.natAbs<2 ^ 1900)
def ni (h:sml i=Wz):S0 i<=1900:=by
 have h':=of_decide_eq_true h
 unfold S0
 split
 ·lia
 ·rename_i z
  have z':i.natAbs≠0:=by
   simp_all
  have:=(Nat.log2_lt z').mpr h'
  lia
def rM (h:sml i=Wz):i.natAbs.log2<1900:=by
 have h':=of_decide_eq_true h
 by_cases z:i.natAbs=0
 ·simp_all
 ·exact(Nat.log2_lt z).mpr h'
def Jm (h:i.natAbs<=10 ^ 560):sml i=true:=by
 refine decide_eq_true (Nat.lt_of_le_of_lt h {})
section
variable {X:Cx}{K:Pk}{g:GG}{ε:EE}
def OpR.or (h:OpR X f r) (h':OpR X f r'):OpR X f (fun x y H Q=>r x y H Q\/r' x y H Q):=fun pins s σ H x y v u Q I rx ry q=>q.elim (h pins s σ H x y v u Q I rx ry) (h' pins s σ H x y v u Q I rx ry)
abbrev gQ (d:D) (h:Hh):Option (List D):=match d with
 | .frl ds=>Wx ds
 | .ref n=>aq h n
 | _=>Wy
def r9 (r:aK K g α H h) (rd:aC K g α H d x) (e:gQ d h=Wx ds):∃p vs,x=.ref p/\Rd H p (.lst vs)/\ao K g α H ds vs:=by
 cases rd with
 | frl hq rs=>cases e;exact⟨_,_,rfl,hq.rd,rs⟩
 | ref hp=>obtain⟨vs,hv,rs⟩:=r.lst e hp;exact⟨_,vs,rfl,.inl hv,rs⟩
 | _=>cases e
abbrev GH:R2:=fun x y H Q=>∃l b xs zs,x=.ref l/\y=.ref b/\Rd H l (.lst xs)/\Rd H b (.lst zs)/\xs.length+zs.length<=sizeLine/\∀p,H p=Wy->Q (.ref p) (upd H p (.lst (xs++zs)))
def Ef {σ:St} (I:Inv X pins σ H s) (h:Rd H l (.lst xs)):∃its n,xs.length<=sizeLine/\Vals xs its/\xs.length=its.length/\s.heap.get? l=Wx { cls:=.type "list", data:=.seq its.toArray n }:=by
 obtain⟨z,its,n,r,e⟩:=h.ok I.hok
 exact⟨its,n,z,r,r.length,e⟩
def D6:OpR X (binaryOp .Add) GH:=by
 intro pins s σ H x y v u Q I rx ry h
 obtain⟨l,b,xs,zs,rfl,rfl,hH,hB,hz,q⟩:=h
 cases rx
 cases ry
 obtain⟨its,n,z,r,hl,e⟩:=Ef I hH
 obtain⟨its2,n2,z2,r2,hl2,e2⟩:=Ef I hB
 refine PySem.P.add_list e e2 ?_ (by simp_all)
 have ea:its.toArray++its2.toArray=(its++its2).toArray:={..}
 rw[ea]
 exact⟨.ref _,_,I.HW (r.append r2) (by simp_all),rfl,q _ I.fresh⟩
abbrev bS (nl:NL):D->D->Hh->R D:=fun x y h=>match x,y with
 | .int i,.int j=>.ok (.int (i+j)) h
 | .tup a,.tup b=>if a.length+b.length<=1000000 then .ok (.tup (a++b)) h else .bad
 | .str a,.str b=>if a.length+b.length<=1000000 then .ok (.str (a++b)) h else .bad
 | x,y=>match gQ x h,gQ y h with
  | some a,Wx b=>if a.length+b.length<=1000000 then nl (a++b) h else .bad
  | _,_=>.bad
@[inline]abbrev DB (K:Pk):R2:=fun x y H Q=>(rI0 fun i j=>.int (i+j)) x y H Q\/(F_ K x y H Q\/Be K x y H Q)\/GH x y H Q\/∃i j,x=.str i/\y=.str j/\i.length+j.length<=sizeLine/\Q (.str (i++j)) H
def Jv:OpR X (binaryOp .Add) (fun x y H Q=>DB X.K x y H (gA Q)):=OpR.frz (OpR.or HR (OpR.or (OpR.or DL A7) (OpR.or D6 wo)))
def aA.zE (p:aA K g α H Q d h) (r:aK K g α H h) (rd:aC K g α H d v):gA Q v H:=.inl (p.now r rd)
def HP {nl:NL} [iD nl]:dw K g ε (bS nl) (fun x y H Q=>DB K x y H (gA Q)):=by
 intro α H h a b x y Q r ra rb w
 have gen:∀{a b:D} {x y:V},aC K g α H a x->aC K g α H b y->WQ K g ε α H (match gQ a h,gQ b h with
  | some a,Wx b=>if a.length+b.length<=1000000 then nl (a++b) h else .bad
  | _,_=>.bad) (aA K g α H Q)->DB K x y H (gA Q):=by
  intro a b x y ra rb w
  cases e1:gQ a h with
  | none=>simp only[e1] at w;exact w.elim
  | some da=>
   cases e2:gQ b h with
   | none=>simp only[e1,e2] at w;exact w.elim
   | some db=>
    simp only[e1,e2] at w
    obtain⟨p,va,rfl,hva,rsa⟩:=r9 r ra e1
    obtain⟨q,vb,rfl,hvb,rsb⟩:=r9 r rb e2
    obtain⟨hl,w⟩:=WQ.cO w
    refine .inr (.inr (.inl ⟨p,q,va,vb,rfl,rfl,hva,hvb,fj (by rw[<- rsa.length,<- rsb.length];exact hl),fun l hl'=>?_⟩))
    exact NL.post w r (rsa.append rsb) hl'
 unfold bS at w
 split at w
 ·cases ra
  cases rb
  exact .inl ⟨_,_,rfl,rfl,aA.zE w r (.int _)⟩
 ·cases ra with
  | @tup da pa va ha rsa=>
   cases rb with
   | @tup db pb vb hb rsb=>
    obtain⟨hl,w⟩:=WQ.cO w
    refine .inr (.inl ?_)
    cases va with
    | nil=>
     cases rsa
     exact .inr ⟨_,_,_,rfl,rfl,SqT.of ha,SqT.of hb,aA.zE w r (.tup hb rsb)⟩
    | cons z zs=>
     refine .inl ⟨_,_,_,_,rfl,rfl,SqT.of ha,SqT.of hb,{..},fj (by rw[<- rsa.length,<- rsb.length];exact hl),fun e=>?_,fun _ p hp=>.inl (aA.tup w r (rsa.append rsb) hp)⟩
     subst e
     cases rsb
     refine aA.zE w r (.tup ha ?_)
     rw[QO];exact rsa
 ·cases ra
  cases rb
  obtain⟨hl,w⟩:=WQ.cO w
  exact .inr (.inr (.inr ⟨_,_,rfl,rfl,fj hl,aA.zE w r (.str _)⟩))
 ·exact gen ra rb w
abbrev kO:D->D->Hh->R D
 | .int i,.int j,h=>.ok (.int (i - j)) h
 | _,_,_=>.bad
def HJ:dw K g ε kO (rI0 fun i j=>.int (i - j)):=by
 intro α H h a b x y Q r ra rb w
 cases ra with
 | int i=>
  cases rb with
  | int j=>exact⟨i,j,rfl,rfl,aA.now w r (.int _)⟩
  | _=>exact w.elim
 | _=>exact w.elim
abbrev GP:R2:=fun x y H Q=>∃l k xs,x=.ref l/\y=.int k/\Rd H l (.lst xs)/\-(2 ^ 63)<=k/\k<2 ^ 63/\xs.length*k.toNat<=sizeLine ∧
 ∀p,H p=Wy->Q (.ref p) (upd H p (.lst (PY k.toNat xs).flatten))
def F0:OpR X (binaryOp .Mult) GP:=by
 intro pins s σ H x y v u Q I rx ry h
 obtain⟨l,k,xs,rfl,rfl,hH,h1,h2,hz,q⟩:=h
 cases rx
 obtain⟨t,rfl⟩:=ry
 obtain⟨its,n,z,r,hl,e⟩:=Ef I hH
 have hlen:its.toArray.size*k.toNat<=sizeLine:=by simp_all
 have hcap:¬ its.toArray.size*k.toNat > (2 ^ 63 - 1) / 8:=by
  have:(sizeLine:Nat)<=(2 ^ 63 - 1) / 8:=by decide
  lia
 have hfit:¬ (!Builtin.List.listFitsIndex k)=true:=by
  rw[fitsIndex_both h1 h2]
  simp
 have hlong:¬ R3 (its.toArray.size*k.toNat)=true:=by
  rw[um hlen]
  simp
 have hnew:Wc (fun x1 x2=>x1++x2) #[] (PY (if its.toArray.isEmpty=Wz then 0 else k.toNat) its.toArray)=(PY k.toNat its).flatten.toArray:=by
  have f0:=fun m=>by
   have:=foldl_rep its m []
   rw[So] at this
   exact this
  rw[f0]
  cases its with
  | nil=>simp
  | cons a r'=>rfl
 refine wpAny_binaryOp_repeat_ref (by decide) ⟨_,e,rfl⟩ (fun s'=>Wb s' k t) noFill_list_mul F.fills_int_mul F.slot_int_rmul repeat_list F.slot_int_index.lookup
  (UN F.slot_int_rmul (Wb s k t) F.entry_int_rmul (F.args_int_rmul_2 _ _) (int___rmul___int_list k t l its.toArray n)
   ⟨e,rfl,⟨_,e,rfl⟩,UN F.slot_list_mul ⟨_,e,rfl⟩ F.entry_list_mul (F.args_list_mul_2 _ _) (AutoListH.list___mul___list_int_3 l its.toArray n k t hfit hcap hlong) ⟨e,?_⟩⟩)
 rw[hnew]
 exact⟨.ref _,_,I.HW (r.rep k.toNat) (by rw[len_rep,VX];exact hz),rfl,q _ I.fresh⟩
abbrev qW (nl:NL):D->D->Hh->R D:=fun x y h=>match x,y with
 | .int i,.int j=>if sml i=Wz/\sml j=Wz then .ok (.int (i*j)) h else .bad
 | x,.int k=>match gQ x h with
  | some ds=>if k.natAbs<=1000000/\ds.length*k.toNat<=1000000 then nl (PY k.toNat ds).flatten h else .bad
  | none=>.bad
 | _,_=>.bad
def EU:OpR X (binaryOp .Mult) (rI (fun i j=>sml i=Wz/\sml j=Wz) fun i j=>.int (i*j)):=opI fun _ _ _ _ _ _ _ hc q=>mul_int q (IntMulOk.of_bits (P7 (ni hc.1) (by decide)) (P7 (ni hc.2) (by decide)))
@[inline]abbrev Cr:R2:=fun x y H Q=>(rI (fun i j=>sml i=Wz/\sml j=Wz) fun i j=>.int (i*j)) x y H Q\/GP x y H Q
def Hk:OpR X (binaryOp .Mult) (fun x y H Q=>Cr x y H (gA Q)):=OpR.frz (OpR.or EU F0)
def JA {nl:NL} [iD nl]:dw K g ε (qW nl) (fun x y H Q=>Cr x y H (gA Q)):=by
 intro α H h a b x y Q r ra rb w
 have gen:∀{a:D} {k:Int} {x:V},aC K g α H a x->WQ K g ε α H (match gQ a h with
  | some ds=>if k.natAbs<=1000000/\ds.length*k.toNat<=1000000 then nl (PY k.toNat ds).flatten h else .bad
  | none=>.bad) (aA K g α H Q)->Cr x (.int k) H (gA Q):=by
  intro a k x ra w
  cases e1:gQ a h with
  | none=>simp only[e1] at w;exact w.elim
  | some ds=>
   simp only[e1] at w
   obtain⟨hl,w⟩:=WQ.cO w
   obtain⟨p,vs,rfl,hv,rs⟩:=r9 r ra e1
   refine .inr ⟨p,k,vs,rfl,rfl,hv,{},{},fj (by rw[<- rs.length];exact hl.2),fun l hl'=>?_⟩
   exact NL.post w r (rs.flat k.toNat) hl'
 unfold qW at w
 split at w
 ·cases ra
  cases rb
  obtain⟨hc,w⟩:=WQ.cO w
  exact .inl ⟨_,_,rfl,rfl,hc,aA.zE w r (.int _)⟩
 ·cases rb
  exact gen ra w
 ·exact w.elim
abbrev E3:D->D->Hh->R D
 | .int i,.int j,h=>if 0<j/\sml j=Wz then .ok (.int (i / j)) h else .bad
 | _,_,_=>.bad
def AH:OpR X (binaryOp .FloorDiv) (rI (fun i j=>0<j/\sml j=Wz) fun i j=>.int (i / j)):=opI fun i j _ _ _ _ _ hc q=>by
 have e:i.fdiv j=i / j:=Int.fdiv_eq_ediv_of_nonneg _ {}
 refine floordiv_int {} ?_ (.inl (PyProof.noPylong_of_log2 (S5 (rM hc.2) (by decide))))
 simp_all
def Hu:dw K g ε E3 (rI (fun i j=>0<j/\sml j=Wz) fun i j=>.int (i / j)):=by
 intro α H h a b x y Q r ra rb w
 cases ra with
 | int i=>
  cases rb with
  | int j=>
   obtain⟨hc,w⟩:=WQ.cO w
   exact⟨i,j,rfl,rfl,hc,aA.now w r (.int _)⟩
  | _=>exact w.elim
 | _=>exact w.elim
abbrev wg:D->D->Hh->R D
 | .int i,.int j,h=>if 0<j then .ok (.int (i % j)) h else .bad
 | _,_,_=>.bad
def Hw:dw K g ε wg (rI (fun _ j=>0<j) fun i j=>.int (i % j)):=by
 intro α H h a b x y Q r ra rb w
 cases ra with
 | int i=>
  cases rb with
  | int j=>
   obtain⟨hc,w⟩:=WQ.cO w
   exact⟨i,j,rfl,rfl,hc,aA.now w r (.int _)⟩
  | _=>exact w.elim
 | _=>exact w.elim
abbrev Ic:D->D->Hh->R D
 | .int i,.int j,h=>if 0<=j/\j.natAbs<=1000/\sml i=Wz then .ok (.int (i ^ j.toNat)) h else .bad
 | _,_,_=>.bad
def E9:OpR X (binaryOp .Pow) (rI (fun i j=>0<=j/\j.natAbs<=1000/\sml i=Wz) fun i j=>.int (i ^ j.toNat)):=opI fun i j _ _ _ _ _ hc q=>pow_int hc.1 (by
 have:=ni hc.2.2
 have h1:((S0 i:Nat):Int)<=1900:={}
 calc ((S0 i:Nat):Int)*j<=1900*j:=QU h1 hc.1
  _<=1900*1000:=Int.mul_le_mul_of_nonneg_left (show j<=1000 by lia) (by decide)
  _<=2 ^ 27:=by decide) q
def HD:dw K g ε Ic (rI (fun i j=>0<=j/\j.natAbs<=1000/\sml i=Wz) fun i j=>.int (i ^ j.toNat)):=by
 intro α H h a b x y Q r ra rb w
 cases ra with
 | int i=>
  cases rb with
  | int j=>
   obtain⟨hc,w⟩:=WQ.cO w
   exact⟨i,j,rfl,rfl,hc,aA.now w r (.int _)⟩
  | _=>exact w.elim
 | _=>exact w.elim
abbrev tQ:D->Hh->R D
 | .int i,h=>.ok (.int (-i)) h
 | _,_=>.bad
def vZ:LX K g ε tQ (rU fun i=>.int (-i)):=by
 intro α H h a x Q r ra w
 cases ra with
 | int i=>exact⟨i,rfl,aA.now w r (.int _)⟩
 | _=>exact w.elim
abbrev AX (p:Int->Int->Bool):D->D->Hh->R D
 | .int i,.int j,h=>.ok (.bl (p i j)) h
 | _,_,_=>.bad
abbrev ltI:Int->Int->Bool
 | .ofNat a,.ofNat b=>Wt a b
 | .ofNat _,.negSucc _=>WA
 | .negSucc _,.ofNat _=>Wz
 | .negSucc a,.negSucc b=>Wt b a
def nD:ltI=fun i j=>decide (i<j):=by
 funext i j
 cases i with
 | ofNat a=>
  cases j with
  | ofNat b=>
   show Wt a b=_
   rw[Vi,Nat.blt_eq,decide_eq_true_iff]
   simp
  | negSucc b=>rfl
 | negSucc a=>
  cases j with
  | ofNat b=>exact(decide_eq_true (by grind)).symm
  | negSucc b=>
   show Wt b a=_
   rw[Vi,Nat.blt_eq,decide_eq_true_iff]
   lia
abbrev leI (i j:Int):Bool:=!ltI j i
def qC:leI=fun i j=>decide (i<=j):=by
 funext i j
 unfold leI
 rw[nD,Vi]
 simp
abbrev dLt:D->D->Hh->R D:=AX ltI
abbrev dLe:D->D->Hh->R D:=AX leI
abbrev dGt:D->D->Hh->R D:=AX fun i j=>ltI j i
abbrev dGe:D->D->Hh->R D:=AX fun i j=>leI j i
def rY:dw K g ε (AX p) (rI0 fun i j=>.bl (p i j)):=by
 intro α H h a b x y Q r ra rb w
 cases ra with
 | int i=>
  cases rb with
  | int j=>exact⟨i,j,rfl,rfl,aA.now w r (.bl _)⟩
  | _=>exact w.elim
 | _=>exact w.elim
def Ge:dw K g ε dLt (rI0 fun i j=>.bl (decide (i<j))):=by
 unfold dLt;rw[nD];exact rY
def yP:dw K g ε dLe (rI0 fun i j=>.bl (decide (i<=j))):=by
 unfold dLe;rw[qC];exact rY
def Lj:dw K g ε dGt (rI0 fun i j=>.bl (decide (j<i))):=by
 unfold dGt;rw[nD];exact rY
def LY:dw K g ε dGe (rI0 fun i j=>.bl (decide (j<=i))):=by
 unfold dGe;rw[qC];exact rY
abbrev eJ (d:D) (h:Hh):Option (List D):=match d with
 | .tup ds=>Wx ds
 | .frl ds=>Wx ds
 | .scr ds=>Wx ds
 | .ref n=>aq h n
 | _=>Wy
def mn (r:aK K g α H h) (rd:aC K g α H d x) (e:eJ d h=Wx ds):∃p vs,x=.ref p/\(SqL K H p vs\/SqT K H p vs)/\ao K g α H ds vs:=by
 cases rd with
 | tup hq rs=>cases e;exact⟨_,_,rfl,.inr (SqT.of hq),rs⟩
 | frl hq rs=>cases e;exact⟨_,_,rfl,.inl hq.sq,rs⟩
 | scr hq rs=>cases e;exact⟨_,_,rfl,.inl hq.sq,rs⟩
 | ref hp=>obtain⟨vs,hv,rs⟩:=r.lst e hp;exact⟨_,vs,rfl,.inl (SqL.of hv),rs⟩
 | _=>cases e
abbrev dIx:D->D->Hh->R D:=fun a b h=>match eJ a h,b with
 | some ds,.int i=>match atI ds i with
  | some d=>.ok d h
  | none=>.bad
 | _,_=>.bad
def yF (rs:ao K g α H ds vs) (e:atI ds i=Wx d):∃v,atI vs i=Wx v/\aC K g α H d v:=by
 unfold atI at e ⊢
 rw[<- rs.length]
 cases e1:ixN ds.length i with
 | none=>simp_all
 | some j=>
  rw[e1] at e
  exact rs.get e
def LI:dw K g ε dIx (rIx K):=by
 intro α H h a b x y Q r ra rb w
 unfold dIx at w
 cases e1:eJ a h with
 | none=>simp only[e1] at w;exact w.elim
 | some ds=>
  simp only[e1] at w
  obtain⟨p,vs,rfl,hq,rs⟩:=mn r ra e1
  cases rb with
  | int i=>
   cases e2:atI ds i with
   | none=>simp only[e2] at w;exact w.elim
   | some d=>
    simp only[e2] at w
    obtain⟨v,ev,rv⟩:=yF rs e2
    rcases hq with hq | hq
    ·exact .inl ⟨p,vs,i,v,rfl,rfl,hq,ev,aA.now w r rv⟩
    ·exact .inr (.inl ⟨p,vs,i,v,rfl,rfl,hq,ev,aA.now w r rv⟩)
  | _=>exact w.elim
abbrev f_:D->D->D->Hh->R Unit:=fun o i v h=>match o,i with
 | .ref n,.int k=>match aq h n with
  | some ds=>match ixN ds.length k with
   | some j=>.ok () (h.set n (.lst (ds.set j v)))
   | none=>.bad
  | none=>.bad
 | _,_=>.bad
def mV:Kr K g ε f_ GC:=by
 intro α H h o i v x y z Q r ro ri rv w
 unfold f_ at w
 cases ro with
 | @ref n p hp=>
  cases ri with
  | int k=>
   cases e1:aq h n with
   | none=>simp only[e1] at w;exact w.elim
   | some ds=>
    simp only[e1] at w
    cases e2:ixN ds.length k with
    | none=>simp only[e2] at w;exact w.elim
    | some j=>
     simp only[e2] at w
     obtain⟨vs,hv,rs⟩:=r.lst e1 hp
     refine⟨p,vs,k,j,rfl,rfl,hv,by rw[<- rs.length];exact e2,?_⟩
     have x:=Ext.write (o:=.lst (vs.set j z)) r hp
     exact w _ α x (r.write hp ⟨_,aL,(rs.set rv j).ext x⟩)
  | _=>exact w.elim
 | _=>exact w.elim
abbrev cutD (xs:List D) (lo hi:Option Int):List D:=(xs.drop (HT.sIx xs.length 0 lo)).take (HT.sIx xs.length xs.length hi - HT.sIx xs.length 0 lo)
def jG (rs:ao K g α H ds vs) (lo hi):ao K g α H (cutD ds lo hi) (pq vs lo hi):=by
 unfold cutD pq
 rw[<- rs.length]
 exact(rs.drop _).take _
@[inline]abbrev MO:=En->Hh->R (Option Int)
abbrev Ez:MO:=fun _ h=>.ok Wy h
abbrev qv (a:ME):MO:=fun env h=>(a env h).bind fun d h1=>match d with
 | .int i=>.ok (Wx i) h1
 | _=>.bad
abbrev tMO (K:Pk) (g:GG) (ε:EE) (m:MO):TO:=fun σ H Q=>∃α env h,cM K g α H env σ h/\WQ K g ε α H (m env h) fun o h'=>∀H' α',Ext K α H α' H'->aK K g α' H' h'->Q o H'
def PO.imp (h:PO X e t) (i:∀σ H Q,t' σ H Q->t σ H Q):PO X e t':=fun pins s σ H Q I w=>h pins s σ H Q I (i σ H Q w)
def yW {e:Rb}{me:ME} (he:PE X e (tM X.K g ε me)):PO X (Wx e) (tMO X.K g ε (qv me)):=PO.imp (Ex he) fun σ H Q ⟨α,env,h,s,w⟩=>tM.use s w.bind fun d1 h1 v1 H1 α1 e1 s1 r1 w1=>by
 cases r1 with
 | int i=>exact⟨i,rfl,w1 H1 α1 e1 s1.heap⟩
 | _=>exact w1.elim
abbrev zd (nl:NL):D->Option Int->Option Int->Hh->R D:=fun d lo hi h=>match d with
 | .tup ds=>.ok (.tup (cutD ds lo hi)) h
 | .frl ds=>nl (cutD ds lo hi) h
 | .scr ds=>nl (cutD ds lo hi) h
 | .ref n=>match aq h n with
  | some ds=>nl (cutD ds lo hi) h
  | none=>.bad
 | _=>.bad
abbrev rF (nl:NL) (a:ME) (l u:MO):ME:=fun env h=>(a env h).bind fun x h1=>(l env h1).bind fun lo h2=>(u env h2).bind fun hi h3=>zd nl x lo hi h3
def tMO.use (s:cM K g α H env σ h) (w:WQ K g ε α H (m env h) k)
  (q:∀d h' H' α',Ext K α H α' H'->cM K g α' H' env σ h'->k d h'->Q d H'):tMO K g ε m σ H Q:=
 ⟨α,env,h,s,w.mono fun d h' _ kk H' α' e r=>q d h' H' α' e (s.ext e r) kk⟩
def CI {nl:NL} [iD nl]{e:Rb}{me:ME}{lo hi:Option Rb}{ml mh:MO}{p2 pos:Pos} (he:PE X e (tM X.K g ε me)) (hl:PO X lo (tMO X.K g ε ml)) (hu:PO X hi (tMO X.K g ε mh)):PE X (.Subscript e (.Slice lo hi Wy p2) pos) (tM X.K g ε (rF nl me ml mh)):=
 PE.imp (PE.frz (BZ (SlR.or FQ (SlR.or HU Fj)) he hl hu)) fun σ H Q ⟨α,env,h,s,w⟩=>tM.use s w.bind fun d1 h1 v1 H1 α1 e1 s1 r1 w1=>tMO.use s1 (w1.ext e1).bind fun o2 h2 H2 α2 e2 s2 w2=>tMO.use s2 (w2.ext e2).bind fun o3 h3 H3 α3 e3 s3 w3=>by
  have tr:=e1.trans (e2.trans e3)
  have r3:=r1.ext (e2.trans e3)
  have w4:=(w3.ext e3).mono fun _ _ _ p=>aA.ext tr p
  unfold zd at w4
  cases r3 with
  | @frl ds p vs hq rs=>exact .inl ⟨_,_,rfl,hq.sq,fun l hl=>NL.post w4 s3.heap (jG rs _ _) hl⟩
  | @scr ds p vs hq rs=>exact .inl ⟨_,_,rfl,hq.sq,fun l hl=>NL.post w4 s3.heap (jG rs _ _) hl⟩
  | @ref n p hp=>
   cases e1:aq h3 n with
   | none=>simp only[e1] at w4;exact w4.elim
   | some ds=>
    simp only[e1] at w4
    obtain⟨vs,hv,rs⟩:=s3.heap.lst e1 hp
    exact .inl ⟨_,_,rfl,SqL.of hv,fun l hl=>NL.post w4 s3.heap (jG rs _ _) hl⟩
  | @tup ds p vs hq rs=>
   refine .inr ?_
   by_cases hw:HT.sIx vs.length 0 o2=0/\HT.sIx vs.length vs.length o3=vs.length
   ·refine .inr ⟨_,_,rfl,SqT.of hq,hw.1,hw.2,?_⟩
    refine aA.zE w4 s3.heap (.tup hq ?_)
    have:pq vs o2 o3=vs:=by unfold pq;simp_all
    have q:=jG rs o2 o3
    simp_all
   ·exact .inl ⟨_,_,rfl,SqT.of hq,hw,fun l hl=>.inl (aA.tup w4 s3.heap (jG rs _ _) hl)⟩
  | _=>exact w4.elim
end
abbrev d8:D->Bool
 | .non=>Wz | .bl _=>Wz | .int _=>Wz | .str _=>Wz
 | _=>WA
abbrev eqF:D->D->Bool
 | .non,.non=>Wz
 | .bl a,.bl b=>a == b
 | .bl a,.int b=>(if a then 1 else 0) == b
 | .int a,.bl b=>a == (if b then 1 else 0)
 | .int a,.int b=>a == b
 | .str a,.str b=>a == b
 | _,_=>WA
abbrev eqL (f:D->D->Option Bool):List D->List D->Option Bool
 | x::xs,y::ys=>match f x y,eqL f xs ys with
  | some b,Wx c=>Wx (b&&c)
  | _,_=>Wy
 | [],[]=>Wx Wz
 | _,_=>Wx WA
inductive Vw where
 | fl | tp (ds:List D) | ls (ds:List D) | no
abbrev vw (d:D) (h:Hh):Vw:=match d with
 | .non=>.fl | .bl _=>.fl | .int _=>.fl | .str _=>.fl
 | .tup ds=>.tp ds
 | .frl ds=>.ls ds
 | .scr ds=>.ls ds
 | .ref n=>match aq h n with
  | some ds=>.ls ds
  | none=>.no
 | _=>.no
abbrev eqD:Nat->Hh->D->D->Option Bool
 | 0,_,_,_=>Wy
 | k+1,h,a,b=>match vw a h,vw b h with
  | .fl,.fl=>Wx (eqF a b)
  | .tp xs,.tp ys=>eqL (eqD k h) xs ys
  | .ls xs,.ls ys=>if xs.length=ys.length then eqL (eqD k h) xs ys else Wx WA
  | .fl,.tp _=>Wx WA
  | .fl,.ls _=>Wx WA
  | .tp _,.fl=>Wx WA
  | .tp _,.ls _=>Wx WA
  | .ls _,.fl=>Wx WA
  | .ls _,.tp _=>Wx WA
  | _,_=>Wy
section
variable {K:Pk}{g:GG}{α:List PN}{H:Hp}{h:Hh}
def nX {f:D->D->Option Bool} (hf:∀a b x c,aC K g α H a x->aC K g α H b x->f a b=Wx c->c=Wz){xs ys:List D}{vs:List V}{c:Bool} (h1:ao K g α H xs vs) (h2:ao K g α H ys vs) (e:eqL f xs ys=Wx c):c=true:=by
 cases h1 with
 | nil=>cases h2;simp[eqL] at e;exact e
 | cons r t=>
  cases h2 with | cons r' t'=>
  unfold eqL at e
  split at e
  ·rename_i b c' h1 h2
   have e1:=hf _ _ _ _ r r' h1
   have e2:=nX hf t t' h2
   simp_all
  grind
def nV {d:D}{x:V} (rd:aC K g α H d x) (e:vw d h=.fl):d8 d=true:=by
 cases rd with
 | ref hp=>unfold vw at e;simp only at e;split at e<;>cases e
 | _=>first | rfl | cases e
def lh (rd:aC K g α H d x) (e:vw d h=.tp ds):∃p vs,x=.ref p/\SqT K H p vs/\ao K g α H ds vs:=by
 cases rd with
 | tup hp rs=>cases e;exact⟨_,_,rfl,SqT.of hp,rs⟩
 | ref hp=>unfold vw at e;grind
 | _=>cases e
def lC (r:aK K g α H h) (rd:aC K g α H d x) (e:vw d h=.ls ds):∃p vs,x=.ref p/\SqL K H p vs/\ao K g α H ds vs:=by
 cases rd with
 | frl hp rs=>cases e;exact⟨_,_,rfl,hp.sq,rs⟩
 | scr hp rs=>cases e;exact⟨_,_,rfl,hp.sq,rs⟩
 | @ref n p hp=>
  unfold vw at e
  simp only at e
  cases el:aq h n with
  | none=>simp_all
  | some ds'=>
   rw[el] at e;cases e
   obtain⟨vs,hv,rs⟩:=r.lst el hp
   exact⟨_,_,rfl,SqL.of hv,rs⟩
 | _=>cases e
def yc {f:D->D->Option Bool}:∀{xs ys:List D}{c:Bool},eqL f xs ys=Wx c →
  (∀(j:Nat) (x y:D),xs[j]?=Wx x->ys[j]?=Wx y->∃b,f x y=Wx b)/\c=((Py (min xs.length ys.length)).all (fun j=>((f (xs.getD j .non) (ys.getD j .non)).getD WA))&&xs.length == ys.length)
 | [],[],c,e=>by
  simp[eqL] at e
  simp[<- e]
 | [],_::_,c,e=>by
  simp[eqL] at e
  exact⟨fun j x y h=>by simp at h,by simp[<- e]⟩
 | _::_,[],c,e=>by
  simp[eqL] at e
  exact⟨fun j x y _ h=>by simp at h,by simp[<- e]⟩
 | x::xs,y::ys,c,e=>by
  unfold eqL at e
  split at e
  ·rename_i b c' h1 h2
   obtain⟨q1,q2⟩:=yc h2
   refine⟨fun j x' y' hx hy=>?_,?_⟩
   ·cases j with
    | zero=>simp at hx hy;subst hx hy;exact⟨b,h1⟩
    | succ j=>exact q1 j x' y' (by simpa using hx) (by simpa using hy)
   ·have e':=(QM e).symm
    rw[e',q2]
    have hm:min (x::xs).length (y::ys).length=min xs.length ys.length+1:=by simp[Nat.succ_min_succ]
    rw[hm,List.range_succ_eq_map,Th,List.all_map]
    have h0:(f ((x::xs).getD 0 .non) ((y::ys).getD 0 .non)).getD WA=b:=by
     show(f x y).getD WA=b
     rw[h1];rfl
    rw[h0]
    have hlen:((x::xs).length == (y::ys).length)=(xs.length == ys.length):={..}
    rw[hlen,Bool.and_assoc]
    rfl
  ·cases e
end
section
variable {X:Cx}{g:GG}{pins:List (PN × Obj)}{σ:St}{H:Hp}{s:Pr}{α:List PN}{h:Hh}
open PySem.SeqAt
def Fc {K:Pk} (ra:aC K g α H a x) (rb:aC K g α H b y) (ru:RelV x u) (rv:RelV y v) (fa:d8 a=Wz) (fb:d8 b=Wz) :
  QP A s u v (eqF a b)/\RcAt A s u v (eqF a b)/\VO A s u v (!eqF a b):=by
 cases ra with
 | non=>
  cases ru
  cases rb with
  | non=>cases rv;exact⟨.same _,.none_none,.none_none⟩
  | bl z=>cases rv;exact⟨.none_bool z,.none_bool z,.none_bool z⟩
  | int z=>obtain⟨t,rfl⟩:=rv;exact⟨.none_int z t,.none_int z t,.none_int z t⟩
  | str z=>obtain⟨t,rfl⟩:=rv;exact⟨.none_str z t,.none_str z t,.none_str z t⟩
  | _=>cases fb
 | bl q=>
  cases ru
  cases rb with
  | non=>cases rv;exact⟨.bool_none q,.bool_none q,.bool_none q⟩
  | bl z=>cases rv;exact⟨.bool_bool q z,.bool_bool q z,.bool_bool q z⟩
  | int z=>obtain⟨t,rfl⟩:=rv;exact⟨.bool_int q z t,.bool_int q z t,.bool_int q z t⟩
  | str z=>obtain⟨t,rfl⟩:=rv;exact⟨.bool_str q z t,.bool_str q z t,.bool_str q z t⟩
  | _=>cases fb
 | int q=>
  obtain⟨t',rfl⟩:=ru
  cases rb with
  | non=>cases rv;exact⟨.int_none q t',.int_none q t',.int_none q t'⟩
  | bl z=>cases rv;exact⟨.int_bool q t' z,.int_bool q t' z,.int_bool q t' z⟩
  | int z=>obtain⟨t,rfl⟩:=rv;exact⟨.int_int q t' z t,.int_int q t' z t,.int_int q t' z t⟩
  | str z=>obtain⟨t,rfl⟩:=rv;exact⟨.int_str q t' z t,.int_str q t' z t,.int_str q t' z t⟩
  | _=>cases fb
 | str q=>
  obtain⟨t',rfl⟩:=ru
  cases rb with
  | non=>cases rv;exact⟨.str_none q t',.str_none q t',.str_none q t'⟩
  | bl z=>cases rv;exact⟨.str_bool q t' z,.str_bool q t' z,.str_bool q t' z⟩
  | int z=>obtain⟨t,rfl⟩:=rv;exact⟨.str_int q t' z t,.str_int q t' z t,.str_int q t' z t⟩
  | str z=>obtain⟨t,rfl⟩:=rv;exact⟨.str_str q t' z t,.str_str q t' z t,.str_str q t' z t⟩
  | _=>cases fb
 | _=>cases fa
def tR {K:Pk} (ht:s.heap.IsTuple p its) (hu:A.units<cLine) (rb:aC K g α H b y) (rv:RelV y v) (fb:d8 b=Wz) :
  (QP A s (.ref p) v WA/\RcAt A s (.ref p) v WA/\VO A s (.ref p) v Wz)/\(QP A s v (.ref p) WA/\RcAt A s v (.ref p) WA/\VO A s v (.ref p) Wz):=by
 cases rb with
 | non=>cases rv;exact⟨⟨.tuple_none ht hu,.tuple_none ht hu,.tuple_none ht hu⟩,.none_tuple ht hu,.none_tuple ht hu,.none_tuple ht hu⟩
 | bl z=>cases rv;exact⟨⟨.tuple_bool z ht hu,.tuple_bool z ht hu,.tuple_bool z ht hu⟩,.bool_tuple z ht hu,.bool_tuple z ht hu,.bool_tuple z ht hu⟩
 | int z=>obtain⟨t,rfl⟩:=rv;exact⟨⟨.tuple_int z t ht hu,.tuple_int z t ht hu,.tuple_int z t ht hu⟩,.int_tuple z t ht hu,.int_tuple z t ht hu,.int_tuple z t ht hu⟩
 | str z=>obtain⟨t,rfl⟩:=rv;exact⟨⟨.tuple_str z t ht hu,.tuple_str z t ht hu,.tuple_str z t ht hu⟩,.str_tuple z t ht hu,.str_tuple z t ht hu,.str_tuple z t ht hu⟩
 | _=>cases fb
def sT {K:Pk} (ht:s.heap.IsList p its) (hu:A.units<cLine) (rb:aC K g α H b y) (rv:RelV y v) (fb:d8 b=Wz) :
  (QP A s (.ref p) v WA/\RcAt A s (.ref p) v WA/\VO A s (.ref p) v Wz)/\(QP A s v (.ref p) WA/\RcAt A s v (.ref p) WA/\VO A s v (.ref p) Wz):=by
 cases rb with
 | non=>cases rv;exact⟨⟨.list_none ht hu,.list_none ht hu,.list_none ht hu⟩,.none_list ht hu,.none_list ht hu,.none_list ht hu⟩
 | bl z=>cases rv;exact⟨⟨.list_bool z ht hu,.list_bool z ht hu,.list_bool z ht hu⟩,.bool_list z ht hu,.bool_list z ht hu,.bool_list z ht hu⟩
 | int z=>obtain⟨t,rfl⟩:=rv;exact⟨⟨.list_int z t ht hu,.list_int z t ht hu,.list_int z t ht hu⟩,.int_list z t ht hu,.int_list z t ht hu,.int_list z t ht hu⟩
 | str z=>obtain⟨t,rfl⟩:=rv;exact⟨⟨.list_str z t ht hu,.list_str z t ht hu,.list_str z t ht hu⟩,.str_list z t ht hu,.str_list z t ht hu,.str_list z t ht hu⟩
 | _=>cases fb
def sN {A:P9}{k:Nat}{ds es:List D}{vs us:List V}{its jts:List Pp}{c:Bool} (r:aK X.K g α H h)
  (ih:∀(a b:D) (x y:V) (u v:Pp) (c:Bool),aC X.K g α H a x->aC X.K g α H b y->RelV x u->RelV y v->eqD k h a b=Wx c->QP A.in1 s u v c)
  (rs:ao X.K g α H ds vs) (rt:ao X.K g α H es us) (rv:Vals vs its) (ru:Vals us jts) (e:eqL (eqD k h) ds es=Wx c) :
  (∀j (h1:j<its.toArray.size) (h2:j<jts.toArray.size),QP A.in1 s its.toArray[j] jts.toArray[j] ((fun(j:Nat)=>(eqD k h (ds.getD j .non) (es.getD j .non)).getD WA) j)) ∧
  c=((Py (min its.toArray.size jts.toArray.size)).all (fun(j:Nat)=>(eqD k h (ds.getD j .non) (es.getD j .non)).getD WA)&&its.toArray.size == jts.toArray.size):=by
 obtain⟨q1,q2⟩:=yc e
 have l1:its.toArray.size=ds.length:=by rw[Qo,<- rv.length,rs.length]
 have l2:jts.toArray.size=es.length:=by rw[Qo,<- ru.length,rt.length]
 refine⟨fun j h1 h2=>?_,by rw[l1,l2];exact q2⟩
 have hd:ds[j]?=Wx (ds.getD j .non):=by rw[RN,Pz {}];rfl
 have he:es[j]?=Wx (es.getD j .non):=by rw[RN,Pz {}];rfl
 obtain⟨b,hb⟩:=q1 j _ _ hd he
 obtain⟨x,hx,rx⟩:=rs.get hd
 obtain⟨y,hy,ry⟩:=rt.get he
 obtain⟨u,hu,rxu⟩:=rv.get hx
 obtain⟨v,hv,ryv⟩:=ru.get hy
 have eu:its.toArray[j]=u:=by
  have:=Pz (by simpa using h1)
  rw[hu] at this
  simpa using(QM this).symm
 have ev:jts.toArray[j]=v:=by
  have:=Pz (by simpa using h2)
  rw[hv] at this
  simpa using(QM this).symm
 rw[eu,ev]
 show QP A.in1 s u v ((eqD k h (ds.getD j .non) (es.getD j .non)).getD WA)
 rw[hb]
 exact ih _ _ _ _ _ _ _ rx ry rxu ryv hb
def yA (I:Inv X pins σ H s) (a:SqT X.K H p vs) (b:SqL X.K H p us):False:=by
 obtain⟨its,r1,⟨o,e,c,_⟩,_⟩:=I.tuple a
 obtain⟨jts,r2,⟨o',n',e',c',_⟩,_⟩:=I.list b
 simp_all
def mK (I:Inv X pins σ H s) (r:aK X.K g α H h):∀(k:Nat) (a b:D) (x:V) (c:Bool),aC X.K g α H a x->aC X.K g α H b x->eqD k h a b=Wx c->c=Wz
 | 0,_,_,_,_,_,_,e=>by cases e
 | k+1,a,b,x,c,ra,rb,e=>by
  unfold eqD at e
  cases ea:vw a h with
  | no=>simp_all
  | fl=>
   have fa:=nV ra ea
   cases eb:vw b h with
   | no=>simp_all
   | fl=>
    simp only[ea,eb] at e
    cases e
    cases ra with
    | non=>cases rb with
     | non=>rfl
    | bl z=>cases rb with
     | bl _=>simp[eqF]
    | int z=>cases rb with
     | int _=>simp[eqF]
    | str z=>cases rb with
     | str _=>simp[eqF]
    | _=>cases fa
   | tp ds=>obtain⟨p,vs,rfl,_⟩:=lh rb eb;cases ra<;>cases fa
   | ls ds=>obtain⟨p,vs,rfl,_⟩:=lC r rb eb;cases ra<;>cases fa
  | tp da=>
   obtain⟨p,va,rfl,hp,rs⟩:=lh ra ea
   cases eb:vw b h with
   | no=>simp_all
   | fl=>have fb:=nV rb eb;cases rb<;>cases fb
   | tp db=>
    simp only[ea,eb] at e
    obtain⟨q,vb,hpq,hq,rt⟩:=lh rb eb
    cases hpq
    have:=I.kL hp hq
    subst this
    exact nX (fun a b x c=>mK I r k a b x c) rs rt e
   | ls db=>
    obtain⟨q,vb,hpq,hq,rt⟩:=lC r rb eb
    cases hpq
    exact(yA I hp hq).elim
  | ls da=>
   obtain⟨p,va,rfl,hp,rs⟩:=lC r ra ea
   cases eb:vw b h with
   | no=>simp_all
   | fl=>have fb:=nV rb eb;cases rb<;>cases fb
   | tp db=>
    obtain⟨q,vb,hpq,hq,rt⟩:=lh rb eb
    cases hpq
    exact(yA I hq hp).elim
   | ls db=>
    simp only[ea,eb] at e
    obtain⟨q,vb,hpq,hq,rt⟩:=lC r rb eb
    cases hpq
    have:=I.nM hp hq
    subst this
    rw[if_pos (by rw[rs.length,rt.length])] at e
    exact nX (fun a b x c=>mK I r k a b x c) rs rt e
def wM (I:Inv X pins σ H s) (r:aK X.K g α H h):∀(k:Nat) (A:P9) (a b:D) (x y:V) (u v:Pp) (c:Bool),A.units+k<cLine->aC X.K g α H a x->aC X.K g α H b y->RelV x u->RelV y v->eqD k h a b=Wx c →
  QP A s u v c/\RcAt A s u v c/\VO A s u v (!c)
 | 0,_,_,_,_,_,_,_,_,_,_,_,_,_,e=>by cases e
 | k+1,A,a,b,x,y,u,v,c,hu,ra,rb,ru,rv,e=>by
  have hu0:A.units<cLine:={}
  have ih:∀(a b:D) (x y:V) (u v:Pp) (c:Bool),aC X.K g α H a x->aC X.K g α H b y->RelV x u->RelV y v->eqD k h a b=Wx c->QP A.in1 s u v c:=
   fun a b x y u v c h1 h2 h3 h4 h5=>(wM I r k A.in1 a b x y u v c (by grind) h1 h2 h3 h4 h5).1
  have whole:=fun x ra rb=>mK I r (k+1) a b x c ra rb e
  unfold eqD at e
  cases ea:vw a h with
  | no=>simp_all
  | fl=>
   have fa:=nV ra ea
   cases eb:vw b h with
   | no=>simp_all
   | fl=>simp only[ea,eb] at e;cases e;exact Fc ra rb ru rv fa (nV rb eb)
   | tp db=>
    simp only[ea,eb] at e;cases e
    obtain⟨q,vb,rfl,hq,rt⟩:=lh rb eb
    cases rv
    obtain⟨its,r1,ht,_⟩:=I.tuple hq
    exact(tR ht hu0 ra ru fa).2
   | ls db=>
    simp only[ea,eb] at e;cases e
    obtain⟨q,vb,rfl,hq,rt⟩:=lC r rb eb
    cases rv
    obtain⟨its,r1,ht,_⟩:=I.list hq
    exact(sT ht.isList hu0 ra ru fa).2
  | tp da=>
   obtain⟨p,va,rfl,hp,rs⟩:=lh ra ea
   cases ru
   obtain⟨its,r1,ht,_⟩:=I.tuple hp
   cases eb:vw b h with
   | no=>simp_all
   | fl=>simp only[ea,eb] at e;cases e;exact(tR ht hu0 rb rv (nV rb eb)).1
   | tp db=>
    simp only[ea,eb] at e
    obtain⟨q,vb,rfl,hq,rt⟩:=lh rb eb
    cases rv
    obtain⟨jts,r2,ht2,_⟩:=I.tuple hq
    obtain⟨h1,h2⟩:=sN r ih rs rt r1 r2 e
    have rc:RcAt A s (.ref p) (.ref q) c:=by rw[h2];exact RcAt.tuples ht ht2 hu0 h1
    refine⟨?_,rc,by rw[h2];exact VO.tuples ht ht2 hu0 h1⟩
    by_cases hpq:p=q
    ·subst hpq
     rw[whole _ ra rb]
     exact .same _
    ·exact .of_refs hpq rc
   | ls db=>
    simp only[ea,eb] at e;cases e
    obtain⟨q,vb,rfl,hq,rt⟩:=lC r rb eb
    cases rv
    obtain⟨jts,r2,ht2,_⟩:=I.list hq
    exact⟨.tuple_list ht ht2.isList hu0,.tuple_list ht ht2.isList hu0,.tuple_list ht ht2.isList hu0⟩
  | ls da=>
   obtain⟨p,va,rfl,hp,rs⟩:=lC r ra ea
   cases ru
   obtain⟨its,r1,ht',_⟩:=I.list hp
   have ht:=ht'.isList
   cases eb:vw b h with
   | no=>simp_all
   | fl=>simp only[ea,eb] at e;cases e;exact(sT ht hu0 rb rv (nV rb eb)).1
   | tp db=>
    simp only[ea,eb] at e;cases e
    obtain⟨q,vb,rfl,hq,rt⟩:=lh rb eb
    cases rv
    obtain⟨jts,r2,ht2,_⟩:=I.tuple hq
    exact⟨.list_tuple ht ht2 hu0,.list_tuple ht ht2 hu0,.list_tuple ht ht2 hu0⟩
   | ls db=>
    simp only[ea,eb] at e
    obtain⟨q,vb,rfl,hq,rt⟩:=lC r rb eb
    cases rv
    obtain⟨jts,r2,ht2',_⟩:=I.list hq
    have ht2:=ht2'.isList
    have l1:its.toArray.size=da.length:=by rw[Qo,<- r1.length,rs.length]
    have l2:jts.toArray.size=db.length:=by rw[Qo,<- r2.length,rt.length]
    have fin:RcAt A s (.ref p) (.ref q) c/\VO A s (.ref p) (.ref q) (!c):=by
     by_cases hl:da.length=db.length
     ·rw[if_pos hl] at e
      obtain⟨h1,h2⟩:=sN r ih rs rt r1 r2 e
      have hsz:its.toArray.size=jts.toArray.size:={}
      have h2':c=(Py its.toArray.size).all (fun(j:Nat)=>(eqD k h (da.getD j .non) (db.getD j .non)).getD WA):=by
       simp_all
      exact⟨by rw[h2'];exact RcAt.lists ht ht2 hsz hu0 h1,by rw[h2'];exact VO.lists ht ht2 hsz hu0 h1⟩
     ·rw[if_neg hl] at e
      have e2:c=false:=(QM e).symm
      have hsz:(its.toArray.size != jts.toArray.size)=true:=by
       simp_all
      rw[e2]
      exact⟨RcAt.lists_lengths ht ht2 hsz hu0,VO.lists_lengths ht ht2 hsz hu0⟩
    refine⟨?_,fin⟩
    by_cases hpq:p=q
    ·subst hpq
     rw[whole _ ra rb]
     exact .same _
    ·exact .of_refs hpq fin.1
@[inline]abbrev eqN:Nat:=12
abbrev dEq:D->D->Hh->R D:=fun a b h=>match eqD eqN h a b with
 | some c=>.ok (.bl c) h
 | none=>.bad
abbrev dNe:D->D->Hh->R D:=fun a b h=>match eqD eqN h a b with
 | some c=>.ok (.bl (!c)) h
 | none=>.bad
abbrev DQ (K:Pk) (g:GG) (neg:Bool):R2:=fun x y H Q=>∃α h a b c,aK K g α H h/\aC K g α H a x/\aC K g α H b y/\eqD eqN h a b=Wx c/\Q (.bl (if neg then !c else c)) H
def i5 (hu:X.A.units+64<cLine):OpR X (compareOp .Eq) (DQ X.K g WA):=by
 intro pins s σ H x y v u Q I rx ry ⟨α,h,a,b,c,r,ra,rb,e,q⟩
 exact(wM I r eqN X.A a b x y v u c (by grind) ra rb rx ry e).2.1 _ _ _ _ ⟨.bl c,H,I,rfl,q⟩
def j8 (hu:X.A.units+64<cLine):OpR X (compareOp .NotEq) (DQ X.K g Wz):=by
 intro pins s σ H x y v u Q I rx ry ⟨α,h,a,b,c,r,ra,rb,e,q⟩
 exact(wM I r eqN X.A a b x y v u c (by grind) ra rb rx ry e).2.2 _ _ _ _ ⟨.bl (!c),H,I,rfl,q⟩
def nz {K:Pk}:dw K g ε dEq (DQ K g WA):=by
 intro α H h a b x y Q r ra rb w
 unfold dEq at w
 cases e:eqD eqN h a b with
 | none=>simp only[e] at w;exact w.elim
 | some c=>simp only[e] at w;exact⟨α,h,a,b,c,r,ra,rb,e,aA.now w r (.bl _)⟩
def qp {K:Pk}:dw K g ε dNe (DQ K g Wz):=by
 intro α H h a b x y Q r ra rb w
 unfold dNe at w
 cases e:eqD eqN h a b with
 | none=>simp only[e] at w;exact w.elim
 | some c=>simp only[e] at w;exact⟨α,h,a,b,c,r,ra,rb,e,aA.now w r (.bl _)⟩
end
abbrev cZ (f:D->Option Vu):List D->Option (List Vu)
 | []=>Wx []
 | d::ds=>match f d,cZ f ds with
  | some p,Wx ps=>Wx (p::ps)
  | _,_=>Wy
abbrev toPy:Nat->Hh->D->Option Vu
 | 0,_,_=>Wy
 | k+1,h,d=>match d with
  | .non=>Wx .none
  | .bl b=>Wx (.bool b)
  | .int i=>if sml i=Wz then Wx (.int i) else Wy
  | .str x=>if x.cps.toList.all (fun c=>decide (c<16 ^ 8))=Wz then Wx (.str x) else Wy
  | .tup ds=>(cZ (toPy k h) ds).map .tuple
  | .frl ds=>(cZ (toPy k h) ds).map .list
  | .ref n=>match aq h n with
   | some ds=>(cZ (toPy k h) ds).map .list
   | none=>Wy
  | _=>Wy
structure KR (k) (d:Vu):Prop where
 sh:d.showable=true
 nd:d.hasDict=false
 dp:d.depth<=k
 lv:d.leavesShort 1921=true
structure Kf (k) (ds):Prop where
 sh:UA ds=true
 nd:UQ ds=false
 dp:Vj ds<=k
 lv:T5 1921 ds=true
section
variable {K:Pk}{g:GG}{α:List PN}{H:Hp}{h:Hh}
def jR {f:D->Option Vu}{k:Nat} (hf:∀d x p,aC K g α H d x->f d=Wx p->RdD K H x p/\KR k p):∀{ds:List D}{vs:List V}{ps:List Vu},ao K g α H ds vs->cZ f ds=Wx ps →
  Kf k ps/\vs.length=ps.length/\∀(i:Nat) x d,vs[i]?=Wx x->ps[i]?=Wx d->RdD K H x d
 | _,_,_,.nil,e=>by
  cases e
  exact⟨⟨by simp[UA],by simp[UQ],by simp[Vj],by simp[T5]⟩,rfl,fun i x d h=>by simp at h⟩
 | _,_,_,.cons r t,e=>by
  unfold cZ at e
  split at e
  ·rename_i p ps h1 h2
   cases e
   obtain⟨a1,a2⟩:=hf _ _ _ r h1
   obtain⟨b1,b2,b3⟩:=jR hf t h2
   refine⟨⟨by rw[UA,a2.sh,b1.sh];rfl,by rw[UQ,a2.nd,b1.nd];rfl,by rw[Vj];exact Nat.max_le.mpr ⟨a2.dp,b1.dp⟩,by rw[T5,a2.lv,b1.lv];rfl⟩,by simp[b2],fun i x d hx hd=>?_⟩
   cases i with
   | zero=>simp at hx hd;subst hx hd;exact a1
   | succ i=>exact b3 i x d (by simpa using hx) (by simpa using hd)
  ·cases e
def mC (r:aK K g α H h):∀(k:Nat) (d:D) (x:V) (p:Vu),aC K g α H d x->toPy k h d=Wx p->RdD K H x p/\KR k p
 | 0,_,_,_,_,e=>by cases e
 | k+1,d,x,p,rd,e=>by
  unfold toPy at e
  cases rd with
  | non=>cases e;exact⟨.non,by rfl,by rfl,by simp[S6],by rfl⟩
  | bl b=>cases e;exact⟨.bl b,by rfl,by rfl,by simp[S6],by rfl⟩
  | int i=>
   simp only at e
   split at e
   ·rename_i hs
    cases e
    have hl:i.natAbs.log2<1920:=S5 (rM hs) (by decide)
    exact⟨.int i,by simp[Up,hl],by rfl,by simp[S6],by simp only[Tn,decide_eq_true_eq];exact int_text_len_1921 hl⟩
   grind
  | str z=>
   simp only at e
   split at e
   ·rename_i hs
    cases e
    exact⟨.str z,by rfl,by rfl,by simp[S6],by assumption⟩
   grind
  | tup hp rs=>
   simp only at e
   cases e1:cZ (toPy k h) _ with
   | none=>rw[e1] at e;cases e
   | some ps=>
    rw[e1] at e
    cases e
    obtain⟨b1,b2,b3⟩:=jR (fun d x p=>mC r k d x p) rs e1
    exact⟨.tup (SqT.of hp) b2 b3,by rw[Up];exact b1.sh,by rw[Vx];exact b1.nd,by rw[S6];exact U7 b1.dp,by rw[Tn];exact b1.lv⟩
  | @ref n p hp=>
   simp only at e
   cases el:aq h n with
   | none=>simp_all
   | some ds=>
    rw[el] at e
    simp only at e
    obtain⟨vs,hv,rs⟩:=r.lst el hp
    cases e1:cZ (toPy k h) ds with
    | none=>simp_all
    | some ps=>
     rw[e1] at e
     cases e
     obtain⟨b1,b2,b3⟩:=jR (fun d x p=>mC r k d x p) rs e1
     exact⟨.lst (SqL.of hv) b2 b3,by rw[Up];exact b1.sh,by rw[Vx];exact b1.nd,by rw[S6];exact U7 b1.dp,by rw[Tn];exact b1.lv⟩
  | frl hp rs=>
   simp only at e
   cases e1:cZ (toPy k h) _ with
   | none=>rw[e1] at e;cases e
   | some ps=>
    rw[e1] at e
    cases e
    obtain⟨b1,b2,b3⟩:=jR (fun d x p=>mC r k d x p) rs e1
    exact⟨.lst hp.sq b2 b3,by rw[Up];exact b1.sh,by rw[Vx];exact b1.nd,by rw[S6];exact U7 b1.dp,by rw[Tn];exact b1.lv⟩
  | fn _=>cases e
  | edic _=>cases e
  | exc _ _ _ _ _=>cases e
  | clo=>cases e
  | scr _ _=>cases e
end
abbrev jW (d:D) (h:Hh):R D:=match toPy 12 h d with
 | some p=>if p.bulk<=8000 then .ok (.str p.shown) h else .bad
 | none=>.bad
abbrev dv:List D->Hh->R D:=fun ds h=>match ds with
 | [.int i]=>if sml i=Wz then .ok (.str (toString i)) h else .bad
 | [.tup ds]=>jW (.tup ds) h
 | [.ref n]=>jW (.ref n) h
 | [.frl ds]=>jW (.frl ds) h
 | _=>.bad
section
variable {X:Cx}{K:Pk}{g:GG}{ε:EE}
@[inline]abbrev wN (K:Pk):List V->Hp->VK->Prop:=fun vs H Q=>(∃p d,vs=[.ref p]/\RdD K H (.ref p) d/\d.showable=Wz/\d.hasDict=WA/\d.depth<=60/\d.shown.length<=sizeLine/\Q (.str d.shown) H)\/∃i,vs=[.int i]/\i.natAbs.log2<1920/\Q (.str (toString i)) H
def iw (hg:X.A.guards=Wx []) (hu:X.A.units+64<cLine):aV X (.builtin "repr") (wN X.K):=aV.or (Ao hg hu) wL
def ip:j7 K g ε dv (wN K):=by
 intro α H h a x Q r ra w
 cases ra with
 | nil=>exact w.elim
 | cons rd rr=>
  cases rr with
  | cons _ _=>cases rd<;>exact w.elim
  | nil=>
   have gen:∀{d:D} {v:V},aC K g α H d v->(∃p,v=.ref p)->WQ K g ε α H (jW d h) (aA K g α H Q)->wN K [v] H Q:=by
    intro d v rd ⟨p,hp⟩ w
    subst hp
    unfold jW at w
    cases e:toPy 12 h d with
    | none=>simp only[e] at w;exact w.elim
    | some pd=>
     simp only[e] at w
     obtain⟨hb,w⟩:=WQ.cO w
     obtain⟨q1,q2⟩:=mC r 12 d _ pd rd e
     have:=Vu.shown_le_bulk 1921 (by decide) pd q2.lv
     exact .inl ⟨p,pd,rfl,q1,q2.sh,q2.nd,P7 q2.dp (by decide),by rw[QN];lia,aA.now w r (.str _)⟩
   cases rd with
   | int i=>
    obtain⟨hs,w⟩:=WQ.cO w
    exact .inr ⟨i,rfl,S5 (rM hs) (by decide),aA.now w r (.str _)⟩
   | tup hp rs=>exact gen (.tup hp rs) ⟨_,rfl⟩ w
   | ref hp=>exact gen (.ref hp) ⟨_,rfl⟩ w
   | frl hp rs=>exact gen (.frl hp rs) ⟨_,rfl⟩ w
   | _=>exact w.elim
abbrev cU:List D->Hh->R D:=fun ds h=>match ds with
 | [.tup ds]=>.ok (.int ds.length) h
 | [.frl ds]=>.ok (.int ds.length) h
 | [.scr ds]=>.ok (.int ds.length) h
 | [.str x]=>if x.length<=1000000 then .ok (.int x.length) h else .bad
 | [.ref n]=>match h[n]? with
  | some (.lst ds)=>.ok (.int ds.length) h
  | some (.set k)=>.ok (.int k.length) h
  | _=>.bad
 | _=>.bad
@[inline]abbrev Gs (K:Pk):List V->Hp->VK->Prop:=fun xs H Q=>(∃p ys,xs=[.ref p]/\(SqL K H p ys\/SqT K H p ys)/\Q (.int ys.length) H)\/(∃p S n,xs=[.ref p]/\H p=Wx (.set S n)/\Q (.int n) H)\/∃z,xs=[.str z]/\z.length<=sizeLine/\Q (.int z.length) H
def cR:aV X (.builtin "len") (Gs X.K):=aV.or qL (aV.or oF sj)
def kB {f:List D->Hh->R D} (hf:∀d e r h,f (d::e::r) h=.bad) (hf0:∀h,f [] h=.bad) (rs:ao K g α H ds vs) (w:WQ K g ε α H (f ds h) (aA K g α H Q)):∃d v,ds=[d]/\vs=[v]/\aC K g α H d v:=by
 cases rs with
 | nil=>rw[hf0] at w;exact w.elim
 | cons r t=>
  cases t with
  | nil=>simp_all
  | cons _ _=>rw[hf] at w;exact w.elim
def cS:j7 K g ε cU (Gs K):=by
 intro α H h a x Q r ra w
 obtain⟨d,v,rfl,rfl,rd⟩:=kB (fun d _ _ _=>by cases d<;>rfl) (fun _=>rfl) ra w
 unfold cU at w
 cases rd with
 | tup hp rs=>exact .inl ⟨_,_,rfl,.inr (SqT.of hp),aA.now w r (by rw[<- rs.length];exact .int _)⟩
 | frl hp rs=>exact .inl ⟨_,_,rfl,.inl hp.sq,aA.now w r (by rw[<- rs.length];exact .int _)⟩
 | scr hp rs=>exact .inl ⟨_,_,rfl,.inl hp.sq,aA.now w r (by rw[<- rs.length];exact .int _)⟩
 | str z=>
  obtain⟨hl,w⟩:=WQ.cO w
  exact .inr (.inr ⟨z,rfl,fj hl,aA.now w r (.int _)⟩)
 | @ref n p hp=>
  simp only at w
  cases e:h[n]? with
  | none=>rw[e] at w;exact w.elim
  | some o=>
   rw[e] at w
   have q:=r.here n p o hp e
   cases o with
   | lst ds=>obtain⟨vs,hv,rs⟩:=q;exact .inl ⟨p,vs,rfl,.inl (SqL.of hv),aA.now w r (by rw[<- rs.length];exact .int _)⟩
   | set k=>exact .inr (.inl ⟨p,_,_,rfl,q,aA.now w r (.int _)⟩)
   | dic k=>exact w.elim
   | dit k=>exact w.elim
 | _=>exact w.elim
abbrev dList (nl:NL):List D->Hh->R D:=fun ds h=>match ds with
 | [d]=>match eJ d h with
  | some xs=>nl xs h
  | none=>.bad
 | _=>.bad
abbrev mM:List D->Hh->R D:=fun ds h=>match ds with
 | [.tup ds]=>.ok (.tup ds) h
 | [.frl ds]=>.ok (.tup ds) h
 | [.ref n]=>match aq h n with
  | some ds=>.ok (.tup ds) h
  | none=>.bad
 | _=>.bad
def C7:j7 K g ε mM (fun xs H Q=>∃p ys,xs=[.ref p]/\((SqL K H p ys/\∀l,H l=Wy->Q (.ref l) (upd H l (.tup ys)))\/(SqT K H p ys/\Q (.ref p) H))):=by
 intro α H h a x Q r ra w
 obtain⟨d,v,rfl,rfl,rd⟩:=kB (fun d _ _ _=>by cases d<;>rfl) (fun _=>rfl) ra w
 unfold mM at w
 cases rd with
 | tup hp rs=>exact⟨_,_,rfl,.inr ⟨SqT.of hp,aA.now w r (.tup hp rs)⟩⟩
 | frl hp rs=>exact⟨_,_,rfl,.inl ⟨hp.sq,fun l hl=>aA.tup w r rs hl⟩⟩
 | @ref n p hp=>
  simp only at w
  cases e:aq h n with
  | none=>rw[e] at w;exact w.elim
  | some ds=>
   rw[e] at w
   obtain⟨vs,hv,rs⟩:=r.lst e hp
   exact⟨p,vs,rfl,.inl ⟨SqL.of hv,fun l hl=>aA.tup w r rs hl⟩⟩
 | _=>exact w.elim
abbrev intsOf:List D->Option (List Int)
 | []=>Wx []
 | .int i::ds=>(intsOf ds).map (i::·)
 | _::_=>Wy
def dO:∀{ds:List D}{ns:List Int},intsOf ds=Wx ns->ds=ns.map D.int
 | [],ns,e=>by cases e;rfl
 | .int i::ds,ns,e=>by
  unfold intsOf at e
  cases e1:intsOf ds with
  | none=>simp_all
  | some ms=>rw[e1] at e;cases e;rw[dO e1];rfl
 | .non::_,_,e=>by cases e
 | .bl _::_,_,e=>by cases e
 | .str _::_,_,e=>by cases e
 | .tup _::_,_,e=>by cases e
 | .frl _::_,_,e=>by cases e
 | .ref _::_,_,e=>by cases e
 | .fn _::_,_,e=>by cases e
 | .edic::_,_,e=>by cases e
 | .exc _ _::_,_,e=>by cases e
 | .clo _ _::_,_,e=>by cases e
 | .scr _::_,_,e=>by cases e
def fV:∀(ns:List Int),intsOf (ns.map D.int)=Wx ns
 | []=>rfl
 | n::r=>by rw[PC,intsOf,fV r];rfl
abbrev CM:List D->Hh->R D:=fun ds h=>match ds with
 | [.int i,.int j]=>.ok (.int (if j > i then j else i)) h
 | _=>.bad
def Dm {t:Int->Int->Int} (r:aK K g α H h) (rs:ao K g α H ds vs) (w:WQ K g ε α H (match ds with | [.int i,.int j]=>.ok (.int (t i j)) h | _=>.bad) (aA K g α H Q)):∃i j,vs=[.int i,.int j]/\Q (.int (t i j)) H:=by
 split at w
 ·cases rs with
  | cons r1 t1=>
   cases r1
   cases t1 with
   | cons r2 t2=>
    cases r2
    cases t2
    exact⟨_,_,rfl,aA.now w r (.int _)⟩
 ·exact w.elim
def Fh:j7 K g ε CM (fun xs H Q=>∃i j,xs=[.int i,.int j]/\Q (.int (if j > i then j else i)) H):=fun α H h a x Q r ra w=>Dm r ra w
abbrev z9:List D->Hh->R D:=fun ds h=>match ds with
 | [.int i]=>.ok (.int i) h
 | [.bl b]=>.ok (.int (if b then 1 else 0)) h
 | _=>.bad
def B6:j7 K g ε z9 (fun xs H Q=>(∃i,xs=[.int i]/\Q (.int i) H)\/∃k,xs=[.bl k]/\Q (.int (if k then 1 else 0)) H):=by
 intro α H h a x Q r ra w
 obtain⟨d,v,rfl,rfl,rd⟩:=kB (fun d _ _ _=>by cases d<;>rfl) (fun _=>rfl) ra w
 cases rd with
 | int i=>exact .inl ⟨i,rfl,aA.now w r (.int _)⟩
 | bl b=>exact .inr ⟨b,rfl,aA.now w r (.int _)⟩
 | _=>exact w.elim
abbrev tyD (d:D) (h:Hh):Option String:=match d with
 | .non=>Wx "NoneType"
 | .bl _=>Wx "bool"
 | .int _=>Wx "int"
 | .str _=>Wx "str"
 | .tup _=>Wx "tuple"
 | .frl _=>Wx "list"
 | .edic=>Wx "dict"
 | .ref n=>match h[n]? with
  | some (.lst _)=>Wx "list"
  | some (.dic _)=>Wx "dict"
  | some (.dit _)=>Wx "dict"
  | _=>Wy
 | _=>Wy
abbrev yV (t n:String):Option Bool:=
 if n="int" then (if t="int" then Wx Wz else if t="bool" then Wx Wz else if t="NoneType" \/ t="str" \/ t="tuple" \/ t="list" \/ t="dict" then Wx WA else Wy)
 else if n="bool" \/ n="tuple" \/ n="list" \/ n="str" then (if t=n then Wx Wz else if t="int" \/ t="bool" \/ t="NoneType" \/ t="str" \/ t="tuple" \/ t="list" \/ t="dict" then Wx WA else Wy)
 else Wy
abbrev fA (n:String):D->Hh->R D:=fun d h=>match tyD d h with
 | some t=>match yV t n with
  | some b=>.ok (.bl b) h
  | none=>.bad
 | none=>.bad
def Lg (r:aK K g α H h) (rd:aC K g α H d v) (e:tyD d h=Wx t):i_ K H v (.type t):=by
 unfold tyD at e
 cases rd with
 | non=>cases e;exact .non
 | bl b=>cases e;exact .bl b
 | int i=>cases e;exact .int i
 | str i=>cases e;exact .str i
 | tup hp rs=>cases e;exact .tup hp
 | frl hp rs=>cases e;obtain⟨o,hp⟩:=hp;exact .frz hp
 | edic hp=>cases e;exact .eC hp
 | @ref n p hp=>
  simp only at e
  cases eo:h[n]? with
  | none=>simp_all
  | some o=>
   rw[eo] at e
   have q:=r.here n p o hp eo
   cases o with
   | lst ds=>cases e;obtain⟨vs,hv,_⟩:=q;exact .lst hv
   | set k=>cases e
   | dic k=>cases e;obtain⟨vs,hv,_⟩:=q;exact .dK hv
   | dit k=>cases e;obtain⟨vs,hv,_⟩:=q;exact .dT hv
 | _=>cases e
def Fp (K):Q9 K (.type "int") (.type "int")=Wx Wz/\Q9 K (.type "bool") (.type "int")=Wx Wz/\Q9 K (.type "NoneType") (.type "int")=Wx WA/\Q9 K (.type "str") (.type "int")=Wx WA
  /\ Q9 K (.type "tuple") (.type "int")=Wx WA/\Q9 K (.type "list") (.type "int")=Wx WA/\Q9 K (.type "dict") (.type "int")=Wx false:=⟨rfl,rfl,rfl,rfl,rfl,rfl,rfl⟩
def HZ (e:yV t n=Wx b):Q9 K (.type t) (.type n)=Wx b:=by
 unfold yV at e
 obtain⟨a1,a2,a3,a4,a5,a6,a7⟩:=Fp K
 split at e
 ·grind
 ·split at e
  ·rename_i hn
   split at e
   ·rename_i h;subst h;rcases hn with rfl | rfl | rfl | rfl<;>assumption
   ·rename_i hne
    split at e
    ·rename_i h;rcases hn with rfl | rfl | rfl | rfl<;>rcases h with rfl | rfl | rfl | rfl | rfl | rfl | rfl<;>first | assumption | simp_all
    grind
  grind
def rH {e:Rb}{me:ME}{n:String}{x:Str}{p1 p2 pos:Pos} (he:PE X e (tM X.K g ε me)) (hg:Gl X "isinstance") (hm:X.mg "isinstance" = Wy) (hg2:Gl X x) (hm2:X.mg x=Wy) (hb:bootBuiltins x=Wx (.type n)) (hn:x≠"__name__" := by decide) (hd:(x == ("__debug__" : Str))=false:=by decide)
  (hs1:starEach [e,.Name x p2] X.env=(WA,eval e X.env)::starEach [.Name x p2] X.env:=by rfl) (hs2:starEach [.Name x p2] X.env=[(WA,eval (.Name x p2) X.env)]:=by rfl) (hpl:(backTo pos (starEach [.Name x p2] X.env)).any (·.1)=false:=by rfl) :
  PE X (.Call (.Name "isinstance" p1) [e,.Name x p2] [] pos) (tM X.K g ε (cUn (fA n) me)):=
 PE.imp (gG tW hg hm Sg (dq he (dq (xE (v:=.ty n) hg2 hm2 hb rfl hn hd) g_ hs2) hs1) (by decide) (by decide) hs1 hpl) fun σ H Q ⟨α,env,h,s,w⟩=>tM.use s w.bind fun d1 h1 v1 H1 α1 e1 s1 r1 w1=>by
  unfold fA at w1
  cases et:tyD d1 h1 with
  | none=>simp only[et] at w1;exact w1.elim
  | some t=>
   simp only[et] at w1
   cases es:yV t n with
   | none=>simp only[es] at w1;exact w1.elim
   | some b=>
    simp only[es] at w1
    exact⟨v1,.type t,n,b,rfl,Lg s1.heap r1 et,HZ es,aA.now (aA.ext e1 w1) s1.heap (.bl b)⟩
end
section
variable {X:Cx}{K:Pk}{g:GG}{ε:EE}
abbrev iz:D->Hh->R Bool:=fun d h=>match d with
 | .non=>.ok WA h
 | .bl b=>.ok b h
 | .int i=>.ok (i != 0) h
 | .tup ds=>.ok (!ds.isEmpty) h
 | .frl ds=>.ok (!ds.isEmpty) h
 | .ref n=>match aq h n with
  | some ds=>.ok (!ds.isEmpty) h
  | none=>.bad
 | _=>.bad
def ao.isEmpty (r:ao K g α H ds vs):ds.isEmpty=vs.isEmpty:=by cases r<;>rfl
def ki:KC K g ε iz (fun x H Q=>∃k,Ek K x H k/\Q k H):=by
 intro α H h a x Q r ra w
 unfold iz at w
 have now:∀{b:Bool},kX K g α H Q b h->Q b H:=fun p=>p H α Ext.refl r
 cases ra with
 | non=>exact⟨WA,rfl,now w⟩
 | bl b=>exact⟨b,rfl,now w⟩
 | int i=>exact⟨_,rfl,now w⟩
 | tup hp rs=>exact⟨_,.inr (.inl ⟨_,SqT.of hp,rfl⟩),now (by rw[<- rs.isEmpty];exact w)⟩
 | frl hp rs=>exact⟨_,.inl ⟨_,hp.sq,rfl⟩,now (by rw[<- rs.isEmpty];exact w)⟩
 | @ref n p hp=>
  simp only at w
  cases e:aq h n with
  | none=>rw[e] at w;exact w.elim
  | some ds=>
   rw[e] at w
   obtain⟨vs,hv,rs⟩:=r.lst e hp
   exact⟨_,.inl ⟨vs,SqL.of hv,rfl⟩,now (by rw[<- rs.isEmpty];exact w)⟩
 | _=>exact w.elim
def DC (r:aC K g α H d v) (f:d8 d=Wz):iG v=true:=by
 cases r<;>first | rfl | cases f
def J_ (r:aC K g α H d v) (q:aC K g α H e u) (f:d8 d=Wz) (f':d8 e=Wz):eqF d e=eqV v u:=by
 cases r<;>first | (cases f;done) | (cases q<;>rfl)
def Gw {α:List PN}{H:Hp}:∀{ds:List D}{vs:List V},ao K g α H ds vs->ds.all d8=Wz->vs.all iG=Wz
 | _,_,.nil,_=>rfl
 | _,_,.cons r t,f=>by
  rw[Th,PV] at f ⊢
  exact⟨DC r f.1,Gw t f.2⟩
def GJ (q:aC K g α H e u) (f':d8 e=Wz):∀{ds:List D}{vs:List V},ao K g α H ds vs->ds.all d8=Wz->(ds.any fun d=>eqF d e)=vs.any fun y=>eqV y u
 | _,_,.nil,_=>rfl
 | _,_,.cons r t,f=>by
  rw[Th,PV] at f
  rw[Rc,Rc,J_ r q f.1 f',GJ q f' t f.2]
abbrev dIn (neg:Bool):D->D->Hh->R D:=fun a b h=>match eJ b h with
 | some ds=>if d8 a=Wz/\ds.all d8=Wz then .ok (.bl (if neg then !(ds.any fun d=>eqF d a) else ds.any fun d=>eqF d a)) h else .bad
 | none=>.bad
def GF:dw K g ε (dIn neg) (rIn K neg):=by
 intro α H h a b x y Q r ra rb w
 unfold dIn at w
 cases e:eJ b h with
 | none=>rw[e] at w;exact w.elim
 | some ds=>
  rw[e] at w
  obtain⟨p,vs,rfl,hq,rs⟩:=mn r rb e
  obtain⟨⟨f1,f2⟩,w⟩:=WQ.cO w
  refine⟨p,vs,rfl,hq,DC ra f1,Gw rs f2,?_⟩
  have e2:(ds.any fun d=>eqF d a)=inV x vs:=GJ ra f1 rs f2
  rw[<- e2]
  exact aA.now w r (.bl _)
abbrev zT:List D->Option (List D)
 | [.int j]=>if j.natAbs<=1000000 then Wx (bD 0 j.toNat) else Wy
 | [.int i,.int j]=>if (i.natAbs<=1000000/\j.natAbs<=1000000)/\(j - i).toNat<=1000000 then Wx (bD i (j - i).toNat) else Wy
 | _=>Wy
abbrev iQ (nl:NL):List D->Hh->R D:=fun ds h=>match zT ds with
 | some xs=>nl xs h
 | none=>.bad
def Dc (lo) (n):ao K g α H (bD lo n) ((sR lo 1 n).map V.int):=by
 have e:bD lo n=(sR lo 1 n).map D.int:=by
  unfold bD sR
  simp
 rw[e]
 exact ao.ints _
def EZ (r:ao K g α H ds vs) (e:zT ds=Wx xs) :
  (∃j,vs=[.int j]/\xT 0 j 1 j.toNat/\xs=bD 0 j.toNat)\/∃i j,vs=[.int i,.int j]/\xT i j 1 (j - i).toNat/\xs=bD i (j - i).toNat:=by
 unfold zT at e
 split at e
 ·rename_i j
  split at e
  ·rename_i hj
   cases e
   cases r with
   | cons r1 t=>
    cases r1
    cases t
    refine .inl ⟨j,rfl,?_,rfl⟩
    have:=Bz (a:=0) (b:=j) {} {} {} {} {}
    simp_all
  grind
 ·rename_i i j
  split at e
  ·rename_i hj
   cases e
   cases r with
   | cons r1 t=>
    cases r1
    cases t with
    | cons r2 t=>
     cases r2
     cases t
     exact .inr ⟨i,j,rfl,Bz {} {} {} {} {},rfl⟩
  grind
 grind
def ID:aV X (.type "range") (fun vs H Q=>(∃j,vs=[.int j]/\∀p,H p=Wy->Q (.ref p) (upd H p (rk p 0 j 1)))\/∃i j,vs=[.int i,.int j]/\∀p,H p=Wy->Q (.ref p) (upd H p (rk p i j 1))):=aV.or zF Ag
section
variable {e:Rb}{es:List Rb}{mr:MA}{p1 p2 q1 q2:Pos}
def AE {nl:NL} [iD nl] (hc:X.calm=Wz) (hg:Gl X "list") (hm:X.mg "list" = Wy) (hg2:Gl X "range") (hm2:X.mg "range" = Wy) (ha:PA X (e::es) (tMA X.K g ε mr))
  (he:starEach (e::es) X.env=(WA,eval e X.env)::starEach es X.env:=by rfl) (hpl:(backTo q2 (starEach es X.env)).any (·.1)=false:=by rfl)
  (he1:starEach [.Call (.Name "range" p2) (e::es) [] q2] X.env=[(WA,eval (.Call (.Name "range" p2) (e::es) [] q2) X.env)]:=by rfl) (hpl1:(backTo q1 (starEach [] X.env)).any (·.1)=false:=by rfl) :
  PE X (.Call (.Name "list" p1) [.Call (.Name "range" p2) (e::es) [] q2] [] q1) (tM X.K g ε (ah (iQ nl) mr)):=
 PE.imp (PE.frz (iy (pD hc) hg hm RJ (dq (iy ID hg2 hm2 PyProof.Rows.boot_range ha (by decide) (by decide) he hpl) g_ he1) (by decide) (by decide) he1 hpl1)) fun σ H Q ⟨α,env,h,s,w⟩=>tMA.use s w.bind fun d1 h1 v1 H1 α1 e1 s1 r1 w1=>by
  unfold iQ at w1
  cases er:zT d1 with
  | none=>rw[er] at w1;exact w1.elim
  | some xs=>
   rw[er] at w1
   rcases EZ r1 er with⟨j,rfl,ok,rfl⟩ | ⟨i,j,rfl,ok,rfl⟩
   ·refine .inl ⟨j,rfl,fun p hp=>⟨p,0,j,1,j.toNat,rfl,aL,ok,fun l hl=>?_⟩⟩
    have x:=Ext.fresh (K:=X.K) (α:=α1) (o:=rk p 0 j 1) hp
    exact NL.post ((w1.post e1).post x) (s1.heap.grow hp) (Dc 0 j.toNat) hl
   ·refine .inr ⟨i,j,rfl,fun p hp=>⟨p,i,j,1,(j - i).toNat,rfl,aL,ok,fun l hl=>?_⟩⟩
    have x:=Ext.fresh (K:=X.K) (α:=α1) (o:=rk p i j 1) hp
    exact NL.post ((w1.post e1).post x) (s1.heap.grow hp) (Dc i (j - i).toNat) hl
end
abbrev isL (d:D) (h:Hh):Bool:=match d with
 | .ref n=>(aq h n).isSome
 | .frl _=>Wz
 | _=>WA
abbrev dW (f:D->List D->Hh->R D) (o:ME) (a:MA):ME:=fun env h=>(o env h).bind fun x h1=>if isL x h1=Wz then (a env h1).bind fun xs h2=>f x xs h2 else .bad
def D4 (r:aK K g α H h) (rd:aC K g α H d x) (e:isL d h=Wz):tyV K "list" x H:=by
 unfold isL at e
 cases rd with
 | @ref n p hp=>
  obtain⟨ds,e⟩:=RY.mp e
  obtain⟨vs,hv,_⟩:=r.lst e hp
  exact .inl ⟨rfl,vs,SqL.of hv⟩
 | frl hq rs=>exact .inl ⟨rfl,_,hq.sq⟩
 | _=>cases e
def kF {o e:Rb}{es:List Rb}{mo:ME}{mr:MA}{name:Str}{apos cpos:Pos}{id:String}{r:V->List V->Hp->VK->Prop}{f:D->List D->Hh->R D} (slot:Slot "list" name id) (hty:typeOf (.builtin id)=pure (.type "method_descriptor")) (hm:MtM X id r) (im:B4 X.K g ε f r) (ho:PE X o (tM X.K g ε mo)) (ha:PA X (e::es) (tMA X.K g ε mr))
  (hbase:attributeBase o name X.env (eval o X.env)=eval o X.env:=by rfl)
  (hfew:((backTo cpos (starEach (e::es) X.env)).all (fun x=>!x.1)&&(backToKw cpos (keywordEach [] X.env)).all (fun x=>x.1.isSome)
   && decide ((e::es).length+([]:List V4).length+(if ([]:List V4).isEmpty then 0 else 1)<30))=true:=by rfl)
  (hline:(apos.endLine == cpos.line)=true:=by rfl) (hs:starEach (e::es) X.env=(WA,eval e X.env)::starEach es X.env:=by rfl) (hplain:(backTo cpos (starEach es X.env)).any (·.1)=false:=by rfl) :
  PE X (.Call (.Attribute o name apos) (e::es) [] cpos) (tM X.K g ε (dW f mo mr)):=
 PE.imp (KD PySem.F.plainAttrs_list slot hty hm ho ha hbase hfew hline hs hplain) fun σ H Q ⟨α,env,h,s,w⟩=>tM.use s w.bind fun d1 h1 v1 H1 α1 e1 s1 r1 w1=>by
  obtain⟨hl,w1⟩:=WQ.cO w1
  refine⟨D4 s1.heap r1 hl,tMA.use s1 (w1.ext e1).bind fun d2 h2 v2 H2 α2 e2 s2 r2 w2=>?_⟩
  exact im α2 H2 h2 d1 d2 v1 v2 Q s2.heap (r1.ext e2) r2 ((w2.ext e2).mono fun _ _ _ p=>aA.ext (e1.trans e2) p)
abbrev df:D->List D->Hh->R D:=fun o ds h=>match o,ds with
 | .ref n,[d]=>match aq h n with
  | some xs=>if xs.length<1000000 then .ok .non (h.set n (.lst (xs++[d]))) else .bad
  | none=>.bad
 | _,_=>.bad
def kD:B4 K g ε df xr:=by
 intro α H h o a y x Q r ro ra w
 unfold df at w
 cases ro with
 | @ref n p hp=>
  cases ra with
  | nil=>exact w.elim
  | @cons d v _ _ rd rr=>
   cases rr with
   | cons _ _=>exact w.elim
   | nil=>
    simp only at w
    cases e:aq h n with
    | none=>rw[e] at w;exact w.elim
    | some xs=>
     rw[e] at w
     obtain⟨hl,w⟩:=WQ.cO w
     obtain⟨vs,hv,rs⟩:=r.lst e hp
     refine⟨p,vs,_,rfl,rfl,hv,by rw[<- rs.length,QN];lia,?_⟩
     have x:=Ext.write (o:=.lst (vs++[v])) r hp
     exact(show aA K g α H Q _ _ from w) _ _ α x (r.write hp ⟨_,aL,(rs.append (.cons rd .nil)).ext x⟩) .non
 | _=>exact w.elim
abbrev uI:V->List V->Hp->VK->Prop:=fun x vs H Q=>∃l b xs zs,x=.ref l/\vs=[.ref b]/\H l=Wx (.lst xs)/\Rd H b (.lst zs)/\xs.length+zs.length<=sizeLine/\Q .non (upd H l (.lst (xs++zs)))
def wW:MtM X "list.extend" uI:=by
 intro pins s σ H x vs v us Q I rx rv h
 obtain⟨l,b,xs,zs,rfl,rfl,hH,hB,hz,q⟩:=h
 cases rx
 obtain⟨u,rfl,ru⟩:=rv.one
 cases ru
 obtain⟨z,its,n,r,hl,e⟩:=I.Lo hH
 obtain⟨its2,n2,z2,r2,hl2,e2⟩:=Ef I hB
 have hsz:its.toArray.size+its2.toArray.size<=sizeLine:=by simp_all
 have hlong:¬ (!its.toArray.isEmpty&&R3 (its.toArray.size+its2.toArray.size))=true:=by
  rw[um hsz,Bool.and_false]
  simp
 refine UN F.slot_list_extend ⟨_,e,rfl⟩ F.entry_list_extend (F.args_list_extend_2 _ _)
  (AutoSeq1.list_extend_list_list_0 l its.toArray n b its2.toArray n2 hlong {} {}) ⟨e,e2,?_⟩
 refine⟨.non,_,I.LD hH e {..} (r.append r2) ?_,rfl,q⟩
 simp_all
abbrev e9:D->List D->Hh->R D:=fun o ds h=>match o,ds with
 | .ref n,[d]=>match aq h n,gQ d h with
  | some xs,Wx ys=>if xs.length+ys.length<=1000000 then .ok .non (h.set n (.lst (xs++ys))) else .bad
  | _,_=>.bad
 | _,_=>.bad
def zh:B4 K g ε e9 uI:=by
 intro α H h o a y x Q r ro ra w
 unfold e9 at w
 cases ro with
 | @ref n p hp=>
  cases ra with
  | nil=>exact w.elim
  | cons rd rr=>
   cases rr with
   | cons _ _=>exact w.elim
   | nil=>
    simp only at w
    cases e:aq h n with
    | none=>rw[e] at w;exact w.elim
    | some xs=>
     rw[e] at w
     cases e2:gQ _ h with
     | none=>rw[e2] at w;exact w.elim
     | some ys=>
      rw[e2] at w
      obtain⟨hl,w⟩:=WQ.cO w
      obtain⟨vs,hv,rs⟩:=r.lst e hp
      obtain⟨q,us,rfl,hu,rt⟩:=r9 r rd e2
      refine⟨p,q,vs,us,rfl,rfl,hv,hu,fj (by rw[<- rs.length,<- rt.length];exact hl),?_⟩
      have x:=Ext.write (o:=.lst (vs++us)) r hp
      exact(show aA K g α H Q _ _ from w) _ _ α x (r.write hp ⟨_,aL,(rs.append rt).ext x⟩) .non
 | _=>exact w.elim
def lz (ns:List Int):∀k,k<=ns.length->preSum (fun i=>ns.getD i 0) k=(ns.take k).sum
 | 0,_=>by rfl
 | k+1,h=>by
  rw[preSum,lz ns k {},List.take_succ,List.sum_append]
  grind
def zR (hc:X.calm=Wz):aV X (.builtin "sum") (fun vs H Q=>∃(p:PN) (ns:List Int),vs=[.ref p]/\(SqL X.K H p (ns.map V.int)\/SqT X.K H p (ns.map V.int))/\Q (.int ns.sum) H):=by
 intro pins s σ H xs us Q I r h
 obtain⟨p,ns,rfl,hq,q⟩:=h
 obtain⟨u,rfl,rx⟩:=vals1 r
 cases rx
 have hh:X.A.in1.handled=none:=I.ok.hd hc
 have fin:∀{its:List Pp} {o:Obj},Vals (ns.map V.int) its->∀s',Moved [s.heap.objs.size] (fun a b=>b=a) { s with heap:=s.heap.push o } s'->∀t',EP X pins σ Q (.int (preSum (fun i=>ns.getD i 0) its.toArray.size) t') s':=fun{its o} rv s' mv t'=>by
  have hl:its.toArray.size=ns.length:=by rw[Qo,<- rv.length,PR]
  have keep:=fun b u e=>mv.heap b u (by simp;exact PU (Pq e)) (Pn _ e)
  have I':Inv X pins σ H s':=by
   obtain⟨hp,gs,dr,tk,os⟩:=s'
   have e1:=mv.gens
   have e2:=mv.drawn
   have e3:=mv.os
   subst e1 e2 e3
   exact I.kept keep
  refine⟨.int ns.sum,H,I',⟨t',?_⟩,q⟩
  rw[hl,lz ns _ (Pt _),List.take_length]
 have val:∀{its:List Pp},Vals (ns.map V.int) its->∀i v,its.toArray[i]?=Wx v->∃t:Tok,v=Sj (ns.getD i 0) t:=fun{its} rv i v e=>by
  obtain⟨x,hx,rxv⟩:=rv.get' (show its[i]?=Wx v by simp_all)
  rw[P5] at hx
  cases en:ns[i]? with
  | none=>simp_all
  | some z=>
   rw[en] at hx
   cases hx
   obtain⟨t,e⟩:=rxv
   simp_all
 rcases hq with hq | hq
 ·obtain⟨its,rv,pl,hz⟩:=I.list hq
  have plt:p<s.heap.objs.size:=by obtain⟨o,e,_⟩:=pl.isList;exact Pq e
  have hne:=PU plt
  refine call_sum_walkAnyS (UP pl.isList ?_)
  refine⟨s.heap.objs.size,_,_,_,its.toArray.size,_,_,fun i=>ns.getD i 0,rfl,(Wr.list hh s.heap.objs.size p hne its.toArray).toS,⟨⟨_,Pu _ rfl,rfl,rfl⟩,?_⟩,fun b hb=>?_,val rv,fun s' t' mv=>fin rv s' mv t'⟩
  ·exact pl.isList.at fun o e=>Pn _ e
  ·simp at hb
   rcases hb with rfl | rfl
   ·simp
   ·exact S5 plt (Pq (Pu _ rfl))
 ·obtain⟨its,rv,pl,hz⟩:=I.tuple hq
  have pt:s.heap.IsTuple p its.toArray:=pl
  have hne:=PU pl.lt
  refine call_sum_walkAnyS (Ti pt ?_)
  refine⟨s.heap.objs.size,_,_,_,its.toArray.size,_,_,fun i=>ns.getD i 0,rfl,(Wr.tuple hh s.heap.objs.size p hne its.toArray).toS,⟨⟨_,Pu _ rfl,rfl,rfl⟩,?_⟩,fun b hb=>?_,val rv,fun s' t' mv=>fin rv s' mv t'⟩
  ·exact pt.at fun o e=>Pn _ e
  ·simp at hb
   rcases hb with rfl | rfl
   ·simp
   ·exact S5 pl.lt (Pq (Pu _ rfl))
abbrev As:List D->Hh->R D:=fun ds h=>match ds with
 | [d]=>match eJ d h with
  | some xs=>match intsOf xs with
   | some ns=>.ok (.int ns.sum) h
   | none=>.bad
  | none=>.bad
 | _=>.bad
def Hb:j7 K g ε As (fun vs H Q=>∃(p:PN) (ns:List Int),vs=[.ref p]/\(SqL K H p (ns.map V.int)\/SqT K H p (ns.map V.int))/\Q (.int ns.sum) H):=by
 intro α H h a x Q r ra w
 obtain⟨d,v,rfl,rfl,rd⟩:=kB (fun _ _ _ _=>rfl) (fun _=>rfl) ra w
 unfold As at w
 simp only at w
 cases e:eJ d h with
 | none=>rw[e] at w;exact w.elim
 | some ds=>
  rw[e] at w
  simp only at w
  cases e2:intsOf ds with
  | none=>rw[e2] at w;exact w.elim
  | some ns=>
   rw[e2] at w
   obtain⟨p,vs,rfl,hq,rs⟩:=mn r rd e
   have e3:=dO e2
   subst e3
   have e4:=rs.A5
   subst e4
   exact⟨p,ns,rfl,hq,aA.now w r (.int _)⟩
abbrev xF:D->D->Hh->R D
 | .int i,.int j,h=>.ok (.int (i+j)) h
 | _,_,_=>.bad
abbrev Kg:D->D->Hh->R D
 | .int i,.int j,h=>if sml i=Wz/\sml j=Wz then .ok (.int (i*j)) h else .bad
 | _,_,_=>.bad
def GX:dw K g ε xF (ipI fun i j=>i+j):=by
 intro α H h a b x y Q r ra rb w
 cases ra with
 | int i=>
  cases rb with
  | int j=>exact⟨i,j,rfl,rfl,aA.now w r (.int _)⟩
  | _=>exact w.elim
 | _=>exact w.elim
end
section
variable {P:PJ}{w:Qc}{K:Pk}{mg:Str->Option Pp}{base:QQ}{g:GG}
abbrev aG (K:Pk) (mg:Str->Option Pp) (x:Str) (st:TF):Prop:=∃f fd,mg x=Wx (.ref f)/\Fun K x x st f fd
abbrev bK (K:Pk) (x:Str) (st:TF):Prop:=∃f fd,Qu K mainGlobals x=Wx (Wx (.ref f))/\Fun K x x st f fd
def Jn {st:TF}{kV doc pm cdv ct:Pp} (a:Qu K mainGlobals x=Wx (Wx (.ref f)))
  (l:K.lookup f=Wx ⟨oc,od,.func (QH x x (cb st) (aP st) (ag st) .none kV doc pm an cdv ct),osl⟩) (c:SN K cdv x=Wz) (k:Qk K (.ref f)=Wz):bK K x st:=⟨f,_,a,wu l c k⟩
def aG.of {h:QQ}{x:Str}{st:TF} (X:K.In h) (G:h.Ns mainGlobals mg) (d:bK K x st):aG K mg x st:=
 let ⟨f,fd,a,F⟩:=d;⟨f,fd,Ux X G a,F⟩
abbrev Has (P:PJ) (w:Qc) (K:Pk) (mg:Str->Option Pp) (base:QQ) (g:GG) (x:Str) (k:Nat) (ps:List Str) (m:MF):Prop:=
 ∃f fd,b9 P w K mg base CX0 k f fd ps (spM K g ps.length m)/\Qk K (.ref f)=Wz/\Binds K fd ps []/\mg x=Wx (.ref f)/\∃oc od osl,K.lookup f=Wx ⟨oc,od,.func fd,osl⟩
abbrev gOf (mg:Str->Option Pp):GG:=fun x=>match mg x with
 | some (.ref f)=>Wx f
 | _=>Wy
def c6 {st:TF} (F:Fun K x x st f fd):∃oc od osl,K.lookup f=Wx ⟨oc,od,.func fd,osl⟩:=by
 obtain⟨oc,od,kV,doc,pm,an,cdv,ct,osl,rfl,lk,hcd⟩:=F.ex
 simp_all
def Hx {st:TF} (F:Fun K x x st f fd) (hm:mg x=Wx (.ref f)) (h:Has P w K mg base g x k ps m):b9 P w K mg base CX0 k f fd ps (spM K g ps.length m):=by
 obtain⟨f2,fd2,G,_,_,hm2,oc,od,osl,l2⟩:=h
 obtain⟨oc',od',osl',l1⟩:=c6 F
 simp_all
end
section
variable {X:Cx}{g:GG}{ε:EE}
abbrev Od (i j:Nat) (m:ME):MS:=fun env h=>(m env h).bind fun d h1=>(gT2 i j d env h1).bind fun e h2=>.ok (.nx e) h2
end
section
variable {X:Cx}{K:Pk}{g:GG}{ε:EE}
abbrev yE:D->Bool
 | .non=>Wz
 | _=>WA
abbrev N6 (neg:Bool):D->D->Hh->R D:=fun a b h=>match b with
 | .non=>.ok (.bl (if neg then !yE a else yE a)) h
 | _=>.bad
abbrev BN:D->D->Hh->R D:=fun a b h=>match a with
 | .ref n=>dIx (.ref n) b h
 | _=>.bad
abbrev qY (o i v:ME):MS:=fun env h=>(o env h).bind fun x h1=>(i env h1).bind fun y h2=>(BN x y h2).bind fun z h3=>(v env h3).bind fun u h4=>(xF z u h4).bind fun t h5=>(f_ x y t h5).bind fun _ h6=>.ok (.nx env) h6
def FJ:Lu X (fun x y H Q=>HE X.K x y H Q):=by
 intro pins s σ H o i ov iv Q I ro ri h
 obtain⟨p,xs,k,z,rfl,rfl,hq,he,q⟩:=h
 cases ro
 obtain⟨t,rfl⟩:=ri
 obtain⟨its,r,pl,hz⟩:=I.list hq
 obtain⟨j,h1,h2,h3,h4,h5⟩:=l_ he
 obtain⟨w,ew,rw'⟩:=r.get h2
 have hl:=r.length
 have hn:=gE
 have fin:EP X pins σ Q w s:=⟨z,H,I,rw',q⟩
 by_cases h0:0<=k
 ·have hj:k.toNat=j:=by
   rw[VC h0 h5] at h1
   simp_all
  exact wpAny_getItem_list pl.isList h0 {} (by simp_all) fin
 ·have hj:(k+(its.toArray.size:Int)).toNat=j:=by
   rw[Vd {} h4] at h1
   simp_all
  exact wpAny_getItem_list_neg pl.isList {} (by simp_all) {} (by simp_all) fin
def EN {o i e:Rb}{mo mi me:ME}{tpos pos:Pos} (ho:PE X o (tM X.K g ε mo)) (hi:PE X i (tM X.K g ε mi)) (he:PE X e (tM X.K g ε me))
  (ha:∀ov iv new,augStore i ov iv new=(do holding [new,ov,iv] (setItem ov iv new);release [new,ov,iv] [];pure .next):=by intros;rfl):PS X (.AugAssign (.Subscript o i tpos) .Add e pos) (tMS X.K g ε (qY mo mi me)):=
 PS.imp (FY ho hi FJ he IU set_list ha) fun E σ H ⟨α,env,h,s,w⟩=>tM.use s w.bind fun d1 h1 v1 H1 α1 e1 s1 r1 w1=>tM.use s1 (w1.ext e1).bind fun d2 h2 v2 H2 α2 e2 s2 r2 w2=>by
  have w3:=(w2.ext e2).bind
  have r1':=r1.ext e2
  unfold BN at w3
  cases r1' with
  | @ref n p hp=>
   simp only[dIx] at w3
   cases eq:eJ (.ref n) h2 with
   | none=>simp only[eq] at w3;exact w3.elim
   | some ds=>
    simp only[eq] at w3
    cases r2 with
    | int k=>
     cases ea:atI ds k with
     | none=>simp only[ea] at w3;exact w3.elim
     | some z=>
      simp only[ea] at w3
      have w4:=w3
      have eq':=eq
      obtain⟨vs',hv',rs'⟩:=s2.heap.lst eq' hp
      obtain⟨v',ev',rv'⟩:=yF rs' ea
      refine⟨p,vs',k,v',rfl,rfl,SqL.of hv',ev',tM.use s2 w4.bind fun d3 h3 v3 H3 α3 e3 s3 r3 w5=>?_⟩
      refine GX α3 H3 h3 z d3 v' v3 _ s3.heap (rv'.ext e3) r3 ((w5.ext e3).bind.mono fun t h4 _ w6 v4 H4 α4 e4 hr4 r4=>?_)
      refine mV α4 H4 h4 (.ref n) (.int k) t (.ref p) (.int k) v4 _ hr4 (.ref ((e3.trans e4).get hp)) (.int k) r4 (((w6.ext e4)).bind.mono fun _ h5 _ w7 H5 α5 e5 hr5=>?_)
      exact(show cE X.K g α H E (.nx env) h5 from w7) H5 α5 (e1.trans (e2.trans (e3.trans (e4.trans e5)))) hr5 _ (s3.vs.ext (e4.trans e5))
    | _=>exact w3.elim
  | _=>exact w3.elim
abbrev Ga (nl:NL):D->Hh->R D:=fun d h=>match d with
 | .tup ds=>.ok (.tup ds.reverse) h
 | .frl ds=>nl ds.reverse h
 | .ref n=>match aq h n with
  | some ds=>nl ds.reverse h
  | none=>.bad
 | _=>.bad
end
mutual
noncomputable def gU (k:Nat):D->Bool
 | .ref n=>decide (n<k)
 | .tup ds=>a8 k ds
 | .frl ds=>a8 k ds
 | .scr ds=>a8 k ds
 | .clo _ ds=>a8 k ds
 | _=>Wz
noncomputable def a8 (k:Nat):List D->Bool
 | []=>Wz
 | d::ds=>gU k d&&a8 k ds
end
abbrev jO (k:Nat):O->Bool
 | .lst ds=>a8 k ds
 | .set _=>Wz
 | .dic kvs=>a8 k (kvs.map (·.2))
 | .dit kvs=>a8 k (kvs.map (·.2))
abbrev i6 (f:D->Option D):List D->Option (List D)
 | []=>Wx []
 | d::ds=>match f d,i6 f ds with
  | some e,Wx es=>Wx (e::es)
  | _,_=>Wy
abbrev eC (k:Nat) (h:Hh):Nat->D->Option D
 | 0,_=>Wy
 | f+1,d=>match d with
  | .ref n=>if n<k then Wx (.ref n) else match aq h n with
   | some ds=>(i6 (eC k h f) ds).map .frl
   | none=>Wy
  | .tup ds=>(i6 (eC k h f) ds).map .tup
  | .frl ds=>(i6 (eC k h f) ds).map .frl
  | .scr _=>Wy
  | .clo f ds=>if a8 0 ds=Wz then Wx (.clo f ds) else Wy
  | d=>Wx d
abbrev bg (h:Hh):D->Hh->R D:=fun d h'=>if (h'.take h.length).all (jO h.length)=Wz then match eC h.length h' 8 d with
 | some e=>.ok e (h'.take h.length)
 | none=>.bad else .bad
abbrev gm (h:Hh):D->Hh->R D:=fun d h'=>if (h'.take h.length).all (jO h.length)=Wz then match d with
 | .ref n=>if h.length<=n then match aq h' n with
  | some ds=>match i6 (eC h.length (h'.set n (.set [])) 8) ds with
   | some es=>.ok (.ref h.length) (h'.take h.length++[.lst es])
   | none=>.bad
  | none=>.bad else .bad
 | _=>.bad else .bad
open Classical in
abbrev fw (S:PN->Prop) (o:PN->Obj) (H:Hp):Hp:=fun p=>if S p then (H p).map (.frz (o p)) else H p
def Jl (q:a_ P w H h p u) (mu:Mut (Wx u)):∃o,h.get? p=Wx o:=by
 cases u with
 | lst xs=>obtain⟨_,_,_,_,e'⟩:=q;simp_all
 | dK kvs=>obtain⟨_,_,_,_,o,_,_,e',_⟩:=q;simp_all
 | dT kvs=>obtain⟨_,_,_,_,o,_,_,e',_⟩:=q;simp_all
 | set S n=>obtain⟨o,_,_,_,e',_⟩:=q;simp_all
 | ins C dx fs=>obtain⟨_,_,_,e',_⟩:=q;simp_all
 | ext φ=>obtain⟨_,⟨_,e'⟩,_⟩:=q;simp_all
 | _=>exact absurd mu (fun z=>z)
def Br (h:CE outer P w H s Q' u s')
  (hQ:∀v H',Q' v H'->∃S:PN->Prop,(∀p,S p->∃u,H' p=Wx u/\Mut (Wx u))/\∀o:PN->Obj,Q v (fw S o H')):CE outer P w H s Q u s':=by
 obtain⟨v,H',os,bare,un,hok,r,q⟩:=h
 obtain⟨S,hS,q⟩:=hQ v H' q
 have hS1:∀p,S p->∀u,H' p=Wx u->Mut (Wx u):=fun p z u e=>by grind
 have off:∀(o:PN->Obj) b u,H' b=Wx u->¬ Mut (Wx u)->fw S o H' b=Wx u:=fun o b u e m=>by
  unfold fw
  grind
 have offn:∀(o:PN->Obj) b,H' b=Wy->fw S o H' b=none:=fun o b e=>by
  unfold fw
  simp_all
 let o:PN->Obj:=fun b=>(s'.heap.get? b).getD { cls:=.none,data:=.fields #[] }
 refine⟨v,fw S o H',os,bare,⟨un.keep,un.slot,fun b ob e n hx=>offn o b (un.free b ob e n hx),un.there,fun b xs e=>off o b _ (un.iY b xs e) fun z=>z,fun b ob xs e=>off o b _ (un.jz b ob xs e) fun z=>z,fun b ps e=>?_⟩,?_,r,q o⟩
 ·obtain⟨more,e1⟩:=un.lO b ps e
  exact⟨more,off o b _ e1 fun z=>z⟩
 ·intro b u e
  have st:∀u,a_ P w H' s'.heap b u->a_ P w (fw S o H') s'.heap b u:=fun u x=>x.iB (fun _ _ _ z=>z) (fun c z=>off o c _ z fun z=>z) fun c xs z=>off o c _ z fun z=>z
  unfold fw at e
  split at e
  ·rename_i hb
   obtain⟨u',e',m⟩:=hS b hb
   rw[e'] at e
   cases e
   have x:=hok b u' e'
   obtain⟨ob,eo⟩:=Jl x m
   refine⟨?_,st _ x⟩
   grind
  ·exact st u (hok b u e)
section
variable {K:Pk}{g:GG}{α α':List PN}{H H' H2:Hp}{k:Nat}
structure mQ (K:Pk) (α α':List PN) (H' H2:Hp) (k:Nat):Prop where
 pre:∀n,n<k->α[n]?=α'[n]?
 tup:∀p xs,H' p=some (.tup xs)->H2 p=some (.tup xs)
 frz:∀p o u , H' p=some (.frz o u)->H2 p=some (.frz o u)
mutual
theorem mB (L:mQ K α α' H' H2 k){d:D}{v:V} (hl:gU k d=Wz) (r:aC K g α' H' d v):aC K g α H2 d v:=by
 cases r with
 | non=>exact .non
 | bl b=>exact .bl b
 | int i=>exact .int i
 | str x=>exact .str x
 | ref h=>exact .ref (by rw[L.pre _ (by simpa [gU] using hl)];exact h)
 | tup h r=>exact .tup (L.tup _ _ h) (dS L (by assumption) r)
 | frl h r=>
  obtain⟨o,h⟩:=h
  exact .frl ⟨o,L.frz _ _ _ h⟩ (dS L (by assumption) r)
 | scr h r=>
  refine .scr (h.imp ?_ id) (dS L (by assumption) r)
  rintro⟨o,h⟩
  exact⟨o,L.frz _ _ _ h⟩
 | fn h=>exact .fn h
 | edic h=>exact .edic (L.frz _ _ _ h)
 | exc hg h hc hd hf=>
  refine .exc hg (L.frz _ _ _ h) hc hd (hf.imp id ?_)
  rintro⟨dx,od,a,b⟩
  exact⟨dx,od,a,L.frz _ _ _ b⟩
 | clo h l hc hd hv cs r=>
  refine .clo (L.frz _ _ _ h) l (L.frz _ _ _ hc) hd hv (L2.Paired.rJ cs ?_) (dS L (by assumption) r)
  rintro _ _ ⟨c,o,u,l,a,b⟩
  exact⟨c,o,u,l,L.frz _ _ _ a,b⟩
theorem dS (L:mQ K α α' H' H2 k){ds:List D}{vs:List V} (hl:a8 k ds=Wz) (r:ao K g α' H' ds vs):ao K g α H2 ds vs:=by
 cases r with
 | nil=>exact .nil
 | cons r t=>
  simp only[a8,PV] at hl
  exact .cons (mB L hl.1 r) (dS L hl.2 t)
end
def gX {f:D->Option D} (hf:∀d e v,f d=Wx e->aC K g α' H' d v->aC K g α H2 e v):∀{ds es:List D}{vs:List V},i6 f ds=Wx es->ao K g α' H' ds vs->ao K g α H2 es vs
 | [],es,_,e,.nil=>by cases e;exact .nil
 | d::ds,es,_,e,.cons r t=>by
  unfold i6 at e
  split at e
  ·rename_i e1 es1 h1 h2
   cases e
   exact .cons (hf _ _ _ h1 r) (gX hf h2 t)
  grind
def jB {h' hx:Hh} (L:mQ K α α' H' H2 k) (r:aK K g α' H' h') (hx':∀n ds,aq hx n=Wx ds->aq h' n=Wx ds) (fz:∀n p ds vs,k<=n->aq hx n=Wx ds->α'[n]?=Wx p->H' p=Wx (.lst vs)->Fr1 H2 p vs) :
  ∀(f:Nat) (d e:D) (v:V),eC k hx f d=Wx e->aC K g α' H' d v->aC K g α H2 e v
 | 0,_,_,_,e,_=>by cases e
 | f+1,d,e,v,he,rd=>by
  unfold eC at he
  cases rd with
  | non=>cases he;exact .non
  | bl b=>cases he;exact .bl b
  | int i=>cases he;exact .int i
  | str x=>cases he;exact .str x
  | fn h=>cases he;exact .fn h
  | edic h=>cases he;exact .edic (L.frz _ _ _ h)
  | exc hg h hc hd hf=>cases he;exact .exc hg (L.frz _ _ _ h) hc hd (hf.elim .inl fun⟨dx,od,a,b⟩=>.inr ⟨dx,od,a,L.frz _ _ _ b⟩)
  | scr _ _=>cases he
  | clo h l hc hd hv cs rs=>
   simp only at he
   split at he
   ·rename_i lo
    cases he
    exact .clo (L.frz _ _ _ h) l (L.frz _ _ _ hc) hd hv (L2.Paired.rJ cs fun _ _ ⟨c,o,u,l,a,b⟩=>⟨c,o,u,l,L.frz _ _ _ a,b⟩) (dS ⟨fun n hn=>absurd hn (To _),L.tup,L.frz⟩ lo rs)
   grind
  | tup h rs=>
   simp only at he
   cases e1:i6 (eC k hx f) _ with
   | none=>rw[e1] at he;cases he
   | some es=>rw[e1] at he;cases he;exact .tup (L.tup _ _ h) (gX (fun d e v=>jB L r hx' fz f d e v) e1 rs)
  | frl h rs=>
   simp only at he
   cases e1:i6 (eC k hx f) _ with
   | none=>rw[e1] at he;cases he
   | some es=>rw[e1] at he;cases he;exact .frl (let ⟨o,h⟩:=h;⟨o,L.frz _ _ _ h⟩) (gX (fun d e v=>jB L r hx' fz f d e v) e1 rs)
  | @ref n p hp=>
   simp only at he
   split at he
   ·rename_i hn
    cases he
    exact .ref (by rw[L.pre n hn];exact hp)
   ·rename_i hn
    cases el:aq hx n with
    | none=>simp_all
    | some ds=>
     rw[el] at he
     simp only at he
     cases e1:i6 (eC k hx f) ds with
     | none=>simp_all
     | some es=>
      rw[e1] at he;cases he
      obtain⟨vs,hv,rs⟩:=r.lst (hx' n ds el) hp
      exact .frl (fz n p ds vs {} el hp hv) (gX (fun d e v=>jB L r hx' fz f d e v) e1 rs)
end
def mG {β:Type}{l:List β}{k n:Nat}{x:β} (e:(l.take k)[n]?=Wx x):n<k/\l[n]?=Wx x:=by
 rw[Sh] at e
 split at e
 ·exact⟨by assumption,e⟩
 ·cases e
def fT {α α':List PN} (h:α <+: α'){n:Nat} (hn:n<α.length):α[n]?=α'[n]?:=by
 obtain⟨t,rfl⟩:=h
 rw[PB hn]
def FR {β:Type}{l:List β}{f:β->Bool} (h:l.all f=Wz){n:Nat}{x:β} (e:l[n]?=Wx x):f x=true:=PX.mp h x (P0 e)
def nK {K:Pk}{g:GG}{h h':Hh} (r0:α.length=h.length) (e:Ext K α H α' H') (r:aK K g α' H' h') (hl:(h'.take h.length).all (jO h.length)=Wz)
  (L:mQ K α2 α' H' H2 h.length) (kp:∀n p u,n<h.length->α'[n]?=Wx p->H' p=Wx u->H2 p=Wx u):∀n p o , n<h.length->α'[n]?=Wx p->(h'.take h.length)[n]?=Wx o->OAt K g α2 H2 p o:=by
 intro n p o hn hp ho
 have lo:=FR hl ho
 obtain⟨_,ho'⟩:=mG ho
 have q:=r.here n p o hp ho'
 cases o with
 | lst ds=>obtain⟨vs,a,b⟩:=q;exact⟨vs,kp n p _ hn hp a,dS L lo b⟩
 | set m=>exact kp n p _ hn hp q
 | dic kvs=>
  obtain⟨kws,a,b⟩:=q
  refine⟨kws,kp n p _ hn hp a,?_⟩
  replace lo:a8 h.length (kvs.map (·.2))=true:=lo
  clear a ho ho'
  induction b with
  | nil=>exact .nil
  | cons x t ih=>
   simp only[PC,a8,PV] at lo
   exact .cons ⟨x.1,mB L lo.1 x.2⟩ (ih lo.2)
 | dit kvs=>
  obtain⟨kws,a,b⟩:=q
  refine⟨kws,kp n p _ hn hp a,?_⟩
  replace lo:a8 h.length (kvs.map (·.2))=true:=lo
  clear a ho ho'
  induction b with
  | nil=>exact .nil
  | cons x t ih=>
   simp only[PC,a8,PV] at lo
   exact .cons ⟨x.1,mB L lo.1 x.2⟩ (ih lo.2)
section
variable {P:PJ}{w:Qc}{K:Pk}{mg:Str->Option Pp}{base:QQ}{g:GG}{k np:Nat}{f:PN}{fd:RV}{ps:List Str}{m:MF}
def fS {CX:CXT}{ε:XK->EE} (F:b9 P w K mg base CX k f fd ps (spG K g ε np m)):b9 P w K mg base CX k f fd ps (spG K g ε np fun ds h=>(m ds h).bind (bg h)):=by
 refine⟨fun vs H Q E h=>?_,fun A outer s H args us vs Q E hr e0 hb hv hsp=>?_⟩
 ·obtain⟨hl,α,ds,h,rs,hh,w⟩:=h
  exact F.len vs H (fun _ _=>True) E ⟨hl,α,ds,h,rs,hh,w.bind.mono fun _ _ _ _ _ _ _ _ _ _=>trivial⟩
 ·obtain⟨hl,α,ds,h,rs,hh,w⟩:=hsp
  refine RA (F.run A outer s H args us vs (fun v H'=>∃α' d h',Ext K α H α' H'/\aK K g α' H' h'/\aC K g α' H' d v/\WQ K g (ε E) α H (bg h d h') (aA K g α H Q)) E hr e0 hb hv ⟨hl,α,ds,h,rs,hh,w.bind.mono fun d h' _ w1 v H' α' e r rd=>⟨α',d,h',e,r,rd,w1⟩⟩) fun res s' q=>?_
  cases res with
  | error e=>exact q
  | ok fl=>
   cases fl with
   | ret u=>
    refine Br (show CE outer P _ H s _ u s' from q) fun v H' zq1=>?_
    obtain⟨α',d,h',e,r,rd,w⟩:=zq1
    refine⟨fun p=>∃n ds,h.length<=n/\α'[n]?=Wx p/\aq h' n=Wx ds,fun p ⟨n,ds,_,hp,hn⟩=>?_,fun o=>?_⟩
    ·obtain⟨vs,hv,_⟩:=r.lst hn hp
     exact⟨_,hv,trivial⟩
    ·unfold bg at w
     obtain⟨hl,w⟩:=WQ.cO w
     cases ez:eC h.length h' 8 d with
     | none=>rw[ez] at w;exact w.elim
     | some e'=>
      rw[ez] at w
      generalize hS:(fun p=>∃n ds,h.length<=n/\α'[n]?=Wx p/\aq h' n=Wx ds)=S
      have inS:∀p,S p↔∃n ds,h.length<=n/\α'[n]?=Wx p/\aq h' n=Wx ds:=fun p=>by rw[<- hS]
      have k0:=hh.len
      have notS:∀p u,H' p=Wx u->(∀vs,u≠.lst vs)->¬ S p:=fun p u e1 e2 z=>by
       obtain⟨n,ds,_,hp,hn⟩:=(inS p).mp z
       obtain⟨vs,hv,_⟩:=r.lst hn hp
       rw[e1] at hv;cases hv;exact e2 vs rfl
      have off:∀p,¬ S p->fw S o H' p=H' p:=fun p z=>by unfold fw;rw[if_neg z]
      have offT:∀(p:PN) (ps:Array Pp),H' p=Wx (.tbl ps)->fw S o H' p=Wx (.tbl ps):=fun p ps z=>by rw[off p (notS p _ z fun vs z=>nomatch z)];exact z
      have L:mQ K α α' H' (fw S o H') h.length:=⟨fun n hn=>fT e.pre {},fun p xs z=>by rw[off p (notS p _ z fun vs z=>nomatch z)];exact z,fun p o u z=>by rw[off p (notS p _ z fun vs z=>nomatch z)];exact z⟩
      have kp:∀n p u,n<h.length->α'[n]?=Wx p->H' p=Wx u->fw S o H' p=Wx u:=fun n p u hn hp e1=>by
       rw[off p fun z=>?_];exact e1
       obtain⟨m,ds,hm,hp',_⟩:=(inS p).mp z
       have:=r.inj n m p hp hp'
       lia
      have rd2:=jB L r (fun _ _ z=>z) (fun n p ds vs hn hl hp hv=>⟨o p,by unfold fw;rw[if_pos ((inS p).mpr ⟨n,ds,hn,hp,hl⟩),hv];rfl⟩) 8 d e' v ez rd
      refine(show aA K g α H Q e' (h'.take h.length) from w) v _ α ⟨⟨R8 _,fun p xs z=>L.tup p xs (e.tup p xs z),fun p o u z=>L.frz p o u (e.frz p o u z),fun p ps z=>(e.tbl p ps z).imp fun _ q=>offT p _ q⟩,fun p u z n nt=>?_,fun _ z n=>absurd z n⟩ ⟨?_,fun n m p h1 h2=>hh.inj n m p h1 h2,fun n p ob h1 h2=>?_,r.tab.mono offT L.frz⟩ rd2
      ·rw[off p fun z'=>?_];exact e.kept p u z n nt
       obtain⟨m,ds,_,hp',_⟩:=(inS p).mp z'
       have:=e.new p (P0 hp') n
       rw[z] at this;cases this
      ·rw[Qh,<- r.len]
       have:=e.pre.length_le
       lia
      ·have hn:=(mG h2).1
       rw[fT e.pre {}] at h1
       exact nK k0 e r hl L kp n p ob hn h1 h2
   | next=>exact q
   | brk=>exact q
   | cont=>exact q
def og {CX:CXT}{ε:XK->EE} (F:b9 P w K mg base CX k f fd ps (spG K g ε np m)):b9 P w K mg base CX k f fd ps (spG K g ε np fun ds h=>(m ds h).bind (gm h)):=by
 refine⟨fun vs H Q E h=>?_,fun A outer s H args us vs Q E hr e0 hb hv hsp=>?_⟩
 ·obtain⟨hl,α,ds,h,rs,hh,w⟩:=h
  exact F.len vs H (fun _ _=>True) E ⟨hl,α,ds,h,rs,hh,w.bind.mono fun _ _ _ _ _ _ _ _ _ _=>trivial⟩
 ·obtain⟨hl,α,ds,h,rs,hh,w⟩:=hsp
  refine RA (F.run A outer s H args us vs (fun v H'=>∃α' d h',Ext K α H α' H'/\aK K g α' H' h'/\aC K g α' H' d v/\WQ K g (ε E) α H (gm h d h') (aA K g α H Q)) E hr e0 hb hv ⟨hl,α,ds,h,rs,hh,w.bind.mono fun d h' _ w1 v H' α' e r rd=>⟨α',d,h',e,r,rd,w1⟩⟩) fun res s' q=>?_
  cases res with
  | error e=>exact q
  | ok fl=>
   cases fl with
   | ret u=>
    refine Br (show CE outer P _ H s _ u s' from q) fun v H' zq1=>?_
    obtain⟨α',d,h',e,r,rd,w⟩:=zq1
    obtain⟨hl,w⟩:=WQ.cO w
    cases rd with
    | @ref n0 p0 hp0=>
     obtain⟨hk,w⟩:=WQ.cO w
     cases el:aq h' n0 with
     | none=>rw[el] at w;exact w.elim
     | some ds=>
      rw[el] at w
      simp only at w
      cases ez:i6 (eC h.length (h'.set n0 (.set [])) 8) ds with
      | none=>rw[ez] at w;exact w.elim
      | some es=>
       rw[ez] at w
       have hx:∀n ds,aq (h'.set n0 (.set [])) n=Wx ds->n≠n0/\aq h' n=Wx ds:=fun n ds z=>by
        by_cases hn:n=n0
        ·subst hn
         unfold aq at z
         rw[TM] at z
         rw[if_pos rfl] at z
         split at z
         ·rename_i q;split at q<;>cases q
         ·cases z
        ·unfold aq at z ⊢
         rw[Ub (SW hn)] at z
         exact⟨hn,z⟩
       refine⟨fun p=>∃n ds,h.length<=n/\n≠n0/\α'[n]?=Wx p/\aq h' n=Wx ds,fun p ⟨n,ds,_,_,hp,hn⟩=>?_,fun o=>?_⟩
       ·obtain⟨vs,hv,_⟩:=r.lst hn hp
        exact⟨_,hv,trivial⟩
       ·generalize hS:(fun p=>∃n ds,h.length<=n/\n≠n0/\α'[n]?=Wx p/\aq h' n=Wx ds)=S
        have inS:∀p,S p↔∃n ds,h.length<=n/\n≠n0/\α'[n]?=Wx p/\aq h' n=Wx ds:=fun p=>by rw[<- hS]
        have k0:=hh.len
        have notS:∀p u,H' p=Wx u->(∀vs,u≠.lst vs)->¬ S p:=fun p u e1 e2 z=>by
         obtain⟨n,ds,_,_,hp,hn⟩:=(inS p).mp z
         obtain⟨vs,hv,_⟩:=r.lst hn hp
         rw[e1] at hv;cases hv;exact e2 vs rfl
        have off:∀p,¬ S p->fw S o H' p=H' p:=fun p z=>by unfold fw;rw[if_neg z]
        have offT:∀(p:PN) (ps:Array Pp),H' p=Wx (.tbl ps)->fw S o H' p=Wx (.tbl ps):=fun p ps z=>by rw[off p (notS p _ z fun vs z=>nomatch z)];exact z
        have L:mQ K (α++[p0]) α' H' (fw S o H') h.length:=⟨fun n hn=>by rw[PB {}];exact fT e.pre {},fun p xs z=>by rw[off p (notS p _ z fun vs z=>nomatch z)];exact z,fun p o u z=>by rw[off p (notS p _ z fun vs z=>nomatch z)];exact z⟩
        have kp:∀n p u,n<h.length->α'[n]?=Wx p->H' p=Wx u->fw S o H' p=Wx u:=fun n p u hn hp e1=>by
         rw[off p fun z=>?_];exact e1
         obtain⟨m,ds,hm,_,hp',_⟩:=(inS p).mp z
         have:=r.inj n m p hp hp'
         lia
        obtain⟨vs0,hv0,rs0⟩:=r.lst el hp0
        have p0S:¬ S p0:=fun z=>by
         obtain⟨m,ds,hm,hne,hp',_⟩:=(inS p0).mp z
         exact hne (r.inj m n0 p0 hp' hp0)
        have p0α:p0∉α:=fun z=>by
         obtain⟨m,hm,em⟩:=Ro z
         have h1:α'[m]?=Wx p0:=by rw[<- fT e.pre hm,Pz hm,em]
         have:=r.inj m n0 p0 h1 hp0
         lia
        have rs2:ao K g (α++[p0]) (fw S o H') es vs0:=gX (fun d e v=>jB L r (fun n ds z=>(hx n ds z).2) (fun n p ds vs hn hl hp hv=>⟨o p,by unfold fw;rw[if_pos ((inS p).mpr ⟨n,ds,hn,(hx n ds hl).1,hp,(hx n ds hl).2⟩),hv];rfl⟩) 8 d e v) ez rs0
        have tl:(h'.take h.length).length=h.length:=by
         rw[Qh,<- r.len]
         have:=e.pre.length_le
         lia
        refine(show aA K g α H Q (.ref h.length) (h'.take h.length++[.lst es]) from w) _ _ (α++[p0]) ⟨⟨List.prefix_append _ _,fun p xs z=>L.tup p xs (e.tup p xs z),fun p o u z=>L.frz p o u (e.frz p o u z),fun p ps z=>(e.tbl p ps z).imp fun _ q=>offT p _ q⟩,fun p u z n nt=>?_,fun p z n=>?_⟩ ⟨?_,fun n m p h1 h2=>?_,fun n p ob h1 h2=>?_,r.tab.mono offT L.frz⟩ (.ref ?_)
        ·rw[off p fun z'=>?_];exact e.kept p u z n nt
         obtain⟨m,ds,_,_,hp',_⟩:=(inS p).mp z'
         have:=e.new p (P0 hp') n
         rw[z] at this;cases this
        ·rcases Qr.mp z with z | z
         ·exact absurd z n
         ·rw[P1.mp z]
          exact e.new p0 (P0 hp0) p0α
        ·rw[P_,P_,tl,k0];rfl
        ·have key:∀i,(α++[p0])[i]?=Wx p->(i<α.length/\α[i]?=Wx p)\/(i=α.length/\p=p0):=fun i hi=>by
          by_cases hl:i<α.length
          ·rw[PB hl] at hi;exact .inl ⟨hl,hi⟩
          ·rw[PM {}] at hi
           by_cases h0:i - α.length=0
           ·rw[h0] at hi;simp at hi;exact .inr ⟨{},hi.symm⟩
           ·rw[QC (by simp;lia)] at hi;cases hi
         rcases key n h1 with⟨a1,a2⟩ | ⟨a1,a2⟩<;>rcases key m h2 with⟨b1,b2⟩ | ⟨b1,b2⟩
         ·exact hh.inj n m p a2 b2
         ·rw[b2] at a2;exact absurd (P0 a2) p0α
         ·rw[a2] at b2;exact absurd (P0 b2) p0α
         ·lia
        ·by_cases hn:n<h.length
         ·rw[PB {},fT e.pre {}] at h1
          rw[PB {}] at h2
          exact nK k0 e r hl L kp n p ob hn h1 h2
         ·rw[PM {}] at h2
          rw[PM {}] at h1
          by_cases h0:n - h.length=0
          ·rw[tl,h0] at h2
           rw[k0,h0] at h1
           simp at h1 h2
           subst h1 h2
           exact⟨vs0,by rw[off _ p0S];exact hv0,rs2⟩
          ·rw[k0,QC (by simp;lia)] at h1;cases h1
        ·rw[<- k0,PM (Pt _)];simp
    | _=>exact w.elim
   | next=>exact q
   | brk=>exact q
   | cont=>exact q
end
section
variable {X:Cx}{g:GG}{ε:EE}
abbrev gT3 (i j k:Nat):D->En->Hh->R En:=fun d env h=>match d with
 | .tup [x,y,z]=>.ok (((env.set i (Wx x)).set j (Wx y)).set k (Wx z)) h
 | _=>.bad
abbrev MB (i j k:Nat) (m:ME):MS:=fun env h=>(m env h).bind fun d h1=>(gT3 i j k d env h1).bind fun e h2=>.ok (.nx e) h2
end
section
variable {X:Cx}{g:GG}{ε:EE}{K:Pk}
abbrev wB:List D->List D->List D
 | x::xs,y::ys=>D.tup [x,y]::wB xs ys
 | _,_=>[]
abbrev HV:List D->Hh->R Src
 | [.frl ds,.frl es],h=>.ok (.snap (wB ds es)) h
 | _,_=>.bad
abbrev Lk (a:MA):MI:=fun env h=>(a env h).bind HV
abbrev lq:List D->Option (List Bool)
 | []=>Wx []
 | .bl b::r=>(lq r).map (b::·)
 | _=>Wy
def i8:∀{ds:List D}{bs:List Bool},lq ds=Wx bs->ds=bs.map D.bl
 | [],_,e=>by cases e;rfl
 | d::ds,bs,e=>by
  cases d with
  | bl b=>
   simp only[lq] at e
   cases e2:lq ds with
   | none=>simp_all
   | some cs=>
    rw[e2] at e
    cases e
    rw[i8 e2];rfl
  | _=>cases e
def ao.IV {α:List PN}{H:Hp}:∀{bs:List Bool}{vs:List V},ao K g α H (bs.map D.bl) vs->vs=bs.map V.bl
 | [],_,.nil=>rfl
 | b::bs,_,.cons r t=>by
  cases r
  rw[ao.IV t];rfl
abbrev oN (m:MF):MF:=fun ds h=>if a8 0 ds=Wz then match m ds [] with
  | .ok d _=>if gU 0 d=Wz then .ok d h else .bad
  | _=>.bad
 else m ds h
def xW (e:Ext K [] H α' H'):Ext K α H α H':=
 ⟨⟨R8 _,e.tup,e.frz,e.tbl⟩,fun p o h _ t=>e.kept p o h {..} t,fun p a b=>absurd a b⟩
def CB (e:Ext K [] H α' H') (r:aK K g α H h) (t:hG K H'):aK K g α H' h:=
 ⟨r.len,r.inj,fun n p o a b=>(r.here n p o a b).ex0 (xW e).toEx0 fun u hu=>e.kept p u hu {..} (by obtain⟨u',e1,_,_,e4⟩:=(r.here n p o a b).isS;simp_all),t⟩
def Dd (h:spM K g np (oN m) vs H Q E):spM K g np m vs H Q E:=by
 obtain⟨hl,α,ds,h,rs,hh,w⟩:=h
 unfold oN at w
 by_cases lo:a8 0 ds=Wz
 ·rw[if_pos lo] at w
  cases e:m ds [] with
  | bad=>rw[e] at w;exact w.elim
  | err x h1=>rw[e] at w;exact w.elim
  | ok d h1=>
   rw[e] at w
   obtain⟨ld,w⟩:=WQ.cO w
   refine⟨hl,[],ds,[],dS ⟨fun n hn=>absurd hn (To _),fun _ _ z=>z,fun _ _ _ z=>z⟩ lo rs,⟨rfl,fun n m p a=>by simp at a,fun n p o a=>by simp at a,hh.tab⟩,?_⟩
   rw[e]
   exact fun v H' α' ex hr' rd=>(show aA K g α H Q d h from w) v H' α (xW ex) (CB ex hh hr'.tab) (mB ⟨fun n hn=>absurd hn (To _),fun _ _ z=>z,fun _ _ _ z=>z⟩ ld rd)
 ·rw[if_neg lo] at w
  exact⟨hl,α,ds,h,rs,hh,w⟩
def Ck (F:b9 P w K mg base CX0 k f fd ps (spM K g np m)):b9 P w K mg base CX0 k f fd ps (spM K g np (oN m)):=
 ⟨fun vs H Q E h=>F.len vs H Q E (Dd h),fun A outer s H args us vs Q E hr e0 hb hv hsp=>F.run A outer s H args us vs Q E hr e0 hb hv (Dd hsp)⟩
end
section
variable {X:Cx}{g:GG}{ε:EE}{K:Pk}
abbrev E6:List D->Hh->R Src
 | [.frl ds,.frl es],h=>.ok (.snap (wB ds es)) h
 | [.tup ds,.tup es],h=>.ok (.snap (wB ds es)) h
 | _,_=>.bad
abbrev KP (a:MA):MI:=fun env h=>(a env h).bind E6
end
section
variable {X:Cx}{g:GG}{ε:EE}{K:Pk}
abbrev Lb (nl:NL):D->D->Hh->R D:=fun x y h=>match x,y with
 | .tup ds,.int k=>if ds.isEmpty=WA/\1<=k/\k.natAbs<=1000000/\ds.length*k.toNat<=1000000 then .ok (.tup (PY k.toNat ds).flatten) h else .bad
 | x,y=>qW nl x y h
end
end L2.FE
namespace L2
open PySem PySem.Spec PyProof.Rows
section
variable {prog:PJ}{w:Qc}{A:P9}{E:Pp->Pr->Prop}{s:Pr}
def BR (hl:s.heap.IsTuple l vs.toArray) (hz:vs.length<=sizeLine)
  (h:Q vs { s with heap:=(s.heap.push (seqObj "list" #[] 0)).update s.heap.objs.size (R0 (·++vs.toArray)) }):wpAny (model prog w) A (collect (.ref l)) Q E s:=by
 obtain⟨o,ho,hc,n,hd⟩:=hl
 unfold collect;refine gV (Vy (RG entry_proto_collect' ?_))
 refine gV (Tp (Pl ⟨Si _ {..},RG entry_list_iadd' ?_⟩))
 show wpAny _ _ (Qq.List.listExtendWith (.ref s.heap.objs.size) (.ref l) (.ref s.heap.objs.size)) _ _ { s with heap:=s.heap.push (seqObj "list" #[] 0) }
 have g1:(s.heap.push (seqObj "list" #[] 0)).get? l=Wx o:=Pn _ ho
 refine gV (S4 ⟨o,g1,hc⟩ ?_)
 rw[if_pos {..}]
 refine gV (Vk g1 hd (gV (Vk (Pu _ rfl) rfl ?_)))
 refine gV (Uj (Pu _ rfl) rfl (Pl ?_) (QJ _) (by grind))
 refine gV (V_ (Vl (Pu _ rfl) _) ?_)
 have e:((#[]:Array Pp)++vs.toArray).toList=vs:={..}
 show wpAny _ _ (pure ((#[]:Array Pp)++vs.toArray).toList) Q E _;rw[e];exact Pl h
def iF (hl:s.heap.IsTuple l vs.toArray) (hI:IntsAre vs ns) (h64:vs.length<64)
  (h:∀out ms , IntsAre out.toList ms->ms.Perm ns->ms.Pairwise (·<=·)->Q (.ref (s.heap.objs.size+1)) { s with heap:=sortedAll s.heap vs out }):wpAny (model prog w) A (call (.builtin "sorted") [.ref l]) Q E s:=by
 refine Calls.call_function_entry kind_sorted plain_sorted entry_sorted (args_sorted1 _) ?_
 refine gV (m:=checkCount "sorted" 1 1 _) (Pl (gV (BR hl (by have:64<=sizeLine:=by decide
                                                             lia) (gV (Tp ?_)))))
 have n1:((s.heap.push (seqObj "list" #[] 0)).update s.heap.objs.size (R0 (·++vs.toArray))).objs.size=s.heap.objs.size+1:=(QQ.size_update ..).trans (size_push' ..)
 have o1:(((s.heap.push (seqObj "list" #[] 0)).update s.heap.objs.size (R0 (·++vs.toArray))).push (seqObj "list" vs.toArray 0)).get? (s.heap.objs.size+1)=Wx (seqObj "list" vs.toArray 0):=n1 ▸ Pu _ rfl
 show wpAny _ _ _ _ _ { s with heap:=((s.heap.push (seqObj "list" #[] 0)).update s.heap.objs.size (R0 (·++vs.toArray))).push (seqObj "list" vs.toArray 0) };rw[n1]
 exact gV (P6 (Qw slot_list_sort ⟨_,o1,rfl⟩ entry_list_sort (list_sort_tree o1 hI h64 fun out ms a1 a2 a3=>⟨_,rfl,Pl ⟨_,rfl,h out ms a1 a2 a3⟩⟩) (args_list_sort _)))
end
abbrev insI (x:Int):List Int->List Int
 | []=>[x]
 | y::r=>if x<=y then x::y::r else y::insI x r
abbrev sortI:List Int->List Int
 | []=>[]
 | x::r=>insI x (sortI r)
def insI_perm (x:Int):∀l,(insI x l).Perm (x::l)
 | []=>.refl _
 | y::r=>by
  unfold insI
  split
  ·rfl
  ·exact((insI_perm x r).cons y).trans (.swap _ _ _)
def sortI_perm:∀l,(sortI l).Perm l
 | []=>.refl _
 | x::r=>(insI_perm x (sortI r)).trans ((sortI_perm r).cons x)
def kZ (x:Int):∀l:List Int,l.Pairwise (·<=·)->(insI x l).Pairwise (·<=·)
 | [],_=>by simp[insI]
 | y::r,h=>by
  unfold insI
  rw[Qe] at h
  split
  ·rename_i hx
   refine Qe.mpr ⟨fun z hz=>?_,Qe.mpr h⟩
   rcases PL.mp hz with rfl | hz
   ·exact hx
   ·exact Int.le_trans hx (h.1 z hz)
  ·rename_i hx
   refine Qe.mpr ⟨fun z hz=>?_,kZ x r h.2⟩
   rcases PL.mp ((insI_perm x r).mem_iff.mp hz) with rfl | hz
   ·lia
   ·exact h.1 z hz
def fZ:∀l,(sortI l).Pairwise (·<=·)
 | []=>.nil
 | x::r=>kZ x _ (fZ r)
def lg:∀{xs ys:List Int},xs.Perm ys->xs.Pairwise (·<=·)->ys.Pairwise (·<=·)->xs=ys
 | [],ys,p,_,_=>by simp_all
 | x::xs,[],p,_,_=>absurd (UR.eq_nil p) {..}
 | x::xs,y::ys,p,hx,hy=>by
  rw[Qe] at hx hy
  have e:x=y:=by
   have a:=p.mem_iff.mp Pw
   have b:=p.mem_iff.mpr Pw
   grind
  subst e
  rw[lg (List.perm_cons x |>.mp p) hx.2 hy.2]
def n6:∀{ns:List Int}{us:List Pp},Vals (ns.map V.int) us->IntsAre us ns
 | [],_,.nil=>.nil
 | n::ns,_,.cons r t=>by
  obtain⟨t',rfl⟩:=r
  exact .cons _ _ (n6 t)
def pZ:∀{us:List Pp}{ns:List Int},IntsAre us ns->Vals (ns.map V.int) us
 | _,_,.nil=>.nil
 | _,_,.cons _ _ t=>.cons ⟨_,rfl⟩ (pZ t)
section
variable {X:Cx}
def zr:aV X (.builtin "sorted") (fun vs H Q=>∃p ns,vs=[.ref p]/\(SqL X.K H p (ns.map V.int)\/SqT X.K H p (ns.map V.int))/\ns.length<64/\∀l,H l=Wy->Q (.ref l) (upd H l (.lst ((sortI ns).map V.int)))):=by
 intro pins s σ H xs us Q I r h
 obtain⟨p,ns,rfl,hq,h64,q⟩:=h
 obtain⟨u,rfl,rx⟩:=vals1 r
 cases rx
 have fin:∀{its:List Pp} (out:Array Pp) (ms:List Int),IntsAre out.toList ms->ms.Perm ns->ms.Pairwise (·<=·)->EP X pins σ Q (.ref (s.heap.objs.size+1)) { s with heap:=sortedAll s.heap its out }:=fun{its} out ms a1 a2 a3=>by
  have e:=lg (a2.trans (sortI_perm ns).symm) a3 (fZ ns)
  subst e
  obtain⟨k,hk⟩:=sortedAll_at s.heap its out
  have hn:=I.hok.fresh (VD _)
  have len:((sortI ns).map V.int).length<=sizeLine:=by
   have:64<=sizeLine:=by decide
   rw[PR,(sortI_perm ns).length_eq];lia
  refine⟨.ref (s.heap.objs.size+1),upd H (s.heap.objs.size+1) (.lst ((sortI ns).map V.int)),I.laid (fun _ _ z=>sortedAll_old z) (VD _) ⟨len,out.toList,k,pZ a1,?_⟩,rfl,q _ hn⟩
  rw[hk]
 rcases hq with hq | hq
 ·obtain⟨its,rv,pl,hz⟩:=I.list hq
  have hl:=rv.length
  rw[PR] at hl
  exact sorted_ints pl.isList (n6 rv) {} fin
 ·obtain⟨its,rv,pl,hz⟩:=I.tuple hq
  have hl:=rv.length
  rw[PR] at hl
  exact iF (show s.heap.IsTuple p its.toArray from pl) (n6 rv) {} fin
end
end L2
namespace L2.FE
open PySem PySem.Spec PyProof.Rows
section
variable {X:Cx}{g:GG}{ε:EE}{K:Pk}
abbrev lG (nl:NL):List D->Hh->R D:=fun ds h=>match ds with
 | [d]=>match eJ d h with
  | some xs=>match intsOf xs with
   | some ns=>if ns.length<64 then nl ((sortI ns).map D.int) h else .bad
   | none=>.bad
  | none=>.bad
 | _=>.bad
def uC:∀(ns:List Int),ao K g α H (ns.map D.int) (ns.map V.int)
 | []=>.nil
 | n::ns=>.cons (.int n) (uC ns)
def Ft [iD nl]:j7 K g ε (lG nl) (fun vs H Q=>∃p ns,vs=[.ref p]/\(SqL K H p (ns.map V.int)\/SqT K H p (ns.map V.int))/\ns.length<64/\∀l,H l=Wy->gA Q (.ref l) (upd H l (.lst ((sortI ns).map V.int)))):=by
 intro α H h a x Q r ra w
 obtain⟨d,v,rfl,rfl,rd⟩:=kB (fun _ _ _ _=>rfl) (fun _=>rfl) ra w
 unfold lG at w
 simp only at w
 cases e:eJ d h with
 | none=>rw[e] at w;exact w.elim
 | some ds=>
  rw[e] at w
  simp only at w
  cases e2:intsOf ds with
  | none=>rw[e2] at w;exact w.elim
  | some ns=>
   rw[e2] at w
   obtain⟨h64,w⟩:=WQ.cO w
   obtain⟨p,vs,rfl,hq,rs⟩:=mn r rd e
   have e3:=dO e2
   subst e3
   have e4:=rs.A5
   subst e4
   exact⟨p,ns,rfl,hq,h64,fun l hl=>NL.post w r (uC _) hl⟩
def IF {mg:Str->Option Pp}{x:Str}{f:PN} (e:g=gOf mg) (h:mg x=Wx (.ref f)):g x=Wx f:=by rw[e];simp[gOf,h]
end
def iT (ok:HOk P w H h) (e:H p=Wx (AtO p o)):h.get? p=Wx o:=(show a_ P w H h p (AtO p o) from ok p _ e).1
def kP {rest:List Rb}:starEach (.Name a b::rest) env=(WA,eval (.Name a b) env)::starEach rest env:=by rfl
def zA:backTo pos ((WA,t)::r)=(WA,t)::backTo pos r:=rfl
def k7 {env:Env}{pos:Pos}{x:Str}{p2:Pos}:∀qs:List (Str × Pos),(backTo pos (starEach (qs.map (fun y=>Wm y.1 y.2)++[.Name x p2]) env)).any (·.1)=WA
 | []=>by rfl
 | q::qs=>by
  rw[PC,List.cons_append,kP,zA,Rc,k7 qs];rfl
section
variable {P:PJ}{w:Qc}{K:Pk}{mg:Str->Option Pp}{base:QQ}{H:Hp}{clos:List (Str × PN)}{scope:Ui}{env:Env}{A:P9}{E:Pp->Pr->Prop}{s:Pr}{m:Str->Option Pp}
def pF {x:Str}{p2 pos:Pos}{u:Pp} (hs:env.scope.kind=.function) (hcl:env.cells=clos) (hok:HOk P w H s.heap) (hx:env.kindOf x=Wx .local) (hxd:(x == ("__debug__" : Str))=WA) (hn:s.heap.Ns env.locals m) (hm:m x=Wx u) :
  ∀(qs:List (Str × Pos)) (vs:List V) (Q:List Pp->Pr->Prop),jL H clos (qs.map (·.1)) vs->(∀y∈qs.map (·.1),env.kindOf y=Wx .free/\(y == ("__debug__" : Str))=WA/\(y == ("__classdict__" : Str))=WA) →
   (∀us,Vals vs us->Q (us++[u]) s)->wpAny (model P w) A (spliced (backTo pos (starEach (qs.map (fun y=>Wm y.1 y.2)++[.Name x p2]) env))) Q E s
 | [],_,Q,.nil,_,h=>by
  exact Se (UI (Uc hs hx hn hm (UM (h [] .nil))) hxd)
 | q::qs,_,Q,.cons ⟨c,o,z,hl,hc,hd,r⟩ t,hf,h=>by
  obtain⟨f1,f2,f3⟩:=hf q.1 {..}
  refine Se (UI (wpAny_loadName_free hs f1 (by simp_all) ⟨o,iT hok hc,hd⟩ ?_ f3) f2)
  exact pF hs hcl hok hx hxd hn hm qs _ _ t (fun y hy=>hf y (by simp_all)) fun us r2=>h (z::us) (.cons r r2)
end
def Ej {K:Pk}
  (F:b9 P w K mg base CX0 k f fd ps sp) (hkp:Qk K (.ref f)=Wz) (hb:Binds K fd ps []) (hm:mg fn=Wx (.ref f)) (T:sM fn x qual ys params body scope)
          (hr:bF (k+1) A) (e0:vN P w K mg base A outer s H)
  (hp:H p=Wx (AtO p (Rq "<lambda>" qual params body scope clos pm c' ctv))) (hc:H c'=Wx (AtO c' oc)) (hd:oc.data=.fields vc) (hv:vc[1]?=Wx (.str qual t)) (cs:jL H clos ys cv) (rv:RelV v u)
  (h:sp (cv++[v]) H Q E1):codeAny (model P w) A (.call (.ref p) ⟨[u],[]⟩) (CR CX0 outer P w H s Q E) s:=by
 refine PySem.W.kla_callFunE hr.depth (iT e0.hok hp) rfl T.co T.gen rfl ⟨c',oc,vc,t,rfl,iT e0.hok hc,hd,hv⟩ ?_
 rw[T.bind]
 refine Pl (wpAny_newFunctionEnv T.Jk (by intro y hy;simp at hy;subst hy;exact T.loc) (fun h₁ hns hsb=>?_) T.kind)
 have keep1:=fun b o e=>hsb.extBut b o (PU (Pq e)) (Pn _ e)
 refine⟨(e0.mod.nolimit.keeps fun b o e=>(e0.bs b o e).1).keeps keep1,?_⟩
 refine PySem.W.kla_codeExpr ?_
 obtain⟨p0,p2,p3,qs,rfl,rfl⟩:=T.tx
 have KX:=(e0.mod.kin.keeps fun b o e=>(e0.bs b o e).1).keeps keep1
 have hok1:=e0.hok.kept keep1
 refine Sf (SE T.kind T.glob (Calls.loadGlobal_global ((e0.mod.glob.keeps fun b o e=>(e0.bs b o e).1).keeps keep1) hm ?_) T.nd.1)
 have hL:frs (Q6 qual scope s.heap.objs.size p (.ref c') clos::outer)=s.heap.objs.size::frs outer:=rfl
 have sz:s.heap.objs.size<=h₁.objs.size:=by
  by_cases z:s.heap.objs.size=0
  ·lia
  ·exact Sk hns.lt
 have e1:vN P w K mg base (A.deeper (Q6 qual scope s.heap.objs.size p (.ref c') clos)) (Q6 qual scope s.heap.objs.size p (.ref c') clos::outer) { s with heap:=h₁,toks:=s.toks+1 } H:=
  ⟨Ud e0.frames,e0.mod,fun b o e=>⟨keep1 b o (e0.bs b o e).1,(e0.bs b o e).2⟩,P7 e0.bsz sz,
   QQ.FunFrames.cons (by show scope.kind≠_;rw[T.kind];decide) rfl hns (SH e0.bsz) (QQ.FunFrames.of_keeps (fun b o e _=>⟨o,keep1 b o e,rfl⟩) e0.ic),
   fun b hb'=>by
    rcases PL.mp hb' with z | z
    ·rw[z];exact e0.hok.fresh (Pt _)
    ·exact e0.frf b z,hok1,e0.bare⟩
 have fin:∀us:List Pp,Vals cv us->wpAny (model P w) (A.deeper (Q6 qual scope s.heap.objs.size p (.ref c') clos)) (call (.ref f) ([]++(us++[u]))) (fun z s'=>CR CX0 outer P w H s Q E (.ok (.ret z)) s')
   (fun e' s'=>wpAny (model P w) (A.deeper (Q6 qual scope s.heap.objs.size p (.ref c') clos)) (leaving (Q6 qual scope s.heap.objs.size p (.ref c') clos) e') (fun _ s''=>CR CX0 outer P w H s Q E (.error e') s'') (fun e'' s''=>CR CX0 outer P w H s Q E (.error e'') s'') s') { s with heap:=h₁,toks:=s.toks+1 }:=fun us r2=>by
  have rr:=r2.append (.cons rv .nil)
  have hl:(us++[u]).length=ps.length:=by rw[<- rr.length];exact F.len _ _ _ _ h
  have hb2:=hb { s with heap:=h₁,toks:=s.toks+1 } (us++[u]) KX (by simp_all)
  rw[QO] at hb2
  refine Sw (RA (F.run _ _ _ H ⟨us++[u],[]⟩ (us++[u]) (cv++[v]) Q E1 (hr.deeper _) e1 hb2 rr h) fun r s' hq=>?_)
  cases r with
  | error e=>exact RX hq
  | ok fl=>
   cases fl with
   | ret z=>
    obtain⟨y,H',os,bare,un,hok,r,q⟩:=(show CE _ P w H _ Q z s' from hq)
    have old:∀{b:PN} {o:Obj},s.heap.get? b=Wx o->b∉frs outer->b∉frs (Q6 qual scope s.heap.objs.size p (.ref c') clos::outer):=fun{b o} e n z=>by
     rcases PL.mp z with z | z
     ·exact absurd (Pq e) (by simp_all)
     ·exact n z
    exact⟨y,H',os,bare,⟨fun b o e n hb' hx=>un.keep b o (keep1 b o e) n (old e hb') hx,fun b o e n hb' hx=>un.slot b o (keep1 b o e) n (by simp_all) hx,fun b o e n hx=>un.free b o (keep1 b o e) n hx,fun b o e hx=>un.there b o (keep1 b o e) hx,un.iY,un.jz,un.lO⟩,hok,r,q⟩
   | next=>assumption
   | brk=>assumption
   | cont=>assumption
 have main:=pF (env:=Q6 qual scope s.heap.objs.size p (.ref c') clos) (A:=A.deeper (Q6 qual scope s.heap.objs.size p (.ref c') clos)) (s:={ s with heap:=h₁,toks:=s.toks+1 }) (x:=x) (p2:=p2) (pos:=p3) (u:=u)
  (E:=fun e' s'=>wpAny (model P w) (A.deeper (Q6 qual scope s.heap.objs.size p (.ref c') clos)) (leaving (Q6 qual scope s.heap.objs.size p (.ref c') clos) e') (fun _ s''=>CR CX0 outer P w H s Q E (.error e') s'') (fun e'' s''=>CR CX0 outer P w H s Q E (.error e'') s'') s')
  T.kind rfl hok1 T.loc T.nd.2 hns {..} qs cv (fun us s2=>K.In s2.heap/\wpAny (model P w) (A.deeper (Q6 qual scope s.heap.objs.size p (.ref c') clos)) (call (.ref f) ([]++us)) (fun z s'=>CR CX0 outer P w H s Q E (.ok (.ret z)) s')
   (fun e' s'=>wpAny (model P w) (A.deeper (Q6 qual scope s.heap.objs.size p (.ref c') clos)) (leaving (Q6 qual scope s.heap.objs.size p (.ref c') clos) e') (fun _ s''=>CR CX0 outer P w H s Q E (.error e') s'') (fun e'' s''=>CR CX0 outer P w H s Q E (.error e'') s'') s') s2) cs T.free fun us r2=>⟨KX,fin us r2⟩
 cases qs with
 | nil=>exact Tf (h₀:=h₁) KX hkp main kP rfl
 | cons q qs=>exact Tf (h₀:=h₁) KX hkp main kP (k7 qs)
abbrev fW (tab:Str->Option (Nat × MF)) (f:ME) (a:MA):ME:=fun env h=>(f env h).bind fun d h1=>match d with
 | .clo x ds=>match tab x with
  | some (np,m)=>if ds.length+1=np then (a env h1).bind fun es h2=>m (ds++es) h2 else .bad
  | none=>.bad
 | _=>.bad
def ng {X:Cx}{g:GG}{k:Nat}{tab:Str->Option (Nat × MF)}{fe e:Rb}{pos:Pos}{mf:ME}{mr:MA}
  (T:∀x np m,tab x=Wx (np,m)->∃f fd ps,X.mg x=Wx (.ref f)/\b9 X.prog X.w X.K X.mg X.base CX0 k f fd ps (spM X.K g np m)/\Qk X.K (.ref f)=Wz/\Binds X.K fd ps [])
  (hr:bF (k+1) X.A) (hf:PE X fe (tM X.K g E00 mf)) (ha:PA X [e] (tMA X.K g E00 mr)) (hlen:∀env h ds h',mr env h=.ok ds h'->ds.length=1)
  (hc:eval (.Call fe [e] [] pos) X.env=(do callWith pos (← eval fe X.env) [] (backTo pos (starEach [e] X.env)) (backToKw pos (keywordEach [] X.env))):=by rfl)
  (he:starEach [e] X.env=(WA,eval e X.env)::starEach [] X.env:=by rfl) :
  PE X (.Call fe [e] [] pos) (tM X.K g E00 (fW tab mf mr)):=by
 intro pins s σ H Q I ⟨α,env,h,s0,w⟩
 refine Call_ (thn (hf pins s σ H (fun v H1=>∃α1 h1 p o clos ys cv c' oc qual t vc x ds np m,v=.ref p/\H1 p=Wx (AtO p o)/\Gx x clos ys o c' qual/\H1 c'=Wx (AtO c' oc)/\oc.data=.fields vc/\vc[1]?=Wx (.str qual t)/\jL H1 clos ys cv/\ao X.K g α1 H1 ds cv ∧
   tab x=Wx (np,m)/\ds.length+1=np/\cM X.K g α1 H1 env σ h1/\WQ X.K g E00 α1 H1 ((mr env h1).bind fun es h2=>m (ds++es) h2) (aA X.K g α1 H1 Q)) I ?_) fun v s1 ⟨x,H1,I1,r1,q1⟩=>?_) hc
 ·refine tM.use s0 w.bind fun d1 h1 v1 H1 α1 e1 s1 r1 w1=>?_
  cases r1 with
  | @clo x ds p o clos ys vs c' oc qual t vc hp hl hc' hd hv cs rs=>
   simp only at w1
   cases et:tab x with
   | none=>rw[et] at w1;exact w1.elim
   | some q=>
    obtain⟨np,m⟩:=q
    rw[et] at w1
    obtain⟨hn,w1⟩:=WQ.cO w1
    exact⟨α1,h1,p,o,clos,ys,vs,c',oc,qual,t,vc,x,ds,np,m,rfl,hp,hl,hc',hd,hv,cs,rs,et,hn,s1,WQ.post e1 w1⟩
  | _=>exact w1.elim
 ·obtain⟨α1,h1,p,o,clos,ys,cv,c',oc,qual,t,vc,x,ds,np,m,rfl,hp,⟨params,body,scope,pm,ctv,xa,rfl,tx⟩,hc',hd,hv,cs,rs,et,hn,s2,w2⟩:=q1
  cases r1
  obtain⟨f,fd,ps,hm,F,hk,hb⟩:=T x np m et
  have fn:∀{h:QQ},h.get? p=Wx (Rq "<lambda>" qual params body scope clos pm c' ctv)->PySem.W.FnAt p h:=fun e=>⟨_,_,_,_,e⟩
  refine PySem.W.callWith_F (fn (iT I1.hok hp)) (thn (ha pos pins s1 σ H1 (fun vs H2=>∃v,vs=[v]/\H2 p=Wx (AtO p (Rq "<lambda>" qual params body scope clos pm c' ctv))/\H2 c'=Wx (AtO c' oc)/\jL H2 clos ys cv/\spM X.K g np m (cv++[v]) H2 Q E0) I1 ?_) fun us s3 ⟨vs,H2,I2,r,v,ev,hp2,hc2,cs2,q⟩=>⟨fn (iT I2.hok hp2),?_⟩) he rfl
  ·refine⟨α1,env,h1,s2,w2.bind.mono fun es h3 eq w3 v3 H3 α3 e3 hr3 r3=>?_⟩
   have l1:=hlen env h1 es h3 eq
   obtain⟨d,rfl⟩:∃d,es=[d]:=List.length_eq_one_iff.mp l1
   cases r3 with
   | @cons _ v _ _ rd rn=>
    cases rn
    refine⟨v,rfl,e3.frz _ _ _ hp,e3.frz _ _ _ hc',L2.Paired.rJ cs fun _ _ ⟨c,o,u,l,a,b⟩=>⟨c,o,u,l,e3.frz _ _ _ a,b⟩,?_,α3,ds++[d],h3,(rs.ext e3).append (.cons rd .nil),hr3,w3.post e3⟩
    rw[P_,<- rs.length];exact hn
  ·subst ev
   cases r with
   | @cons _ u _ _ ru rn=>
    cases rn
    refine Sw (RA (Ej F hk hb hm tx (E:=E0) hr I2.Ia hp2 hc2 hd hv cs2 ru q) fun r s' hq=>?_)
    cases r with
    | error e=>exact RX hq
    | ok fl=>
     cases fl with
     | ret u=>exact I2.after hq
     | next=>assumption
     | brk=>assumption
     | cont=>assumption
open Classical in
abbrev mkH (S:PN->Prop) (h2:QQ) (PT:PN) (T:Array Pp) (H1:Hp):Hp:=fun b=>if S b then (h2.get? b).map (AtO b) else if b=PT then Wx (.tbl T) else H1 b
structure MkS (P) (w) (S:PN->Prop) (h1 h2:QQ) (PT) (ps more) (H1):Prop where
 hok:HOk P w H1 h1
 hPT:H1 PT=some (.tbl ps)
 k:∀b o,b≠PT->h1.get? b=some o->h2.get? b=some o
 hT:h2.get? PT=some (SQ (ps++more))
 hS:∀b,S b->b≠PT/\(∃o,h2.get? b=some o)/\(H1 b=none\/∃o,H1 b=some (AtO b o))
section
variable {P:PJ}{w:Qc}{S:PN->Prop}{h0 h1 h2:QQ}{PT:PN}{ps more:Array Pp}{H H1:Hp}{K:Pk}{g:GG}{α:List PN}{h:Hh}{fs:List PN}
def MkS.at_ (M:MkS P w S h1 h2 PT ps more H1) (hb:S b) (e:h2.get? b=Wx o):mkH S h2 PT (ps++more) H1 b=Wx (AtO b o):=by
 unfold mkH;simp_all
def MkS.pt (M:MkS P w S h1 h2 PT ps more H1):mkH S h2 PT (ps++more) H1 PT=Wx (.tbl (ps++more)):=by
 unfold mkH;rw[if_neg fun z=>(M.hS PT z).1 rfl,if_pos rfl]
def MkS.off (M:MkS P w S h1 h2 PT ps more H1) (e:H1 b=Wx o) (n:b≠PT):mkH S h2 PT (ps++more) H1 b=Wx o:=by
 by_cases hb:S b
 ·obtain⟨_,⟨o2,e2⟩,z | ⟨o1,z⟩⟩:=M.hS b hb
  ·simp_all
  ·rw[e] at z;cases z
   have e1:=M.k b o1 n (iT M.hok e)
   exact M.at_ hb e1
 ·unfold mkH;simp_all
def MkS.non (M:MkS P w S h1 h2 PT ps more H1) (e:H1 b=Wy) (n:¬ S b):mkH S h2 PT (ps++more) H1 b=none:=by
 unfold mkH;rw[if_neg n,if_neg (aE M.hPT e).symm];exact e
def MkS.MM (M:MkS P w S h1 h2 PT ps more H1):HOk P w (mkH S h2 PT (ps++more) H1) h2:=by
 intro b u e
 by_cases hb:S b
 ·obtain⟨_,⟨o2,e2⟩,_⟩:=M.hS b hb
  rw[M.at_ hb e2] at e
  cases e
  exact⟨e2,e2,⟨o2,e2⟩,fun a c x y=>y _ x⟩
 ·by_cases hp:b=PT
  ·subst hp
   rw[M.pt] at e
   cases e
   exact M.hT
  ·have e1:H1 b=Wx u:=by unfold mkH at e;simp_all
   refine(M.hok b u e1).iB (fun c x hc hx=>M.k c x ?_ hx) (fun c z=>M.off z fun q=>?_) fun c xs z=>M.off z fun q=>?_
   ·rcases hc with rfl | hc
    ·exact hp
    ·rintro rfl;rw[M.hPT] at hc;cases hc
   ·subst q;rw[M.hPT] at z;cases z
   ·subst q;rw[M.hPT] at z;cases z
def MkS.un (M:MkS P w S h1 h2 PT ps more H1) (u:Un fs [] H H1 h0 h1) (hn:∀b,S b->h0.objs.size<=b\/H1 b≠Wy):Un fs [] H (mkH S h2 PT (ps++more) H1) h0 h2:=by
 have nt:=fun b o e n=>(aE M.hPT (u.free b o e n {..})).symm
 refine⟨fun b o e n hf hx=>M.k b o (nt b o e n) (u.keep b o e n hf hx),fun b o e n hf hx=>?_,fun b o e n hx=>?_,fun b o e hx=>?_,fun b xs e=>M.off (u.iY b xs e) fun z=>?_,fun b o x e=>M.off (u.jz b o x e) fun z=>?_,fun b qs e=>?_⟩
 ·obtain⟨sl,e1⟩:=u.slot b o e n hf hx
  exact⟨sl,M.k b _ (nt b o e n) e1⟩
 ·have z:=u.free b o e n hx
  refine M.non z fun hb=>?_
  rcases hn b hb with q | q
  ·exact absurd (Pq e) (Um.mpr q)
  grind
 ·obtain⟨o1,e1⟩:=u.there b o e hx
  by_cases z:b=PT
  ·exact⟨_,z ▸ M.hT⟩
  ·exact⟨o1,M.k b o1 z e1⟩
 ·have:=u.iY b xs e;rw[z,M.hPT] at this;grind
 ·have:=u.jz b o x e;rw[z,M.hPT] at this;grind
 ·obtain⟨m1,e1⟩:=u.lO b qs e
  by_cases z:b=PT
  ·subst z
   rw[M.hPT] at e1
   cases e1
   exact⟨m1++more,by rw[M.pt,Array.append_assoc]⟩
  ·exact⟨m1,M.off e1 z⟩
def MkS.ext (M:MkS P w S h1 h2 PT ps more H1):Ext K α H1 α (mkH S h2 PT (ps++more) H1):=
 ⟨⟨R8 _,fun p xs e=>M.off e (fun z=>by rw[z,M.hPT] at e;cases e),fun p o x e=>M.off e (fun z=>by rw[z,M.hPT] at e;cases e),fun p qs e=>by
  by_cases z:p=PT
  ·subst z
   rw[M.hPT] at e;cases e
   exact⟨more,M.pt⟩
  ·exact⟨#[],by rw[M.off e z];simp⟩⟩,fun p o e _ t=>M.off e (fun z=>by rw[z,M.hPT] at e;grind),fun _ z n=>absurd z n⟩
def MkS.NO (M:MkS P w S h1 h2 PT ps more H1) (r:aK K g α H1 h){ns:Pos × Str} (uq:∀f q,jy K f=Wx q->q.1=PT->q.2=ns) (t:sU (mkH S h2 PT (ps++more) H1) (PT,ns)):aK K g α (mkH S h2 PT (ps++more) H1) h:=by
 refine⟨r.len,r.inj,fun n p o a b=>(r.here n p o a b).ex0 M.ext.toEx0 fun x e=>M.off e fun z=>?_,fun f q e=>?_⟩
 ·obtain⟨u,e1,_,_,nt⟩:=r.mem (P0 a)
  rw[z,M.hPT] at e1;cases e1;exact nt _ rfl
 ·by_cases z:q.1=PT
  ·have:=uq f q e z
   cases z;cases this
   exact t
  ·rcases r.tab f q e with x | ⟨c',oc,vc,tk,x,hc,hd⟩
   ·exact .inl (M.off x z)
   ·exact .inr ⟨c',oc,vc,tk,M.off x z,M.off hc (fun y=>by rw[y,M.hPT] at hc;cases hc),hd⟩
end
def zH {h h':QQ}{mg:Str->Option Pp}{PT:PN} (k:∀b o,h.get? b=Wx o->h'.get? b=Wx o) (x:h.BuiltinsAt mg PT):h'.BuiltinsAt mg PT:=
 let ⟨bm,o,a,b,c,d,e,r⟩:=x;⟨bm,o,a,b,c,d,k _ _ e,r⟩
abbrev Made (X:Cx) (g:GG) (α:List PN) (h:Hh) (H1:Hp) (s1:Pr) (d:D) (u:Pp) (s2:Pr):Prop:=∃p H2,u=.ref p/\s2.os=s1.os/\s2.gens=s1.gens/\HOk X.prog X.w H2 s2.heap/\Un X.fs [] X.aD H2 X.ax.heap s2.heap/\Ext X.K α H1 α H2/\aK X.K g α H2 h/\aC X.K g α H2 d (.ref p) ∧
 (∀b o,H1 b=Wy->s1.heap.get? b=Wx o->s2.heap.get? b=Wx o)/\(∀b o,s1.heap.get? b=Wx o->H1 b=Wy->(∀x c,X.env.cells.lookup x=Wx c->c≠b)->H2 b=Wy)
def B5 {X:Cx}{g:GG}{pins:List (PN × Obj)}{σ:St}{H1:Hp}{s1:Pr}{α:List PN}{h:Hh}{params:VJ}{body:Rb}{scope:Ui}{pos:Pos}{clos:List (Str × PN)}{c PT f:PN}{lf x ql:Str}{ys:List Str}{vs:List V}{ds:List D}{E:Pp->Pr->Prop}
  (J:Inv X pins σ H1 s1) (hex:X.ex=[]) (hdef:defaultsOf params X.env=([],[])) (hq:X.env.qual++"<lambda>" = ql) (hcode:X.env.code=.ref c) (C:Rg X.K c PT=Wz) (hB:X.base.BuiltinsAt X.mg PT) (hgP:mainGlobals≠PT)
  (hmk:jy X.K f=Wx (PT,pos,ql)) (uq:∀f q,jy X.K f=Wx q->q.1=PT->q.2=(pos,ql)) (hcl:closureFor scope X.env=pure clos) (hcs:∀y c,clos.lookup y=Wx c->X.env.cells.lookup y=Wx c) (hfn:∀y,X.fn y=Wz)
  (T:sM lf x ql ys params body scope) (hr:aK X.K g α H1 h) (hvs:Paired (fun y v=>(∃c,clos.lookup y=Wx c)/\X.env.kindOf y=Wx .cell/\∃i:Nat,X.N[i]?=Wx y/\σ[i]?=Wx (Wx v)) ys vs) (rds:ao X.K g α H1 ds vs) :
  wpAny (model X.prog X.w) X.A (eval (.Lambda params body scope pos) X.env) (Made X g α h H1 s1 (.clo lf ds)) E s1:=by
 subst hq
 refine PySem.W.kla_eval hdef ?_
 have Ch:=PySem.W.codeHd_of_K J.kIn C
 have hg:=J.mod.glob.keeps J.bk
 have hb:=zH J.bk hB
 obtain⟨m,hns,hloc⟩:=J.loc
 have fin:∀(h':QQ) (tk:Tok) (c':PN) (ctv:Pp) (oc:Obj) (vc:Array Pp) (t:Tok) (ps more:Array Pp),H1 PT=Wx (.tbl ps)->(∀b o,b≠PT->s1.heap.get? b=Wx o->h'.get? b=Wx o)->s1.heap.objs.size<=h'.objs.size->h'.get? PT=Wx (SQ (ps++more)) →
   ps++more = #[rawInt pos.line,rawInt pos.col,.ref c']->h'.get? c'=Wx oc->oc.data=.fields vc->vc[1]?=Wx (.str (X.env.qual++"<lambda>") t)->c'≠PT->((H1 c'=Wy/\s1.heap.objs.size<=c')\/H1 c'=Wx (AtO c' oc)) →
   Made X g α h H1 s1 (.clo lf ds) (.ref h'.objs.size) { s1 with heap:=h'.push (Rq "<lambda>" (X.env.qual++"<lambda>") params body scope clos ((X.mg "__name__").getD .none) c' ctv),toks:=tk }:=by
  intro h' tk c' ctv oc vc t ps more hPT hk hsz hT hT2 hc hd hv hcP hc1
  have kp:∀b o,h'.get? b=Wx o->(h'.push (Rq "<lambda>" (X.env.qual++"<lambda>") params body scope clos ((X.mg "__name__").getD .none) c' ctv)).get? b=Wx o:=fun b o e=>Pn _ e
  have pp:(h'.push (Rq "<lambda>" (X.env.qual++"<lambda>") params body scope clos ((X.mg "__name__").getD .none) c' ctv)).get? h'.objs.size=Wx (Rq "<lambda>" (X.env.qual++"<lambda>") params body scope clos ((X.mg "__name__").getD .none) c' ctv):=Pu _ rfl
  have M:MkS X.prog X.w (fun b=>b=h'.objs.size\/b=c'\/∃y,clos.lookup y=Wx b) s1.heap (h'.push (Rq "<lambda>" (X.env.qual++"<lambda>") params body scope clos ((X.mg "__name__").getD .none) c' ctv)) PT ps more H1:=by
   refine⟨J.hok,hPT,fun b o n e=>kp b o (hk b o n e),kp _ _ hT,fun b hb=>?_⟩
   rcases hb with rfl | rfl | ⟨y,hy⟩
   ·exact⟨fun z=>absurd (Pq hT) (by rw[<- z];exact Ra _),⟨_,pp⟩,.inl (J.hok.fresh hsz)⟩
   ·refine⟨hcP,⟨_,kp _ _ hc⟩,?_⟩
    rcases hc1 with⟨z,_⟩ | z
    ·exact .inl z
    ·exact .inr ⟨_,z⟩
   ·have z:=J.cL y b (hcs y b hy)
    obtain⟨v,o,e,_⟩:=J.cell y b (hcs y b hy)
    have n:=(aE hPT z).symm
    exact⟨n,⟨o,kp _ _ (hk b o n e)⟩,.inl z⟩
  have atp:=M.at_ (.inl rfl) pp
  have atc:=M.at_ (.inr (.inl rfl)) (kp _ _ hc)
  refine⟨h'.objs.size,_,rfl,rfl,rfl,M.MM,M.un (hex ▸ J.base) fun b hb=>?_,M.ext,M.NO hr uq (.inr ⟨c',oc,vc,t,?_,atc,hd,hv⟩),?_,fun b o n e=>kp b o (hk b o (aE hPT n).symm e),fun b o e n hcc=>M.non n fun hb=>?_⟩
  ·rcases hb with rfl | rfl | ⟨y,hy⟩
   ·exact .inl (P7 J.sz hsz)
   ·rcases hc1 with⟨_,z⟩ | z
    ·exact .inl (P7 J.sz z)
    ·exact .inr (by rw[z];exact fun q=>nomatch q)
   ·exact .inl (J.ok.cab y b (hfn y) (hcs y b hy))
  ·rw[M.pt,hT2]
  ·refine .clo atp ⟨params,body,scope,_,ctv,x,rfl,T⟩ atc hd hv (L2.Paired.rJ hvs fun y v ⟨⟨cc,hcc⟩,kd,i,hN,hσ⟩=>?_) (rds.ext M.ext)
   obtain⟨u,ru,lk⟩:=hloc i y v hN hσ (.inr (.inl kd))
   rcases lk with⟨z,_⟩ | ⟨_,c2,hc2,o,e,hdo⟩
   ·rw[kd] at z;cases z
   ·rw[hcs y cc hcc] at hc2
    cases hc2
    have z:=J.cL y cc (hcs y cc hcc)
    exact⟨cc,o,u,hcc,M.at_ (.inr (.inr ⟨y,hcc⟩)) (kp _ _ (hk cc o (aE hPT z).symm e)),hdo,ru⟩
  ·rcases hb with rfl | rfl | ⟨y,hy⟩
   ·exact absurd (Pq e) (Um.mpr hsz)
   ·rcases hc1 with⟨_,z⟩ | z
    ·exact absurd (Pq e) (Um.mpr z)
    ·rw[n] at z;cases z
   ·exact hcc y b (hcs y b hy) rfl
 rcases hr.tab f _ hmk with hPT | ⟨c',oc,vc,t,hPT,hc,hd,hv⟩
 ·have hP:=J.hok PT _ hPT
  refine PySem.W.kla_makeFunction hcl J.ok.glob hg hcode Ch hP trivial rfl hgP hb fun c' ctv h' tk hx hge hlt hrec htb=>?_
  obtain⟨c2,oc,vc,t,z,hc,hd,hv⟩:=hrec
  cases z
  refine fin h' tk c' ctv oc vc t _ _ hPT (fun b o n e=>hx b o n e) {} htb {..} hc hd hv (fun z=>?_) (.inl ⟨J.hok.fresh hge,hge⟩)
  exact absurd (Pq hP) (by rw[<- z];exact Um.mpr hge)
 ·have hP:=J.hok PT _ hPT
  refine PySem.W.kla_makeFunctionHit (cv:=.ref c') hcl J.ok.glob hg hcode Ch hP trivial (by simp[codeAmong,rawInt]) hb fun ctv h' tk hk hsz=>?_
  refine fin h' tk c' ctv oc vc t _ #[] hPT (fun b o n e=>hk b o e) hsz (by rw[Array.append_empty];exact hk _ _ hP) {..} (hk _ _ (iT J.hok hc)) hd hv (fun z=>?_) (.inr hc)
  rw[z,hPT] at hc;cases hc
def sL {last:TF}{env:Env}:∀rows:List TF,execs (rows++[last]) env=(execs rows env >>= fun f=>match f with
  | .next=>exec last env
  | f=>pure f)
 | []=>by
  show(exec last env >>= fun f=>match f with | .next=>pure .next | f=>pure f)=_
  refine V1 ?_ (bind_pure _)
  congr 1
  grind
 | r::rows=>by
  show(exec r env >>= fun f=>match f with | .next=>execs (rows++[last]) env | f=>pure f)=((exec r env >>= fun f=>match f with | .next=>execs rows env | f=>pure f) >>= _)
  rw[bind_assoc]
  congr 1
  funext f
  cases f with
  | next=>exact sL rows
  | ret v=>rfl
  | brk=>rfl
  | cont=>rfl
def ED {CX:CXT}{P:PJ}{w:Qc}{K:Pk}{mg:Str->Option Pp}{base:QQ}{k:Nat}{f:PN}{name qual:Str}{params:VJ}{body rows:List TF}{last:TF}{scope:Ui}{dV kV doc pm cdv ct oc:Pp}{an od:Option PN}
  {osl:Array (Option Pp)} {N ps:List Str} {sp:Sp} (lk:K.lookup f=Wx ⟨oc,od,.func (QH name qual params body scope dV kV doc pm an cdv ct),osl⟩) (hcd:SN K cdv qual=Wz) (S:az N ps scope)
  (len:∀vs H Q E,sp vs H Q E->vs.length=ps.length) (hbd:body=rows++[last])
  (hbody:∀(A:P9) (outer:List Env) (s:Pr) (H:Hp) (vs:List V) (Q:VK) (E:XK),bF k (A.deeper (envOfC qual scope s.heap.objs.size f cdv))->sp vs H Q E →
   ∃t R,PSs (dR CX P w K mg base N qual scope f cdv A outer s H E) rows t/\t { nx:=R,rt:=fun _ _=>False } (start N vs) H/\∀σ H1 s1,Inv (dR CX P w K mg base N qual scope f cdv A outer s H E) [] σ H1 s1->R σ H1 →
    wpAny (model P w) (dR CX P w K mg base N qual scope f cdv A outer s H E).A (exec last (envOfC qual scope s.heap.objs.size f cdv)) (fun fl s2=>∃u,fl=.ret u/\CE outer P w H s Q u s2) (dR CX P w K mg base N qual scope f cdv A outer s H E).xe s1) :
  b9 P w K mg base CX (k+1) f (QH name qual params body scope dV kV doc pm an cdv ct) ps sp:=by
 subst hbd
 refine⟨len,fun A outer s H args us vs Q E hr e0 hb r hsp=>?_⟩
 have hl:=len _ _ _ _ hsp
 have KX:=e0.mod.kin.keeps fun b o e=>(e0.bs b o e).1
 have lim:=e0.mod.nolimit.keeps fun b o e=>(e0.bs b o e).1
 have hkind:∀y∈ps.zip us,scope.names.lookup y.1=Wx .local\/(scope.names.lookup y.1=Wx .cell/\((cellsFrom (s.heap.objs.size+1) scope.names []).lookup y.1).isSome=Wz):=fun⟨n,v⟩ hy=>by
  rcases S.par n (Sl hy).1 with q | q
  ·grind
  ·exact .inr ⟨q,RI _ _ _ (.inl q)⟩
 refine Sm hr.depth (KX _ _ lk) rfl S.co S.gen rfl (Uy KX hcd) (hb _ _ _ _ ?_)
 refine RL S.kind hkind fun env he s1 x=>?_
 subst he
 refine⟨lim.keeps x.toInCall.keep,Vc ?_⟩
 obtain⟨t,R,ht,hq,hlast⟩:=hbody A outer s H vs Q E (hr.deeper _) hsp
 have I:Inv (dR CX P w K mg base N qual scope f cdv A outer s H E) [] (start N vs) H s1:=j_ S hr.hd e0 hl r x
 rw[sL]
 refine P4 (gV (thn (ht [] s1 (start N vs) H _ I hq) fun fl s' hs=>?_)) (Q:=fun fl s2=>∃u,fl=Flow.ret u/\CE outer P w H s Q u s2) (fun fl s' hs=>?_) fun e s' hs=>hs
 ·cases fl with
  | next=>
   obtain⟨σ',H',J,q⟩:=hs
   exact hlast σ' H' s' J q
  | ret u=>obtain⟨_,_,_,_,_,q⟩:=hs;simp_all
  | brk=>obtain⟨_,_,_,q⟩:=hs;simp_all
  | cont=>obtain⟨_,_,_,q⟩:=hs;simp_all
 ·obtain⟨u,rfl,q⟩:=hs
  exact q
abbrev vQ:List Nat->En->Option (List D)
 | [],_=>Wx []
 | i::r,e=>match (e[i]?:Option (Option D)),vQ r e with
  | some (Wx d),Wx ds=>Wx (d::ds)
  | _,_=>Wy
abbrev FF (n:Nat) (m:MS) (lf:Str) (ix:List Nat):MF:=fun ds h=>(m (ds.map Wx++PY (n - ds.length) Wy) h).bind fun fl h1=>match fl with
 | .nx e=>(match vQ ix e with
  | some cs=>.ok (.clo lf cs) h1
  | none=>.bad)
 | _=>.bad
def tX {K:Pk}{g:GG}{α:List PN}{H:Hp}{N:List Str}{σ:St}{e:En} (v:iA K g α H e σ):∀{ix:List Nat}{ys:List Str}{cs:List D},ix.map (fun i=>N[i]?)=ys.map Wx->vQ ix e=Wx cs →
  ∃vs,Paired (fun y v=>∃i:Nat,N[i]?=Wx y/\σ[i]?=Wx (Wx v)) ys vs/\ao K g α H cs vs
 | [],[],_,_,h=>by cases h;exact⟨[],.nil,.nil⟩
 | [],_::_,_,e,_=>by cases e
 | _::_,[],_,e,_=>by cases e
 | i::ix,y::ys,cs,hi,h=>by
  simp only[PC,Vm] at hi
  unfold vQ at h
  split at h
  ·rename_i d ds e1 e2
   cases h
   obtain⟨u,hu,ru⟩:=v.vars i d e1
   obtain⟨vs,p,r⟩:=tX v hi.2 e2
   exact⟨u::vs,.cons ⟨i,hi.1,hu⟩ p,.cons ru r⟩
  grind
abbrev mkU (K:Pk):Bool:=(K.filterMap fun p=>jy K p.1).all fun a=>(K.filterMap fun p=>jy K p.1).all fun b=>!(V8 a.1 b.1) || decide (a.2=b.2)
def Bi {K:Pk} (h:K.lookup f=Wx o):∃p∈K,p.1=f:=by
 induction K with
 | nil=>cases h
 | cons q r ih=>
  grind
def r_ {K:Pk} (h:jy K f=Wx q):q∈K.filterMap fun p=>jy K p.1:=by
 cases e:K.lookup f with
 | none=>unfold jy at h;simp_all
 | some o=>
  obtain⟨p,hp,e1⟩:=Bi e
  grind
def Hd {K:Pk} (u:mkU K=Wz) (h:jy K f=Wx q) (h':jy K f'=Wx q') (e:q'.1=q.1):q'.2=q.2:=by
 have:=PX.mp (PX.mp u q' (r_ h')) q (r_ h)
 simp_all
structure Mkr (K) (mg) (base:QQ) (fd:RV) (c PT):Prop where
 code:fd.code=.ref c
 hd:Rg K c PT=true
 bat:base.BuiltinsAt mg PT
 ne:mainGlobals≠PT
 uq:mkU K=true
def FX {K:Pk}{c PT:PN} (e:Rg K c PT=Wz):∃k d vs s,K.lookup c=Wx ⟨k,d,.fields vs,s⟩/\vs[11]?=Wx (.ref PT):=by
 unfold Rg at e
 grind
def EJ {K:Pk}{f c PT:PN} (lk:K.lookup f=Wx ⟨oc,od,.func fd,osl⟩) (hc:fd.code=.ref c) (C:Rg K c PT=Wz) (hm:Eo fd=Wx pos) :
  jy K f=Wx (PT,pos,fd.qualname++".<locals>." ++ "<lambda>"):=by
 obtain⟨k,d,vs,s,e,e11⟩:=FX C
 unfold jy
 simp_all
section
variable {P:PJ}{w:Qc}{K:Pk}{mg:Str->Option Pp}{base:QQ}{g:GG}
def KG {st:TF}{c PT:PN} (F:Fun K x x st f fd) (S:az N ps (ag st)) (M:Mkr K mg base fd c PT)
  (hbd:aP st=rows++[.Return (Wx (.Lambda params body scope pos)) rpos]) (hdef:∀env,defaultsOf params env=([],[]))
  (hcl:∀L cdv , ∃clos,closureFor scope (envOfC x (ag st) L f cdv)=pure clos/\(∀z c,clos.lookup z=Wx c->(envOfC x (ag st) L f cdv).cells.lookup z=Wx c)/\∀z∈ys,∃c,clos.lookup z=Wx c)
  (hys:∀z∈ys,(ag st).names.lookup z=Wx .cell) (hix:ix.map (fun i=>N[i]?)=ys.map Wx) (T:sM lf y (x++".<locals>." ++ "<lambda>") ys params body scope)
  (hb:∀cdv A outer s H E , bF k (A.deeper (envOfC x (ag st) s.heap.objs.size f cdv)) →
   PSs (dR CX0 P w K mg base N x (ag st) f cdv A outer s H E).nox rows (tMS K g E00 mb)):b9 P w K mg base CX0 (k+1) f fd ps (spM K g ps.length (FF N.length mb lf ix)):=by
 obtain⟨oc,od,kV,doc,pm,an,cdv,ct,osl,rfl,lk,hcd⟩:=F.ex
 have hmk:Eo (QH x x (cb st) (aP st) (ag st) .none kV doc pm an cdv ct)=Wx pos:=by
  unfold Eo QH
  simp_all
 have hT:=EJ lk M.code M.hd hmk
 obtain rfl:cdv=.ref c:=M.code
 refine ED lk hcd S (fun vs H Q E h=>h.1) hbd fun A outer s H vs Q E hr hsp=>?_
 obtain⟨hl,α,ds,h,rs,hh,w1⟩:=hsp
 refine⟨_,fun σ H1=>∃α1 e h1 cs,Ext K α H α1 H1/\cM K g α1 H1 e σ h1/\vQ ix e=Wx cs/\aA K g α H Q (.clo lf cs) h1,(hb (.ref c) A outer s H E hr).nox,?_,fun σ H1 s1 J hR=>?_⟩
 ·refine tMS.use ⟨hh,ik rs⟩ w1.bind fun fl h' H' α' e r kk=>?_
  cases fl with
  | nx e'=>
   intro σ' s'
   dsimp only at kk
   cases ec:vQ ix e' with
   | none=>rw[ec] at kk;exact kk.elim
   | some cs=>rw[ec] at kk;exact⟨α',e',h',cs,e,s',ec,kk⟩
  | bk e'=>exact kk.elim
  | ct e'=>exact kk.elim
  | rt d=>exact kk.elim
 ·obtain⟨α1,e,h1,cs,ex,sr,ec,po⟩:=hR
  obtain⟨clos,hc1,hc2,hc3⟩:=hcl s.heap.objs.size (.ref c)
  obtain⟨vs',pv,rds⟩:=tX sr.vs hix ec
  have pv2:Paired (fun z v=>(∃c,clos.lookup z=Wx c)/\(ag st).names.lookup z=Wx .cell/\∃i:Nat,N[i]?=Wx z/\σ[i]?=Wx (Wx v)) ys vs':=by
   clear ec rds hix T hcl
   induction pv with
   | nil=>exact .nil
   | cons q t ih=>exact .cons ⟨hc3 _ (Pw ..),hys _ (Pw ..),q⟩ (ih (fun z hz=>hys z (Po _ hz)) (fun z hz=>hc3 z (Po _ hz)))
  refine wpAny_Return_some (thn (B5 J rfl (hdef _) rfl rfl M.hd M.bat M.ne hT (fun f' q e1 e2=>Hd M.uq hT e1 e2) hc1 hc2 (fun _=>rfl) T sr.heap pv2 rds) fun u s2 md=>?_)
  obtain⟨p,H2,rfl,os,gn,hok,un,ex2,hr2,rd,_,_⟩:=md
  exact⟨_,rfl,.ref p,H2,os.trans J.os,by rw[gn];exact J.bare,un,hok,rfl,po _ H2 α1 (ex.trans ex2) hr2 rd⟩
end
abbrev gz (ts:List PN) (Hs:Hp):Hp:=fun b=>if b∈ts then Wx (.tbl #[]) else Hs b
def zG {P:PJ}{w:Qc}{K:Pk}{mg mb:Str->Option Pp}{k:Nat}{fa a:PN}{fd:RV}{x:Str}{sp:Sp}{s₁:Pr}{vs:List Pp}{ns:List Int}{ts:List PN}
  (KX:K.In s₁.heap) (hns:s₁.heap.Ns mainGlobals mg) (hb:s₁.heap.Ns builtinsNs mb) (hbb:∀x:Str,x≠"__name__" -> mb x=bootBuiltins x) (hlim:s₁.heap.NoLimit) (hg:s₁.gens = #[])
  (hbm:∃bm ob,mg "__builtins__" = Wx (.ref bm)/\bm≠builtinsNs/\s₁.heap.get? bm=Wx ob/\ob.cls=.type "module" /\ ob.dict=Wx builtinsNs/\ob.data=.plain)
  (hts:∀P∈ts,s₁.heap.get? P=Wx (SQ #[])) (hct:∀P∈ts,∃c,PySem.W.CodeHd s₁.heap c P) (hKt:∀P∈ts,K.lookup P=Wy)
  (ha:s₁.heap.get? a=Wx { cls:=.type "list", data:=.seq vs.toArray }) (hi:IntsAre vs ns) (hl:ns.length<=sizeLine) (hr:bF k callerA)
  (F:∀base:QQ,K.In base->base.Ns mainGlobals mg->(∀P∈ts,base.BuiltinsAt mg P)->b9 P w K mg base CX0 k fa fd [x] sp) (hbind:∀(s:Pr) (u:Pp),VU s fd ⟨[u],[]⟩ [(x,u)])
  (hsp:∀H:Hp,(∀P∈ts,H P=Wx (.tbl #[]))->Fro K H a (ns.map V.int)->sp [.ref a] H (fun v _=>v=.bl Wz) fun _ _ _=>False) :
  codeAny (model P w) callerA (.call (.ref fa) ⟨[.ref a],[]⟩) (fun r s'=>r=.ok (.ret (.bool Wz))/\OldK s₁.heap s'.heap/\s'.os=s₁.os/\UZ s'.gens) s₁:=by
 have rv:=pG hi
 have lenV:=hi.length
 have aT:a∉ts:=fun z=>by simp_all
 have core:∀Hs:Hp,Oc Hs->Fro K (gz ts Hs) a (ns.map V.int)->HOk P w Hs s₁.heap->(∀b,Hs b≠Wy->b=a)->(Hs a≠Wy->K.lookup a=Wy) →
   codeAny (model P w) callerA (.call (.ref fa) ⟨[.ref a],[]⟩) (fun r s'=>r=.ok (.ret (.bool Wz))/\OldK s₁.heap s'.heap/\s'.os=s₁.os/\UZ s'.gens) s₁:=by
  intro Hs hO hS hok0 hA hK
  have inT:∀{b:PN},b∈ts->gz ts Hs b=Wx (.tbl #[]):=fun h=>by unfold gz;simp_all
  have offT:∀{b:PN},b∉ts->gz ts Hs b=Hs b:=fun h=>by unfold gz;simp_all
  have hok:HOk P w (gz ts Hs) s₁.heap:=fun b u e=>by
   by_cases hb:b∈ts
   ·rw[inT hb] at e;cases e;exact hts b hb
   ·rw[offT hb] at e
    refine(hok0 b u e).iB (fun _ _ _ z=>z) (fun c z=>?_) fun c xs z=>?_
    ·grind
    grind
  have non:∀{b:PN} {o:Obj},s₁.heap.get? b=Wx o->(∀a n,o.data≠.seq a n)->(∀a,o.data≠.fields a)->gz ts Hs b=none:=fun{b o} e d1 d2=>by
   by_cases hb:b∈ts
   ·grind
   grind
  have base_of:∀{b:PN} {o:Obj},s₁.heap.get? b=Wx o->gz ts Hs b=Wy->(pB s₁.heap (gz ts Hs)).get? b=Wx o:=fun e n=>CA e n
  have nsK:∀{b:PN} {m:Str->Option Pp},s₁.heap.Ns b m->(pB s₁.heap (gz ts Hs)).Ns b m:=fun{b m} ⟨o,es,ep,e,d,r⟩=>⟨o,es,ep,base_of e (non e (fun _ _ z=>by rw[d] at z;cases z) fun _ z=>by rw[d] at z;cases z),d,r⟩
  have hKb:K.In (pB s₁.heap (gz ts Hs)):=fun b o e=>base_of (KX b o e) (by
   grind)
  have hM:Mod K mg (pB s₁.heap (gz ts Hs)):=⟨hKb,nsK hns,⟨mb,nsK hb,hbb⟩,let ⟨mc,h1,h2⟩:=hlim;⟨mc,nsK h1,h2⟩⟩
  have hBA:∀P∈ts,(pB s₁.heap (gz ts Hs)).BuiltinsAt mg P:=fun PT hP=>by
   obtain⟨bm,ob,b1,b2,b3,b4,b5,b6⟩:=hbm
   refine⟨bm,ob,b1,b2,fun z=>?_,fun z=>?_,base_of b3 (non b3 (fun _ _ z=>by rw[b6] at z;cases z) fun _ z=>by rw[b6] at z;cases z),b4,b5,b6⟩
   ·obtain⟨o,es,ep,e,d,_⟩:=hns
    rw[<- z,b3] at e;cases e;rw[b6] at d;cases d
   grind
  have e0:vN P w K mg (pB s₁.heap (gz ts Hs)) callerA [] s₁ (gz ts Hs):=⟨rfl,hM,fun b o e=>FZ e,Nat.le_of_eq (Al _ _),trivial,fun b hb=>absurd (show b∈([]:List PN) from hb) {..},hok,.of_eq hg⟩
  refine RA ((F _ hKb (nsK hns) hBA).run callerA [] s₁ (gz ts Hs) ⟨[.ref a],[]⟩ [.ref a] [.ref a] _ _ hr e0 (hbind s₁ (.ref a)) (.cons rfl .nil) (hsp _ (fun P hP=>inT hP) hS)) fun r s' h=>?_
  cases r with
  | error e=>exact h.elim
  | ok fl=>
   cases fl with
   | next=>exact RX h
   | brk=>exact RX h
   | cont=>exact RX h
   | ret u=>
    obtain⟨v,H',os,bare,un,hok',r',q⟩:=h
    have q':v=.bl true:=q
    subst q'
    obtain rfl:u=Ul true:=r'
    have old:∀b o,s₁.heap.get? b=Wx o->b∉ts->s'.heap.get? b=Wx o:=fun b o e hb=>by
     cases q:gz ts Hs b with
     | none=>exact un.keep b o e q (by intro z;exact absurd (show b∈([]:List PN) from z) {..}) {..}
     | some u=>
      rw[offT hb] at q
      rcases hO b with z | ⟨ob,xs,z⟩
      ·rw[q] at z;cases z
      ·have z2:=un.jz b ob _ ((offT hb).trans z)
       obtain⟨e1,_⟩:=hok0 b _ z
       obtain⟨e2,_⟩:=hok' b _ z2
       grind
    have grown:∀b∈ts,∃ps,s'.heap.get? b=Wx (SQ ps):=fun b hb=>by
     obtain⟨more,e1⟩:=un.lO b _ (inT hb)
     exact⟨_,hok' b _ e1⟩
    refine⟨rfl,⟨fun b o e=>?_,fun b o e=>?_⟩,os,bare⟩
    ·by_cases hb:b∈ts
     ·obtain⟨ps,e1⟩:=grown b hb
      obtain⟨c,C⟩:=hct b hb
      have e2:=hts b hb
      rw[e] at e2;cases e2
      exact .inr (.inl ⟨(C.tab (hts b hb)).isCodeTable,rfl,#[],ps,rfl,by rw[e1];simp⟩)
     ·exact .inl (old b o e hb)
    ·by_cases hb:b∈ts
     ·obtain⟨ps,e1⟩:=grown b hb;exact⟨_,e1⟩
     ·exact⟨o,old b o e hb⟩
 cases hk:K.lookup a with
 | some o=>
  have e:=KX a o hk
  rw[ha] at e
  cases e
  refine core (fun _=>Wy) (fun _=>.inl rfl) (.inr ⟨_,vs.toArray,_,hk,rfl,rfl,rfl,by simp_all,{}⟩) (fun b u z=>by have z':(none:Option HO)=Wx u:=z;cases z') (fun b z=>absurd rfl z) fun z=>absurd rfl z
 | none=>
  refine core (fun b=>if b=a then Wx (.frz { cls:=.type "list", data:=.seq vs.toArray } (.lst (ns.map V.int))) else Wy) (fun b=>?_) (.inl ⟨{ cls:=.type "list", data:=.seq vs.toArray },?_⟩) (fun b u z=>?_) (fun b z=>?_) fun _=>hk
  ·by_cases hb:b=a
   ·exact .inr ⟨_,_,if_pos hb⟩
   ·exact .inl (if_neg hb)
  ·unfold gz;rw[if_neg aT];exact if_pos rfl
  ·by_cases hb:b=a
   ·have z':=(if_pos hb).symm.trans z
    cases z'
    subst hb
    exact⟨ha,by rw[PR];exact hl,vs,_,rv,ha⟩
   ·have z':=(if_neg hb).symm.trans z
    cases z'
  ·by_cases hb:b=a
   ·exact hb
   ·exact absurd (if_neg hb) z
abbrev tabOf (K:Pk) (c:PN):PN:=match K.lookup c with
 | some ⟨_,_,.fields vs,_⟩=>(match (vs[11]?:Option Pp) with | some (.ref P)=>P | _=>0)
 | _=>0
abbrev Jw (K:Pk) (ts:List PN):Bool:=(K.filterMap fun p=>jy K p.1).all (fun q=>ts.any (V8 q.1))&&ts.all fun P=>(K.lookup P).isNone&&K.any fun p=>match p.2.data with
 | .func fd=>(match fd.code with
  | .ref c=>Rg K c P
  | _=>WA)
 | _=>WA
abbrev IJ (K:Pk) (ts:List PN) (x:Str) (st:TF):Prop:=∃f fd c,Qu K mainGlobals x=Wx (Wx (.ref f))/\Fun K x x st f fd/\fd.code=.ref c/\Rg K c (tabOf K c)=Wz/\ts.any (V8 (tabOf K c))=Wz/\V8 mainGlobals (tabOf K c)=WA
abbrev D0 (K:Pk) (mg:Str->Option Pp) (base:QQ) (x:Str) (st:TF):Prop:=∀f fd,mg x=Wx (.ref f)->Fun K x x st f fd->∃c PT,Mkr K mg base fd c PT
def Kd {K:Pk}{st:TF}{kV doc pm ct:Pp} (a:Qu K mainGlobals x=Wx (Wx (.ref f)))
  (l:K.lookup f=Wx ⟨oc,od,.func (QH x x (cb st) (aP st) (ag st) .none kV doc pm an (.ref c) ct),osl⟩) (cc:SN K (.ref c) x=Wz) (k:Qk K (.ref f)=Wz)
  (h1:Rg K c (tabOf K c)=Wz) (h2:ts.any (V8 (tabOf K c))=Wz) (h3:V8 mainGlobals (tabOf K c)=WA):IJ K ts x st:=⟨f,_,c,a,wu l cc k,rfl,h1,h2,h3⟩
def D0.of {K:Pk}{st:TF} (X:K.In h) (G:h.Ns mainGlobals mg) (hB:∀P∈ts,base.BuiltinsAt mg P) (hU:mkU K=Wz) (m:IJ K ts x st):D0 K mg base x st:=by
 intro f fd hm F
 obtain⟨f2,fd2,c,a,F2,hc,h1,h2,h3⟩:=m
 have hm2:=Ux X G a
 rw[hm] at hm2
 cases hm2
 obtain⟨oc,od,osl,l1⟩:=c6 F
 obtain⟨oc',od',osl',l2⟩:=c6 F2
 rw[l1] at l2
 cases l2
 obtain⟨P,hP,e⟩:=U8.mp h2
 have e:=Nat.eq_of_beq_eq_true e
 refine⟨c,tabOf K c,hc,h1,hB _ (by simp_all),fun z=>?_,hU⟩
 simp_all
def EH {k:Nat}{m:MF}{l:PySem.W.OpenLaw}{q:PJ}{loose:List Str}{XP:(Str->Option Pp)->QQ->Prop}{YP:Qc->QQ->Prop}{d:DefRec}{K:Params->Pk}{ts:List PN} (hn:l.most=Wx 63) (hdf:d.params.defaults=[]) (hr:bF k callerA)
  (hY:∀(w:Qc) (h:QQ),YP w h->(K w.params).In h) (hT:∀(w:Qc) (h:QQ),YP w h->∀P∈ts,h.get? P=Wx (SQ #[])) (hI:∀P,Jw (K P) ts=Wz)
  (ok:∀ns:List Int,ns.length<=63->∃h,m [.scr (ns.map D.int)] []=.ok (.bl Wz) h)
  (F:∀(w:Qc) (mg:Str->Option Pp) (fa:PN) (h:QQ),(K w.params).In h->h.Ns mainGlobals mg->mg d.name=Wx (.ref fa) →
   ∃fd:RV,(∀(s:Pr) (u:Pp),VU s fd ⟨[u],[]⟩ [("_law_script", u)])/\∀base:QQ,(K w.params).In base->base.Ns mainGlobals mg->(∀P∈ts,base.BuiltinsAt mg P)->b9 l.prog w (K w.params) mg base CX0 k fa fd ["_law_script"] (spM (K w.params) (gOf mg) 1 m)) :
  PySem.W.WalkO q loose XP YP l.row.toRowW d [] (fun f vs=>Wd f vs):=by
 refine Att.uZ hn hdf fun w ax s₁ mg mb fa o pm cd doc a vs ns G Y ho hd hcd hmg hobj hints hlen hg=>?_
 have KX:=hY w _ Y
 obtain⟨fd,hb,hF⟩:=F w mg fa _ KX G.T.g hmg
 have i:=hI w.params
 unfold Jw at i
 obtain⟨i1,i2⟩:=Bool.and_eq_true_iff.mp i
 have tq:∀P∈ts,∃c,(K w.params).lookup P=Wy/\Rg (K w.params) c P=true:=fun P hP=>by
  have z:=Bool.and_eq_true_iff.mp (PX.mp i2 P hP)
  obtain⟨p,_,y⟩:=U8.mp z.2
  split at y
  ·split at y
   ·rename_i c _;exact⟨c,by simpa using z.1,y⟩
   grind
  grind
 refine zG (sp:=fun vs H Q _=>∃a ns,vs=[V.ref a]/\ns.length<=63/\(∀P∈ts,H P=Wx (.tbl #[]))/\Fro (K w.params) H a (ns.map V.int)/\∀v H',v=V.bl Wz->Q v H') KX G.T.g G.T.b G.T.builtins G.T.nolimit hg G.T.bmain (hT w _ Y) (fun P hP=>let ⟨c,_,e⟩:=tq P hP;⟨c,PySem.W.codeHd_of_K KX e⟩) (fun P hP=>let ⟨_,e,_⟩:=tq P hP;e) hobj hints (P7 hlen (by decide)) hr
  (fun base kb nb bb=>(hF base kb nb bb).imp fun vs H Q E z=>?_) hb (fun H h1 h2=>⟨a,ns,rfl,hlen,h1,h2,fun _ _ z=>z⟩)
 obtain⟨a,ns,rfl,hl,hO,hS,hQ⟩:=z
 obtain⟨hh,e⟩:=ok ns hl
 refine⟨rfl,[],[.scr (ns.map D.int)],[],.cons (.scr hS (ao.ints ns)) .nil,⟨rfl,fun n m p z=>by simp at z,fun n p o z=>by simp at z,fun f q e=>.inl (hO _ ?_)⟩,?_⟩
 ·obtain⟨p,hp,z⟩:=U8.mp (PX.mp i1 q (r_ e))
  simp_all
 ·rw[e]
  intro v H' α' _ _ rd
  cases rd
  simp_all
abbrev gS (cells:List (Str × PN)):List (Str × RH)->List (Str × PN)->List (Str × PN)
 | [],cs=>cs
 | (n,k)::r,cs=>gS cells r (if k == .free then (n,(cells.lookup n).getD 0)::cs else cs)
def yw {env:Env}:∀(ns:List (Str × RH)) (cs:List (Str × PN)),(∀q∈ns,q.2=.free->(env.cells.lookup q.1).isSome=Wz) →
  (forIn ns cs fun(x:Str × RH) (r:List (Str × PN))=>match x with
   | (name,kind)=>if (kind == .free)=Wz then do let c ← cellOf env name;pure (RF ((name,c)::r)) else pure (RF r):Sem (List (Str × PN)))=pure (gS env.cells ns cs)
 | [],cs,_=>by rfl
 | (n,k)::r,cs,h=>by
  rw[List.forIn_cons]
  have ih:=fun cs=>yw r cs fun q hq=>h q (Po _ hq)
  by_cases hk:(k == .free)=Wz
  ·obtain⟨c,hc⟩:=RY.mp (h (n,k) (Pw ..) (beq_iff_eq.mp hk))
   simp only[hk,gS,hc,cellOf]
   exact ih _
  ·simp only[Bool.not_eq_true] at hk
   simp only[hk,gS]
   grind
def Ea (h:∀q∈scope.names,q.2=.free->(env.cells.lookup q.1).isSome=Wz):closureFor scope env=pure (gS env.cells scope.names []):=by
 exact(congrArg (fun m:Sem (List (Str × PN))=>m >>= fun s=>pure s) (yw scope.names [] h)).trans (pure_bind _ _)
def uE {cells:List (Str × PN)}{z:Str}{c:PN}:∀(ns:List (Str × RH)) (cs:List (Str × PN)),(∀q∈ns,q.2=.free->(cells.lookup q.1).isSome=Wz)->(∀z c,cs.lookup z=Wx c->cells.lookup z=Wx c)->(gS cells ns cs).lookup z=Wx c->cells.lookup z=Wx c
 | [],cs,_,h,e=>h z c e
 | (n,k)::r,cs,hf,h,e=>by
  refine uE r _ (fun q hq=>hf q (Po _ hq)) (fun z c=>?_) e
  split
  ·rename_i hk
   rw[List.lookup_cons]
   split
   ·rename_i hz
    intro q
    cases q
    obtain⟨c,hc⟩:=RY.mp (hf (n,k) (Pw ..) (beq_iff_eq.mp hk))
    simp_all
   simp_all
  simp_all
def qu {cells:List (Str × PN)}{z:Str}:∀(ns:List (Str × RH)) (cs:List (Str × PN)),(∃c,cs.lookup z=Wx c)->∃c,(gS cells ns cs).lookup z=Wx c
 | [],cs,h=>h
 | (n,k)::r,cs,h=>by
  refine qu r _ ?_
  grind
def uX {cells:List (Str × PN)}{z:Str}:∀(ns:List (Str × RH)) (cs:List (Str × PN)),(z,Sx)∈ns->∃c,(gS cells ns cs).lookup z=Wx c
 | (n,k)::r,cs,h=>by
  rcases PL.mp h with e | e
  ·cases e
   refine qu r _ ?_
   simp
  ·exact uX r _ e
section
variable {P:PJ}{w:Qc}{K:Pk}{mg:Str->Option Pp}{base:QQ}{g:GG}
def JB {x:Str}{st:TF}{f:PN}{fd:RV}{N ps:List Str}{k:Nat}{mb:MS} (rows:List TF){params:VJ}{body:Rb}{scope:Ui}{pos rpos:Pos} (lf y:Str) (ys:List Str) (ix:List Nat){c PT:PN} (F:Fun K x x st f fd) (S:az N ps (ag st)) (M:Mkr K mg base fd c PT)
  (hbd:aP st=rows++[.Return (Wx (.Lambda params body scope pos)) rpos]) (hdef:∀env,defaultsOf params env=([],[]))
  (hfr:∀q∈scope.names,q.2=.free->(ag st).names.lookup q.1=Wx .cell) (hyf:∀z∈ys,(z,Sx)∈scope.names)
  (hix:ix.map (fun i=>N[i]?)=ys.map Wx) (T:sM lf y (x++".<locals>." ++ "<lambda>") ys params body scope)
  (hb:∀(cdv:Pp) (A:P9) (outer:List Env) (s:Pr) (H:Hp) (E:XK),bF k (A.deeper (envOfC x (ag st) s.heap.objs.size f cdv)) →
   PSs (dR CX0 P w K mg base N x (ag st) f cdv A outer s H E).nox rows (tMS K g E00 mb)):b9 P w K mg base CX0 (k+1) f fd ps (spM K g ps.length (FF N.length mb lf ix)):=by
 refine KG F S M hbd hdef (fun L cdv=>?_) (fun z hz=>hfr (z,.free) (hyf z hz) rfl) hix T hb
 have hs:∀q∈scope.names,q.2=.free->((envOfC x (ag st) L f cdv).cells.lookup q.1).isSome=true:=fun q hq e=>RI _ _ _ (.inl (hfr q hq e))
 exact⟨_,Ea hs,fun z c e=>uE scope.names [] hs (fun _ _ z=>nomatch z) e,fun z hz=>uX scope.names [] (hyf z hz)⟩
end
end L2.FE
namespace L2.FE
open PySem
section
variable {β γ:Type}{h h1:Hh}{env:En}
@[simp] def cP {f:β->Hh->R γ}:(R.ok b h).bind f=f b h:=rfl
@[simp] def Bv {f:β->Hh->R γ}:(R.err x h).bind f=.err x h:=rfl
@[simp] def K5:(R.bad).bind f=.bad:=rfl
@[simp] def LG [Decidable c]{a b:R β}{f:β->Hh->R γ}:(if c then a else b).bind f=if c then a.bind f else b.bind f:=by split<;>rfl
@[simp] def e_C:cC d env h=.ok d h:=rfl
@[simp] def Ny {r:En}:af 0 (Wx d::r) h=.ok d h:=rfl
@[simp] def NT {r:En}:af (i+1) (x::r) h=af i r h:=rfl
@[simp] def OH:av f a b env h=(a env h).bind fun x h1=>(b env h1).bind fun y h2=>f x y h2:=rfl
@[simp] def Pd:cUn f a env h=(a env h).bind fun x h1=>f x h1:=rfl
@[simp] def O1:ak env h=.ok [] h:=rfl
@[simp] def N5:aa a r env h=(a env h).bind fun x h1=>(r env h1).bind fun xs h2=>.ok (x::xs) h2:=rfl
@[simp] def Ms:ah f a env h=(a env h).bind f:=rfl
@[simp] def Mn:dW f o a env h=(o env h).bind fun x h1=>if isL x h1=Wz then (a env h1).bind fun xs h2=>f x xs h2 else .bad:=rfl
@[simp] def Nt:aJ f a env h=(a env h).bind f:=rfl
@[simp] def N1:iK a env h=(a env h).bind fun b h1=>.ok (!b) h1:=rfl
@[simp] def NR:CZ a b env h=(a env h).bind fun x h1=>if x=Wz then b env h1 else .ok WA h1:=rfl
@[simp] def OT:rZ a b env h=(a env h).bind fun x h1=>if x=Wz then .ok Wz h1 else b env h1:=rfl
@[simp] def Pe:cIf c a b env h=(c env h).bind fun x h1=>if x=Wz then a env h1 else b env h1:=rfl
@[simp] def OJ:asB (.bl b) h=.ok b h:=rfl
@[simp] def NW:ya a b env h=(a env h).bind fun x h1=>(asB x h1).bind fun k h2=>if k=Wz then b env h2 else .ok (.bl WA) h2:=rfl
@[simp] def OR:Nk a b env h=(a env h).bind fun x h1=>(asB x h1).bind fun k h2=>if k=Wz then .ok (.bl Wz) h2 else b env h2:=rfl
@[simp] def Nm:BQ a env h=(a env h).bind fun x h1=>(asB x h1).bind fun k h2=>.ok (.bl (!k)) h2:=rfl
@[simp] def LZ:kS f f' a b c env h=(a env h).bind fun x h1=>(b env h1).bind fun y h2=>(f x y h2).bind fun z h3=>(asB z h3).bind fun k h4=>if k=Wz then (c env h4).bind fun w h5=>f' y w h5 else .ok (.bl WA) h4:=rfl
@[simp] def JP:Ez env h=.ok Wy h:=rfl
abbrev GA:D->Hh->R (Option Int):=fun d h1=>match d with
 | .int i=>.ok (Wx i) h1
 | _=>.bad
@[simp] def Mm:GA (.int i) h=.ok (Wx i) h:=rfl
@[simp] def ML:qv a env h=(a env h).bind GA:=rfl
@[simp] def L7:rF nl a l u env h=(a env h).bind fun x h1=>(l env h1).bind fun lo h2=>(u env h2).bind fun hi h3=>zd nl x lo hi h3:=rfl
@[simp] def Ob:cG env h=.ok (.nx env) h:=rfl
@[simp] def O6:NI env h=.ok (.bk env) h:=rfl
@[simp] def Ox:NZ env h=.ok (.ct env) h:=rfl
@[simp] def NF:Kn env h=.ok (.rt .non) h:=rfl
abbrev BA (b:MS):Fl->Hh->R Fl:=fun fl h1=>match fl with
 | .nx e=>b e h1
 | fl=>.ok fl h1
@[simp] def Pj:BA b (.nx e) h=b e h:=rfl
@[simp] def Pb:BA b (.bk e) h=.ok (.bk e) h:=rfl
@[simp] def Pa:BA b (.ct e) h=.ok (.ct e) h:=rfl
@[simp] def Pc:BA b (.rt d) h=.ok (.rt d) h:=rfl
@[simp] def OV:aH a b env h=(a env h).bind (BA b):=by
 rfl
@[simp] def M9:eg a env h=(a env h).bind fun _ h1=>.ok (.nx env) h1:=rfl
@[simp] def Oy:a9 a env h=(a env h).bind fun d h1=>.ok (.rt d) h1:=rfl
@[simp] def Ol:eX c a b env h=(c env h).bind fun x h1=>if x=Wz then a env h1 else b env h1:=rfl
@[simp] def OQ:aW i a env h=(a env h).bind fun d h1=>.ok (.nx (env.set i (Wx d))) h1:=rfl
abbrev NH (i j:Nat) (env:En):List D->Hh->R Fl:=fun ds h1=>match ds with
 | [x,y]=>.ok (.nx ((env.set i (Wx x)).set j (Wx y))) h1
 | _=>.bad
@[simp] def Mx:NH i j env [x,y] h=.ok (.nx ((env.set i (Wx x)).set j (Wx y))) h:=rfl
abbrev KL (i j k:Nat) (env:En):List D->Hh->R Fl:=fun ds h1=>match ds with
 | [x,y,z]=>.ok (.nx (((env.set i (Wx x)).set j (Wx y)).set k (Wx z))) h1
 | _=>.bad
@[simp] def L6:KL i j k env [x,y,z] h=.ok (.nx (((env.set i (Wx x)).set j (Wx y)).set k (Wx z))) h:=rfl
@[simp] def IH:gN i d env h=.ok (env.set i (Wx d)) h:=rfl
@[simp] def O5:gT2 i j (.tup [x,y]) env h=.ok ((env.set i (Wx x)).set j (Wx y)) h:=rfl
@[simp] def OX:Od i j a env h=(a env h).bind fun d h1=>(gT2 i j d env h1).bind fun e h2=>.ok (.nx e) h2:=rfl
@[simp] def OI:NM i f a env h=(af i env h).bind fun x h0=>(a env h0).bind fun y h1=>(f x y h1).bind fun z h2=>.ok (.nx (env.set i (Wx z))) h2:=rfl
@[simp] def Mf:i4 f o i v env h=(v env h).bind fun x h1=>(o env h1).bind fun y h2=>(i env h2).bind fun z h3=>(f y z x h3).bind fun _ h4=>.ok (.nx env) h4:=rfl
@[simp] def Mb:qY o i v env h=(o env h).bind fun x h1=>(i env h1).bind fun y h2=>(BN x y h2).bind fun z h3=>(v env h3).bind fun u h4=>(xF z u h4).bind fun t h5=>(f_ x y t h5).bind fun _ h6=>.ok (.nx env) h6:=rfl
abbrev HM:Fl->Hh->R D:=fun fl h1=>match fl with
 | .rt d=>.ok d h1
 | .nx _=>.ok .non h1
 | _=>.bad
@[simp] def Pg:HM (.rt d) h=.ok d h:=rfl
@[simp] def Ph:HM (.nx e) h=.ok .non h:=rfl
def bo:bG n m ds h=(m (ds.map Wx++PY (n - ds.length) Wy) h).bind HM:=by
 rfl
section
variable {nl:NL}
@[simp] def Mw:bS nl (.int i) (.int j) h=.ok (.int (i+j)) h:=rfl
@[simp] def Ml:xF (.int i) (.int j) h=.ok (.int (i+j)) h:=rfl
@[simp] def NC:kO (.int i) (.int j) h=.ok (.int (i - j)) h:=rfl
@[simp] def Nl:tQ (.int i) h=.ok (.int (-i)) h:=rfl
@[simp] def Oo:dLt (.int i) (.int j) h=.ok (.bl (decide (i<j))) h:=by unfold dLt;rw[nD];rfl
@[simp] def Oz:dLe (.int i) (.int j) h=.ok (.bl (decide (i<=j))) h:=by unfold dLe;rw[qC];rfl
@[simp] def OY:dGt (.int i) (.int j) h=.ok (.bl (decide (j<i))) h:=by unfold dGt;rw[nD];rfl
@[simp] def Om:dGe (.int i) (.int j) h=.ok (.bl (decide (j<=i))) h:=by unfold dGe;rw[qC];rfl
@[simp] def Ng:qW nl (.int i) (.int j) h=if sml i=Wz/\sml j=Wz then .ok (.int (i*j)) h else .bad:=rfl
@[simp] def Mi:Kg (.int i) (.int j) h=if sml i=Wz/\sml j=Wz then .ok (.int (i*j)) h else .bad:=rfl
@[simp] def Nu:E3 (.int i) (.int j) h=if 0<j/\sml j=Wz then .ok (.int (i / j)) h else .bad:=rfl
@[simp] def MZ:wg (.int i) (.int j) h=if 0<j then .ok (.int (i % j)) h else .bad:=rfl
@[simp] def MJ:Ic (.int i) (.int j) h=if 0<=j/\j.natAbs<=1000/\sml i=Wz then .ok (.int (i ^ j.toNat)) h else .bad:=rfl
@[simp] def Nc:CM [.int i,.int j] h=.ok (.int (max i j)) h:=by
 have:(if j > i then j else i)=max i j:=by split<;>lia
 rw[<- this];rfl
@[simp] def Oa:z9 [.int i] h=.ok (.int i) h:=rfl
@[simp] def MU:z9 [.bl b] h=.ok (.int (if b then 1 else 0)) h:=rfl
@[simp] def Oi:cu ds h=if ds.length<=1000000 then .ok (.tup ds) h else .bad:=rfl
@[simp] def OZ:c4 nl ds h=if ds.length<=1000000 then nl ds h else .bad:=rfl
@[simp] def NK:kC ds h=.ok (.ref h.length) (h++[.lst ds]):=rfl
@[simp] def MG:aI ds h=.ok (.frl ds) h:=rfl
@[simp] def MD:cU [.tup ds] h=.ok (.int ds.length) h:=rfl
@[simp] def NV:cU [.frl ds] h=.ok (.int ds.length) h:=rfl
@[simp] def NG:cU [.scr ds] h=.ok (.int ds.length) h:=rfl
abbrev ixK (ds:List D) (i:Int) (h:Hh):R D:=match atI ds i with
 | some d=>.ok d h
 | none=>.bad
@[simp] def Gm:dIx (.tup ds) (.int i) h=ixK ds i h:=rfl
@[simp] def O2:dIx (.frl ds) (.int i) h=ixK ds i h:=rfl
@[simp] def Oj:dIx (.scr ds) (.int i) h=ixK ds i h:=rfl
def mU (e:aq h n=Wx ds):dIx (.ref n) (.int i) h=ixK ds i h:=by
 have z:eJ (.ref n) h=Wx ds:=e
 delta dIx;rw[z];rfl
def G0 {ds:List D}{i:Int}{d:D} (e:atI ds i=Wx d):ixK ds i h=.ok d h:=by simp only[ixK,e]
def Cm {j:Nat}{v:β} (h:xs[j]?=Wx v) (e:i=(j:Int)):atI xs i=Wx v:=by rw[e];exact Fu h
def jh {j:Nat} (e:i=(j:Int)) (e2:ds[j]?=Wx d):ixK ds i h=.ok d h:=G0 (Cm e2 e)
abbrev gI (ns:List Int) (i:Nat):Int:=ns.getD i 0
def c_ (hj):gI ns j=ns[j]:=by
 unfold gI;simp_all
def A9 (hj:j<ns.length):gI ns j∈ns:=by rw[c_ hj];simp
def jE {j:Nat} (e:i=(j:Int)) (hj:j<ns.length):ixK (ns.map D.int) i h=.ok (.int (gI ns j)) h:=by
 refine jh e ?_
 rw[P5,Pz hj,c_ hj];rfl
@[simp] def OW:ixK (d::ds) 0 h=.ok d h:=jh rfl rfl
@[simp] def O_:ixK (d::d1::ds) 1 h=.ok d1 h:=jh rfl rfl
@[simp] def Ni:zd nl (.tup ds) lo hi h=.ok (.tup (cutD ds lo hi)) h:=rfl
@[simp] def NQ:zd nl (.frl ds) lo hi h=nl (cutD ds lo hi) h:=rfl
@[simp] def Nx:zd nl (.scr ds) lo hi h=nl (cutD ds lo hi) h:=rfl
@[simp] def MQ:bS nl (.tup a) (.tup b) h=if a.length+b.length<=1000000 then .ok (.tup (a++b)) h else .bad:=rfl
@[simp] def Nn:bS nl (.frl a) (.frl b) h=if a.length+b.length<=1000000 then nl (a++b) h else .bad:=rfl
@[simp] def NP:bS nl (.str a) (.str b) h=if a.length+b.length<=1000000 then .ok (.str (a++b)) h else .bad:=rfl
@[simp] def MN:qW nl (.frl a) (.int k) h=if k.natAbs<=1000000/\a.length*k.toNat<=1000000 then nl (PY k.toNat a).flatten h else .bad:=rfl
@[simp] def N3:Ga nl (.tup ds) h=.ok (.tup ds.reverse) h:=rfl
@[simp] def Nb:Ga nl (.frl ds) h=nl ds.reverse h:=rfl
@[simp] def Mj:dList nl [.tup ds] h=nl ds h:=rfl
@[simp] def L9:dList nl [.frl ds] h=nl ds h:=rfl
@[simp] def MC:mM [.tup ds] h=.ok (.tup ds) h:=rfl
@[simp] def N7:mM [.frl ds] h=.ok (.tup ds) h:=rfl
@[simp] def Mt {ns:List Int}:As [.frl (ns.map D.int)] h=.ok (.int ns.sum) h:=by simp only[As,eJ,fV]
@[simp] def Mq:iz (.bl b) h=.ok b h:=rfl
@[simp] def Mu:iz (.int i) h=.ok (i != 0) h:=rfl
@[simp] def NU:iz (.frl ds) h=.ok (!ds.isEmpty) h:=rfl
@[simp] def NB:iz (.tup ds) h=.ok (!ds.isEmpty) h:=rfl
@[simp] def OC:dEq (.int i) (.int j) h=.ok (.bl (i == j)) h:=rfl
@[simp] def Ow:dNe (.int i) (.int j) h=.ok (.bl (!(i == j))) h:=rfl
@[simp] def Ot:dEq (.str i) (.str j) h=.ok (.bl (i == j)) h:=rfl
@[simp] def OO:dNe (.str i) (.str j) h=.ok (.bl (!(i == j))) h:=rfl
@[simp] def OB:dEq (.bl i) (.bl j) h=.ok (.bl (i == j)) h:=rfl
@[simp] def O9:dNe (.bl i) (.bl j) h=.ok (.bl (!(i == j))) h:=rfl
@[simp] def L4:dv [.int i] h=if sml i=Wz then .ok (.str (toString i)) h else .bad:=rfl
@[simp] def OL:N6 neg d .non h=.ok (.bl (if neg then !yE d else yE d)) h:=rfl
@[simp] def Mr:fA "int" (.int i) h=.ok (.bl Wz) h:=rfl
@[simp] def M3:fA "int" (.bl b) h=.ok (.bl Wz) h:=rfl
@[simp] def N_:fA "bool" (.int i) h=.ok (.bl WA) h:=rfl
@[simp] def NX:fA "bool" (.bl b) h=.ok (.bl Wz) h:=rfl
@[simp] def Np:fA "tuple" (.tup ds) h=.ok (.bl Wz) h:=rfl
@[simp] def Nr:fA "tuple" (.frl ds) h=.ok (.bl WA) h:=rfl
@[simp] def N4:fA "list" (.frl ds) h=.ok (.bl Wz) h:=rfl
@[simp] def M6:fA "list" (.tup ds) h=.ok (.bl WA) h:=rfl
@[simp] def JO {j:Int}:iQ nl [.int j] h=if j.natAbs<=1000000 then nl (bD 0 j.toNat) h else .bad:=by
 by_cases z:j.natAbs<=1000000
 ·rw[if_pos z];simp only[iQ,zT,if_pos z]
 ·rw[if_neg z];simp only[iQ,zT,if_neg z]
@[simp] def bR {t:Hh}:aq (h++.lst ds::t) h.length=Wx ds:=by
 unfold aq;simp
@[simp] def ir {t:Hh}:(h++o::t).set h.length o'=h++o'::t:=by
 simp
def C5 {n:Nat}{ds:List D} (e:aq h n=Wx ds):isL (.ref n) h=true:=by simp[isL,e]
@[simp] def OE:isL (.frl ds) h=true:=rfl
def mX (e:aq h n=Wx ds):df (.ref n) [d] h=if ds.length<1000000 then .ok .non (h.set n (.lst (ds++[d]))) else .bad:=by delta df;simp_all
def Js (e:aq h n=Wx ds):cU [.ref n] h=.ok (.int ds.length) h:=by
 unfold aq at e
 split at e
 ·rename_i ds' q;cases e;delta cU;simp_all
 grind
def mq (e:aq h n=Wx ds) (e2:ixN ds.length i=Wx j):f_ (.ref n) (.int i) v h=.ok () (h.set n (.lst (ds.set j v))):=by delta f_;simp_all
def Cn (e:aq h n=Wx xs) (e2:gQ d h=Wx ys):e9 (.ref n) [d] h=if xs.length+ys.length<=1000000 then .ok .non (h.set n (.lst (xs++ys))) else .bad:=by delta e9;simp_all
@[simp] def Mz {t:Hh}:isL (.ref h.length) (h++.lst ds::t)=true:=C5 bR
@[simp] def JD {t:Hh}:df (.ref h.length) [d] (h++.lst ds::t)=if ds.length<1000000 then .ok .non (h++.lst (ds++[d])::t) else .bad:=by rw[mX bR,ir]
@[simp] def OA {t:Hh}:dIx (.ref h.length) (.int i) (h++.lst ds::t)=ixK ds i (h++.lst ds::t):=mU bR
@[simp] def zB {t:Hh}:e9 (.ref h.length) [.frl ys] (h++.lst ds::t)=if ds.length+ys.length<=1000000 then .ok .non (h++.lst (ds++ys)::t) else .bad:=by rw[Cn bR rfl,ir]
def F4 {n j:Nat} (e:i=(j:Int)) (hj:j<n):ixN n i=Wx j:=by
 subst e
 unfold ixN
 simp_all
end
@[simp] def MR:dX fq a env h=(a env h).bind fq:=rfl
@[simp] def N0:dX qz a env h=(a env h).bind qz:=rfl
@[simp] def Na:fq [.int j] h=if j.natAbs<=1000000 then .ok (.snap (bD 0 j.toNat)) h else .bad:=rfl
@[simp] def Nv:qz [.int i,.int j] h=if i.natAbs<=1000000/\j.natAbs<=1000000 then .ok (.snap (bD i (j - i).toNat)) h else .bad:=rfl
@[simp] def OG:bp a env h=(a env h).bind pA:=rfl
@[simp] def Of:kf a env h=(a env h).bind nW:=rfl
@[simp] def OF:pA (.tup ds) h=.ok (.snap ds) h:=rfl
@[simp] def O0:pA (.frl ds) h=.ok (.snap ds) h:=rfl
@[simp] def OM:pA (.scr ds) h=.ok (.snap ds) h:=rfl
@[simp] def Ou:Lk a env h=(a env h).bind HV:=rfl
@[simp] def OP:HV [.frl ds,.frl es] h=.ok (.snap (wB ds es)) h:=rfl
@[simp] def MH:KP a env h=(a env h).bind E6:=rfl
@[simp] def NS:E6 [.frl ds,.frl es] h=.ok (.snap (wB ds es)) h:=rfl
@[simp] def Ma:E6 [.tup ds,.tup es] h=.ok (.snap (wB ds es)) h:=rfl
@[simp] def Nf:Lb nl (.tup ds) (.int k) h=if ds.isEmpty=WA/\1<=k/\k.natAbs<=1000000/\ds.length*k.toNat<=1000000 then .ok (.tup (PY k.toNat ds).flatten) h else .bad:=rfl
@[simp] def Me:lG nl [.tup (ns.map D.int)] h=if ns.length<64 then nl ((sortI ns).map D.int) h else .bad:=by simp only[lG,eJ,fV]
@[simp] def ON:gT3 i j k (.tup [x,y,z]) env h=.ok (((env.set i (Wx x)).set j (Wx y)).set k (Wx z)) h:=rfl
@[simp] def Oh:MB i j k a env h=(a env h).bind fun d h1=>(gT3 i j k d env h1).bind fun e h2=>.ok (.nx e) h2:=rfl
@[simp] def L5:nW (.tup ds) h=.ok (.snap (dN ds)) h:=rfl
@[simp] def L_:nW (.frl ds) h=.ok (.snap (dN ds)) h:=rfl
def Ce (e:aq h n=Wx ds):pA (.ref n) h=.ok (.live n) h:=by simp only[pA,e]
abbrev Ii (tg:D->En->Hh->R En) (body:MS) (env:En):Src->Hh->R Fl:=fun sr h1=>match sr with
 | .snap ds=>cx tg body ds env h1
 | .live n=>eV (Src.live n).rdr tg body ((aq h1 n).getD []).length 0 env h1
 | .liveE n=>eV (Src.liveE n).rdr tg body ((aq h1 n).getD []).length 0 env h1
@[simp] def ND:Ii tg body env (.snap ds) h=cx tg body ds env h:=rfl
@[simp] def JK:cD mi tg body env h=(mi env h).bind (Ii tg body env):=by
 congr 1
abbrev Li (nl:NL) (tt:MT) (te:ME) (ee:D->En):Src->Hh->R D:=fun sr h1=>if sr.fuel h1<=1000000 then
 (match sr with
  | .snap ds=>cN tt te ee ds h1
  | .live n=>gk (Src.live n).rdr tt te ee ((aq h1 n).getD []).length 0 [] h1
  | .liveE n=>gk (Src.liveE n).rdr tt te ee ((aq h1 n).getD []).length 0 [] h1).bind nl else .bad
@[simp] def MV:c7 nl mi ix tt te env h=(mi env h).bind (Li nl tt te (kR ix env)):=rfl
@[simp] def Mk:Li nl tt te ee (.snap ds) h=if ds.length<=1000000 then (cN tt te ee ds h).bind nl else .bad:=rfl
@[simp] def JE {lo:Int}{n:Nat}:(bD lo n).length=n:=by simp[bD]
@[simp] def Mp (x:Option β):Option.join (Wx x)=x:=by rfl
@[simp] def O7:kR ix env=fun d=>Wx d::ix.map fun i=>(env[i]?).join:=rfl
@[simp] def Ov:tt1 env h=.ok Wz h:=rfl
@[simp] def OD {m:En->Hh->R β}{r:En}:unp m (Wx (.tup [x,y])::r) h=m (Wx x::Wx y::r) h:=rfl
@[simp] def L8:IA f c b env h=sx c b f env h:=rfl
abbrev Bo (tg:D->En->Hh->R En) (body:MS) (ds:List D):Fl->Hh->R Fl:=fun fl h2=>match fl with
 | .nx e=>cx tg body ds e h2
 | .ct e=>cx tg body ds e h2
 | .bk e=>.ok (.nx e) h2
 | .rt d=>.ok (.rt d) h2
def yB:cx tg body [] env h=.ok (.nx env) h:=rfl
def fJ:cx tg body (d::ds) env h=(tg d env h).bind fun e1 h1=>(body e1 h1).bind (Bo tg body ds):=rfl
@[simp] def LR:Bo tg body ds (.nx e) h=cx tg body ds e h:=rfl
@[simp] def O8:Bo tg body ds (.ct e) h=cx tg body ds e h:=rfl
@[simp] def OU:Bo tg body ds (.bk e) h=.ok (.nx e) h:=rfl
@[simp] def Oq:Bo tg body ds (.rt d) h=.ok (.rt d) h:=rfl
def Az (ns):dN (ns.map D.int)=(Py ns.length).map fun(i:Nat)=>D.tup [.int i,.int (gI ns i)]:=by
 unfold dN
 rw[PR]
 apply Q4
 intro i hi
 have hi:=QX.mp hi
 rw[RN,P5,Pz hi,c_ hi];rfl
def comp_map {X:Type}{tt:MT}{te:ME}{ee:D->En} (enc:X->D) (p:X->Bool) (g:X->D):∀(xs:List X),(∀x∈xs,tt (ee (enc x)) h=.ok (p x) h/\(p x=Wz->te (ee (enc x)) h=.ok (g x) h)) →
  cN tt te ee (xs.map enc) h=.ok ((xs.filter p).map g) h
 | [],_=>rfl
 | x::xs,st=>by
  obtain⟨e1,e2⟩:=st x Pw
  have ih:=comp_map enc p g xs fun y hy=>st y (Po _ hy)
  rw[PC,cN,e1,cP]
  cases hp:p x with
  | false=>simp_all
  | true=>simp_all
def AM {X:Type} (enc) (g) (xs:List X) (st:∀x∈xs,te (ee (enc x)) h=.ok (g x) h):cN tt1 te ee (xs.map enc) h=.ok (xs.map g) h:=by
 have:=comp_map (tt:=tt1) enc (fun _=>Wz) g xs fun x hx=>⟨rfl,fun _=>st x hx⟩
 rw[Uq.mpr fun _ _=>rfl] at this
 lia
def dA (n):bD 0 n=(Py n).map fun(i:Nat)=>D.int i:=by
 apply Q4
 simp
def tT (p) (g) (st:∀i,i<n->tt (ee (.int (i:Nat))) h=.ok (p i) h/\(p i=Wz->te (ee (.int (i:Nat))) h=.ok (g i) h)) :
  cN tt te ee (bD 0 n) h=.ok (((Py n).filter p).map g) h:=by
 rw[dA,comp_map (fun(i:Nat)=>D.int i) p g (Py n) fun i hi=>st i (QX.mp hi)]
def zo (g) (st:∀i,i<n->te (ee (.int (i:Nat))) h=.ok (g i) h) :
  cN tt1 te ee (bD 0 n) h=.ok ((Py n).map g) h:=by
 rw[dA,AM (fun(i:Nat)=>D.int i) g (Py n) fun i hi=>st i (QX.mp hi)]
def xy {σ:Type} (enc) (n) (E:σ->En) (G:σ->Hh) (f) (I:Nat->σ->Prop) (s) (i0:I 0 s)
  (st:∀i s,i<n->I i s->I (i+1) (f s i)/\((tg (enc i) (E s) (G s)).bind body=.ok (.nx (E (f s i))) (G (f s i))\/(tg (enc i) (E s) (G s)).bind body=.ok (.ct (E (f s i))) (G (f s i)))) :
  cx tg body ((Py n).map enc) (E s) (G s)=.ok (.nx (E ((Py n).foldl f s))) (G ((Py n).foldl f s))/\I n ((Py n).foldl f s):=by
 have key:∀(k:Nat) (xs:List Nat) (s:σ),(∀j x,xs[j]?=Wx x->x=k+j/\x<n)->I k s->cx tg body (xs.map enc) (E s) (G s)=.ok (.nx (E (xs.foldl f s))) (G (xs.foldl f s))/\I (k+xs.length) (xs.foldl f s):=by
  intro k xs
  induction xs generalizing k with
  | nil=>intro s _ i;exact⟨rfl,i⟩
  | cons x xs ih=>
   intro s hx i
   obtain⟨h1,h2⟩:=hx 0 x rfl
   subst h1
   obtain⟨i1,e⟩:=st x s h2 i
   obtain⟨e2,i2⟩:=ih (x+1) (f s x) (fun j y hj=>by have:=hx (j+1) y hj;lia) i1
   refine⟨?_,by rw[Qp];grind⟩
   rw[PC,cx,<- bA]
   rcases e with e | e<;>rw[e]<;>exact e2
 have hr:∀j x,(Py n)[j]?=Wx x->x=0+j/\x<n:=fun j x hj=>by
  grind
 have:=key 0 (Py n) s hr i0
 simp_all
def Dh {σ:Type} (lo) (n) (E:σ->En) (G:σ->Hh) (f) (I:Nat->σ->Prop) (s) (i0:I 0 s)
  (st:∀i s,i<n->I i s->I (i+1) (f s i)/\((tg (.int (lo+(i:Nat))) (E s) (G s)).bind body=.ok (.nx (E (f s i))) (G (f s i))\/(tg (.int (lo+(i:Nat))) (E s) (G s)).bind body=.ok (.ct (E (f s i))) (G (f s i)))) :
  cx tg body (bD lo n) (E s) (G s)=.ok (.nx (E ((Py n).foldl f s))) (G ((Py n).foldl f s))/\I n ((Py n).foldl f s):=
 xy (fun(i:Nat)=>D.int (lo+i)) n E G f I s i0 st
abbrev Wf (h:Hh):Prop:=h.all (jO h.length)=Wz
mutual
theorem zc {j k:Nat} (h:j<=k):∀(d:D),gU j d=Wz->gU k d=Wz
 | .non,_=>rfl | .bl _,_=>rfl | .int _,_=>rfl | .str _,_=>rfl | .fn _,_=>rfl | .edic,_=>rfl | .exc _ _,_=>rfl
 | .clo _ ds,e=>by simp only[gU] at e ⊢;exact ck h ds e
 | .ref n,e=>by simp only[gU,decide_eq_true_eq] at e ⊢;lia
 | .tup ds,e=>by simp only[gU] at e ⊢;exact ck h ds e
 | .frl ds,e=>by simp only[gU] at e ⊢;exact ck h ds e
 | .scr ds,e=>by simp only[gU] at e ⊢;exact ck h ds e
theorem ck {j k:Nat} (h:j<=k):∀(ds:List D),a8 j ds=Wz->a8 k ds=Wz
 | [],_=>rfl
 | d::ds,e=>by
  simp only[a8,PV] at e ⊢
  exact⟨zc h d e.1,ck h ds e.2⟩
end
def zS (h:j<=k) (o) (e:jO j o=Wz):jO k o=true:=by
 cases o with
 | lst ds=>exact ck h ds e
 | set n=>rfl
 | dic kvs=>exact ck h _ e
 | dit kvs=>exact ck h _ e
def kQ {k:Nat}:∀{ds:List D},(∀d∈ds,gU k d=Wz)->a8 k ds=Wz
 | [],_=>rfl
 | d::ds,h=>by simp only[a8,PV];exact⟨h d Pw,kQ fun e he=>h e (Po _ he)⟩
@[simp] def kG {X:Type}{f:X->D}{xs:List X} (h:∀x,gU k (f x)=Wz):a8 k (xs.map f)=true:=kQ fun d hd=>by
 grind
@[simp] def HK {ns:List Int}:a8 k (ns.map D.int)=true:=kG fun _=>rfl
def Wf.nil:Wf []:=rfl
def Wf.app (w:Wf h) (l:jO (h.length+1) o=Wz):Wf (h++[o]):=by
 unfold Wf at w ⊢
 rw[List.all_append,P_]
 simp only[Th,List.all_nil,Bool.and_true,PV]
 refine⟨?_,l⟩
 rw[PX] at w ⊢
 exact fun x hx=>zS (VD _) x (w x hx)
abbrev deep:Nat->D->Bool
 | 0,_=>WA
 | f+1,d=>match d with
  | .ref _=>WA
  | .scr _=>WA
  | .tup ds=>ds.all (deep f)
  | .frl ds=>ds.all (deep f)
  | .clo _ ds=>a8 0 ds
  | _=>Wz
def eZ {f:D->Option D}:∀{ds:List D},(∀d∈ds,f d=Wx d)->i6 f ds=Wx ds
 | [],_=>rfl
 | d::ds,h=>by simp only[i6,h d Pw,eZ fun e he=>h e (Po _ he)]
def cV {k:Nat}{h:Hh}:∀(f:Nat) (d:D),deep f d=Wz->eC k h f d=Wx d
 | 0,_,e=>by cases e
 | f+1,d,e=>by
  unfold deep at e
  cases d with
  | ref n=>cases e
  | scr n=>cases e
  | tup ds=>simp only[PX] at e;show VT D.tup (i6 (eC k h f) ds)=_;rw[eZ fun d hd=>cV f d (e d hd)];rfl
  | frl ds=>simp only[PX] at e;show VT D.frl (i6 (eC k h f) ds)=_;rw[eZ fun d hd=>cV f d (e d hd)];rfl
  | clo g ds=>show(if a8 0 ds=Wz then Wx (D.clo g ds) else Wy)=_;simp_all
  | _=>rfl
def fU (w:Wf h) (e:deep 8 d=Wz):bg h d (h++t)=.ok d h:=by
 unfold bg
 rw[Tq rfl,if_pos (show h.all (jO h.length)=Wz from w),cV 8 d e]
def qg {t:Hh} (w:Wf h) (e:ds.all (deep 7)=Wz):bg h (.ref h.length) (h++.lst ds::t)=.ok (.frl ds) h:=by
 unfold bg
 rw[Tq rfl,if_pos (show h.all (jO h.length)=Wz from w)]
 have:eC h.length (h++.lst ds::t) 8 (.ref h.length)=Wx (.frl ds):=by
  unfold eC
  simp only[Ra,bR]
  rw[PX] at e
  rw[eZ fun d hd=>cV 7 d (e d hd)];rfl
 rw[this]
def Af {t:Hh} (w:Wf h) (e:ds.all (deep 8)=Wz):gm h (.ref h.length) (h++.lst ds::t)=.ok (.ref h.length) (h++[.lst ds]):=by
 unfold gm
 rw[Tq rfl,if_pos (show h.all (jO h.length)=Wz from w)]
 simp only[Pt,if_true,bR]
 rw[PX] at e
 rw[eZ fun d hd=>cV 8 d (e d hd)]
@[simp] def Lv:deep (f+1) (.int i)=true:=rfl
@[simp] def Mo:deep (f+1) (.bl i)=true:=rfl
@[simp] def Lz:deep (f+1) (.str i)=true:=rfl
@[simp] def JQ:deep (f+1) .non=true:=rfl
@[simp] def JF:deep (f+1) .edic=true:=rfl
@[simp] def K9:deep (f+1) (.tup ds)=ds.all (deep f):=rfl
@[simp] def KA:deep (f+1) (.frl ds)=ds.all (deep f):=rfl
end
abbrev Ok (r:R β) (Q:β->Hh->Prop):Prop:=∃b h,r=.ok b h/\Q b h
section
variable {β γ:Type}{Q:β->Hh->Prop}{h h1 h2:Hh}
def Ok.mono {r:R β}{Q':β->Hh->Prop} (o:Ok r Q) (q:∀b h,Q b h->Q' b h):Ok r Q':=let ⟨b,h,e,z⟩:=o;⟨b,h,e,q b h z⟩
end
def qJ {X:Type}{tg:D->En->Hh->R En}{body:MS}{QS:Fl->Hh->Prop} (enc:X->D) (I:En->Hh->Prop) :
  ∀(xs:List X) (env:En) (h:Hh),I env h->(∀x e h,x∈xs->I e h->Ok ((tg (enc x) e h).bind body) fun fl h2=>match fl with
   | .nx e=>I e h2
   | .ct e=>I e h2
   | .bk e=>QS (.nx e) h2
   | .rt d=>QS (.rt d) h2)->(∀e h,I e h->QS (.nx e) h)->Ok (cx tg body (xs.map enc) env h) QS
 | [],env,h,i,_,q=>⟨_,_,rfl,q _ _ i⟩
 | x::xs,env,h,i,st,q=>by
  obtain⟨fl,h2,e,z⟩:=st x env h Pw i
  rw[PC,cx,<- bA,e]
  cases fl with
  | nx e'=>exact qJ enc I xs e' h2 z (fun y e h hy=>st y e h (Po _ hy)) q
  | ct e'=>exact qJ enc I xs e' h2 z (fun y e h hy=>st y e h (Po _ hy)) q
  | bk e=>exact⟨_,_,rfl,z⟩
  | rt d=>exact⟨_,_,rfl,z⟩
end L2.FE
namespace L2.FE
open PySem PySem.Spec PyProof.Rows
abbrev GQ (h:Hh) (n:Nat):Option (List (Key × D)):=match h[n]? with
 | some (.dic kvs)=>Wx kvs
 | _=>Wy
@[inline]abbrev PD (K:Pk) (g:GG) (α:List PN) (H:Hp):List (Key × D)->List (Key × V)->Prop:=Paired (fun(a:Key × D) (b:Key × V)=>a.1=b.1/\aC K g α H a.2 b.2)
section
variable {K:Pk}{g:GG}{α:List PN}{H:Hp}{h:Hh}
def aK.dic (r:aK K g α H h) (e:GQ h n=Wx kvs) (hp:α[n]?=Wx p):∃kws,H p=Wx (.dK kws)/\PD K g α H kvs kws:=by
 unfold GQ at e
 cases eo:h[n]? with
 | none=>simp_all
 | some o=>
  rw[eo] at e
  cases o with
  | dic k=>cases e;exact r.here n p _ hp eo
  | _=>cases e
def PD.ext (e:Ext K α H α' H') (r:PD K g α H kvs kws):PD K g α' H' kvs kws:=Paired.JH e.toEx0 r
def aA.dic (w:aA K g α H Q (.ref h.length) (h++[.dic kvs])) (r:aK K g α H h) (rs:PD K g α H kvs kws) (hp:H p=Wy):Q (.ref p) (upd H p (.dK kws)):=by
 have x:=Ext.push (K:=K) (α:=α) (o:=.dK kws) hp
 exact w _ _ _ x (r.push hp ⟨_,aL,rs.ext x⟩) (.ref (by rw[<- r.len];simp))
end
abbrev Je:D->Option Key
 | .int i=>Wx (.inl i)
 | .str x=>Wx (.inr x)
 | _=>Wy
def GU {K:Pk}{g:GG} (r:aC K g α H d v) (e:Je d=Wx k):v=kV k:=by
 cases r<;>cases e<;>rfl
section
variable {X:Cx}{g:GG}{ε:EE}{o i e f:Rb}{mo mi me mf:ME}{pos:Pos}
def un1 {A:P9} (h:A.units+64<cLine):A.units+1<cLine:={}
def tU:∀(ks:List V) (us:List Pp),us.length=ks.length->(∀(j:Nat) (u:Pp),us[j]?=Wx u->∃v,ks[j]?=Wx v/\RelV v u)->Vals ks us
 | [],[],_,_=>.nil
 | [],_::_,e,_=>by simp at e
 | _::_,[],e,_=>by simp at e
 | k::ks,u::us,e,h=>by
  obtain⟨v,e1,r⟩:=h 0 u rfl
  cases e1
  exact .cons r (tU ks us (by simp_all) fun j w hj=>h (j+1) w hj)
end
end L2.FE
namespace L2
open PySem PySem.Spec PyProof.Rows
def BJ (o) (f):(R6 f o).cls=o.cls:=UO _ _
def Au (o) (f):(R6 f o).dict=o.dict:=by
 unfold R6
 grind
structure Gn (h h':QQ):Prop where
 up:h.UpToSlots h'
 there:∀b o,h.get? b=some o->∃o',h'.get? b=some o'
def Gn.trans {h h1 h2:QQ} (a:Gn h h1) (b:Gn h1 h2):Gn h h2:=⟨a.up.trans b.up,fun c o q=>let ⟨_,q'⟩:=a.there c o q;b.there c _ q'⟩
structure Fly (B:QQ) (l) (e) (C) (dc) (fl) (h):Prop where
 stays:B.StaysIn h
 new:B.get? e=none
 fr:h.FunFrames B l
 obj:∃oe ws T oT ts,h.get? e=some oe/\oe.cls=C/\oe.dict=dc/\oe.data=.fields ws/\ws[1]?=some (.ref T)/\B.get? T=none/\T≠e/\h.get? T=some oT/\oT.data=.fields ts/\ts[3]?=some fl
def Fly.pop (x:Fly B (env::l) e C dc fl h):Fly B l e C dc fl h:=
 ⟨x.stays,x.new,x.fr.2.2,x.obj⟩
def Fly.there (x:Fly B l e C dc fl h):∃oe ws,h.get? e=Wx oe/\oe.cls=C/\oe.dict=dc/\oe.data=.fields ws:=by
 obtain⟨oe,ws,T,oT,ts,a,b,c,d,_⟩:=x.obj
 simp_all
section
variable {M:Model}{A:P9}{E:Pp->Pr->Prop}{s:Pr}{B:QQ}{env:Env}{l outer:List Env}{e L:PN}{C:Pp}{dc:Option PN}{fl:Pp}{Q:Unit->Pr->Prop}
def r8 (x:Fly B l e C dc fl s.heap) (k:∀h',Fly B l e C dc .none h'->Gn s.heap h'->Q () { s with heap:=h' }):wpAny M A (setFlight (.ref e) Wy) Q E s:=by
 obtain⟨st,nw,fr,oe,ws,T,oT,ts,q1,q2,q3,q4,q5,q6,q7,q8,q9,q10⟩:=x
 have hlt:=(Rh.mp q10).1
 have off:∀b,b≠T->(s.heap.update T (R6 (·.setIfInBounds 3 ((none:Option PN).elim QL fun f=>rawInt f)))).get? b=s.heap.get? b:=fun b z=>QI _ _ (SW z)
 have noF:∀b o,s.heap.get? b=Wx o->(∀vs,o.data≠.fields vs)->b≠T:=by
  grind
 refine gV (RT q1 q4 q5 ?_)
 refine Sb q8 q9 hlt (k _ ⟨fun b o q=>(off b ?_).trans (st b o q),nw,fr.of_keeps fun b o q n=>⟨o,(off b (noF b o q n)).trans q,rfl⟩,oe,ws,T,_,_,(off e (SW q7)).trans q1,q2,q3,q4,q5,q6,q7,Qt _ q8 (Q5 (QA q9 _)),QA q9 _,by grind⟩
  ⟨fun b o q n=>⟨o.slots,(off b (noF b o q n)).trans q⟩,fun b o q=>?_⟩)
 ·grind
 ·by_cases z:b=T
  ·subst z;exact⟨_,Qt _ q8 (Q5 (QA q9 _))⟩
  simp_all
def pV (hA:A.frames=Wx (env::outer)) (fr:s.heap.FunFrames B (env::outer)) (hL:env.frame=Wx L) (q1:s.heap.get? e=Wx oe) (st:B.StaysIn s.heap) (nw:B.get? e=Wy) (q4:oe.data=.fields ws) (hlt:1<ws.size)
  (k:∀h',Fly B (env::outer) e oe.cls oe.dict (rawInt L) h'->Gn s.heap h'->Q () { s with heap:=h' }) :
  wpAny M A (do let fo ← frameOf env;let pl ← entryPlaceOf L had;let t ← EntryCells.newEntry head fo .none (rawInt L) .none pl;setField (.ref e) 1 t) Q E s:=by
 have hnf:e∉(env::outer).filterMap (·.frame):=fun z=>by
  obtain⟨_,o,ho,n⟩:=fr.mem z
  simp_all
 refine gV (wpAny_frameOf_fun hA fr hL fun h1 so=>gV (wpAny_entryPlaceOf fun pl hpl=>?_))
 obtain⟨z1,z2,z3⟩:=so
 refine gV (Qn ?_ (hpl.sizeOk5 _ _ _ _ _))
 have e1:h1.get? e=Wx oe:=by simp_all
 have st1:B.StaysIn h1:=fun b o q=>by
  rw[z2 b fun z=>by rw[(fr.mem z).1] at q;cases q]
  exact st b o q
 generalize hT:({ cls:=.type "traceback", dict:=Wy,data:=.fields ([head,.ref L,.none,rawInt L,.none]++(if pl.isEmpty then PY 6 QL else pl)).toArray }:Obj)=oT
 have e2:(h1.push oT).get? e=Wx oe:=Pn _ e1
 have dT:oT.data=.fields ([head,.ref L,.none,rawInt L,.none]++(if pl.isEmpty then PY 6 QL else pl)).toArray:=by grind
 have ne:=Rz (Pq e1)
 refine Sb e2 q4 hlt (k _ ?_ ?_)
 ·have off:∀b o,b≠e->h1.get? b=Wx o->((h1.push oT).update e (R6 (·.setIfInBounds 1 (Qa h1.objs.size)))).get? b=Wx o:=fun b o n q=>by
   rw[QI _ _ (SW n)]
   exact Pn _ q
  have noF:∀b o,h1.get? b=Wx o->(∀vs,o.data≠.fields vs)->b≠e:=by
   grind
  refine⟨fun b o q=>off b o ?_ (st1 b o q),nw,?_,_,_,h1.objs.size,oT,_,Qt _ e2 (Q5 (QA q4 _)),BJ _ _,Au _ _,QA q4 _,by grind,?_,ne,?_,dT,?_⟩
  ·grind
  ·exact fr.of_keeps fun b o q n=>by
    grind
  ·cases q:B.get? h1.objs.size with
   | none=>rfl
   | some o=>exact absurd (Pq (st1 _ _ q)) (Ra _)
  ·rw[QI _ _ (SW ne)]
   rw[<- hT]
   exact Pu h1 rfl
  rfl
 ·refine⟨fun b o q n=>?_,fun b o q=>?_⟩
  ·obtain⟨sl,q'⟩:=z3 b o q
   refine⟨sl,?_⟩
   rw[QI _ _ ?_]
   ·exact Pn _ q'
   grind
  ·obtain⟨sl,q'⟩:=z3 b o q
   by_cases z:b=e
   ·subst z;exact⟨_,Qt _ e2 (Q5 (QA q4 _))⟩
   ·exact⟨_,by rw[QI _ _ (SW z)];exact Pn _ q'⟩
def Ap (hA:A.frames=Wx (env::outer)) (fr:s.heap.FunFrames B (env::outer)) (hL:env.frame=Wx L) (q1:s.heap.get? e=Wx oe) (st:B.StaysIn s.heap) (nw:B.get? e=Wy) (q4:oe.data=.fields ws) (q5:ws[1]?=Wx .none)
  (k:∀h',Fly B (env::outer) e oe.cls oe.dict (rawInt L) h'->Gn s.heap h'->Q () { s with heap:=h' }):wpAny M A (noteFrame (.ref e) env) Q E s:=by
 unfold noteFrame
 simp only[hL]
 refine gV (RT q1 q4 q5 ?_)
 exact pV hA fr hL q1 st nw q4 (Rh.mp q5).1 k
def B2 (hA:A.frames=Wx (env::outer)) (hL:env.frame=Wx L) (x:Fly B (env::outer) e C dc .none s.heap)
  (k:∀h',Fly B (env::outer) e C dc (rawInt L) h'->Gn s.heap h'->Q () { s with heap:=h' }):wpAny M A (noteFrame (.ref e) env) Q E s:=by
 obtain⟨st,nw,fr,oe,ws,T,oT,ts,q1,q2,q3,q4,q5,q6,q7,q8,q9,q10⟩:=x
 have off:∀b,b≠T->(s.heap.update T (R6 (·.setIfInBounds 3 QL))).get? b=s.heap.get? b:=fun b z=>QI _ _ (SW z)
 have noF:∀b o,s.heap.get? b=Wx o->(∀vs,o.data≠.fields vs)->b≠T:=by
  grind
 unfold noteFrame
 simp only[hL]
 refine gV (RT q1 q4 q5 ?_)
 refine gV (RT q8 q9 q10 ?_)
 refine gV (Sb q8 q9 (Rh.mp q10).1 ?_)
 refine pV hA (fr.of_keeps fun b o q n=>⟨o,(off b (noF b o q n)).trans q,rfl⟩) hL ((off e (SW q7)).trans q1) (fun b o q=>(off b ?_).trans (st b o q)) nw q4 (Rh.mp q5).1 fun h' y u=>?_
 ·grind
 ·subst q2 q3
  refine k h' y ⟨fun b o q n=>u.up b o ((off b (noF b o q n)).trans q) n,fun b o q=>?_⟩
  by_cases z:b=T
  ·subst z;exact u.there _ _ (Qt _ q8 (Q5 (QA q9 _)))
  ·exact u.there b o ((off b z).trans q)
end
def Cq (x:a_ P w H h a o):∃u,h.get? a=Wx u:=by
 cases o with
 | lst xs=>obtain⟨_,_,_,_,e⟩:=x;simp_all
 | tup xs=>obtain⟨_,_,_,ob,e,_⟩:=x;simp_all
 | dK kvs=>obtain⟨_,_,_,_,o,_,_,e,_⟩:=x;simp_all
 | dT kvs=>obtain⟨_,_,_,_,o,_,_,e,_⟩:=x;simp_all
 | set S n=>obtain⟨o,_,_,_,e,_⟩:=x;simp_all
 | ins C dx fs=>obtain⟨_,_,_,e,_⟩:=x;simp_all
 | own y=>exact x
 | xd fs=>obtain⟨_,⟨_,_,_,e,_⟩,_⟩:=x;simp_all
 | rng lo hi=>obtain⟨_,_,_,e⟩:=x;simp_all
 | frz ob u=>obtain⟨e,_⟩:=x;simp_all
 | tbl ps=>exact⟨_,(show h.get? a=Wx _ from x)⟩
 | met f y=>exact⟨_,(show h.get? a=Wx _ from x)⟩
 | ext φ=>obtain⟨_,e,_⟩:=x;exact e
abbrev Arr (B:QQ) (l:List Env) (e:PN) (C:Pp) (dc:Option PN) (h:QQ):Prop:=
 (B.StaysIn h/\B.get? e=Wy/\h.FunFrames B l/\∃oe ws,h.get? e=Wx oe/\oe.cls=C/\oe.dict=dc/\oe.data=.fields ws/\ws[1]?=Wx .none)\/Fly B l e C dc .none h
def Arr.stays (x:Arr B l e C dc h):B.StaysIn h:=x.elim (·.1) (·.stays)
def Arr.new (x:Arr B l e C dc h):B.get? e=none:=x.elim (·.2.1) (·.new)
def Arr.fr (x:Arr B l e C dc h):h.FunFrames B l:=x.elim (·.2.2.1) (·.fr)
section
variable {M:Model}{A:P9}{E:Pp->Pr->Prop}{s:Pr}{B:QQ}{env:Env}{outer:List Env}{e L:PN}{C:Pp}{dc:Option PN}{Q:Unit->Pr->Prop}
def uU (hA:A.frames=Wx (env::outer)) (hL:env.frame=Wx L) (x:Arr B (env::outer) e C dc s.heap)
  (k:∀h',Fly B (env::outer) e C dc (rawInt L) h'->Gn s.heap h'->Q () { s with heap:=h' }):wpAny M A (noteFrame (.ref e) env) Q E s:=by
 rcases x with⟨st,nw,fr,oe,ws,q1,rfl,rfl,q4,q5⟩ | x
 ·exact Ap hA fr hL q1 st nw q4 q5 k
 ·exact B2 hA hL x k
def zC (hA:A.frames=Wx (env::outer)) (hL:env.frame=Wx L) (x:Arr B (env::outer) e C dc s.heap)
  (k:∀h',Fly B outer e C dc .none h'->Gn s.heap h'->Q () { s with heap:=h' }):wpAny M A (leaving env (.ref e)) Q E s:=by
 exact gV (uU hA hL x fun h1 x1 u1=>r8 x1 fun h2 x2 u2=>k h2 x2.pop (u1.trans u2))
end
structure Cov (B:QQ) (fs:List PN) (aD:Hp) (h₀:QQ) (H':Hp):Prop where
 trk:∀b o,H' b=some o->∃u,B.get? b=some u
 old:∀b o,h₀.get? b=some o->aD b=none->b∉fs->B.get? b=some o
abbrev CXE (P:PJ) (w:Qc):CXT:=fun outer H s E e s'=>∃H' B a C dc,e=.ref a/\s'.os=s.os/\UZ s'.gens/\Un (frs outer) [] H H' s.heap s'.heap/\HOk P w H' s'.heap/\Fly B outer a C dc .none s'.heap/\Cov B (frs outer) H s.heap H'/\E C dc H'
abbrev XeB (X:Cx) (E:XK) (e:Pp) (s':Pr):Prop:=∃(σ:St) (H':Hp) (B:QQ) (a:PN) (C:Pp) (dc:Option PN),e=.ref a/\Inv X [] σ H' s'/\Arr B X.stack a C dc s'.heap/\Cov B X.fs X.aD X.ax.heap H'/\(∀p∈X.pn,B.get? p.1=Wx p.2)/\E C dc H'
abbrev fh (X:Cx) (E:XK):Prop:=∀e s',XeB X E e s'->X.xe e s'
structure Plain (X:Cx):Prop where
 ex:X.ex=[]
 stk:X.stack=X.env::X.outer/\X.env.frame=some X.env.locals
def HOk.flew {B h h':QQ} (x:HOk P w H' h) (tr:∀b o,H' b=Wx o->∃u,B.get? b=Wx u) (st:B.StaysIn h) (st':B.StaysIn h'):HOk P w H' h':=fun a o e=>
 (x a o e).iB (fun b u hb q=>by
  obtain⟨u',q'⟩:∃u,B.get? b=Wx u:=by
   grind
  have:=st _ _ q'
  rw[q] at this;cases this
  exact st' _ _ q') (fun _ q=>q) fun _ _ q=>q
def Inv.drop {σ:St} (I:Inv X pins σ H s):Inv X [] σ H s:=
 ⟨I.ok,I.os,I.bare,I.base,I.loc,I.cell,I.free,I.cL,fun p hp=>I.pin p (by simp_all),I.hok,I.len⟩
def xI (u:Un fs [] aD H' h₀ h) (c:Cov B fs aD h₀ H') (st':B.StaysIn h') (g:Gn h h') (nf:∀b∈fs,∀o,h.get? b=Wx o->∀vs,o.data≠.fields vs):Un fs [] aD H' h₀ h':=
 ⟨fun b o e n hb _=>st' b o (c.old b o e n hb),fun b o e n hb hx=>by
  obtain⟨sl,q⟩:=u.slot b o e n hb hx
  obtain⟨sl',q'⟩:=g.up b _ q (nf b hb _ q)
  simp_all,u.free,fun b o e hx=>by
  obtain⟨o',q⟩:=u.there b o e hx
  exact g.there b o' q,u.iY,u.jz,u.lO⟩
def Inv.flew {X:Cx}{σ:St}{H':Hp}{s':Pr}{B h':QQ}{t':Nat} (I:Inv X [] σ H' s') (p:Plain X) (c:Cov B X.fs X.aD X.ax.heap H') (pn:∀p∈X.pn,B.get? p.1=Wx p.2) (st:B.StaysIn s'.heap) (fr:s'.heap.FunFrames B X.stack) (st':B.StaysIn h') (g:Gn s'.heap h'):Inv X [] σ H' { s' with heap:=h',toks:=t' }:=by
 have cellK:∀{c':PN} {v:Option Pp},s'.heap.IsCell c' v->h'.IsCell c' v:=fun{c' v} ⟨o,ho,hd⟩=>by
  obtain⟨sl,q⟩:=g.up c' o ho fun vs z=>by simp_all
  exact⟨_,q,hd⟩
 refine⟨I.ok,I.os,I.bare,?_,?_,fun x c' e=>let ⟨v,q⟩:=I.cell x c' e;⟨v,cellK q⟩,I.free,I.cL,fun q hq=>?_,I.hok.flew c.trk st st',I.len⟩
 ·have u:=I.base
  rw[p.ex] at u ⊢
  refine xI u c st' g fun b hb o q vs z=>?_
  have:b∈X.stack.filterMap (·.frame):=by
   rw[p.stk.1,SV,p.stk.2]
   exact Po _ hb
  obtain⟨_,o',q',n⟩:=fr.mem this
  simp_all
 ·obtain⟨m,hn,k⟩:=I.loc
  refine⟨m,g.up.ns hn,fun i x v a b c=>?_⟩
  obtain⟨u,r,l⟩:=k i x v a b c
  refine⟨u,r,l.imp (fun z=>z) fun⟨z,c',e,q⟩=>⟨z,c',e,cellK q⟩⟩
 ·have:=I.pin q hq
  rw[QO] at hq
  exact⟨st' _ _ (pn q hq),this.2⟩
section
variable {P:PJ}{w:Qc}{K:Pk}{mg:Str->Option Pp}{base:QQ}
def Ah:fh (dR (CXE P w) P w K mg base N qual scope f cd A outer s H E) E:=by
 rintro e s' ⟨σ,H',B,a,C,dc,rfl,I,ar,c,_,q⟩
 have fr:=ar.fr
 have hA:=I.ok.frames
 refine zC hA rfl ar fun h' x g=>?_
 refine⟨H',B,a,C,dc,rfl,I.os,I.bare,xI (show Un (frs outer) [] H H' s.heap s'.heap from I.base) c x.stays g fun b hb o q vs z=>?_,I.hok.flew c.trk ar.stays x.stays,x,c,q⟩
 have:b∈(envOfC qual scope s.heap.objs.size f cd::outer).filterMap (·.frame):=Po _ hb
 obtain⟨_,o',q',n⟩:=(show s'.heap.FunFrames B (envOfC qual scope s.heap.objs.size f cd::outer) from fr).mem this
 simp_all
end
def vx (p:Plain X) (fl:fh X E):Passes (CXE X.prog X.w) X E:=by
 rintro pins σ H s e s' I ⟨H',B,a,C,dc,rfl,os,bare,un,hok,x,c,q⟩
 refine fl _ _ ⟨σ,H',B,a,C,dc,rfl,(I.uy os un hok bare fun b z=>absurd z {..}).drop,.inr x,⟨c.trk,fun b o e n hb=>?_⟩,fun p' hp=>?_,q⟩
 rotate_left
 ·obtain⟨q1,q2,q3,q4,q5⟩:=I.pin p' (Ru _ hp)
  refine c.old _ _ q1 q2 fun z=>?_
  rcases PL.mp (I.fB _ z) with z | z
  ·grind
  simp_all
 have hx:b∉X.ex:=by rw[p.ex];simp
 refine c.old b o (I.base.keep b o e n hb hx) (I.base.free b o e n hx) fun z=>?_
 rcases PL.mp (I.fB b z) with rfl | z
 ·exact absurd (Pq e) (R9 I.ok.above)
 simp_all
def zP {σ:St} (p:Plain X) (fl:fh X E) (I:Inv X pins σ H s) (k:∀b o,s.heap.get? b=Wx o->h'.get? b=Wx o)
  (nw:s.heap.get? a=Wy) (q1:h'.get? a=Wx oe) (q2:oe.cls=C) (q3:oe.dict=dc) (q4:oe.data=.fields ws) (q5:ws[1]?=Wx .none) (q:E C dc H):X.xe (.ref a) { s with heap:=h',toks:=t' }:=by
 have fr:=I.stack
 have nfr:=I.lZ
 refine fl _ _ ⟨σ,H,Uo s.heap (frs X.stack),a,C,dc,rfl,(I.kept k).drop,.inl ⟨fun b o z=>k b o (Ta _ z),?_,?_,oe,ws,q1,q2,q3,q4,q5⟩,⟨fun b o z=>?_,fun b o e n hb=>?_⟩,fun p' hp=>?_,q⟩
 rotate_right
 ·obtain⟨q1,q2,q3,q4,q5⟩:=I.pin p' (Ru _ hp)
  refine Rl _ q1 fun z=>?_
  rcases PL.mp (I.fB _ z) with z | z
  ·grind
  simp_all
 ·cases z:(Uo s.heap (frs X.stack)).get? a with
  | none=>rfl
  | some o=>have:=Ta _ z;simp_all
 ·exact(PySem.W.funFrames_hide fr fun env he b hb=>Td.mpr ⟨env,he,hb⟩).of_keeps fun b o z _=>⟨o,k b o z,rfl⟩
 ·obtain⟨u,hu⟩:=Cq (I.hok b o z)
  exact⟨u,Rl _ hu fun hm=>by simp_all⟩
 ·have hx:b∉X.ex:=by rw[p.ex];simp
  refine Rl _ (I.base.keep b o e n hb hx) fun z=>?_
  rcases PL.mp (I.fB b z) with rfl | z
  ·exact absurd (Pq e) (R9 I.ok.above)
  simp_all
@[inline]abbrev bmV:List Pp:=[.type "ValueError", .type "Exception", .type "BaseException", .type "object"]
def D9 {K:Pk} (X:K.In h) (q:U3 K C bmB newId=Wz) :
  ∃bm N nm q' bs hdct sn sub ab col dd k0 k1 k2 k3 k5 mN,h.get? C=Wx (excClassObj nm q' C N bs bm hdct sn sub ab col dd k0 k1 k2 k3 k5 newId)/\h.Ns N mN/\mN "__init__" = Wy/\Wu h bmB bm:=by
 unfold U3 at q
 split at q
 ·rename_i dd cd sl ho
  split at q
  ·rename_i C' bm k0 k1 k2 k3 n k5 hm hs
   simp only[PV,beq_iff_eq,Bool.not_eq_true'] at q
   obtain⟨⟨⟨⟨⟨rfl,rfl⟩,hdel⟩,ht⟩,hok⟩,hni⟩:=q
   obtain⟨nm,bs,mro,ns,qn,hd,sn,sub,ab,col,del⟩:=cd
   subst hm hdel
   obtain rfl:sl = #[k0,k1,k2,k3,Wx (.builtin n),k5]:=by
    grind
   exact⟨bm,ns,nm,qn,bs,hd,sn,sub,ab,col,dd,k0,k1,k2,k3,k5,_,X _ _ ho,.of_isNs (PySem.W.isNs_of_in X hok),PySem.W.nsMap_none_of_in X hok hni,PySem.W.tail_of_in X ht⟩
  grind
 grind
def Ho {σ:St} (p:Plain X) (fl:fh X E) (hc:X.calm=Wz) (I:Inv X pins σ H s) (hg:Gl X x) (hm:X.mg x=Wx (.ref C)) (hC:U3 X.K C bmV "ValueError.__new__" = Wz)
  (q:E (.ref C) Wy H) (hdb:(x == ("__debug__" : Str))=false:=by decide):wpAny (model X.prog X.w) X.A (exec (.Raise (Wx (.Call (.Name x np) [] [] cpos)) Wy pos) X.env) Q X.xe s:=by
 obtain⟨tl,N,nm,q',bs,hdct,sn,sub,ab,col,dd,k0,k1,k2,k3,k5,mN,hC',hN,hni,T⟩:=D9 I.kIn hC
 refine wpAny_Raise_call_subT (nm:=nm) (q:=q') (N:=N) (bs:=bs) (hdct:=hdct) (sn:=sn) (sub:=sub) (ab:=ab) (col:=col) (dd:=dd) (k0:=k0) (k1:=k1) (k2:=k2) (k3:=k3) (k5:=k5) RO (T.hasType RO.hasBase) (I.ok.hd hc) rfl hni (f6 I hg hm ⟨rfl,?_⟩ hdb)
 refine evalArgs_empty ⟨rfl,QJ _,hC',hN,T,fun h' e me=>?_⟩
 obtain⟨t,he,_,_⟩:=me.there
 exact zP p fl I me.keeps me.new he rfl rfl rfl rfl q
end L2
namespace L2.FE
open PySem PySem.Spec PyProof.Rows
abbrev εX (g:GG) (E:XK):EE:=fun _ H' x=>∀C dc , g x.cls=Wx C->XFs H' dc x.fs->E (.ref C) dc H'
@[inline]abbrev spE (K:Pk) (g:GG) (np:Nat) (m:MF):Sp:=spG K g (εX g) np m
abbrev jt (P:PJ) (w:Qc) (K:Pk) (mg:Str->Option Pp) (base:QQ) (g:GG) (x:Str) (k:Nat) (ps:List Str) (m:MF):Prop:=
 ∃f fd,b9 P w K mg base (CXE P w) k f fd ps (spE K g ps.length m)/\Qk K (.ref f)=Wz/\Binds K fd ps []/\mg x=Wx (.ref f)
abbrev vy (x:Str):MS:=fun _ h=>.err ⟨x,[]⟩ h
abbrev noR:R β->R β
 | .ok b h=>.ok b h
 | _=>.bad
@[simp] def MP (b:β) (h):noR (.ok b h)=.ok b h:=rfl
abbrev up (m:En->Hh->R β):En->Hh->R β:=fun env h=>noR (m env h)
def rj {K:Pk}{k:β->Hh->Prop} (w:WQ K g ε α H (noR r) k):WQ K g E00 α H r k:=by
 cases r with
 | ok b h=>exact w
 | err x h=>exact w.elim
 | bad=>exact w.elim
section
variable {P:PJ}{w:Qc}{K:Pk}{mg:Str->Option Pp}{base:QQ}{g:GG}
def De {st:TF} (F:Fun K x qual st f fd) (S:az N ps (ag st))
  (hb:∀cdv A outer s H E , bF k (A.deeper (envOfC qual (ag st) s.heap.objs.size f cdv)) →
   fh (dR (CXE P w) P w K mg base N qual (ag st) f cdv A outer s H E) E->Plain (dR (CXE P w) P w K mg base N qual (ag st) f cdv A outer s H E) →
   UK (model P w) (A.deeper (envOfC qual (ag st) s.heap.objs.size f cdv)) (envOfC qual (ag st) s.heap.objs.size f cdv) (dR (CXE P w) P w K mg base N qual (ag st) f cdv A outer s H E).xe →
   PSs (dR (CXE P w) P w K mg base N qual (ag st) f cdv A outer s H E) (aP st) (tMS K g (εX g E) mb)):b9 P w K mg base (CXE P w) (k+1) f fd ps (spE K g ps.length (bG N.length mb)):=by
 obtain⟨oc,od,kV,doc,pm,an,cdv,ct,osl,rfl,lk,hcd⟩:=F.ex
 refine Gr lk hcd S (fun vs H Q E h=>h.1) fun A outer s H vs Q E hr hsp=>⟨_,hb cdv A outer s H E hr Ah ⟨rfl,rfl,rfl⟩ UK.leaving,?_⟩
 obtain⟨hl,α,ds,h,rs,hh,w⟩:=hsp
 refine tMS.use ⟨hh,ik rs⟩ w.bind fun fl h' H' α' e r kk=>?_
 cases fl with
 | nx e'=>exact fun σ' s'=>(show aA K g α H Q .non h' from kk) _ H' α' e r .non
 | bk e'=>exact kk.elim
 | ct e'=>exact kk.elim
 | rt d=>exact fun v rv=>(show aA K g α H Q d h' from kk) _ H' α' e r rv
end
section
variable {X:Cx}{g:GG}{E:XK}{ε:EE}
def EK {x:Str}{C:PN}{np cpos pos:Pos} (fl:fh X E) (pl:Plain X) (hc:X.calm=Wz) (hg:Gl X x) (hm:X.mg x=Wx (.ref C)) (hgx:g x=Wx C) (hC:U3 X.K C bmV "ValueError.__new__" = Wz) (hdb:(x == ("__debug__" : Str))=false:=by decide) :
  PS X (.Raise (Wx (.Call (.Name x np) [] [] cpos)) Wy pos) (tMS X.K g (εX g E) (vy x)):=fun pins s σ H D I ⟨α,env,h,sr,w⟩=>
 Ho pl fl hc I hg hm hC (w α H Ext.refl sr.heap C Wy hgx (.inl ⟨rfl,rfl⟩)) hdb
def Dg {k:Nat}{f:PN}{fd:RV}{ps:List Str}{m:MF}{np:Nat}{x:Str}{p pos:Pos}{e:Rb}{es:List Rb}{mr:MA} (fl:fh X E) (pl:Plain X) (F:b9 X.prog X.w X.K X.mg X.base (CXE X.prog X.w) k f fd ps (spE X.K g np m)) (hr:bF k X.A) (hg:Gl X x) (hm:X.mg x=Wx (.ref f)) (hk:Qk X.K (.ref f)=Wz) (hb:Binds X.K fd ps [])
  (ha:PA X (e::es) (tMA X.K g (εX g E) mr)) (hlen:∀env h ds h',mr env h=.ok ds h'->ds.length=np) (hdb:(x == ("__debug__" : Str))=false:=by decide) (he:starEach (e::es) X.env=(WA,eval e X.env)::starEach es X.env:=by rfl) (hpl:(backTo pos (starEach es X.env)).any (·.1)=false:=by rfl) :
  PE X (.Call (.Name x p) (e::es) [] pos) (tM X.K g (εX g E) (ah m mr)):=
 PE.imp (xS F hr hg hm hk hb .nil (vx pl fl) ha hdb he hpl) fun σ H Q ⟨α,env,h,s,w⟩=>⟨α,env,h,s,w.bind.mono fun d1 h1 eq w1 v1 H1 α1 e1 hr1 r1=>by
  show spE X.K g np m (v1++[]) H1 Q E
  rw[QO]
  refine⟨?_,α1,d1,h1,r1,hr1,w1.post e1⟩
  rw[<- r1.length]
  grind⟩
def _root_.L2.PS.nox (h:PS X.nox e t):PS X e t:=fun pins s σ H D I hw=>
 P4 (h pins s σ H D (I.jZ _) hw) (fun _ _ q=>q.eI) fun _ _ z=>RX z
def K_ {e:Rb}{m:ME} (h:PE X.nox e (tM X.K g E00 m)):PE X e (tM X.K g ε (up m)):=PE.imp h.nox fun σ H Q ⟨α,env,h,s,w⟩=>⟨α,env,h,s,rj w⟩
def Gy {e:Rb}{m:MT} (h:PT X.nox e (tMT X.K g E00 m)):PT X e (tMT X.K g ε (up m)):=PT.imp h.nox fun σ H Q ⟨α,env,h,s,w⟩=>⟨α,env,h,s,rj w⟩
def DO {e:TF}{m:MS} (h:PS X.nox e (tMS X.K g E00 m)):PS X e (tMS X.K g ε (up m)):=PS.imp h.nox fun σ H Q ⟨α,env,h,s,w⟩=>⟨α,env,h,s,rj w⟩
end
end L2.FE
namespace L2
open PySem PySem.Spec PyProof.Rows
@[inline]abbrev unm (A:P9):P9:={ A with handled:=Wy }
section
variable {X:Cx}{pins:List (PN × Obj)}{σ:St}{H:Hp}{s:Pr}
@[inline]abbrev Cx.hand (X:Cx) (A:P9) (pn:List (PN × Obj)) (E:Pp->Pr->Prop):Cx:={ X with A:=A,calm:=WA,pn:=pn,xe:=E }
def Inv.hand (I:Inv X pins σ H s){A:P9} (hA:A.frames=X.A.frames){pn pins':List (PN × Obj)} (hp:∀p∈pn++pins',p∈X.pn++pins) (E:Pp->Pr->Prop):Inv (X.hand A pn E) pins' σ H s:=
 ⟨⟨I.ok.mod,I.ok.kind,I.ok.glob,I.ok.blt,I.ok.above,I.ok.inj,I.ok.has,I.ok.cab,fun z=>(nomatch z),hA.trans I.ok.frames,I.ok.stk,I.ok.exf,I.ok.bs,I.ok.bsz,I.ok.rL,I.ok.ur,I.ok.ic,I.ok.frf⟩,I.os,I.bare,I.base,I.loc,I.cell,I.free,I.cL,fun p h=>I.pin p (hp p h),I.hok,I.len⟩
@[inline]abbrev Cx.wpn (X:Cx) (pn:List (PN × Obj)) (E:Pp->Pr->Prop):Cx:={ X with pn:=pn,xe:=E }
def Inv.wpn (I:Inv X pins σ H s) (hp:∀p∈pn++pins',p∈X.pn++pins) (E):Inv (X.wpn pn E) pins' σ H s:=
 ⟨⟨I.ok.mod,I.ok.kind,I.ok.glob,I.ok.blt,I.ok.above,I.ok.inj,I.ok.has,I.ok.cab,I.ok.hd,I.ok.frames,I.ok.stk,I.ok.exf,I.ok.bs,I.ok.bsz,I.ok.rL,I.ok.ur,I.ok.ic,I.ok.frf⟩,I.os,I.bare,I.base,I.loc,I.cell,I.free,I.cL,fun p h=>I.pin p (hp p h),I.hok,I.len⟩
def Inv.back (J:Inv (X.hand A pn E) pins' σ H s) (ok:X.Ok) (hp:∀p∈X.pn++pins,p∈pn++pins'):Inv X pins σ H s:=
 ⟨ok,J.os,J.bare,J.base,J.loc,J.cell,J.free,J.cL,fun p h=>J.pin p (hp p h),J.hok,J.len⟩
def Inv.adopt (I:Inv X [] σ H s) (p:Plain X) (c:Cov B X.fs X.aD X.ax.heap H) (pn:∀p∈X.pn,B.get? p.1=Wx p.2) (fr:s.heap.FunFrames B X.stack) (nw:B.get? a=Wy) (q1:s.heap.get? a=Wx oe) (q4:oe.data=.fields ws) :
  H a=Wy/\Inv X [] σ (upd H a (FE.AtO a oe)) s:=by
 have hn:H a=none:=by
  cases z:H a with
  | none=>rfl
  | some o=>obtain⟨u,hu⟩:=c.trk a o z;simp_all
 have nfr:∀b∈X.env.locals::X.fs,b≠a:=by
  rintro b hb rfl
  have:b∈X.stack.filterMap (·.frame):=by
   rw[p.stk.1,SV,p.stk.2]
   exact hb
  obtain⟨_,o',q',n⟩:=fr.mem this
  simp_all
 refine⟨hn,I.ok,I.os,I.bare,?_,I.loc,I.cell,?_,fun x c' e=>?_,fun q hq=>?_,fun b o e=>?_,I.len⟩
 ·obtain⟨u1,u2,u3,u4,u5,u6,u7⟩:=I.base
  refine⟨u1,u2,fun b o e n hx=>?_,u4,fun b xs q=>?_,fun b o u q=>?_,fun b ps q=>?_⟩
  ·rw[aw ?_];exact u3 b o e n hx
   rintro rfl
   by_cases hb:b∈X.fs
   ·grind
   ·have:=c.old b o e n hb
    simp_all
  ·have:=u5 b xs q
   rw[aw (aE this hn)];lia
  ·have:=u6 b o u q
   rw[aw (aE this hn)];lia
  ·obtain⟨more,this⟩:=u7 b ps q
   exact⟨more,by rw[aw (aE this hn)];lia⟩
 ·rw[aw (nfr _ Pw)];exact I.free
 ·rw[aw ?_];exact I.cL x c' e
  rintro rfl
  obtain⟨v,o,ho,hd⟩:=I.cell x c' e
  simp_all
 ·have z:=I.pin q hq
  refine⟨z.1,?_,z.2.2⟩
  rw[aw ?_];exact z.2.1
  grind
 ·by_cases hb:b=a
  ·subst hb
   rw[aL] at e;cases e
   exact⟨q1,q1,⟨_,q1⟩,fun h1 h2 z k=>k _ z⟩
  ·rw[aw hb] at e
   exact(I.hok b o e).iB (fun _ _ _ z=>z) (fun c' z=>by rw[aw (aE z hn)];exact z) fun c' xs z=>by rw[aw (aE z hn)];exact z
def Inv.forget {i:Nat}{x:Str}{m m':Str->Option Pp}{h':QQ}{t':Nat} (I:Inv X pins σ H s) (hN:X.N.Nodup) (hi:X.N[i]?=Wx x) (hn:s.heap.Ns X.env.locals m) (hn':h'.Ns X.env.locals m') (hm:∀y,y≠x->m' y=m y) (sb:Ry X.env.locals s.heap h'):Inv X pins (σ.set i Wy) H { s with heap:=h',toks:=t' }:=by
 have kp:=fun b n=>sb.2 b n
 have cellK:∀y c v,X.env.cells.lookup y=Wx c->s.heap.IsCell c v->h'.IsCell c v:=fun y c v e ⟨o,ho,hd⟩=>⟨o,by rw[kp c (I.cne y c e)];exact ho,hd⟩
 refine⟨I.ok,I.os,I.bare,?_,⟨m',hn',fun j y v a b c=>?_⟩,fun y c e=>let ⟨v,q⟩:=I.cell y c e;⟨v,cellK y c v e q⟩,I.free,I.cL,fun q hq=>?_,fun b o e=>?_,by rw[List.length_set];exact I.len⟩
 ·obtain⟨u1,u2,u3,u4,u5,u6,u7⟩:=I.base
  have ne:∀b o,X.ax.heap.get? b=Wx o->b≠X.env.locals:=fun b o e=>PU (P8 (Pq e) I.ok.above)
  exact⟨fun b o e n h1 h2=>by rw[kp b (ne b o e)];exact u1 b o e n h1 h2,fun b o e n h1 h2=>by rw[kp b (ne b o e)];exact u2 b o e n h1 h2,u3,fun b o e h2=>by rw[kp b (ne b o e)];exact u4 b o e h2,u5,u6,u7⟩
 ·rw[TM] at b
  by_cases hj:i=j
  ·rw[if_pos hj] at b
   split at b<;>cases b
  ·rw[if_neg hj] at b
   obtain⟨m0,hn0,k⟩:=I.loc
   obtain⟨u,r,l⟩:=k j y v a b c
   have hy:y≠x:=by
    rintro rfl
    exact hj ((List.getElem?_inj (Qj.mp hi).1 hN).mp (hi.trans a.symm))
   have e0:m0=m:=by
    obtain⟨o1,es1,ep1,a1,a2,a3,a4⟩:=hn0
    obtain⟨o2,es2,ep2,b1,b2,b3,b4⟩:=hn
    rw[a1] at b1;cases b1
    rw[a2] at b2;cases b2
    funext y;rw[<- a4,<- b4]
   subst e0
   refine⟨u,r,l.imp (fun z=>⟨z.1,by rw[hm y hy];exact z.2⟩) fun⟨z,c',e,q⟩=>⟨z,c',e,cellK y c' _ e q⟩⟩
 ·have z:=I.pin q hq
  exact⟨by rw[kp _ z.2.2.1];exact z.1,z.2⟩
 ·exact(I.hok b o e).iB (fun c' u hc q=>by
   rw[kp c' ?_];exact q
   rintro rfl
   rcases hc with rfl | hc
   ·rw[I.free] at e;cases e
   ·rw[I.free] at hc;cases hc) (fun _ q=>q) fun _ _ q=>q
end
structure FnH (P) (w) (K) (mg) (base) (k) (f) (fd) (ps:List Str) (sp:Sp):Prop where
 len:∀vs H Q E,sp vs H Q E->vs.length=ps.length
 run:∀A outer s H args us vs Q E , bF k (unm A)->vN P w K mg base A outer s H->VU s fd args (ps.zip us)->Vals vs us->sp vs H Q E →
  codeAny (model P w) A (.call (.ref f) args) (CR CX0 outer P w H s Q E) s
def FnH.mono {K:Pk} (F:FnH P w K mg base j f fd ps sp) (h:j<=k):FnH P w K mg base k f fd ps sp:=
 ⟨F.len,fun A outer s H args us vs Q E hr=>F.run A outer s H args us vs Q E (hr.mono h)⟩
section
variable {P:PJ}{w:Qc}{K:Pk}{mg:Str->Option Pp}{base:QQ}
@[inline]abbrev cxH (P:PJ) (w:Qc) (K:Pk) (mg:Str->Option Pp) (base:QQ) (N:List Str) (qual:Str) (scope:Ui) (f:PN) (cd:Pp) (A:P9) (outer:List Env) (s:Pr) (H:Hp) (E:XK):Cx:=
 (dR CX0 P w K mg base N qual scope f cd A outer s H E).hand (A.deeper (envOfC qual scope s.heap.objs.size f cd)) [] fun _ _=>False
def Ie {x qual:Str}{st:TF}{f:PN}{fd:RV}{N ps:List Str}{k:Nat}{sp:Sp} (F:Fun K x qual st f fd) (S:az N ps (ag st)) (len:∀vs H Q E,sp vs H Q E->vs.length=ps.length)
  (hbody:∀(cdv:Pp) (A:P9) (outer:List Env) (s:Pr) (H:Hp) (vs:List V) (Q:VK) (E:XK),bF k (unm (A.deeper (envOfC qual (ag st) s.heap.objs.size f cdv)))->sp vs H Q E →
   ∃t,PSs (cxH P w K mg base N qual (ag st) f cdv A outer s H E) (aP st) t/\t { nx:=fun _ H'=>Q .non H',rt:=Q } (start N vs) H):FnH P w K mg base (k+1) f fd ps sp:=by
 obtain⟨oc,od,kV,doc,pm,an,cdv,ct,osl,rfl,lk,hcd⟩:=F.ex
 refine⟨len,fun A outer s H args us vs Q E hr e0 hb r hsp=>?_⟩
 have hl:=len _ _ _ _ hsp
 have KX:=e0.mod.kin.keeps fun b o e=>(e0.bs b o e).1
 have lim:=e0.mod.nolimit.keeps fun b o e=>(e0.bs b o e).1
 have hkind:∀y∈ps.zip us,(ag st).names.lookup y.1=Wx .local\/((ag st).names.lookup y.1=Wx .cell/\((cellsFrom (s.heap.objs.size+1) (ag st).names []).lookup y.1).isSome=Wz):=fun⟨n,v⟩ hy=>by
  rcases S.par n (Sl hy).1 with q | q
  ·exact .inl q
  ·exact .inr ⟨q,RI _ _ _ (.inl q)⟩
 have hdp:=bF.depth hr
 refine Sm hdp (KX _ _ lk) rfl S.co S.gen rfl (Uy KX hcd) (hb _ _ _ _ ?_)
 refine RL S.kind hkind fun env he s1 x=>?_
 subst he
 refine⟨lim.keeps x.toInCall.keep,Vc ?_⟩
 obtain⟨t,ht,hq⟩:=hbody cdv A outer s H vs Q E (hr.deeper _) hsp
 have I0:Inv (dR CX0 P w K mg base N qual (ag st) f cdv (unm A) outer s H E) [] (start N vs) H s1:=j_ S rfl ⟨e0.frames,e0.mod,e0.bs,e0.bsz,e0.ic,e0.frf,e0.hok,e0.bare⟩ hl r x
 have I:Inv (cxH P w K mg base N qual (ag st) f cdv A outer s H E) [] (start N vs) H s1:=
  ⟨⟨I0.ok.mod,I0.ok.kind,I0.ok.glob,I0.ok.blt,I0.ok.above,I0.ok.inj,I0.ok.has,I0.ok.cab,fun z=>(nomatch z),Ud e0.frames,I0.ok.stk,I0.ok.exf,I0.ok.bs,I0.ok.bsz,I0.ok.rL,I0.ok.ur,I0.ok.ic,I0.ok.frf⟩,I0.os,I0.bare,I0.base,I0.loc,I0.cell,I0.free,I0.cL,I0.pin,I0.hok,I0.len⟩
 refine P4 (ht [] s1 (start N vs) H _ I hq) (fun fl s' hs=>?_) fun e s' hs=>hs.elim
 have fin:∀{σ':St} {H':Hp} {v:V} {u:Pp},Inv (cxH P w K mg base N qual (ag st) f cdv A outer s H E) [] σ' H' s'->RelV v u->Q v H'->CE outer P w H s Q u s':=
  fun{σ' H' v u} J rv q=>⟨v,H',J.os,J.bare,J.base,J.hok,rv,q⟩
 cases fl with
 | ret u=>
  obtain⟨v,σ',H',J,rv,q⟩:=hs
  exact fin J rv q
 | next=>
  obtain⟨σ',H',J,q⟩:=hs
  exact fin (v:=V.non) J rfl q
 | brk=>
  obtain⟨_,_,_,q⟩:=hs
  exact q.elim
 | cont=>
  obtain⟨_,_,_,q⟩:=hs
  exact q.elim
end
section
variable {X:Cx}{k:Nat}{f:PN}{fd:RV}{ps:List Str}{sp:Sp}{x:Str}{p pos:Pos}{e:Rb}{es:List Rb}{t:TA}
def uF (F:FnH X.prog X.w X.K X.mg X.base k f fd ps sp) (hr:bF k (unm X.A)) (hg:Gl X x) (hm:X.mg x=Wx (.ref f)) (hk:Qk X.K (.ref f)=Wz) (hb:Binds X.K fd ps [])
  (ha:PA X (e::es) t) (hdb:(x == ("__debug__" : Str))=false:=by decide) (he:starEach (e::es) X.env=(WA,eval e X.env)::starEach es X.env:=by rfl) (hpl:(backTo pos (starEach es X.env)).any (·.1)=false:=by rfl) :
  PE X (.Call (.Name x p) (e::es) [] pos) (GI sp [] E0 t):=by
 intro pins s σ H Q I h
 refine Sf (f6 I hg hm ?_ hdb)
 refine Tf I.ok.mod.kin hk (thn (ha pos pins s σ H _ I h) fun us s1 ⟨vs,H1,I1,r,q⟩=>⟨I1.kIn,?_⟩) he hpl
 replace q:sp vs H1 Q E0:=by simp_all
 have hl:us.length=ps.length:=by rw[<- r.length];exact F.len _ _ _ _ q
 have hbb:=hb s1 us I1.kIn (by simp_all)
 rw[QO] at hbb
 refine Sw (RA (F.run X.A X.stack s1 H1 ⟨us,[]⟩ us vs Q E0 hr I1.Ia hbb r q) fun r s' hq=>?_)
 cases r with
 | error e=>exact hq.elim
 | ok fl=>
  cases fl with
  | ret u=>exact I1.after hq
  | next=>exact hq.elim
  | brk=>exact hq.elim
  | cont=>exact hq.elim
end
end L2
namespace L2
open PySem PySem.Spec PyProof.Rows PySem.W
def zY:plainId "BaseException.__getattribute__" = true:={:_}
def Ba:builtinKind "BaseException.__getattribute__" = Wx .slot:=by rfl
def zK:splitId "BaseException.__getattribute__" = Wx ("BaseException", "__getattribute__"):=by rfl
section
variable {prog:PJ}{w:Qc}{A:P9}{E:Pp->Pr->Prop}{s:Pr}{K:Pk}{x D:PN}{ox:Obj}{odo:Option Obj}{name:Str}
def ET (X:K.In s.heap) (I:InstAt s.heap x ox D odo) (hf:findObj K D odo name=Wx (.bind g0 a0)) (h:wpAny (model prog w) A (call g0 [a0,.ref x,.ref D]) (fun v s'=>Q (.done (.ret v)) s') E s) :
  wpAny (model prog w) A (Qq.«object.__getattribute__» ⟨[.ref x,.str name tk],[]⟩) Q E s:=by
 have L0:=I.type (M:=model prog w)
 have L1:=looks_find (M:=model prog w) X I hf
 refine gV (Pl (gV (Pl (gV (L0.at (gV (L1.at ?_)))))))
 exact gV (P6 (P4 h (fun v s' z=>Pl z) fun _ _ z=>z))
def C3 (X:K.In s.heap) (I:InstAt s.heap x ox D odo) (hsub:mroIn K D (.type "BaseException")=Wx Wz) (hf:findObj K D odo name=Wx (.bind g0 a0))
  (h:wpAny (model prog w) A.in1 (call g0 [a0,.ref x,.ref D]) (fun v s'=>R (.ok (.ret v)) s') (fun e s'=>R (.error e) s') s) :
  codeAny (model prog w) A (.call (.builtin "BaseException.__getattribute__") ⟨[.ref x,.str name tk],[]⟩) R s:=by
 have L0:=I.type (M:=model prog w)
 have L3:Looks (model prog w) s.heap (isInstance (.ref x) (.type "BaseException")) true:=L0.andThen (V9 X hsub)
 refine SI zY F.entry_bexc_ga ?_
 refine We (i:="BaseException.__getattribute__") Ba zK L3 (F.args_bexc_ga (.ref x) (.str name tk)) ?_
 exact ET X I hf h
def Bf (X:K.In s.heap) (I:InstAt s.heap x ox D odo) (hga:findIn K (.ref D) "__getattribute__" = Wx (Wx (.builtin "BaseException.__getattribute__"))) (hhk:findIn K (.ref D) "__getattr__" = Wx Wy) (hsub:mroIn K D (.type "BaseException")=Wx Wz)
  (hf:findObj K D odo name=Wx (.bind g0 a0)) (hv:handedIn v0=Wz)
  (h:∀A E Q' , Q' v0 { s with toks:=s.toks+1 }->wpAny (model prog w) A (call g0 [a0,.ref x,.ref D]) Q' E { s with toks:=s.toks+1 })
  (q:Q (Wx v0) { s with toks:=s.toks+1 }):wpAny (model prog w) A (getAttr? (.ref x) name) Q E s:=by
 obtain⟨hh,gg,d,t,os⟩:=s
 have L0:=I.type (M:=model prog w)
 have L1:=T6 (M:=model prog w) X hga
 have L2:=T6 (M:=model prog w) X hhk
 refine gV (wpAny_mkText (gV (R7 (P6 (gV (L0.at (gV (L1.at ?_))))))))
 dsimp only
 unfold getAttrByItsOwn hookBefore
 refine gV (L2.at (gV (R7 (P6 ?_))))
 unfold callGetattribute
 unfold boundAndCalled
 refine gV (Pl ?_)
 refine Sw (C3 X I hsub hf (h _ _ _ ?_))
 exact handed_on hv (Pl q)
end
def DJ {K:Pk} (hga:findIn K (.ref D) "__getattribute__" = Wx (Wx (.builtin "BaseException.__getattribute__"))) (hhk:findIn K (.ref D) "__getattr__" = Wx Wy) (hsub:mroIn K D (.type "BaseException")=Wx Wz) (hdct:hasDictIn K D=Wz) (ha:findIn K (.ref D) "__class__" = Wx (Wx (.builtin "object.__class__")))
  (hn:specialIn K (.builtin "object.__class__") "__get__" = Wx (Wx (.builtin "getset_descriptor.__get__"))) (htk:takesIn K (.builtin "object.__class__")=Wx Wz) (hm:mroIn K D (.type "object")=Wx Wz) :
  KitX K (.ref x) (.ref D) (fun h=>InstAt h x ox D odo):=by
 obtain⟨cdD,hcD,_⟩:=VP hdct
 have hlk:∃c' d' cd' sl',K.lookup D=Wx ⟨c',d',.cls cd',sl'⟩:=by
  unfold clsIn at hcD
  grind
 obtain⟨c',d',cd',sl',ho⟩:=hlk
 refine⟨fun _ _ _ I=>I.type,fun _ _ X _=>?_,fun h tp dd its n sl X htp=>?_,fun{prog w A E Q s} X I k=>?_⟩
 ·intro A' Q' E' s' k q
  exact gV (TV (k _ _ (X _ _ ho)) (Pl q))
 ·refine Bool.eq_false_iff.mpr fun q=>?_
  have e:=Qa.inj (beq_iff_eq.mp q)
  subst e
  have z:=(X _ _ ho).symm.trans htp
  cases z
 ·have hf:findObj K D odo "__class__" = Wx (.bind (.builtin "getset_descriptor.__get__") (.builtin "object.__class__")):=by
   unfold findObj
   simp_all
  exact Bf X I hga hhk hsub hf rfl (fun A E Q' q'=>Sw (class_get (s:={ s with toks:=s.toks+1 }) X I hm q')) k
@[inline]abbrev bC:List Str:=["FallError", "NoOrder", "NoNumber", "NoSet", "NoRow", "NoLine", "NoText", "TooGreat"]
abbrev wt (c x:Str):Bool:=c == x || x == "FallError"
abbrev C8 (c:Str):Bool:=!(c == "NoText" || c == "TooGreat")
abbrev vO (K:Pk) (D:PN):Bool:=findIn K (.ref D) "__getattribute__" == Wx (Wx (.builtin "BaseException.__getattribute__"))&&findIn K (.ref D) "__getattr__" == Wx Wy&&mroIn K D (.type "BaseException") == Wx Wz&&hasDictIn K D&&findIn K (.ref D) "__class__" == Wx (Wx (.builtin "object.__class__"))&&specialIn K (.builtin "object.__class__") "__get__" == Wx (Wx (.builtin "getset_descriptor.__get__"))&&takesIn K (.builtin "object.__class__") == Wx Wz&&mroIn K D (.type "object") == Wx Wz
abbrev Gz (K:Pk) (l:List (Str × PN)):Bool:=l.all fun p=>vO K p.2&&kitOne K (.ref p.2) (.type "ValueError") == Wx Wz&&(!C8 p.1 || excIn K p.2 bmV "ValueError.__new__")&&l.all fun q=>kitOne K (.ref p.2) (.ref q.2) == Wx (wt p.1 q.1)&&(!(q.1 == "FallError") || exmOne K (.ref p.2) (.ref q.2) == Wx Wz)
abbrev AF (K:Pk):Prop:=∃l:List (Str × PN),l.map (·.1)=bC/\(∀p∈l,nsIn K mainGlobals p.1=Wx (Wx (.ref p.2)))/\Gz K l=Wz
def GS {K:Pk} (e0:nsIn K mainGlobals "FallError" = Wx (Wx (.ref a0))) (e1:nsIn K mainGlobals "NoOrder" = Wx (Wx (.ref a1))) (e2:nsIn K mainGlobals "NoNumber" = Wx (Wx (.ref a2))) (e3:nsIn K mainGlobals "NoSet" = Wx (Wx (.ref a3)))
  (e4:nsIn K mainGlobals "NoRow" = Wx (Wx (.ref a4))) (e5:nsIn K mainGlobals "NoLine" = Wx (Wx (.ref a5))) (e6:nsIn K mainGlobals "NoText" = Wx (Wx (.ref a6))) (e7:nsIn K mainGlobals "TooGreat" = Wx (Wx (.ref a7)))
  (c:Gz K [("FallError", a0),("NoOrder", a1),("NoNumber", a2),("NoSet", a3),("NoRow", a4),("NoLine", a5),("NoText", a6),("TooGreat", a7)]=Wz):AF K:=
 ⟨_,rfl,by
  simp_all,c⟩
structure m7 (K) (mg:Str->Option Pp):Prop where
 at_:∀c∈bC,∃C,mg c=some (.ref C)
 one:∀c∈bC,∀C,mg c=some (.ref C)->vO K C=true/\kitOne K (.ref C) (.type "ValueError")=some true/\(C8 c=true->excIn K C bmV "ValueError.__new__" = true)
 two:∀c∈bC,∀C,mg c=some (.ref C)->∀x∈bC,∀X,mg x=some (.ref X)->kitOne K (.ref C) (.ref X)=some (wt c x)
 exm:∀c∈bC,∀C,mg c=some (.ref C)->∀X,mg "FallError" = some (.ref X)->exmOne K (.ref C) (.ref X)=some true
def m7.of {K:Pk}{h:QQ}{mg:Str->Option Pp} (X:K.In h) (G:h.Ns mainGlobals mg) (k:AF K):m7 K mg:=by
 obtain⟨l,h1,h2,h3⟩:=k
 have mem:∀c∈bC,∀C,mg c=Wx (.ref C)->(c,C)∈l:=fun c hc C e=>by
  rw[<- h1] at hc
  obtain⟨p,hp,rfl⟩:=Qi.mp hc
  have:=Ux X G (h2 p hp)
  rw[e] at this;cases this
  exact hp
 have al:=PX.mp h3
 refine⟨fun c hc=>?_,fun c hc C e=>?_,fun c hc C e x hx D e'=>?_,fun c hc C e D e'=>?_⟩
 ·rw[<- h1] at hc
  obtain⟨p,hp,rfl⟩:=Qi.mp hc
  exact⟨_,Ux X G (h2 p hp)⟩
 ·have:=al _ (mem c hc C e)
  simp only[PV,beq_iff_eq,Bool.or_eq_true] at this
  refine⟨this.1.1.1,this.1.1.2,fun z=>this.1.2.elim (fun y=>?_) fun y=>y⟩
  rw[z] at y;cases y
 ·have:=al _ (mem c hc C e)
  simp only[PV] at this
  have:=PX.mp this.2 _ (mem x hx D e')
  simp only[PV,beq_iff_eq] at this
  exact this.1
 ·have:=al _ (mem c hc C e)
  simp only[PV] at this
  have:=PX.mp this.2 _ (mem "FallError" (by decide) D e')
  simp only[PV,beq_iff_eq,Bool.or_eq_true] at this
  rcases this.2 with z | z
  ·exact absurd z (by decide)
  ·exact z
def yX (ok:HOk P w H h) (q:H p=Wx (FE.AtO p o)) (hc:o.cls=.ref C) (hd:∃vs,o.data=.fields vs) (xf:FE.XFs H o.dict fs):∃odo,InstAt h p o C odo:=by
 obtain⟨q1,_⟩:=ok p _ q
 obtain⟨vs,hd⟩:=hd
 have nc:notCls o=true:=by unfold notCls;rw[hd]
 rcases xf with⟨z,_⟩ | ⟨dx,od,z,q2⟩
 ·exact⟨Wy,q1,hc,nc,by simp_all⟩
 ·obtain⟨q3,_⟩:=ok dx _ q2
  exact⟨Wx od,q1,hc,nc,by simp_all⟩
end L2
namespace L2.FE
open PySem PySem.Spec PyProof.Rows
section
variable {X:Cx}{g:GG}{ε:EE}{K:Pk}
abbrev uA (x:Str):D->Hh->R D:=fun d h=>match d with
 | .exc c _=>if (bC.contains c&&bC.contains x)=Wz then .ok (.bl (wt c x)) h else .bad
 | _=>.bad
abbrev KY:D->Hh->R D:=fun d h=>match d with
 | .exc c _=>if bC.contains c=Wz then .ok (.bl Wz) h else .bad
 | _=>.bad
def jH (h:gOf mg x=Wx f):mg x=Wx (.ref f):=by
 unfold gOf at h
 grind
def uL (hc:m7 X.K X.mg) (hgo:g=gOf X.mg):aV X (.builtin "isinstance") (fun vs H Q=>∃p D o c fs C b,vs=[.ref p,D]/\g c=Wx C/\H p=Wx (AtO p o)/\o.cls=.ref C/\(∃us,o.data=.fields us)/\XFs H o.dict fs/\bC.contains c=Wz/\(∀u,RelV D u->Q9 X.K (.ref C) u=Wx b)/\Q (.bl b) H):=by
 intro pins s σ H xs us Q I r h
 obtain⟨p,D,o,c,fs,C,b,rfl,hg,hp,hcl,hd,xf,hcn,hk,q⟩:=h
 cases r with
 | @cons _ _ _ _ r1 r2=>
  cases r2 with
  | @cons _ u _ _ r3 r4=>
   cases r4
   cases r1
   obtain⟨odo,ia⟩:=yX I.hok hp hcl hd xf
   subst hgo
   have hC:=jH hg
   have k1:=(hc.one c (by simp_all) C hC).1
   unfold vO at k1
   simp only[PV,beq_iff_eq] at k1
   obtain⟨⟨⟨⟨⟨⟨⟨a1,a1b⟩,a1c⟩,a2⟩,a3⟩,a4⟩,a5⟩,a6⟩:=k1
   refine QE (DJ a1 a1b a1c a2 a3 a4 a5 a6) I.kIn ia (hk u r3) {..} fun tk=>?_
   exact⟨.bl b,H,I.kept fun _ _ z=>z,rfl,q⟩
def IQ (hg:Gl X x) (hm:X.mg x=Wx (.ref C)) (hd:(x == ("__debug__" : Str))=false:=by decide):PE X (.Name x p) (tC (.ref C)):=fun pins s σ H Q I h=>f6 I hg hm ⟨.ref C,H,I,rfl,h⟩ hd
def iV {e:Rb}{me:ME}{x:Str}{p1 p2 pos:Pos} (hc:m7 X.K X.mg) (hgo:g=gOf X.mg) (he:PE X e (tM X.K g ε me)) (hg:Gl X "isinstance") (hm:X.mg "isinstance" = Wy) (hg2:Gl X x) (hx:x∈bC) (hd:(x == ("__debug__" : Str))=false:=by decide)
  (hs1:starEach [e,.Name x p2] X.env=(WA,eval e X.env)::starEach [.Name x p2] X.env:=by rfl) (hs2:starEach [.Name x p2] X.env=[(WA,eval (.Name x p2) X.env)]:=by rfl) (hpl:(backTo pos (starEach [.Name x p2] X.env)).any (·.1)=false:=by rfl) :
  PE X (.Call (.Name "isinstance" p1) [e,.Name x p2] [] pos) (tM X.K g ε (cUn (uA x) me)):=by
 obtain⟨C2,hC2⟩:=hc.at_ x hx
 refine PE.imp (gG (uL hc hgo) hg hm Sg (dq he (dq (IQ hg2 hC2 hd) g_ hs2) hs1) (by decide) (by decide) hs1 hpl) fun σ H Q ⟨α,env,h,s,w⟩=>tM.use s w.bind fun d1 h1 v1 H1 α1 e1 s1 r1 w1=>?_
 cases r1 with
 | @exc c C p o fs hgc hp hcl hdd xf=>
  obtain⟨hh,w1⟩:=WQ.cO w1
  rw[PV] at hh
  refine⟨p,.ref C2,o,c,fs,C,_,rfl,hgc,hp,hcl,hdd,xf,hh.1,fun u ru=>?_,aA.now (aA.ext e1 w1) s1.heap (.bl _)⟩
  cases ru
  subst hgo
  exact hc.two c (by simp_all) C (jH hgc) x hx C2 hC2
 | _=>exact w1.elim
def Jt {e:Rb}{me:ME}{p1 p2 pos:Pos} (hc:m7 X.K X.mg) (hgo:g=gOf X.mg) (he:PE X e (tM X.K g ε me)) (hg:Gl X "isinstance") (hm:X.mg "isinstance" = Wy) (hg2:Gl X "ValueError") (hm2:X.mg "ValueError" = Wy)
  (hs1:starEach [e,.Name "ValueError" p2] X.env=(WA,eval e X.env)::starEach [.Name "ValueError" p2] X.env:=by rfl) (hs2:starEach [.Name "ValueError" p2] X.env=[(WA,eval (.Name "ValueError" p2) X.env)]:=by rfl) (hpl:(backTo pos (starEach [.Name "ValueError" p2] X.env)).any (·.1)=false:=by rfl) :
  PE X (.Call (.Name "isinstance" p1) [e,.Name "ValueError" p2] [] pos) (tM X.K g ε (cUn KY me)):=by
 refine PE.imp (gG (uL hc hgo) hg hm Sg (dq he (dq (xE (v:=.ty "ValueError") hg2 hm2 PyProof.Rows.Boot.«ValueError» rfl (by decide) (by decide)) g_ hs2) hs1) (by decide) (by decide) hs1 hpl) fun σ H Q ⟨α,env,h,s,w⟩=>tM.use s w.bind fun d1 h1 v1 H1 α1 e1 s1 r1 w1=>?_
 cases r1 with
 | @exc c C p o fs hgc hp hcl hdd xf=>
  obtain⟨hh,w1⟩:=WQ.cO w1
  refine⟨p,.ty "ValueError", o,c,fs,C,_,rfl,hgc,hp,hcl,hdd,xf,hh,fun u ru=>?_,aA.now (aA.ext e1 w1) s1.heap (.bl _)⟩
  cases ru
  subst hgo
  exact(hc.one c (by simp_all) C (jH hgc)).2.1
 | _=>exact w1.elim
def tG {h:QQ} (x:h.IsList l its):∃dd n sl,h.get? l=Wx { cls:=.type "list", dict:=dd,data:=.seq its n,slots:=sl }:=by
 obtain⟨⟨c,d,da,sl⟩,h1,h2,n,h3⟩:=x
 simp_all
abbrev eqB (b:Bool):Pp->Bool
 | .bool c=>c == b
 | _=>WA
def nB:∀{bs:List Bool}{us:List Pp},Vals (bs.map V.bl) us->us=bs.map Ul
 | [],_,.nil=>rfl
 | b::bs,_,.cons r t=>by
  have e:=r
  rw[e,nB t];rfl
abbrev yt (K:Pk):V->List V->Hp->VK->Prop:=fun x vs H Q=>∃(l:PN) (bs:List Bool) (b:Bool),x=.ref l/\vs=[.bl b]/\SqL K H l (bs.map V.bl)/\Q (.int (bs.countP (· == b):Nat)) H
def Ay:MtM X "list.count" (yt X.K):=by
 intro pins s σ H x vs v us Q I rx rv h
 obtain⟨l,bs,b,rfl,rfl,hq,q⟩:=h
 cases rx
 obtain⟨u,rfl,ru⟩:=rv.one
 have e0:=ru
 subst e0
 obtain⟨its,rs,pl,hz⟩:=I.list hq
 have ei:=nB rs
 subst ei
 obtain⟨dd,n,sl,ho⟩:=tG pl.isList
 refine UN F.slot_list_count ⟨_,ho,rfl⟩ F.entry_list_count (F.args_list_count_2 _ _) (SeqAt.list_countAt l _ n dd sl (.bool b) (eqB b)) ⟨ho,fun y hy=>?_,?_⟩
 ·obtain⟨c,_,rfl⟩:=Qi.mp (by simp_all:y∈bs.map Ul)
  exact Ue c b
 ·refine⟨.int (bs.countP (· == b):Nat),H,I.kept fun _ _ z=>z,⟨s.toks,?_⟩,q⟩
  rw[List.countP_map]
  rfl
abbrev xZ (K:Pk):V->List V->Hp->VK->Prop:=fun x vs H Q=>∃(l:PN) (bs:List Bool) (b:Bool) (j:Nat),x=.ref l/\vs=[.bl b]/\SqL K H l (bs.map V.bl)/\bs.findIdx? (· == b)=Wx j/\bs.length<1000000/\Q (.int (j:Nat)) H
def zf:MtM X "list.index" (xZ X.K):=by
 intro pins s σ H x vs v us Q I rx rv h
 obtain⟨l,bs,b,j,rfl,rfl,hq,hj,hlen,q⟩:=h
 cases rx
 obtain⟨u,rfl,ru⟩:=rv.one
 have e0:=ru
 subst e0
 obtain⟨its,rs,pl,hz⟩:=I.list hq
 have ei:=nB rs
 subst ei
 obtain⟨dd,n,sl,ho⟩:=tG pl.isList
 obtain⟨hlt,hit,hno⟩:=List.findIdx?_eq_some_iff_getElem.mp hj
 refine UN F.slot_list_index ⟨_,ho,rfl⟩ F.entry_list_index (F.args_list_index_2 _ _) (SeqAt.list_indexAt l _ n dd sl (.bool b) (eqB b) j (by simp_all) {} ?_ ?_) ⟨ho,fun y hy=>?_,?_⟩
 ·simpa [eqB] using hit
 ·intro m hm h2
  have:=hno m h2
  simpa [eqB] using this
 ·obtain⟨c,_,rfl⟩:=Qi.mp (by simp_all:y∈bs.map Ul)
  exact Ue c b
 ·exact⟨.int (j:Nat),H,I.kept fun _ _ z=>z,⟨s.toks,rfl⟩,q⟩
abbrev qV:D->List D->Hh->R D:=fun o ds h=>match o,ds with
 | .frl xs,[.bl b]=>match lq xs with
  | some bs=>.ok (.int (bs.countP (· == b):Nat)) h
  | none=>.bad
 | _,_=>.bad
abbrev rO:D->List D->Hh->R D:=fun o ds h=>match o,ds with
 | .frl xs,[.bl b]=>match lq xs with
  | some bs=>match bs.findIdx? (· == b) with
   | some j=>if bs.length<1000000 then .ok (.int (j:Nat)) h else .bad
   | none=>.bad
  | none=>.bad
 | _,_=>.bad
def zO:B4 K g ε qV (yt K):=by
 intro α H h o a y x Q r ro ra w
 unfold qV at w
 cases ro with
 | @frl ds p vs hq rs=>
  cases ra with
  | nil=>exact w.elim
  | cons rd rr=>
   cases rr with
   | cons _ _=>cases rd<;>exact w.elim
   | nil=>
    cases rd with
    | bl b=>
     simp only at w
     cases e2:lq ds with
     | none=>rw[e2] at w;exact w.elim
     | some bs=>
      rw[e2] at w
      have e3:=i8 e2
      subst e3
      have e4:=rs.IV
      subst e4
      exact⟨p,bs,b,rfl,rfl,hq.sq,aA.now w r (.int _)⟩
    | _=>exact w.elim
 | _=>exact w.elim
def zX:B4 K g ε rO (xZ K):=by
 intro α H h o a y x Q r ro ra w
 unfold rO at w
 cases ro with
 | @frl ds p vs hq rs=>
  cases ra with
  | nil=>exact w.elim
  | cons rd rr=>
   cases rr with
   | cons _ _=>cases rd<;>exact w.elim
   | nil=>
    cases rd with
    | bl b=>
     simp only at w
     cases e2:lq ds with
     | none=>rw[e2] at w;exact w.elim
     | some bs=>
      rw[e2] at w
      simp only at w
      cases e5:bs.findIdx? (· == b) with
      | none=>rw[e5] at w;exact w.elim
      | some j=>
       rw[e5] at w
       obtain⟨hl,w⟩:=WQ.cO w
       have e3:=i8 e2
       subst e3
       have e4:=rs.IV
       subst e4
       exact⟨p,bs,b,j,rfl,rfl,hq.sq,e5,hl,aA.now w r (.int _)⟩
    | _=>exact w.elim
 | _=>exact w.elim
end
end L2.FE
namespace L2
open PySem PySem.Spec PyProof.Rows
def Inv.Kc {σ:St} (J:Inv (X.wpn pn E) pins' σ H s) (hp:∀p∈X.pn++pins,p∈pn++pins'):Inv X pins σ H s:=
 ⟨⟨J.ok.mod,J.ok.kind,J.ok.glob,J.ok.blt,J.ok.above,J.ok.inj,J.ok.has,J.ok.cab,J.ok.hd,J.ok.frames,J.ok.stk,J.ok.exf,J.ok.bs,J.ok.bsz,J.ok.rL,J.ok.ur,J.ok.ic,J.ok.frf⟩,J.os,J.bare,J.base,J.loc,J.cell,J.free,J.cL,fun p h=>J.pin p (hp p h),J.hok,J.len⟩
end L2
namespace L2.FE
open PySem PySem.Spec PyProof.Rows
abbrev BP (P:PJ) (w:Qc) (K:Pk) (mg:Str->Option Pp) (base:QQ) (g:GG) (x:Str) (k:Nat) (ps:List Str) (m:MF):Prop:=
 ∃f fd,FnH P w K mg base k f fd ps (spM K g ps.length m)/\Qk K (.ref f)=Wz/\Binds K fd ps []/\mg x=Wx (.ref f)
section
variable {P:PJ}{w:Qc}{K:Pk}{mg:Str->Option Pp}{base:QQ}{g:GG}
def Gf {st:TF} (F:Fun K x qual st f fd) (S:az N ps (ag st))
  (hb:∀cdv A outer s H E , bF k (unm (A.deeper (envOfC qual (ag st) s.heap.objs.size f cdv))) →
   PSs (cxH P w K mg base N qual (ag st) f cdv A outer s H E) (aP st) (tMS K g E00 mb)):FnH P w K mg base (k+1) f fd ps (spM K g ps.length (bG N.length mb)):=by
 refine Ie F S (fun vs H Q E h=>h.1) fun cdv A outer s H vs Q E hr h=>⟨_,hb cdv A outer s H E hr,?_⟩
 obtain⟨hl,α,ds,h,rs,hh,w⟩:=h
 refine tMS.use ⟨hh,ik rs⟩ w.bind fun fl h' H' α' e r kk=>?_
 cases fl with
 | nx e'=>exact fun σ' s'=>(show aA K g α H Q .non h' from kk) _ H' α' e r .non
 | bk e'=>exact kk.elim
 | ct e'=>exact kk.elim
 | rt d=>exact fun v rv=>(show aA K g α H Q d h' from kk) _ H' α' e r rv
end
section
variable {X:Cx}{g:GG}{ε:EE}
def AG {k:Nat}{f:PN}{fd:RV}{ps:List Str}{m:MF}{np:Nat}{x:Str}{p pos:Pos}{e:Rb}{es:List Rb}{mr:MA} (F:FnH X.prog X.w X.K X.mg X.base k f fd ps (spM X.K g np m)) (hr:bF k (unm X.A)) (hg:Gl X x) (hm:X.mg x=Wx (.ref f)) (hk:Qk X.K (.ref f)=Wz) (hb:Binds X.K fd ps [])
  (ha:PA X (e::es) (tMA X.K g E00 mr)) (hlen:∀env h ds h',mr env h=.ok ds h'->ds.length=np) (hdb:(x == ("__debug__" : Str))=false:=by decide) (he:starEach (e::es) X.env=(WA,eval e X.env)::starEach es X.env:=by rfl) (hpl:(backTo pos (starEach es X.env)).any (·.1)=false:=by rfl) :
  PE X (.Call (.Name x p) (e::es) [] pos) (tM X.K g E00 (ah m mr)):=
 PE.imp (uF F hr hg hm hk hb ha hdb he hpl) fun σ H Q ⟨α,env,h,s,w⟩=>⟨α,env,h,s,w.bind.mono fun d1 h1 eq w1 v1 H1 α1 e1 hr1 r1=>by
  show spM X.K g np m (v1++[]) H1 Q E0
  rw[QO]
  refine⟨?_,α1,d1,h1,r1,hr1,w1.post e1⟩
  rw[<- r1.length]
  grind⟩
abbrev pf (mb:MS) (mr:MF):MS:=fun env h=>match mb env h with
 | .ok fl h'=>.ok fl h'
 | .err x h'=>if (bC.contains x.cls&&(h'.take h.length).all (jO h.length))=Wz then (noR (mr [.exc x.cls x.fs] (h'.take h.length))).bind fun d h2=>.ok (.rt d) h2 else .bad
 | .bad=>.bad
def Gq {body:List TF}{mb:MS}{mr:MF}{k:Nat}{f:PN}{fd:RV}{ps:List Str}{i:Nat}{n y:Str}{np p1 p2 cpos rpos hpos pos:Pos}
  (hcl:m7 X.K X.mg) (hgo:g=gOf X.mg) (pl:Plain X) (hN:X.N.Nodup) (hi:X.N[i]?=Wx n) (hl:X.env.scope.names.lookup n=Wx .local) (hgF:Gl X "FallError") (hgR:Gl X y)
  (F:FnH X.prog X.w X.K X.mg X.base k f fd ps (spM X.K g 1 mr)) (hr:bF k (unm X.A)) (hm:X.mg y=Wx (.ref f)) (hk:Qk X.K (.ref f)=Wz) (hb:Binds X.K fd ps [])
  (hbd:∀(pn:List (PN × Obj)) (xe:Pp->Pr->Prop) (E:XK),fh (X.wpn pn xe) E->Plain (X.wpn pn xe)->UK (model X.prog X.w) X.A X.env xe->PSs (X.wpn pn xe) body (tMS X.K g (εX g E) mb))
  (hdn:(n == ("__debug__" : Str))=false:=by decide) (hdc:(n == ("__classdict__" : Str))=false:=by decide) (hdb:(y == ("__debug__" : Str))=false:=by decide)
  (hst:starEach [.Name n p2] X.env=(WA,eval (.Name n p2) X.env)::starEach [] X.env:=by rfl) (hpl:(backTo cpos (starEach [] X.env)).any (·.1)=false:=by rfl) :
  PS X (.Try body [.ExceptHandler (Wx (.Name "FallError" np)) (Wx n) [.Return (Wx (.Call (.Name y p1) [.Name n p2] [] cpos)) rpos] hpos] [] [] pos) (tMS X.K g ε (pf mb mr)):=by
 intro pins s σ H D I ⟨α,env,h,sr,w⟩
 obtain⟨CF,hmF⟩:=hcl.at_ "FallError" (by decide)
 refine wpAny_Try_except ?_
 let K1:Pp->Pr->Prop:=fun e s₁=>wpAny (model X.prog X.w) X.A (noteFrame e X.env) (fun _ s₂=>wpAny (model X.prog X.w) X.A (setFlight e Wy) (fun _ s₃=>wpAny (model X.prog X.w) X.A (handleBy e X.env [.ExceptHandler (Wx (.Name "FallError" np)) (Wx n) [.Return (Wx (.Call (.Name y p1) [.Name n p2] [] cpos)) rpos] hpos]) (SP X pins D) X.xe s₃) X.xe s₂) X.xe s₁
 let E1:XK:=fun C dc H'=>∃α' x h',mb env h=.err x h'/\Ext X.K α H α' H'/\aK X.K g α' H' h'/\(∃C0,C=.ref C0/\g x.cls=Wx C0)/\XFs H' dc x.fs
 have un:∀{σ:St} {H:Hp} {s:Pr},Inv (X.wpn (X.pn++pins) K1) [] σ H s->Inv X pins σ H s:=fun J=>J.Kc fun p hp=>by simpa using hp
 have fl:fh (X.wpn (X.pn++pins) K1) E1:=by
  rintro e s1 ⟨σ1,H1,B,a,C,dc,rfl,J,ar,cv,pn,α',x,h',eq,ext,hr',⟨C0,rfl,hgC⟩,xf⟩
  have ar':Arr B (X.env::X.outer) a (.ref C0) dc s1.heap:=by rw[<- pl.stk.1];exact ar
  have hA:X.A.frames=Wx (X.env::X.outer):=by rw[<- pl.stk.1];exact J.ok.frames
  have pl1:Plain (X.wpn (X.pn++pins) K1):=⟨pl.ex,pl.stk⟩
  unfold pf at w
  rw[eq] at w
  obtain⟨low,w⟩:=WQ.cO w
  rw[PV] at low
  obtain⟨hcn,low⟩:=low
  refine uU hA pl.stk.2 ar' fun h2 y2 g2=>r8 y2 fun h3 y3 g3=>?_
  have J3:=J.flew (t':=s1.toks) pl1 cv pn ar.stays ar.fr y3.stays (g2.trans g3)
  refine wpAny_handleBy_cons (codeAny_handlers_test ?_) (by intro q;cases q)
  have J3h:Inv ((X.wpn (X.pn++pins) K1).hand (X.A.mark (Wx (.ref a))) (X.pn++pins) fun _ _=>False) [] σ1 H1 { s1 with heap:=h3 }:=Inv.hand (A:=X.A.mark (Wx (.ref a))) J3 rfl (fun p hp=>hp) _
  refine f6 J3h hgF hmF ?_
  obtain⟨ob,ws0,hob,hoc,_,_⟩:=y3.there
  have LT:PySem.W.Looks (model X.prog X.w) h3 (typeOf (.ref a)) (.ref C0):=hoc ▸ (PySem.W.Looks.ld hob).andThen .now
  have hx:PySem.W.exmOne X.K (.ref C0) (.ref CF)=Wx true:=by
   subst hgo
   exact hcl.exm x.cls (by simpa using hcn) C0 (jH hgC) CF hmF
  refine(PySem.W.exm_one J3.kIn LT hx).here ?_
  refine codeAny_handlers_suite_as ?_
  refine r8 y3 fun h4 y4 g4=>?_
  have J4:=J.flew (t':=s1.toks) pl1 cv pn ar.stays ar.fr y4.stays (g2.trans (g3.trans g4))
  obtain⟨oe,ws,q1,q2,q3,q4⟩:=y4.there
  have fr4:h4.FunFrames B X.stack:=by rw[pl.stk.1];exact y4.fr
  obtain⟨hn,J5⟩:=J4.adopt pl1 cv pn fr4 y4.new q1 q4
  refine ie (X:=X.wpn (X.pn++pins) K1) J5 hN hi (.inl hl) (v:=.ref a) (u:=.ref a) rfl (fun s6 J6=>?_) (.inr hl)
  have J7:Inv ((X.wpn (X.pn++pins) K1).hand (X.A.mark (Wx (.ref a))) (X.pn++pins) fun _ _=>False) [] (σ1.set i (Wx (.ref a))) (upd H1 a (AtO a oe)) s6:=Inv.hand (A:=X.A.mark (Wx (.ref a))) (pn:=X.pn++pins) J6 rfl (fun p hp=>hp) _
  have T:=yf (BH (pos:=rpos) (uF (X:=(X.wpn (X.pn++pins) K1).hand (X.A.mark (Wx (.ref a))) (X.pn++pins) fun _ _=>False) (p:=p1) (pos:=cpos) F hr hgR hm hk hb (dq (AN (pos:=p2) hi (.inl hl) hdn hdc) g_ hst) hdb hst hpl))
  have lenσ:i<σ1.length:=by rw[J.len];exact(Qj.mp hi).1
  refine P4 (T [] s6 _ _ { nx:=fun _ _=>False,rt:=D.rt } J7 ⟨.ref a,by simp[lenσ],?_⟩) (fun fl s7 q=>?_) fun _ _ z=>z.elim
  ·show spM X.K g 1 mr ([.ref a]++[]) (upd H1 a (AtO a oe)) D.rt E0
   have k0:α.length=h.length:=sr.heap.len
   have fz:∀p o u,H1 p=Wx (.frz o u)->upd H1 a (AtO a oe) p=Wx (.frz o u):=fun p o u z=>by rw[aw (aE z hn)];exact z
   have Lw:mQ X.K α α' H1 (upd H1 a (AtO a oe)) h.length:=⟨fun m hm=>fT ext.pre {},fun p xs z=>by rw[aw (aE z hn)];exact z,fz⟩
   have kp:∀m p u,m<h.length->α'[m]?=Wx p->H1 p=Wx u->upd H1 a (AtO a oe) p=Wx u:=fun m p u _ _ z=>by rw[aw (aE z hn)];exact z
   have ex2:Ext X.K α H α (upd H1 a (AtO a oe)):=⟨⟨R8 _,fun p xs z=>Lw.tup p xs (ext.tup p xs z),fun p o u z=>fz p o u (ext.frz p o u z),fun p ps z=>by
    obtain⟨m,q⟩:=ext.tbl p ps z
    exact⟨m,by rw[aw (aE q hn)];exact q⟩⟩,fun p u z m nt=>by
    have:=ext.kept p u z m nt
    rw[aw (aE this hn)];exact this,fun _ z m=>absurd z m⟩
   refine⟨rfl,α,[.exc x.cls x.fs],h'.take h.length,.cons (.exc hgC aL q2 ⟨ws,q4⟩ ?_) .nil,⟨?_,sr.heap.inj,fun m p ob h1 h2=>?_,hr'.tab.upd (.inl hn)⟩,?_⟩
   ·rw[q3]
    exact xf.elim .inl fun⟨dx,od,z1,z2⟩=>.inr ⟨dx,od,z1,fz _ _ _ z2⟩
   ·rw[Qh,<- hr'.len,k0]
    have:=ext.pre.length_le
    lia
   ·have hm:m<h.length:=(mG h2).1
    rw[fT ext.pre {}] at h1
    exact nK k0 ext hr' low Lw kp m p ob hm h1 h2
   ·refine((rj w.bind).ext ex2).mono fun d h2 _ kk v H2 α2 e2 r2 rd=>?_
    exact(show cE X.K g α H D (.rt d) h2 from kk) H2 α2 (ex2.trans e2) r2 v rd
  ·cases fl with
   | ret u=>
    obtain⟨v,σ7,H7,J8,rv,q⟩:=q
    obtain⟨m,hm7,_⟩:=J8.loc
    have J9:Inv X pins σ7 H7 s7:=un (Inv.back (pins:=[]) J8 J.ok fun p hp=>hp)
    refine wpAny_nameGoes_keeps hl hm7 (by rw[I.ok.kind];rfl) fun h8 v8 hn8 sb=>?_
    exact⟨v,σ7.set i Wy,H7,J9.forget hN hi hm7 hn8 (fun z hz=>if_neg hz) sb,rv,q⟩
   | next=>obtain⟨_,_,_,q⟩:=q;exact q.elim
   | brk=>obtain⟨_,_,_,q⟩:=q;exact q.elim
   | cont=>obtain⟨_,_,_,q⟩:=q;exact q.elim
 have I1:Inv (X.wpn (X.pn++pins) K1) [] σ H s:=I.wpn (fun p hp=>by simpa using hp) _
 refine P4 (hbd (X.pn++pins) K1 E1 fl ⟨pl.ex,pl.stk⟩ UK.looking [] s σ H D I1 ⟨α,env,h,sr,?_⟩) (fun f s1 q=>?_) fun _ _ z=>z
 ·unfold pf at w
  cases eq:mb env h with
  | ok fl h'=>rw[eq] at w;exact w
  | err x h'=>exact fun α' H' e r C dc hg xf=>⟨α',x,h',eq,e,r,⟨C,rfl,hg⟩,xf⟩
  | bad=>rw[eq] at w;exact w.elim
 ·cases f with
  | next=>obtain⟨σ',H',J,q⟩:=q;exact Tc ⟨σ',H',un J,q⟩
  | brk=>obtain⟨σ',H',J,q⟩:=q;exact⟨σ',H',un J,q⟩
  | cont=>obtain⟨σ',H',J,q⟩:=q;exact⟨σ',H',un J,q⟩
  | ret u=>obtain⟨v,σ',H',J,r,q⟩:=q;exact⟨v,σ',H',un J,r,q⟩
end
end L2.FE
namespace L2
open PySem PySem.Spec PyProof.Rows
def uQ (h:bF k A):bF k (unm A):=⟨rfl,h.dp,h.un,h.gd⟩
end L2
namespace L2.FE
open PySem PySem.Spec PyProof.Rows
def us0 {P:List Pp->Prop} (hl:us.length=0) (h:P []):P us:=by simp_all
def us1 {P:List Pp->Prop} (hl:us.length=1) (h:∀a,P [a]):P us:=by cases us with | nil=>cases hl | cons a us=>simp_all
def us2 {P:List Pp->Prop} (hl:us.length=2) (h:∀a b,P [a,b]):P us:=by cases us with | nil=>cases hl | cons a us=>exact us1 (P:=fun us=>P (a::us)) (Nat.succ.inj hl) (h a)
def us3 {P:List Pp->Prop} (hl:us.length=3) (h:∀a b c,P [a,b,c]):P us:=by cases us with | nil=>cases hl | cons a us=>exact us2 (P:=fun us=>P (a::us)) (Nat.succ.inj hl) (h a)
def CK {ps:List Str} (hl:us.length=1) (h:∀a:Pp,bindArgs fd ⟨[a],[]⟩=pure (ps.zip [a])):bindArgs fd ⟨us,[]⟩=pure (ps.zip us):=us1 (P:=fun us=>bindArgs fd ⟨us,[]⟩=pure (ps.zip us)) hl h
def v_ {ps:List Str} (hl:us.length=2) (h:∀a b:Pp,bindArgs fd ⟨[a,b],[]⟩=pure (ps.zip [a,b])):bindArgs fd ⟨us,[]⟩=pure (ps.zip us):=us2 (P:=fun us=>bindArgs fd ⟨us,[]⟩=pure (ps.zip us)) hl h
def H_ {ps:List Str} (hl:us.length=3) (h:∀a b c:Pp,bindArgs fd ⟨[a,b,c],[]⟩=pure (ps.zip [a,b,c])):bindArgs fd ⟨us,[]⟩=pure (ps.zip us):=us3 (P:=fun us=>bindArgs fd ⟨us,[]⟩=pure (ps.zip us)) hl h
end L2.FE
namespace PySem
open Sem (wp)
section
variable {prog:PJ}{w:Qc}{A:P9}{E:Pp->Pr->Prop}{h:QQ}{g:Array GenState}{d:Drawn}{t:Nat}{os:VS}
variable {nm q:Str}{C N:PN}{bs bm bmB:List Pp}{hdct:Bool}{sn:List Str}{sub:List Pp}{ab:Bool}{col:Option Bool}{dd:Option PN}{k0 k1 k2 k3 k5:Option Pp}{B newId initId:String}
def lW (F:ExcBaseFacts B newId initId bmB) (T:Wu h bmB bm)
  (hC:h.get? C=Wx (excClassObj nm q C N bs bm hdct sn sub ab col dd k0 k1 k2 k3 k5 newId)) (hn:h.Ns N mN) (hi:mN "__init__" = Wx (.ref fI)) (hfI:h.get? fI=Wx oI) (hfc:oI.cls=.type "function")
  (hq:∀h' e,QQ.MadeExcOf h h' e (.ref C) rest->e=h.objs.size+1->h'.objs.size=h.objs.size+2->wpAny (model prog w) A (call (.ref fI) (.ref e::rest)) (fun r s'=>r=.none/\Q (.done (.ret (.ref e))) s') E ⟨h',g,d,t,os⟩) (hrest:rest.length<=sizeLine) :
  wpAny (model prog w) A (Qq.«type.__call__» ⟨.ref C::rest,[]⟩) Q E ⟨h,g,d,t,os⟩:=by
 repeat (first | with_reducible refine Sy hC ?_ | with_reducible refine wpAny_madeBy_exc hC ?_ | wp_step)
 refine codeAny_call_builtin_code (Si _ F.quiet) (wpAny_check_new_subT F T hC ?_)
 refine codeAny_exc_new_subT F T hC ?_ hrest
 have up:∀b o,h.get? b=Wx o->((h.push { cls:=.type "tuple", data:=.seq rest.toArray }).push { cls:=.ref C,data:=.fields #[.ref h.objs.size,.none,.none,.none,.bool WA,.none] }).get? b=Wx o:=fun b o z=>Pn _ (Pn _ z)
 have hC1:=up _ _ hC
 have hfI1:=up _ _ hfI
 have hn1:=hn.keeps up
 have hget:((h.push { cls:=.type "tuple", data:=.seq rest.toArray }).push { cls:=.ref C,data:=.fields #[.ref h.objs.size,.none,.none,.none,.bool WA,.none] }).get? (h.objs.size+1)=Wx { cls:=.ref C,data:=.fields #[.ref h.objs.size,.none,.none,.none,.bool WA,.none] }:=by heap_get
 have hcC:(Qa C::bm).contains (.ref C)=true:={..}
 have T1:=T.keeps up
 repeat (first | with_reducible refine Sy hget ?_ | (with_reducible refine wpAny_isSubtype_exc hC1 ?_;rw[hcC]) | wp_step)
 refine wpAny_typeLookup_tail hC1 hn1 T1 F.mroIs F.init.lookup ?_
 rw[hi]
 refine P6 (gV ?_)
 refine gV (S4 (T:="function") ⟨_,hfI1,hfc⟩ ?_)
 rw[if_pos (by decide)]
 refine Pl (gV (P4 (hq _ (h.objs.size+1) ⟨up,SH (VD _),h.objs.size,hget,SH (Pt _),?_⟩ rfl {..}) (fun r s' hr=>?_) fun _ _ x=>x))
 ·exact Pn _ (QQ.get?_push_at rfl rfl)
 ·obtain⟨rfl,hQ⟩:=hr
  wp_walk
  exact hQ
def wI (F:ExcBaseFacts B newId initId bmB) (T:Wu h bmB bm)
  (hC:h.get? C=Wx (excClassObj nm q C N bs bm hdct sn sub ab col dd k0 k1 k2 k3 k5 newId)) (hn:h.Ns N mN) (hi:mN "__init__" = Wx (.ref fI)) (hfI:h.get? fI=Wx oI) (hfc:oI.cls=.type "function")
  (hq:∀h' e,QQ.MadeExcOf h h' e (.ref C) rest->e=h.objs.size+1->h'.objs.size=h.objs.size+2->wpAny (model prog w) (A.under (.builtin "type.__call__" ⟨.ref C::rest,[]⟩)) (call (.ref fI) (.ref e::rest)) (fun r s'=>r=.none/\Q (.ref e) s') E ⟨h',g,d,t,os⟩) (hrest:rest.length<=sizeLine) :
  wpAny (model prog w) A (call (.ref C) rest) Q E ⟨h,g,d,t,os⟩:=by
 have f1:=tc_lookup
 have f2:=tc_bind (.ref C)
 refine Sw (Ur ?_)
 repeat (any_goals (first | assumption | with_reducible refine Sy hC ?_ | wp_step))
 refine⟨rfl,?_⟩
 refine codeAny_call_builtin_at (Si _ {..}) entry_typeCall (wpAny_check_type_call_sub hC (lW (hrest:=hrest) F T hC hn hi hfI hfc fun h' e hm he hs=>?_))
 exact hq h' e hm he hs
end
end PySem
namespace PySem.W
open PySem PySem.Calls PyProof.Rows PySem.Spec Builtin Builtin.ObjectAttr
@[inline]abbrev Ku:List Pp:=[.type "ValueError", .type "Exception", .type "BaseException", .type "object"]
abbrev AD:Pp->Bool
 | .ref _=>Wz
 | _=>WA
abbrev mR (l:List Pp):Bool:=l.dropWhile AD == Ku
def gW (e:mR l=Wz):l=Ku\/∃c r,l=.ref c::r/\mR r=true:=by
 cases l with
 | nil=>cases e
 | cons a r=>
  by_cases h:AD a=Wz
  ·cases a with
   | ref c=>exact .inr ⟨c,r,rfl,by assumption⟩
   | _=>cases h
  ·unfold mR at e
   simp_all
def jI (self:Pp):∀(n:Nat){l:List Pp},l.length<=n->mR l=Wz->refuseLoop self "__setattr__" l=pure ()
 | 0,l,hl,e=>by
  have:l=[]:=QF (by omega)
  subst this;cases e
 | n+1,l,hl,e=>by
  rcases gW e with rfl | ⟨c,r,rfl,e'⟩
  ·exact PySem.F.store_ValueError.passes self
  ·rw[refuseLoop_ref];exact jI self n (by simp_all) e'
def pY:∀n {l:List Pp},l.length<=n->mR l=Wz->l.contains (.type "object")=Wz
 | 0,l,hl,e=>by
  have:l=[]:=QF (by omega)
  subst this;cases e
 | n+1,l,hl,e=>by
  rcases gW e with rfl | ⟨c,r,rfl,e'⟩
  ·simp
  ·rw[List.contains_cons,pY n (by simp_all) e',Bool.or_true]
abbrev fm (K:Pk) (C:PN):Bool:=(clsIn K C).any fun cd=>mR cd.mro
section
variable {K:Pk}{prog:PJ}{w:Qc}{A:P9}{R:Wv->Pr->Prop}{s:Pr}{x C:PN}
def qj (X:K.In s.heap) (I:InstAt s.heap x ox C od) (hp:fm K C=Wz) (ht:takerIn K C name=Wx Wy)
  (h:∀b,wpAny (model prog w) A.in1 (storeInOwnDict (.ref x) (.ref C) (.str name tk) name v b)
   (fun fin s'=>match fin with | .done f=>R (.ok f) s' | .again c'=>c'.quiet=Wz/\codeAny (model prog w) A c' R s') (fun e s'=>R (.error e) s') s) :
  codeAny (model prog w) A (.call (.builtin "object.__setattr__") ⟨[.ref x,.str name tk,v],[]⟩) R s:=by
 have SF:=PySem.F.store_object
 obtain⟨cd,hc,ho⟩:=VP hp
 have ne:cd.mro.isEmpty=false:=by cases q:cd.mro with | nil=>rw[q] at ho;cases ho | cons _ _=>rfl
 have sub:Looks (model prog w) s.heap (isInstance (.ref x) (.type "object")) true:=I.type.andThen (V9 X (by unfold mroIn;rw[hc,Option.bind_some,if_neg (by simp_all),pY _ (Pt _) ho]))
 refine SI SF.slot.plain SF.entry (@We (model prog w) _ _ s "object.__setattr__" "object" "__setattr__" (.ref x) [.str name tk,v] [] _ SF.kind SF.split sub (SF.args (.ref x) (.str name tk) v) ?_)
 obtain⟨attr,ha,hr⟩:=Option.bind_eq_some_iff.mp ht
 have hm:Looks (model prog w) s.heap (mroOf (.ref C)) cd.mro:=(VE X hc).andThen .now
 have L3:Looks (model prog w) s.heap (storeTaker? attr) none:=by
  cases attr with
  | none=>exact .now
  | some a=>
   obtain⟨b,hb,hz⟩:=Ri.mp hr
   refine(looks_takesIn X hb).andThen ?_
   cases b with
   | true=>cases hz
   | false=>exact .now
 rw[osa_eq,refuse_eq]
 refine gV (gV (I.type.here (gV (hm.here ?_))))
 rw[jI _ _ (Pt _) ho]
 refine Pl (gV (I.type.here (gV ((T6 X ha).here (gV (L3.here ?_))))))
 exact h _
def C4 (X:K.In s.heap) (hx:s.heap.get? x=Wx { cls:=.ref C,data:=.fields ws })
  (hs:findIn K (.ref C) "__setattr__" = Wx (Wx (.builtin "object.__setattr__"))) (hp:fm K C=Wz) (ht:takerIn K C name=Wx Wy) (hh:hasDictIn K C=Wz)
  (h:∀h',h'.get? x=Wx { cls:=.ref C,dict:=Wx s.heap.objs.size,data:=.fields ws }->h'.Ns1 s.heap.objs.size (fun y=>if y=name then Wx v else Wy) →
   (∀b o,b≠x->s.heap.get? b=Wx o->h'.get? b=Wx o)->∀t',Q () { s with heap:=h',toks:=t' }) :
  wpAny (model prog w) A (setAttr (.ref x) name v) Q E s:=by
 have I:InstAt s.heap x { cls:=.ref C,data:=.fields ws } C none:=⟨hx,rfl,rfl,RP⟩
 refine set_plain X I hs (qj (s:={ s with toks:=s.toks+1 }) X I hp ht fun b=>?_)
 obtain⟨cd,hc,hd'⟩:=VP hh
 refine gV (Pl (gV (gV (TV hx (gV (Vs (s:={ s with toks:=s.toks+1 }) (VE X hc) ?_))))))
 rw[hd']
 have hx1:(s.heap.push { cls:=.type "dict", data:=.dict #[] }).get? x=Wx { cls:=.ref C,data:=.fields ws }:=Pn _ hx
 have hxs:=PU (Pq hx)
 refine gV (wpAny_alloc' ?_)
 refine gV (wpAny_update' hx1 ?_)
 refine Pl ?_
 have hgd:((s.heap.push { cls:=.type "dict", data:=.dict #[] }).update x fun o=>{ cls:=o.cls,dict:=Wx s.heap.objs.size,data:=o.data,slots:=o.slots }).get? s.heap.objs.size=Wx { cls:=.type "dict", data:=.dict #[] }:=
  (Us _ _ _ _ hxs.symm).trans (QQ.get?_push_at rfl rfl)
 have hnd:((s.heap.push { cls:=.type "dict", data:=.dict #[] }).update x fun o=>{ cls:=o.cls,dict:=Wx s.heap.objs.size,data:=o.data,slots:=o.slots }).Ns s.heap.objs.size (fun _=>Wy):=
  ⟨_,#[],_,hgd,rfl,fun e he=>absurd he {..},fun _=>rfl⟩
 refine gV (Pl (gV (wpAny_nsSet1 (QQ.Ns1.of_empty hnd) fun h' hn' hs'=>?_)))
 obtain⟨oD,esD,epD,hoD,hdD,hcD⟩:=hn'.count (TN name v T3.nil)
 refine gV (wpAny_lookBehind hoD (by rw[hdD];exact pastItsLine_dict (P7 hcD {..})) ?_)
 refine Pl (h h' ?_ ?_ (fun b o hb z=>?_) _)
 ·refine(hs'.2 x hxs).trans ?_
  exact Qt _ hx1 rfl
 ·omega
 ·exact(hs'.2 b (PU (Pq z))).trans ((Us _ _ _ _ hb).trans (Pn _ z))
def DK (X:K.In s.heap) (hx:s.heap.get? x=Wx { cls:=.ref C,dict:=Wx dx,data:=.fields ws }) (hne:dx≠x) (hn:s.heap.Ns1 dx mA) (hw:T3 mA ns) (hsz:ns.length<=1000)
  (hs:findIn K (.ref C) "__setattr__" = Wx (Wx (.builtin "object.__setattr__"))) (hp:fm K C=Wz) (ht:takerIn K C name=Wx Wy) (hh:hasDictIn K C=Wz)
  (h:∀h',h'.get? x=Wx { cls:=.ref C,dict:=Wx dx,data:=.fields ws }->h'.Ns1 dx (fun y=>if y=name then Wx v else mA y) →
   (∀b o,b≠dx->s.heap.get? b=Wx o->h'.get? b=Wx o)->∀t',Q () { s with heap:=h',toks:=t' }) :
  wpAny (model prog w) A (setAttr (.ref x) name v) Q E s:=by
 obtain⟨od,_,_,hod,_⟩:=id hn
 have I:InstAt s.heap x { cls:=.ref C,dict:=Wx dx,data:=.fields ws } C (Wx od):=⟨hx,rfl,rfl,hod⟩
 refine set_plain X I hs (qj (s:={ s with toks:=s.toks+1 }) X I hp ht fun b=>?_)
 obtain⟨cd,hc,hd'⟩:=VP hh
 refine gV (Pl (gV (gV (TV hx (gV (Vs (s:={ s with toks:=s.toks+1 }) (VE X hc) ?_))))))
 rw[hd']
 refine Pl (gV (Pl (gV ?_)))
 refine wpAny_nsSet1 (s:={ s with toks:=s.toks+1 }) hn fun h' hn' hs'=>?_
 obtain⟨oD,esD,epD,hoD,hdD,hcD⟩:=hn'.count (TN name v hw)
 refine gV (wpAny_lookBehind hoD (by rw[hdD];exact pastItsLine_dict (P7 hcD (by rw[Qp,QN];omega))) ?_)
 exact Pl (h h' ((hs'.2 x hne.symm).trans hx) hn' (fun b o hb z=>(hs'.2 b hb).trans z) _)
end
end PySem.W
namespace PySem
open Sem (wp)
section
variable {M:Model}{A:P9}{E:Pp->Pr->Prop}{env:Env}
variable {nm q:Str}{C N:PN}{bs bm:List Pp}{hdct:Bool}{sn:List Str}{sub:List Pp}{ab:Bool}{col:Option Bool}{dd:Option PN}{k0 k1 k2 k3 k5:Option Pp}{newId:String}
def gF (hbase:bm.contains (.type "BaseException")=Wz) (hh:A.handled=Wy)
  (h:wpAny M A x (fun v s₁=>∃e oe,v=.ref e/\s₁.heap.get? C=Wx (excClassObj nm q C N bs bm hdct sn sub ab col dd k0 k1 k2 k3 k5 newId)/\s₁.heap.get? e=Wx oe/\oe.cls=.ref C/\(∃ws,oe.data=.fields ws/\ws[1]?=Wx .none)/\E (.ref e) s₁) E s) :
  wpAny M A (raiseStmt env (Wx x) Wy) Q E s:=by
 have hcB:(Qa C::bm).contains (.type "BaseException")=true:=by simp_all
 refine gV (P4 h (fun v s₁ h₁=>?_) fun _ _ x=>x)
 obtain⟨e,⟨ec,ed,eda,esl⟩,rfl,hC,he,hcl,⟨ws,hda,hw1⟩,hE⟩:=h₁
 subst hcl hda
 repeat (first | with_reducible refine Sy he ?_ | with_reducible refine Sy hC ?_ | (with_reducible refine wpAny_isSubtype_exc hC ?_;rw[hcB]) | wp_step)
 rw[hw1]
 refine Pl ?_
 refine Pl ?_
 exact wpAny_raiseNew_none hh hE
end
section
variable {prog:PJ}{w:Qc}{A:P9}{E:Pp->Pr->Prop}{s:Pr}{env:Env}
variable {nm q:Str}{C N:PN}{bs bm bmB:List Pp}{hdct:Bool}{sn:List Str}{sub:List Pp}{ab:Bool}{col:Option Bool}{dd:Option PN}{k0 k1 k2 k3 k5:Option Pp}{newId:String}
def wJ
  (hbase:bm.contains (.type "BaseException")=Wz) (hh:A.handled=Wy) (hplain:(backTo cpos (starEach args env)).any (·.1)=WA)
  (h:wpAny (model prog w) A (eval (.Name x np) env) (fun f s₁=>f=.ref C/\wpAny (model prog w) A (evalArgs (.ref C) Wz (backTo cpos (starEach args env)) [])
   (fun a s₂=>a.kw=[]/\s₂.heap.get? C=Wx (excClassObj nm q C N bs bm hdct sn sub ab col dd k0 k1 k2 k3 k5 newId) ∧
    wpAny (model prog w) A (call (.ref C) a.pos) (fun v s₃=>s₃.heap.get? C=Wx (excClassObj nm q C N bs bm hdct sn sub ab col dd k0 k1 k2 k3 k5 newId)/\∃e oe,v=.ref e/\s₃.heap.get? e=Wx oe/\oe.cls=.ref C/\(∃ws,oe.data=.fields ws/\ws[1]?=Wx .none)/\E (.ref e) s₃) E s₂) E s₁) E s) :
  wpAny (model prog w) A (exec (.Raise (Wx (.Call (.Name x np) args [] cpos)) Wy pos) env) Q E s:=by
 first
  | refine gV (QR (gF (C:=C) (nm:=nm) (q:=q) (N:=N) (bs:=bs) (hdct:=hdct) (sn:=sn) (sub:=sub) (ab:=ab) (col:=col) (dd:=dd) (k0:=k0) (k1:=k1) (k2:=k2) (k3:=k3) (k5:=k5) (newId:=newId) hbase hh (gV (P4 (wpAny_Call_ofName (P4 h (fun f s₁ h₁=>?_) fun _ _ x=>x)) (fun v s₃ h₃=>gV (QR (Pl h₃))) fun _ _ x=>x))))
  | (simp only[VT];refine gV (QR (gF hbase hh (gV (P4 (wpAny_Call_ofName (P4 h (fun f s₁ h₁=>?_) fun _ _ x=>x)) (fun v s₃ h₃=>gV (QR (Pl h₃))) fun _ _ x=>x)))))
 obtain⟨rfl,h₁⟩:=h₁
 refine gV (P6 (P4 h₁ (fun a s₂ h₂=>gV (QR ?_)) fun _ _ x=>x))
 obtain⟨apos,akw⟩:=a
 obtain⟨hkw,hC,h₂⟩:=h₂
 obtain rfl:akw=[]:=hkw
 simp only[hplain]
 refine gV (wpAny_keeperOf_exc hC ?_)
 refine gV (P4 h₂ (fun v s₃ h₃=>gV (P6 (wpAny_point (Pl ?_)))) fun _ _ x=>x)
 simp_all
end
end PySem
namespace L2
open PySem PySem.Spec PyProof.Rows PySem.W
def wa {K:Pk} (X:K.In h) (G:h.Ns N mg) (e:nsIn K N n=Wx (Wx v)):mg n=Wx v:=by
 obtain⟨o,es,ep,ho,hd,_,hf⟩:=G
 unfold nsIn at e
 split at e
 ·rename_i c d es' n' sl q
  have:=X _ _ q
  rw[ho] at this
  cases this
  cases hd
  split at e
  ·rename_i en he
   cases e
   rw[<- hf]
   unfold nsFind findBy
   simp_all
  simp_all
 grind
abbrev mJ (K:Pk) (C fI:PN):Bool:=match K.lookup C with
 | some ⟨.type "type", _,.cls cd,sl⟩=>(match cd.mro,sl.toList with
  | .ref C'::bm,[_,_,_,_,Wx (.builtin n),_]=>C' == C&&n == "ValueError.__new__" && !cd.hasDel&&tailIn K bmV bm&&nsOkIn K cd.ns&&nsIn K cd.ns "__init__" == Wx (Wx (.ref fI))
  | _,_=>WA)
 | _=>WA
def uW {K:Pk} (X:K.In h) (q:mJ K C fI=Wz) :
  ∃bm N nm q' bs hdct sn sub ab col dd k0 k1 k2 k3 k5 mN,h.get? C=Wx (excClassObj nm q' C N bs bm hdct sn sub ab col dd k0 k1 k2 k3 k5 "ValueError.__new__")/\h.Ns N mN/\mN "__init__" = Wx (.ref fI)/\Wu h bmV bm:=by
 unfold mJ at q
 split at q
 ·rename_i dd cd sl ho
  split at q
  ·rename_i C' bm k0 k1 k2 k3 n k5 hm hs
   simp only[PV,beq_iff_eq,Bool.not_eq_true'] at q
   obtain⟨⟨⟨⟨⟨rfl,rfl⟩,hdel⟩,ht⟩,hok⟩,hni⟩:=q
   obtain⟨nm,bs,mro,ns,qn,hd,sn,sub,ab,col,del⟩:=cd
   subst hm hdel
   obtain rfl:sl = #[k0,k1,k2,k3,Wx (.builtin "ValueError.__new__"),k5]:=by
    grind
   exact⟨bm,ns,nm,qn,bs,hd,sn,sub,ab,col,dd,k0,k1,k2,k3,k5,_,X _ _ ho,.of_isNs (isNs_of_in X hok),wa X (.of_isNs (isNs_of_in X hok)) hni,tail_of_in X ht⟩
  grind
 grind
inductive jQ:List TF->List Str->Prop
 | nil:jQ [] []
 | cons {r:List TF} {fs:List Str}:(f == ("__debug__" : Str))=false->jQ r fs->jQ (.Assign [.Attribute (.Name "self" p1) f p2] (.Name f p3) p4::r) (f::fs)
abbrev bO:TF->TF
 | .ClassDef _ _ _ (st::_) ..=>st
 | st=>st
structure ER (K) (x:Str) (cst) (C) (fs):Prop where
 ex:∃fI fd qual,mJ K C fI=true/\Fun K "__init__" qual (bO cst) fI fd/\Binds K fd ("self" :: fs) []/\typeIn K (.ref fI)=some (.type "function")
 sc:az ("self" :: fs) ("self" :: fs) (ag (bO cst))
 loc:∀y∈("self" : Str)::fs,(ag (bO cst)).names.lookup y=some .local
 body:jQ (aP (bO cst)) fs
 sa:findIn K (.ref C) "__setattr__" = some (some (.builtin "object.__setattr__"))
 ov:fm K C=true
 tk:∀f∈fs,takerIn K C f=some none
 hd:hasDictIn K C=true
 ne:fs≠[]
section
variable {K:Pk}{prog:PJ}{w:Qc}{A:P9}{E:Pp->Pr->Prop}{C:PN}{env:Env}{m:Str->Option Pp}{e:PN}{ws:Array Pp}
def jm (hk:env.scope.kind=.function) (hl:env.kindOf y=Wx .local) (hn:s.heap.Ns env.locals m) (hv:m y=Wx v) (hd:(y == ("__debug__" : Str))=WA) (h:Q v s):wpAny (model prog w) A (eval (.Name y p) env) Q E s:=
 UI (Uc hk hl hn hv h) hd
def yL {h h':QQ}{a:PN}{m:Str->Option Pp} (n:h.Ns a m) (k:∀o,h.get? a=Wx o->h'.get? a=Wx o):h'.Ns a m:=let ⟨o,es,ep,q,r⟩:=n;⟨o,es,ep,k o q,r⟩
def Av (hk:env.scope.kind=.function) (hls:env.kindOf "self" = Wx .local) (sa:findIn K (.ref C) "__setattr__" = Wx (Wx (.builtin "object.__setattr__"))) (ov:fm K C=Wz) (hd:hasDictIn K C=Wz){dx:PN} (hms:m "self" = Wx (.ref e)) (hne:dx≠e) (hLe:env.locals≠e) (hLd:env.locals≠dx) :
  ∀{body:List TF} {fs:List Str} (_:jQ body fs) (_:∀f∈fs,takerIn K C f=Wx Wy/\env.kindOf f=Wx .local) {us:List Pp} (_:us.length=fs.length) (_:∀(i:Nat) (f:Str) (u:Pp),fs[i]?=Wx f->us[i]?=Wx u->m f=Wx u) {mA:Str->Option Pp} {ns:List Str} (_:T3 mA ns) (_:ns.length+fs.length<=1000) {s:Pr} {Q:Flow->Pr->Prop}
   (_:K.In s.heap) (_:∀a o,K.lookup a=Wx o->a≠dx) (_:s.heap.get? e=Wx { cls:=.ref C,dict:=Wx dx,data:=.fields ws }) (_:s.heap.Ns1 dx mA) (_:s.heap.Ns env.locals m)
   (_:∀h',h'.get? e=Wx { cls:=.ref C,dict:=Wx dx,data:=.fields ws }->h'.Ns1 dx ((fs.zip us).foldl (fun mA (p:Str × Pp) y=>if y=p.1 then Wx p.2 else mA y) mA)->(∀b o,b≠dx->s.heap.get? b=Wx o->h'.get? b=Wx o)->∀t',Q .next { s with heap:=h',toks:=t' }),
   wpAny (model prog w) A (execs body env) Q E s:=by
 intro body fs ib
 induction ib with
 | nil=>
  intro _ us _ _ mA ns _ _ s Q X _ hx hn _ h
  exact Tc (h s.heap hx hn (fun _ _ _ z=>z) s.toks)
 | cons hdb ib ih=>
  rename_i f _ _ _ _ r fs
  intro hf us hl hm mA ns hw hz s Q X hK hx hn hL h
  cases us with
  | nil=>cases hl
  | cons u us=>
  refine T8 (plainObj_wpAny_Assign_Attribute ?_ rfl)
  refine jm hk (hf f {..}).2 hL (hm 0 f u rfl rfl) hdb (jm hk hls hL hms (by decide) ?_)
  refine DK X hx hne hn hw {} sa ov (hf f {..}).1 hd fun h1 q1 q2 q3 t1=>?_
  refine ih (fun y hy=>hf y (by simp[hy])) (by simp_all) (fun i y v a b=>hm (i+1) y v a b) (TN f u hw) (by grind)
   (fun a o z=>q3 a o (hK a o z) (X a o z)) hK q1 q2 (yL hL fun o z=>q3 _ o hLd z) fun h' r1 r2 r3 t'=>?_
  exact h h' r1 r2 (fun b o hb z=>r3 b o hb (q3 b o hb z)) t'
end
@[inline]abbrev mkM (ps:List (Str × Pp)):Str->Option Pp:=ps.foldl (fun mA (p:Str × Pp) y=>if y=p.1 then Wx p.2 else mA y) fun _=>Wy
@[inline]abbrev ws0 (t:PN):Array Pp:=#[.ref t,.none,.none,.none,.bool WA,.none]
def Dp {K:Pk}{prog:PJ}{w:Qc}{A:P9}{E:Pp->Pr->Prop}{x:Str}{cst:TF}{C:PN}{fs:List Str}{s:Pr}{us:List Pp}{Q:Pp->Pr->Prop}{k:Nat} (ci:ER K x cst C fs) (X:K.In s.heap) (lim:s.heap.NoLimit) (hr:bF (k+2) A) (hl:us.length=fs.length) (hz:fs.length<=1000)
  (h:∀h' e dx t t',(∀b o,s.heap.get? b=Wx o->h'.get? b=Wx o)->s.heap.objs.size<=e->s.heap.objs.size<=dx->dx≠e->h'.get? e=Wx { cls:=.ref C,dict:=Wx dx,data:=.fields (ws0 t) }->h'.Ns1 dx (mkM (fs.zip us))->Q (.ref e) { s with heap:=h',toks:=t' }) :
  wpAny (model prog w) A (call (.ref C) us) Q E s:=by
 obtain⟨fI,fd,qual,hex,F,hb,hty⟩:=ci.ex
 obtain⟨bm,N,nm,q',bs,hdct,sn,sub,ab,col,dd,k0,k1,k2,k3,k5,mN,hC,hN,hi,T⟩:=uW X hex
 obtain⟨oc,od,kV,doc,pm,an,cdv,ct,osl,rfl,lk,hcd⟩:=F.ex
 have hfc:oc=.type "function" := by
  have z:(K.lookup fI).map (·.cls)=Wx (.type "function"):=hty
  simp_all
 obtain⟨h0,g,d,t,os⟩:=s
 have S:=ci.sc
 have lim2:us.length<=sizeLine:=by rw[QN];omega
 refine wI (F:=RO) T hC hN hi (X _ _ lk) hfc (fun h1 e me hee hsz=>?_) lim2
 have X1:=X.keeps me.keeps
 obtain⟨t0,he,htn,_⟩:=me.there
 have hkind:∀y∈(("self" : Str)::fs).zip (Qa e::us),(ag (bO cst)).names.lookup y.1=Wx .local\/((ag (bO cst)).names.lookup y.1=Wx .cell/\((cellsFrom (h1.objs.size+1) (ag (bO cst)).names []).lookup y.1).isSome=Wz):=fun⟨n,v⟩ hy=>.inl (ci.loc n (Sl hy).1)
 have hbb:=hb ⟨h1,g,d,t,os⟩ (Qa e::us) X1 (by simp[hl])
 rw[QO] at hbb
 refine Sw (Sm (hr.make C us []).depth (X1 _ _ lk) rfl S.co S.gen rfl (codeRec_of X1 hcd) (hbb _ _ _ _ ?_))
 refine RL S.kind hkind fun env henv s1 x1=>?_
 subst henv
 refine⟨(lim.keeps me.keeps).keeps x1.toInCall.keep,Vc ?_⟩
 have ks:=x1.toInCall.keep
 have X2:=X1.keeps ks
 have he1:=ks _ _ he
 have hL:s1.heap.Ns h1.objs.size (bindL (envOfC qual (ag (bO cst)) h1.objs.size fI cdv).kindOf ((("self" : Str)::fs).zip (Qa e::us)) (fun _=>Wy)):=x1.toInCall.ns
 obtain⟨hp1,tk1,rfl⟩:=x1.toInCall.same
 have kindL:∀y∈("self" : Str)::fs,(envOfC qual (ag (bO cst)) h1.objs.size fI cdv).kindOf y=Wx .local:=ci.loc
 have hms:bindL (envOfC qual (ag (bO cst)) h1.objs.size fI cdv).kindOf ((("self" : Str)::fs).zip (Qa e::us)) (fun _=>Wy) "self" = Wx (.ref e):=iu (i:=0) S.nd rfl rfl (kindL _ {..})
 have hmf:∀(i:Nat) (f:Str) (u:Pp),fs[i]?=Wx f->us[i]?=Wx u->bindL (envOfC qual (ag (bO cst)) h1.objs.size fI cdv).kindOf ((("self" : Str)::fs).zip (Qa e::us)) (fun _=>Wy) f=Wx u:=fun i f u a b=>
  iu (i:=i+1) S.nd (by simp_all) (by simp_all) (kindL f (by grind))
 have hLe:=Rz (Pq he)
 have hse:h0.objs.size<=e:=by simp_all
 have ib:=ci.body
 have tkf:=ci.tk
 obtain⟨f,fs,rfl⟩:∃f fs',fs=f::fs':=by
  cases fs with
  | nil=>exact absurd rfl ci.ne
  | cons f r=>simp
 obtain⟨u,us,rfl⟩:∃u us',us=u::us':=by
  cases us with
  | nil=>cases hl
  | cons u r=>simp
 generalize aP (bO cst)=body at ib ⊢
 cases ib with
 | cons hdb ib=>
  refine T8 (plainObj_wpAny_Assign_Attribute ?_ rfl)
  refine jm S.kind (kindL f {..}) hL (hmf 0 f u rfl rfl) hdb (jm S.kind (kindL _ {..}) hL hms (by decide) ?_)
  refine C4 X2 he1 ci.sa ci.ov (tkf f {..}) ci.hd fun h2 q1 q2 q3 t2=>?_
  have hLk:=fun o z=>q3 _ o hLe z
  have lt1:h1.objs.size<hp1.objs.size:=let ⟨o,_,_,q,_⟩:=hL;Pq q
  refine Av (e:=e) S.kind (kindL _ {..}) ci.sa ci.ov ci.hd (dx:=hp1.objs.size) hms (Rz (Pq he1)) hLe (PU lt1) ib (fun y hy=>⟨tkf y (by simp[hy]),kindL y (by simp[hy])⟩) (us:=us) (by simp_all) (fun i y v a b=>hmf (i+1) y v a b) (ns:=[f]) (TN f u T3.nil) (by grind) (s:={ heap:=h2,gens:=g,drawn:=d,toks:=t2,os:=os })
   (fun a o z=>q3 a o (fun z2=>?_) (X2 a o z)) (fun a o z=>PU (Pq (X2 a o z))) q1 q2 (yL hL hLk) fun h3 r1 r2 r3 t3=>?_
  ·exact absurd (z2 ▸ Pq (X a o z):e<h0.objs.size) (R9 hse)
  ·refine⟨rfl,h h3 e hp1.objs.size t0 t3 (fun b o z=>r3 b o (PU (Pq (ks _ _ (me.keeps _ _ z)))) (q3 b o ?_ (ks _ _ (me.keeps _ _ z)))) hse ?_ (Rz (Pq he1)) r1 r2⟩
   ·rintro rfl;have:=me.new;rw[this] at z;cases z
   grind
def A_ (y:Str):∀(ps:List (Str × Pp)) (mA:Str->Option Pp),(ps.map (·.1)).Nodup->(ps.foldl (fun mA (p:Str × Pp) y=>if y=p.1 then Wx p.2 else mA y) mA) y=(match ps.lookup y with | some v=>Wx v | none=>mA y)
 | [],mA,_=>rfl
 | (f,v)::r,mA,nd=>by
  rw[R1,A_ y r _ (Qs.mp nd).2]
  grind
def nJ:∀{fs:List Str}{is:List Int}{us:List Pp},Vals (is.map V.int) us->∀y,jM (((fs.zip is).map fun x=>(x.1,V.int x.2)).lookup y) ((fs.zip us).lookup y)
 | [],_,_,_,y=>RP
 | f::fs,[],us,r,y=>by cases r;exact RP
 | f::fs,i::is,_,.cons a r,y=>by
  simp only[List.zip_cons_cons,PC,List.lookup]
  cases h:y == f with
  | true=>exact a
  | false=>exact nJ r y
def vA {σ:St}{e dx:PN} (p:Plain X) (fl:fh X E) (I:Inv X pins σ H s) (k:∀b o,s.heap.get? b=Wx o->h'.get? b=Wx o)
  (he:s.heap.objs.size<=e) (hdx:s.heap.objs.size<=dx) (ne:dx≠e) (q1:h'.get? e=Wx oe) (q2:oe.cls=C) (q3:oe.dict=Wx dx) (q4:oe.data=.fields ws) (q5:ws[1]?=Wx .none) (new:a_ X.prog X.w (upd H dx (.frz od (.xd fs))) h' dx (.frz od (.xd fs)))
  (q:E C (Wx dx) (upd H dx (.frz od (.xd fs)))):X.xe (.ref e) { s with heap:=h',toks:=t' }:=by
 have I1:Inv X pins σ (upd H dx (.frz od (.xd fs))) { s with heap:=h',toks:=t' }:=I.laid k hdx new
 have fr:=I1.stack
 have nfr:=I1.lZ
 have hHe:upd H dx (.frz od (.xd fs)) e=none:=by rw[aw (SW ne)];exact I.hok.fresh he
 refine fl _ _ ⟨σ,_,Uo h' (e::frs X.stack),e,C,Wx dx,rfl,I1.drop,.inl ⟨fun b o z=>Ta _ z,PySem.W.hideAll_none _ Pw,?_,oe,ws,q1,q2,q3,q4,q5⟩,⟨fun b o z=>?_,fun b o e' n hb=>?_⟩,fun p' hp=>?_,q⟩
 ·exact PySem.W.funFrames_hide fr fun env he' b hb=>Po _ (Td.mpr ⟨env,he',hb⟩)
 ·obtain⟨u,hu⟩:=Cq (I1.hok b o z)
  refine⟨u,Rl _ hu fun hm=>?_⟩
  grind
 ·have hx:b∉X.ex:=by rw[p.ex];simp
  refine Rl _ (I1.base.keep b o e' n hb hx) fun z=>?_
  rcases PL.mp z with rfl | z
  ·exact absurd (Pq (I.base.keep b o e' n hb hx)) (R9 he)
  ·rcases PL.mp (I.fB b z) with rfl | z
   ·exact absurd (Pq e') (R9 I.ok.above)
   simp_all
 ·obtain⟨r1,r2,r3,r4,r5⟩:=I.pin p' (Ru _ hp)
  refine Rl _ (k _ _ r1) fun z=>?_
  rcases PL.mp z with z | z
  ·rw[<- z] at he;exact absurd (Pq r1) (R9 he)
  ·rcases PL.mp (I.fB _ z) with z | z
   ·grind
   simp_all
end L2
namespace L2.FE
open PySem PySem.Spec PyProof.Rows
abbrev mz (x:Str) (fs:List Str) (mr:MA):MS:=fun env h=>(mr env h).bind fun ds h1=>match intsOf ds with
 | some is=>if is.length=fs.length then .err ⟨x,fs.zip is⟩ h1 else .bad
 | none=>.bad
section
variable {X:Cx}{g:GG}{E:XK}
def uj:∀{fs:List Str}{us:List Pp},us.length=fs.length->(fs.zip us).map (·.1)=fs
 | [],_,_=>rfl
 | f::fs,[],h=>by cases h
 | f::fs,u::us,h=>by rw[List.zip_cons_cons,PC,uj (by simp_all)]
def Ci {x:Str}{cst:TF}{C:PN}{fs:List Str}{np cpos pos:Pos}{e:Rb}{es:List Rb}{mr:MA}{k:Nat} (fl:fh X E) (pl:Plain X) (hc:X.calm=Wz) (hg:Gl X x) (hm:X.mg x=Wx (.ref C)) (hgx:g x=Wx C) (ci:ER X.K x cst C fs) (hr:bF (k+2) X.A) (hz:fs.length<=1000)
  (ha:PA X (e::es) (tMA X.K g (εX g E) mr)) (hdb:(x == ("__debug__" : Str))=false:=by decide) (he:starEach (e::es) X.env=(WA,eval e X.env)::starEach es X.env:=by rfl) (hpl:(backTo cpos (starEach es X.env)).any (·.1)=false:=by rfl) :
  PS X (.Raise (Wx (.Call (.Name x np) (e::es) [] cpos)) Wy pos) (tMS X.K g (εX g E) (mz x fs mr)):=by
 intro pins s σ H D I ⟨α,env,h,sr,w⟩
 obtain⟨fI,fd,qual,hex,_⟩:=ci.ex
 obtain⟨tl,N,nm,q',bs,hdct,sn,sub,ab,col,dd,k0,k1,k2,k3,k5,mN,hC',hN,hni,T⟩:=uW I.kIn hex
 refine PySem.wJ (nm:=nm) (q:=q') (N:=N) (bs:=bs) (hdct:=hdct) (sn:=sn) (sub:=sub) (ab:=ab) (col:=col) (dd:=dd) (k0:=k0) (k1:=k1) (k2:=k2) (k3:=k3) (k5:=k5) (newId:="ValueError.__new__") (T.hasType RO.hasBase) (I.ok.hd hc) (by rw[he];assumption) (f6 I hg hm ⟨rfl,?_⟩ hdb)
 have A0:=ha cpos pins s σ H (fun vs H1=>∃is:List Int,vs=is.map V.int/\is.length=fs.length/\∀dx od,H1 dx=Wy->E (.ref C) (Wx dx) (upd H1 dx (.frz od (.xd ((fs.zip is).map fun x=>(x.1,V.int x.2)))))) I ⟨α,env,h,sr,w.bind.mono fun ds h1 eq w1 vs H1 α1 e1 hr1 r1=>by
  cases ei:intsOf ds with
  | none=>simp only[ei] at w1;exact w1.elim
  | some is=>
   simp only[ei] at w1
   by_cases hl:is.length=fs.length
   ·rw[if_pos hl] at w1
    have:=dO ei
    subst this
    refine⟨is,r1.A5,hl,fun dx od hn=>?_⟩
    exact w1 α1 _ (e1.trans (Ext.fresh hn)) (hr1.grow hn) C (Wx dx) hgx (.inr ⟨dx,od,rfl,aL⟩)
   ·rw[if_neg hl] at w1;exact w1.elim⟩
 rw[he] at A0 ⊢
 refine PySem.Calls.evalArgs_plain (P4 A0 (fun us s1 ⟨vs,H1,I1,rv,is,ev,hl,fin⟩=>?_) fun _ _ z=>z)
 subst ev
 have hul:us.length=fs.length:=by rw[<- rv.length,PR];exact hl
 have hCC:s1.heap.get? C=Wx (excClassObj nm q' C N bs tl hdct sn sub ab col dd k0 k1 k2 k3 k5 "ValueError.__new__"):=by
  have a:=I.kIn
  have b:=I1.kIn
  unfold mJ at hex
  split at hex
  ·rename_i dd2 cd2 sl2 ho
   have x1:=a _ _ ho
   have x2:=b _ _ ho
   simp_all
  grind
 refine⟨rfl,hCC,?_⟩
 have limS:=I1.nolimit
 refine Dp ci I1.kIn limS hr hul hz fun h' e' dx t t' kp he' hdx' ne' q1 q2=>?_
 refine⟨kp _ _ hCC,e',_,rfl,q1,rfl,⟨_,rfl,rfl⟩,?_⟩
 obtain⟨od,es',ep',ho',_⟩:=id q2
 refine vA pl fl I1 kp he' hdx' ne' q1 rfl rfl rfl rfl ⟨ho',_,q2,fun y=>?_⟩ (fin dx od (I1.hok.fresh hdx'))
 have nd:((fs.zip us).map (·.1)).Nodup:=by rw[uj hul];exact(Qs.mp ci.sc.nd).2
 rw[show mkM (fs.zip us) y=_ from A_ y _ _ nd]
 have:=nJ (fs:=fs) rv y
 grind
end
end L2.FE
namespace PySem.W
open PySem PySem.Calls PyProof.Rows PySem.Spec Builtin Builtin.ObjectAttr
def p9:∀n {l:List Pp},l.length<=n->mR l=Wz->l.contains (.type "BaseException")=Wz
 | 0,l,hl,e=>by
  have:l=[]:=QF (by omega)
  subst this;cases e
 | n+1,l,hl,e=>by
  rcases gW e with rfl | ⟨c,r,rfl,e'⟩
  ·simp
  ·rw[List.contains_cons,p9 n (by simp_all) e',Bool.or_true]
section
variable {K:Pk}{prog:PJ}{w:Qc}{A:P9}{E:Pp->Pr->Prop}{s:Pr}{x C dx:PN}{ox:Obj}{mA:Str->Option Pp}{name:Str}{v:Pp}
def Am {tk:Tok}{Q:Fin->Pr->Prop} (X:K.In s.heap) (hx:s.heap.get? x=Wx ox) (hc:ox.cls=.ref C) (hf:∃ws,ox.data=.fields ws) (hd:ox.dict=Wx dx) (hn:s.heap.Ns dx mA) (hv:mA name=Wx v)
  (hna:findIn K (.ref C) name=Wx Wy) (hh:hasDictIn K C=Wz) (h:Q (.done (.ret v)) s):wpAny (model prog w) A (Qq.«object.__getattribute__» ⟨[.ref x,.str name tk],[]⟩) Q E s:=by
 obtain⟨cd,hcd,hd'⟩:=VP hh
 obtain⟨oc,od,oda,osl⟩:=ox
 obtain⟨ws,hf⟩:=hf
 subst hc hd hf
 have I:InstAt s.heap x ⟨.ref C,Wx dx,.fields ws,osl⟩ C (Wx hn.choose):=⟨hx,rfl,rfl,hn.choose_spec.choose_spec.choose_spec.1⟩
 have e:Qq.«object.__getattribute__» ⟨[.ref x,.str name tk],[]⟩=(typeOf (.ref x) >>= fun tp=>find (.ref x) tp name >>= fun f=>match f with
   | .value v=>(ret v:Sem Fin)
   | .bind g a=>bindTo g a (.ref x) tp
   | .missing=>do
    if tp == .type "module" then
     if ← isOpaqueModuleObj (.ref x) then
      let byTheModulesOwnEntry:=match (← stack).drop 1 with
       | (.builtin "module.__getattribute__" ⟨m::_,_⟩,_)::_=>m == .ref x
       | _=>WA
      if !byTheModulesOwnEntry then unsupported "thirdparty:object.__getattribute__:a-miss-on-an-opaque-module"
    if tp == .type "type" then
     if let Wx key ← opaqueClassAbove (.ref x) then unsupported s!"thirdparty:{key.toString}.{name.toString}:object.__getattribute__-misses-on-an-opaque-class"
    noSuchAttribute (.ref x) name):=by rfl
 rw[e]
 refine gV (I.type.here ?_)
 refine gV ?_
 refine gV ((T6 X hna).here ?_)
 show wpAny _ _ (ownThenClass (.ref x) name Wy Wy) _ _ _
 refine gV (gV ?_)
 refine gV (TV hx ?_)
 refine gV (TV hx ?_)
 refine gV ?_
 refine(VE X hcd).here ?_
 rw[hd']
 refine Pl ?_
 refine wpAny_nsGet hn ?_
 rw[hv]
 refine gV (Vr (Pl ?_))
 exact Pl h
def FK (X:K.In s.heap) (hx:s.heap.get? x=Wx ox) (hc:ox.cls=.ref C) (hf:∃ws,ox.data=.fields ws) (hd:ox.dict=Wx dx) (hn:s.heap.Ns dx mA) (hv:mA name=Wx v)
  (hga:findIn K (.ref C) "__getattribute__" = Wx (Wx (.builtin "BaseException.__getattribute__"))) (hgh:findIn K (.ref C) "__getattr__" = Wx Wy) (hna:findIn K (.ref C) name=Wx Wy) (ov:fm K C=Wz) (hh:hasDictIn K C=Wz) (hv2:handedOut v=pure v)
  (h:Q v { s with toks:=s.toks+1 }):wpAny (model prog w) A (getAttr (.ref x) name b) Q E s:=by
 have FB:=PySem.F.attrBase_ValueError
 have I:InstAt s.heap x ox C (Wx hn.choose):=⟨hx,hc,by obtain⟨ws,e⟩:=hf;unfold notCls;rw[e],by grind⟩
 obtain⟨cd,hcd,ho⟩:=VP ov
 have ne:cd.mro.isEmpty=false:=by cases q:cd.mro with | nil=>rw[q] at ho;cases ho | cons _ _=>rfl
 have sub:Looks (model prog w) s.heap (isInstance (.ref x) (.type "BaseException")) true:=I.type.andThen (V9 X (by unfold mroIn;rw[hcd,Option.bind_some,if_neg (by simp_all),p9 _ (Pt _) ho]))
 refine gV (wpAny_mkText (P6 (gV (Vs (s:={ s with toks:=s.toks+1 }) I.type (gV (Vs (s:={ s with toks:=s.toks+1 }) (T6 X hga) ?_))))))
 dsimp only
 have hx2:(Pp.builtin "BaseException.__getattribute__" == Pp.builtin "object.__getattribute__")=false:=by rfl
 refine gV ?_
 refine Vs (s:={ s with toks:=s.toks+1 }) (T6 X hgh) ?_
 refine gV (R7 (P6 ?_))
 have hcall:callGetattribute (.ref x) (.str name s.toks) (.builtin "BaseException.__getattribute__") b=boundAndCalled (.builtin "BaseException.__getattribute__") (.ref x) (.str name s.toks):=by cases b<;>rfl
 rw[hcall]
 refine gV ?_
 rw[FB.ga.bind (.ref x)]
 refine Pl ?_
 have hk:builtinKind "BaseException.__getattribute__" = Wx .slot:=by rfl
 have hsplit:splitId "BaseException.__getattribute__" = Wx ("BaseException", "__getattribute__"):=by rfl
 refine Sw (SI FB.ga.plain PySem.F.entry_bexc_ga (@We (model prog w) _ _ { s with toks:=s.toks+1 } "BaseException.__getattribute__" "BaseException" "__getattribute__" (.ref x) [.str name s.toks] [] _ hk hsplit sub (PySem.F.args_bexc_ga (.ref x) (.str name s.toks)) ?_))
 refine Am (s:={ s with toks:=s.toks+1 }) X hx hc hf hd hn hv hna hh ?_
 show wpAny _ _ (handedOut v) _ _ _
 rw[hv2]
 exact Pl h
end
end PySem.W
namespace L2
open PySem PySem.Spec PyProof.Rows PySem.W
structure Hy (K) (C) (f):Prop where
 ga:findIn K (.ref C) "__getattribute__" = some (some (.builtin "BaseException.__getattribute__"))
 gh:findIn K (.ref C) "__getattr__" = some none
 na:findIn K (.ref C) f=some none
 ov:fm K C=true
 hd:hasDictIn K C=true
end L2
namespace L2.FE
open PySem PySem.Spec PyProof.Rows
abbrev AW (c f:Str):D->Hh->R D:=fun d h=>match d with
 | .exc c' fs=>if c'=c then (match fs.lookup f with | some i=>.ok (.int i) h | none=>.bad) else .bad
 | _=>.bad
def k9:∀{fs:List (Str × Int)}{f:Str}{i:Int},fs.lookup f=Wx i->(fs.map fun x=>(x.1,V.int x.2)).lookup f=Wx (.int i)
 | [],f,i,h=>by cases h
 | (y,j)::fs,f,i,h=>by
  simp only[PC,List.lookup] at h ⊢
  cases q:f == y with
  | true=>simp_all
  | false=>rw[q] at h;exact k9 h
section
variable {X:Cx}{g:GG}{ε:EE}
def HL {e:Rb}{c f:Str}{C:PN}{pos:Pos}{m:ME} (he:PE X e (tM X.K g ε m)) (hgc:g c=Wx C) (cr:Hy X.K C f) (hb:attributeBase e f X.env (eval e X.env)=eval e X.env:=by rfl):PE X (.Attribute e f pos) (tM X.K g ε (cUn (AW c f) m)):=by
 intro pins s σ H Q I ⟨α,env,h,sr,w⟩
 have A0:=he pins s σ H (fun v H1=>∃(p dx:PN) (o od:Obj) (i:Int) (fs:List (Str × Int)),v=.ref p/\H1 p=Wx (AtO p o)/\o.cls=.ref C/\(∃vs,o.data=.fields vs)/\o.dict=Wx dx/\H1 dx=Wx (.frz od (.xd (fs.map fun x=>(x.1,V.int x.2))))/\fs.lookup f=Wx i/\Q (.int i) H1) I ⟨α,env,h,sr,w.bind.mono fun d h1 eq w1 v H1 α1 e1 hr1 r1=>by
  unfold AW at w1
  cases r1 with
  | exc hg hp hcl hda hfs=>
   rename_i c' C' p o fs
   dsimp only at w1
   by_cases hc:c'=c
   ·rw[if_pos hc] at w1
    subst hc
    rw[hgc] at hg;cases hg
    cases el:fs.lookup f with
    | none=>rw[el] at w1;exact w1.elim
    | some i=>
     rw[el] at w1
     rcases hfs with⟨_,rfl⟩ | ⟨dx,od,hd1,hd2⟩
     ·cases el
     ·exact⟨p,dx,o,od,i,fs,rfl,hp,hcl,hda,hd1,hd2,el,w1 (.int i) H1 α1 e1 hr1 (.int i)⟩
   ·rw[if_neg hc] at w1;exact w1.elim
  | _=>exact w1.elim⟩
 refine Ec hb (thn A0 fun u s1 zq1=>?_)
 obtain⟨v,H1,I1,rv,p,dx,o,od,i,fs,ev,hp,hcl,hda,hd1,hd2,el,q⟩:=zq1
 subst ev
 obtain rfl:u=Qa p:=rv
 obtain⟨ho,_⟩:=I1.hok p _ hp
 obtain⟨hod,mA,hns,rel⟩:=I1.hok dx _ hd2
 have rl:=rel f
 rw[k9 el] at rl
 cases em:mA f with
 | none=>rw[em] at rl;exact rl.elim
 | some u=>
  rw[em] at rl
  obtain⟨t,rfl⟩:=rl
  exact PySem.W.FK I1.kIn ho hcl hda hd1 hns.ns em cr.ga cr.gh cr.na cr.ov cr.hd rfl ⟨.int i,H1,I1.tok _,⟨t,rfl⟩,q⟩
end
end L2.FE
namespace L2
open PySem PySem.Spec PyProof.Rows PySem.W
abbrev CIs (K:Pk) (x:Str) (cst:TF) (fs:List Str):Prop:=∃C,nsIn K mainGlobals x=Wx (Wx (.ref C))/\ER K x cst C fs/\∀f∈fs,Hy K C f
abbrev K3 (K:Pk) (C fI:PN) (fs:List Str):Bool:=mJ K C fI&&typeIn K (.ref fI) == Wx (.type "function")&&findIn K (.ref C) "__setattr__" == Wx (Wx (.builtin "object.__setattr__"))&&fm K C&&hasDictIn K C&&
 findIn K (.ref C) "__getattribute__" == Wx (Wx (.builtin "BaseException.__getattribute__"))&&findIn K (.ref C) "__getattr__" == Wx Wy&&fs.all fun f=>takerIn K C f == Wx Wy&&findIn K (.ref C) f == Wx Wy
abbrev CIm (K:Pk) (mg:Str->Option Pp) (x:Str) (cst:TF) (fs:List Str):Prop:=∃C,mg x=Wx (.ref C)/\ER K x cst C fs/\∀f∈fs,Hy K C f
def CIm.of {K:Pk}{h:QQ}{mg:Str->Option Pp}{x:Str}{cst:TF}{fs:List Str} (X:K.In h) (G:h.Ns mainGlobals mg) (c:CIs K x cst fs):CIm K mg x cst fs:=
 let ⟨C,a,b,d⟩:=c;⟨C,Ux X G a,b,d⟩
end L2
namespace L2.FE
open PySem PySem.Spec PyProof.Rows
section
variable {X:Cx}{g:GG}{E:XK}
def C_ {np cpos pos:Pos} (fl:fh X E) (pl:Plain X) (hc:X.calm=Wz) (hg:Gl X x) (cm:CIm X.K X.mg x cst fs) (hgo:g=gOf X.mg) (hr:bF (k+2) X.A) (hz:fs.length<=1000)
  (ha:PA X (e::es) (tMA X.K g (εX g E) mr)) (hdb:(x == ("__debug__" : Str))=false:=by decide) (he:starEach (e::es) X.env=(WA,eval e X.env)::starEach es X.env:=by rfl) (hpl:(backTo cpos (starEach es X.env)).any (·.1)=false:=by rfl) :
  PS X (.Raise (Wx (.Call (.Name x np) (e::es) [] cpos)) Wy pos) (tMS X.K g (εX g E) (mz x fs mr)):=by
 obtain⟨C,hm,ci,_⟩:=cm
 exact Ci fl pl hc hg hm (by rw[hgo];unfold gOf;rw[hm]) ci hr hz ha hdb he hpl
def yS (he:PE X e (tM X.K g ε m)) (cm:CIm X.K X.mg c cst fs) (hgo:g=gOf X.mg) (hf:f∈fs) (hb:attributeBase e f X.env (eval e X.env)=eval e X.env:=by rfl):PE X (.Attribute e f pos) (tM X.K g ε (cUn (AW c f) m)):=by
 obtain⟨C,hm,_,cr⟩:=cm
 exact HL he (by rw[hgo];unfold gOf;rw[hm]) (cr f hf) hb
end
end L2.FE
namespace L2
open PySem PySem.Spec PyProof.Rows PySem.W
def DR {K:Pk}{kV doc pm cdv ct:Pp} (a:nsIn K mainGlobals x=Wx (Wx (.ref C))) (_b:findIn K (.ref C) "__init__" = Wx (Wx (.ref fI)))
  (l:K.lookup fI=Wx ⟨oc,od,.func (fnOf "__init__" qual (cb (bO cst)) (aP (bO cst)) (ag (bO cst)) .none kV doc pm an cdv ct),osl⟩) (c:codeIn K cdv qual=Wz) (k:keepIn K (.ref fI)=Wz) (o:K3 K C fI fs=Wz)
  (sc:az ("self" :: fs) ("self" :: fs) (ag (bO cst))) (loc:∀y∈("self" : Str)::fs,(ag (bO cst)).names.lookup y=Wx .local) (body:jQ (aP (bO cst)) fs)
  (bd:∀kV doc pm an cdv ct us , us.length=(("self" : Str)::fs).length->bindArgs (fnOf "__init__" qual (cb (bO cst)) (aP (bO cst)) (ag (bO cst)) .none kV doc pm an cdv ct) ⟨us,[]⟩=pure ((("self" : Str)::fs).zip us)) (ne:fs≠[]):CIs K x cst fs:=by
 unfold K3 at o
 simp only[PV,beq_iff_eq,PX] at o
 obtain⟨⟨⟨⟨⟨⟨⟨o1,o2⟩,o3⟩,o4⟩,o5⟩,o6⟩,o7⟩,o8⟩:=o
 have F:=wu l c k
 exact⟨C,a,⟨⟨fI,_,qual,o1,F,F.binds bd,o2⟩,sc,loc,body,o3,o4,fun f hf=>(o8 f hf).1,o5,ne⟩,fun f hf=>⟨o6,o7,(o8 f hf).2,o4,o5⟩⟩
def KO (e:h'.get? a=Wx o):a_ P w H h' a (FE.AtO a o):=⟨e,e,⟨o,e⟩,fun h1 h2 q k=>k o q⟩
end L2
namespace L2.Srt
open PySem PySem.W PyProof.Rows
section
variable {n:Nat}{key:Nat->Int}
structure Pm (n) (p:Array Nat):Prop where
 size:p.size=n
 perm:p.Perm (Py n).toArray
def Pm.lt (h:Pm n p) (hi:i<n):p.getD i 0<n:=by
 have hi':i<p.size:=by rw[h.size];exact hi
 have e:p.getD i 0=p[i]:=by simp[hi']
 rw[e]
 have:=h.perm.mem_iff.mp (Qf hi')
 simp_all
variable (inj:∀i j,i<n->j<n->key i=key j->i=j)
include inj
omit inj in
omit inj in
omit inj in
omit inj in
omit inj in
omit inj in
end
end L2.Srt
namespace L2.Srt
open PySem PySem.W PyProof.Rows PySem.Calls
section
variable {prog:PJ}{w:Qc}{A:P9}{E:Pp->Pr->Prop}{s:Pr}{a:PN}{vs:List Pp}{κ:Sz}
abbrev eB (h:QQ) (a:PN) (vs:List Pp):QQ:=((h.update a (R0 fun _=>(#[]:Array Pp))).push (seqObj "tuple" vs.toArray 0)).push (seqObj "list" #[] 0)
end
section
variable {prog:PJ}{w:Qc}{A:P9}{E:Pp->Pr->Prop}{s:Pr}{vs:List Pp}
def FU (hn:b≠a) (q:h.get? b=Wx o):(eB h a vs).get? b=Wx o:=by
 exact Pn _ (Pn _ (by rw[Us _ _ _ _ hn];exact q))
inductive Prs (h:QQ):List Pp->List (Int × Int)->Prop
 | nil:Prs h [] []
 | cons {t u:Tok} {x y:Int} {vs:List Pp} {ps:List (Int × Int)}:h.get? a=some o->o.cls=.type "tuple" -> o.data=.seq #[.int x t,.int y u] k->Prs h vs ps->Prs h (.ref a::vs) ((x,y)::ps)
def Prs.len (r:Prs h vs ps):vs.length=ps.length:=by
 induction r with
 | nil=>rfl
 | cons _ _ _ _ ih=>simp[ih]
def Prs.at_ {h:QQ}{vs:List Pp}{ps:List (Int × Int)} (r:Prs h vs ps):∀{i:Nat},i<ps.length->∃a o k t u,vs.getD i QL=.ref a/\h.get? a=Wx o/\o.data=.seq #[.int (ps.getD i (0,0)).1 t,.int (ps.getD i (0,0)).2 u] k:=by
 induction r with
 | nil=>intro i hi;simp at hi
 | @cons a o k t u x y vs ps ha hc hd r ih=>
  intro i hi
  cases i with
  | zero=>exact⟨a,o,k,t,u,rfl,ha,hd⟩
  | succ i=>
   obtain⟨a',o',k',t',u',e1,e2,e3⟩:=ih (by simpa using hi)
   exact⟨a',o',k',t',u',by simpa using e1,e2,by simpa using e3⟩
end
end L2.Srt
namespace L2
open PySem PySem.Spec PyProof.Rows L2.Srt
inductive PrV (K) (H):List V->List (Int × Int)->Prop
 | nil:PrV K H [] []
 | cons:SqT K H a [.int x,.int y]->PrV K H xs ps->PrV K H (.ref a::xs) ((x,y)::ps)
section
variable {X:Cx}
def PrV.len {K:Pk} (r:PrV K H xs ps):xs.length=ps.length:=by
 induction r with
 | nil=>rfl
 | cons _ _ ih=>simp[ih]
def p_ {xs:List V}{us:List Pp} (r:Vals xs us):∀(l:List Nat),(∀i∈l,i<xs.length)->Vals (l.map fun i=>xs.getD i .non) (l.map fun i=>us.getD i QL)
 | [],_=>.nil
 | i::l,h=>by
  refine .cons ?_ (p_ r l fun j hj=>h j (Po _ hj))
  have hi:i<xs.length:=h i Pw
  have hu:i<us.length:=by rw[<- r.length];exact hi
  obtain⟨y,e3,ry⟩:=r.get' (Pz hu)
  simp_all
end
end L2
namespace L2.FE
open PySem PySem.Spec PyProof.Rows L2.Srt
section
variable {X:Cx}{g:GG}{ε:EE}{K:Pk}
def xH {α:List PN}{H:Hp}{ds:List D}{xs:List V} (h:ao K g α H ds xs) (i:Nat) (hi:i<ds.length):aC K g α H (ds.getD i .non) (xs.getD i .non):=by
 cases h with
 | nil=>simp at hi
 | cons a b=>
  cases i with
  | zero=>exact a
  | succ i=>simpa using xH b i (by simp_all)
def t7 {α:List PN}{H:Hp}{ds:List D}{xs:List V} (r:ao K g α H ds xs):∀(l:List Nat),(∀i∈l,i<ds.length)->ao K g α H (l.map fun i=>ds.getD i .non) (l.map fun i=>xs.getD i .non)
 | [],_=>.nil
 | i::l,h=>.cons (xH r i (h i Pw)) (t7 r l fun j hj=>h j (Po _ hj))
end
end L2.FE
namespace L2.Srt
open PySem PySem.W PyProof.Rows PySem.Calls
section
variable {prog:PJ}{w:Qc}{A:P9}{E:Pp->Pr->Prop}{s:Pr}{a:PN}{vs:List Pp}
def oX {n:Nat}{P:Wo->Pr->Prop} (ho:s.heap.get? a=Wx (seqObj "list" vs.toArray n)) (h1:vs.length<2) (h:P (.done (.ret .none)) { s with heap:=sortedHeap s.heap a vs vs.toArray }) :
  wpAny (model prog w) A (Qq.«list.sort» ⟨[.ref a],[]⟩) P E s:=by
 obtain⟨e1,ho1⟩:∃e1,(s.heap.update a (R0 fun _=>(#[]:Array Pp))).get? a=Wx (seqObj "list" #[] e1):=⟨_,Vl ho fun _=>#[]⟩
 have hm:(eB s.heap a vs).get? a=Wx (seqObj "list" #[] e1):=Pn _ (Pn _ ho1)
 rw[list_sort_plain]
 refine gV (Vk ho rfl ?_)
 refine gV (Uj ho rfl ?_ (by rw[Qo,QN];lia) (QJ _))
 refine gV (VF ho1 rfl ?_)
 refine gV (wpAny_newTuple ?_ (by show vs.length<=_;rw[QN];lia))
 refine gV (Tp ?_ (QJ _))
 refine P6 ?_
 have hn2:vs.toArray.size<2:=by rw[Qo];exact h1
 rw[if_pos hn2,if_pos hn2]
 refine gV (Pl ?_)
 refine gV (Pl ?_)
 dsimp only
 have hout:(arrOf (Wg general' (vs.toArray.zip vs.toArray) #[] 7 Wy)).map (·.2)=vs.toArray:=by
  apply Array.toList_inj.mp
  simp[List.map_snd_zip]
 rw[hout]
 refine gV (VF hm rfl ?_)
 refine gV (Uj hm rfl ?_ (QJ _) (by rw[QN];lia))
 simp only[bne_self_eq_false]
 exact Pl h
end
end L2.Srt
namespace L2.FE
open PySem PySem.Spec PyProof.Rows
abbrev setOf (h:Hh) (n:Nat):Option (List Int):=match h[n]? with
 | some (.set ns)=>Wx ns
 | _=>Wy
section
variable {X:Cx}{g:GG}{ε:EE}{K:Pk}
def aK.set (r:aK K g α H h) (e:setOf h n=Wx ns) (hp:α[n]?=Wx p):H p=Wx (.set (fun k=>ns.any (· == k)) ns.length):=by
 unfold setOf at e
 cases eo:h[n]? with
 | none=>simp_all
 | some o=>
  rw[eo] at e
  cases o with
  | set k=>cases e;exact r.here n p _ hp eo
  | _=>cases e
end
abbrev cF (h:Hh) (n:Nat):Option (List (List Key × D)):=match h[n]? with
 | some (.dit kvs)=>Wx kvs
 | _=>Wy
abbrev rm:List (List Key × D)->List Key->Option D
 | [],_=>Wy
 | p::r,k=>if p.1=k then Wx p.2 else rm r k
abbrev Dw (kvs:List (List Key × D)) (k:List Key) (d:D):List (List Key × D):=
 if (kvs.any fun kv=>decide (kv.1=k))=Wz then kvs.map (fun kv=>if kv.1=k then (kv.1,d) else kv) else kvs++[(k,d)]
@[inline]abbrev PDT (K:Pk) (g:GG) (α:List PN) (H:Hp):List (List Key × D)->List (List Key × V)->Prop:=Paired (fun(a:List Key × D) (b:List Key × V)=>a.1=b.1/\aC K g α H a.2 b.2)
section
variable {K:Pk}{g:GG}{α:List PN}{H:Hp}{h:Hh}
def aK.dit (r:aK K g α H h) (e:cF h n=Wx kvs) (hp:α[n]?=Wx p):∃kws,H p=Wx (.dT kws)/\PDT K g α H kvs kws:=by
 unfold cF at e
 cases eo:h[n]? with
 | none=>simp_all
 | some o=>
  rw[eo] at e
  cases o with
  | dit k=>cases e;exact r.here n p _ hp eo
  | _=>cases e
def PDT.val (k:List Key):∀{kvs:List (List Key × D)}{kws:List (List Key × V)},PDT K g α H kvs kws->(rm kvs k=Wy/\ju kws k=Wy)\/∃d v,rm kvs k=Wx d/\ju kws k=Wx v/\aC K g α H d v
 | _,_,.nil=>.inl ⟨rfl,rfl⟩
 | p::r,q::t,.cons c rr=>by
  by_cases e:p.1=k
  ·exact .inr ⟨p.2,q.2,if_pos e,jP (c.1 ▸ e),c.2⟩
  ·rw[show rm (p::r) k=rm r k from if_neg e,jx (c.1 ▸ e)]
   exact PDT.val k rr
def PDT.any (k:List Key):∀{kvs:List (List Key × D)}{kws:List (List Key × V)},PDT K g α H kvs kws->(kvs.any fun kv=>decide (kv.1=k))=kws.any fun kv=>decide (kv.1=k)
 | _,_,.nil=>rfl
 | p::r,q::t,.cons c rr=>by rw[Rc,Rc,PDT.any k rr,c.1]
def PDT.AA (k:List Key){d:D}{v:V} (rd:aC K g α H d v):∀{kvs:List (List Key × D)}{kws:List (List Key × V)},PDT K g α H kvs kws →
  PDT K g α H (kvs.map fun kv=>if kv.1=k then (kv.1,d) else kv) (kws.map fun kv=>if kv.1=k then (kv.1,v) else kv)
 | _,_,.nil=>.nil
 | p::r,q::t,.cons c rr=>by
  refine .cons ?_ (PDT.AA k rd rr)
  grind
def PDT.snoc {x:List Key × D}{y:List Key × V} (c:x.1=y.1/\aC K g α H x.2 y.2):∀{kvs:List (List Key × D)}{kws:List (List Key × V)},PDT K g α H kvs kws->PDT K g α H (kvs++[x]) (kws++[y])
 | _,_,.nil=>.cons c .nil
 | _::_,_::_,.cons b rr=>.cons b (PDT.snoc c rr)
def PDT.put (k) (rd:aC K g α H d v) (r:PDT K g α H kvs kws):PDT K g α H (Dw kvs k d) (putK kws k v):=by
 unfold Dw putK
 rw[PDT.any k r]
 split
 ·exact PDT.AA k rd r
 ·exact PDT.snoc ⟨rfl,rd⟩ r
def PDT.ext (e:Ext K α H α' H') (r:PDT K g α H kvs kws):PDT K g α' H' kvs kws:=Paired.Ly e.toEx0 r
def PDT.length:∀{kvs:List (List Key × D)}{kws:List (List Key × V)},PDT K g α H kvs kws->kvs.length=kws.length
 | _,_,.nil=>rfl
 | _::_,_::_,.cons _ rr=>congrArg (· + 1) (PDT.length rr)
def aA.dit (w:aA K g α H Q (.ref h.length) (h++[.dit kvs])) (r:aK K g α H h) (rs:PDT K g α H kvs kws) (hp:H p=Wy):Q (.ref p) (upd H p (.dT kws)):=by
 have x:=Ext.push (K:=K) (α:=α) (o:=.dT kws) hp
 exact w _ _ _ x (r.push hp ⟨_,aL,rs.ext x⟩) (.ref (by rw[<- r.len];simp))
end
abbrev n4:List D->Option (List Key)
 | []=>Wx []
 | d::ds=>match Je d,n4 ds with
  | some k,Wx ks=>Wx (k::ks)
  | _,_=>Wy
abbrev lR:D->Option (List Key)
 | .tup ds=>n4 ds
 | _=>Wy
def xY {K:Pk}{g:GG}{α:List PN}{H:Hp}:∀{ds:List D}{vs:List V}{ks:List Key},ao K g α H ds vs->n4 ds=Wx ks->vs=ks.map kV
 | _,_,ks,.nil,e=>by cases e;rfl
 | d::ds,_,ks,.cons r rs,e=>by
  unfold n4 at e
  cases e1:Je d with
  | none=>simp_all
  | some k=>
   cases e2:n4 ds with
   | none=>simp_all
   | some ks'=>
    rw[e1,e2] at e
    cases e
    rw[GU r e1,xY rs e2];rfl
def sH {K:Pk}{g:GG} (r:aC K g α H d v) (e:lR d=Wx k):∃b,v=.ref b/\H b=Wx (.tup (k.map kV)):=by
 cases r with
 | tup hp rs=>exact⟨_,rfl,by rw[hp,xY rs e]⟩
 | _=>cases e
abbrev x_:ME:=fun _ h=>.ok (.ref h.length) (h++[.dit []])
abbrev gP:D->D->Hh->R D:=fun o i h=>match o,lR i with
 | .ref n,Wx k=>match cF h n with
  | some kvs=>match rm kvs k with
   | some d=>.ok d h
   | none=>.bad
  | none=>.bad
 | _,_=>.bad
abbrev qh:D->D->D->Hh->R Unit:=fun o i v h=>match o,lR i with
 | .ref n,Wx k=>match cF h n with
  | some kvs=>if kvs.length<1000000 then .ok () (h.set n (.dit (Dw kvs k v))) else .bad
  | none=>.bad
 | _,_=>.bad
section
variable {X:Cx}{g:GG}{ε:EE}{o i e f:Rb}{mo mi me mf:ME}{pos:Pos}
def EL:PE X (.Dict [] [] pos) (tM X.K g ε x_):=
 PE.imp Bh fun σ H Q ⟨α,env,h,s,w⟩ p hp=>aA.dit (show aA X.K g α H Q _ _ from w) s.heap .nil hp
def xR (hu:X.A.units+1<cLine) (ho:PE X o (tM X.K g ε mo)) (hi:PE X i (tM X.K g ε mi)) (hs:Hv i):PE X (.Subscript o i pos) (tM X.K g ε (av gP mo mi)):=
 PE.imp (DZ hu ho hi hs) fun σ H Q ⟨α,env,h,s,w⟩=>tM.use s w.bind fun d1 h1 v1 H1 α1 e1 s1 r1 w1=>tM.use s1 (w1.ext e1).bind fun d2 h2 v2 H2 α2 e2 s2 r2 w2=>by
  unfold gP at w2
  cases ek:lR d2 with
  | none=>rw[ek] at w2;cases d1<;>exact w2.elim
  | some k=>
   rw[ek] at w2
   cases (r1.ext e2) with
   | @ref n p hp=>
    simp only at w2
    cases ed:cF h2 n with
    | none=>rw[ed] at w2;exact w2.elim
    | some kvs=>
     rw[ed] at w2
     obtain⟨kws,hd,rs⟩:=s2.heap.dit ed hp
     obtain⟨b',rfl,eb⟩:=sH r2 ek
     simp only at w2
     rcases rs.val k with⟨ev,_⟩ | ⟨d,v,ev,ew,rv⟩
     ·rw[ev] at w2;exact w2.elim
     ·rw[ev] at w2
      refine⟨p,v,rfl,?_,aA.now (aA.ext (e1.trans e2) (show aA X.K g α H Q d h2 from w2)) s2.heap rv⟩
      rw[<- ew]
      exact rT.t hd eb
   | _=>exact w2.elim
def Hf {p:Pos} (hu:X.A.units+1<cLine) (he:PE X e (tM X.K g ε me)) (ho:PE X o (tM X.K g ε mo)) (hi:PE X i (tM X.K g ε mi))
  (hs:swapsWith e (Wx (.Subscript o i p)) pos.line X.env=pure false:=by rfl):PS X (.Assign [.Subscript o i p] e pos) (tMS X.K g ε (i4 qh mo mi me)):=
 PS.imp (EM hu ho hi he hs) fun E σ H ⟨α,env,h,s,w⟩=>tM.use s w.bind fun d1 h1 v1 H1 α1 e1 s1 r1 w1=>tM.use s1 (w1.ext e1).bind fun d2 h2 v2 H2 α2 e2 s2 r2 w2=>tM.use s2 (w2.ext e2).bind fun d3 h3 v3 H3 α3 e3 s3 r3 w3=>by
  have w4:=(w3.ext e3).bind
  unfold qh at w4
  cases ek:lR d3 with
  | none=>rw[ek] at w4;cases d2<;>exact w4.elim
  | some k=>
   rw[ek] at w4
   cases (r2.ext e3) with
   | @ref n p hp=>
    simp only at w4
    cases ed:cF h3 n with
    | none=>rw[ed] at w4;exact w4.elim
    | some kvs=>
     rw[ed] at w4
     obtain⟨hl,w4⟩:=WQ.cO w4
     obtain⟨kws,hd,rs⟩:=s3.heap.dit ed hp
     obtain⟨b',rfl,eb⟩:=sH r3 ek
     refine⟨p,_,rfl,Bt.t hd eb (by rw[<- rs.length,QN];lia),?_⟩
     have x:=Ext.write (o:=.dT (putK kws k v1)) s3.heap hp
     have ra:=(r1.ext e2).ext e3
     exact(show cE X.K g α H E (.nx env) _ from w4) _ _ (e1.trans (e2.trans (e3.trans x))) (s3.heap.write hp ⟨_,aL,(rs.put k ra).ext x⟩) _ (s3.vs.ext x)
   | _=>exact w4.elim
end
end L2.FE
namespace L2
open PySem PySem.Spec PyProof.Rows
@[inline]abbrev AO (J:It) (ix:List Nat) (σ:St) (wi2:TI) (te:TE) (acc:PN) (H1:Hp) (Q:VK):Prop:=
 ∃W:Nat->Nat->List V->Hp->Prop,(∃m,W 0 m [] H1)/\∀i m ys H,W i m ys H →
  (J.stop i H/\Q (.ref acc) H)\/(J.go i H/\∀σ0 x H',gu 2 ix σ σ0->J.yld i H x H'->wi2 (σ0.set 0 (Wx x)) H' fun J2 H2=>
   ∃U:Nat->Nat->List V->Hp->Prop,(∃m2,U 0 m2 ys H2)/\∀j m2 zs H,U j m2 zs H->(J2.stop j H/\∃m',m'<m/\W (i+1) m' zs H) ∨
    (J2.go j H/\∀y H',J2.yld j H y H'->te ((σ0.set 0 (Wx x)).set 1 (Wx y)) H' fun v H3=>∃ks,H3 acc=Wx (.lst ks)/\ks.length<sizeLine/\∃m',m'<m2/\U (j+1) m' (ks++[v]) (upd H3 acc (.lst (ks++[v])))))
abbrev xk (wi:TI) (ix:List Nat) (wi2:TI) (te:TE):TE:=fun σ H Q=>wi σ H fun J H1=>∀acc,H1 acc=Wy->AO J ix σ wi2 te acc (upd H1 acc (.lst [])) Q
section
variable {prog:PJ}{w:Qc}{A:P9}{R:Wv->Pr->Prop}{s:Pr}{elt tg iter tg2 iter2:Rb}{scope:Ui}{pos:Pos}{it acc:Pp}{env:Env}
@[inline]abbrev e2 (elt tg iter tg2 iter2:Rb) (scope:Ui) (pos:Pos):Rb:=.ListComp elt [⟨tg,iter,[],0⟩,⟨tg2,iter2,[],0⟩] scope pos
def Bs:compTurn (e2 elt tg iter tg2 iter2 scope pos) 0 it acc env=(standAt iter.pos >>= fun _=>pyNext it >>= fun r=>match r with
  | none=>pure (.done .next)
  | some v=>letOwnedTupleGo tg it v >>= fun _=>assign tg env v >>= fun _=>
   eval iter2 env >>= fun x=>standAt iter2.pos >>= fun _=>foldedSetIterable iter2 env x >>= fun x=>holding [x] (pyIter x) >>= fun i2=>runOwn (.compStart (e2 elt tg iter tg2 iter2 scope pos) 1 i2 acc env) env >>= fun _=>
    again (.compLoop (e2 elt tg iter tg2 iter2 scope pos) 0 it acc env)):=by rfl
def EG:compTurn (e2 elt tg iter tg2 iter2 scope pos) 1 it acc env=(standAt iter2.pos >>= fun _=>pyNext it >>= fun r=>match r with
  | none=>pure (.done .next)
  | some v=>letOwnedTupleGo tg2 it v >>= fun _=>assign tg2 env v >>= fun _=>
   (eval elt env >>= fun x=>call (.builtin "list.append") [acc,x] >>= fun _=>pure ()) >>= fun _=>
    again (.compLoop (e2 elt tg iter tg2 iter2 scope pos) 1 it acc env)):=by rfl
def AV (I:Nat->Pr->Prop)
  (turn:∀n s,I n s->wpAny (model prog w) A (pyNext it) (fun r s₁=>match r with
   | none=>R (.ok .next) s₁
   | some v=>wpAny (model prog w) A (letOwnedTupleGo tg2 it v) (fun _ s₁=>wpAny (model prog w) A (assign tg2 env v) (fun _ s₂=>
     wpAny (model prog w) A (eval elt env) (fun x s₄=>wpAny (model prog w) A (call (.builtin "list.append") [acc,x]) (fun _ s₅=>∃m,m<n/\I m s₅) (fun _ _=>False) s₄) (fun _ _=>False) s₂) (fun _ _=>False) s₁) (fun _ _=>False) s₁) (fun _ _=>False) s)
  (n) (h:I n s):codeAny (model prog w) A (.compLoop (e2 elt tg iter tg2 iter2 scope pos) 1 it acc env) R s:=by
 refine VW rfl I (fun n s hI=>?_) n h
 refine V5 ?_
 rw[EG]
 refine U0 ?_
 refine gV (QR (gV (thn (turn n s hI) fun r s₁ h₁=>?_)))
 cases r with
 | none=>exact Pl h₁
 | some v=>exact gV (thn h₁ fun _ s₂ h₂=>gV (thn h₂ fun _ s₃ h₃=>gV (gV (thn h₃ fun x s₄ h₄=>gV (thn h₄ fun _ s₅ h₅=>Pl (Pl ⟨rfl,h₅⟩))))))
def zu (I:Nat->Pr->Prop) (hf:∀x,foldedSetIterable iter2 env x=pure x)
  (turn:∀n s,I n s->wpAny (model prog w) A (pyNext it) (fun r s₁=>match r with
   | none=>R (.ok .next) s₁
   | some v=>wpAny (model prog w) A (letOwnedTupleGo tg it v) (fun _ s₁=>wpAny (model prog w) A (assign tg env v) (fun _ s₂=>
     wpAny (model prog w) A (eval iter2 env) (fun x s₃=>wpAny (model prog w) A (pyIter x) (fun i2 s₄=>
      codeAny (model prog w) A (.compStart (e2 elt tg iter tg2 iter2 scope pos) 1 i2 acc env) (fun r s'=>match r with
       | .ok _=>∃m,m<n/\I m s'
       | .error _=>False) s₄) (fun _ _=>False) s₃) (fun _ _=>False) s₂) (fun _ _=>False) s₁) (fun _ _=>False) s₁) (fun _ _=>False) s)
  (n) (h:I n s):codeAny (model prog w) A (.compLoop (e2 elt tg iter tg2 iter2 scope pos) 0 it acc env) R s:=by
 refine VW rfl I (fun n s hI=>?_) n h
 refine V5 ?_
 rw[Bs]
 refine U0 ?_
 refine gV (QR (gV (thn (turn n s hI) fun r s₁ h₁=>?_)))
 cases r with
 | none=>exact Pl h₁
 | some v=>
  refine gV (thn h₁ fun _ s₂ h₂=>gV (thn h₂ fun _ s₃ h₃=>gV (thn h₃ fun x s₄ h₄=>gV (QR (gV (U2 (hf x) (gV (P6 (thn h₄ fun i2 s₅ h₅=>?_)))))))))
  refine gV (wpAny_runOwn (RA h₅ fun r s' hr=>?_))
  cases r with
  | ok f=>exact Pl ⟨rfl,hr⟩
  | error e=>simp_all
def CQ (h0:codeAny (model prog w) A (.compLoop (e2 elt tg iter tg2 iter2 scope pos) 1 it acc env) R s)
  (h:wpAny (model prog w) A (pyIter it) (fun i' s'=>codeAny (model prog w) A (.compLoop (e2 elt tg iter tg2 iter2 scope pos) 1 i' acc env) R s') (fun _ _=>False) s) :
  codeAny (model prog w) A (.compStart (e2 elt tg iter tg2 iter2 scope pos) 1 it acc env) R s:=by
 refine Ur ?_
 refine wpAny_notedAt ?_
 refine U0 ?_
 refine gV (R_ ?_)
 split
 ·exact Pl ⟨rfl,h0⟩
 ·exact gV (Vr (gV (QR (gV (thn h fun i' s' h'=>Pl ⟨rfl,h'⟩)))))
end
def Aq {X:Cx}{use:Option (Pp->Sem Unit)}{Q2:Pp->Pr->Prop}{pins:List (PN × Obj)}{s:Pr}{σ:St}{H:Hp}{Q:VK}{elt iter tg iter2 tg2:Rb}{tn':List Str}{scope osc:Ui}{pos:Pos}{wi wi2:TI}{te:TE} (ix:List Nat) (N':List Str)
  (hxe:X.xe=fun _ _=>False) (hc:X.calm=Wz) (ho:X.env.scope=osc) (hN:N'=tn'++ix.map fun i=>(X.N[i]?).getD ("" : Str)) (hnd:N'.Nodup)
  (hall:(∀y∈scope.names,y.2=.free->osc.names.lookup y.1=Wx .cell)/\(∀y∈scope.names,y.2≠.cell)/\scope.kind=.function/\(∀y∈scope.names,y.2=.local->scope.names.lookup y.1=Wx .local)/\(∀y∈N'.drop tn'.length,scope.names.lookup y=Wx .free))
  (hi:PI X tg iter wi) (hg:∀cl C ax aD fp,PG (aZ X scope cl C ax aD fp N') tg (gy 0)) (hi2:∀cl C ax aD fp,PI (aZ X scope cl C ax aD fp N') tg2 iter2 wi2) (hg2:∀cl C ax aD fp,PG (aZ X scope cl C ax aD fp N') tg2 (gy 1))
  (he:∀cl C ax aD fp,PE (aZ X scope cl C ax aD fp N') elt te)
  (hs:∀x,foldedSetIterable iter X.env x=pure x) (hs2:∀env x,foldedSetIterable iter2 env x=pure x) (h2n:tn'.length=2) (I:Inv X pins σ H s) (h:xk wi ix wi2 te σ H Q)
  (hfin:∀(acc C:PN) (H5:Hp) (s5:Pr) (o:Obj),Inv X (pins++[(C,o)]) σ H5 s5->(∀x c,X.env.cells.lookup x=Wx c->c≠C)->X.ax.heap.objs.size<=C->(∀p∈X.pn++pins,p.1≠C)->(∃m,∀h':QQ,h'.get? C=Wx o->h'.Ns C m)->Q (.ref acc) H5->compPost (model X.prog X.w) X.A X.xe use Q2 (.ref acc) C (.ok .next) s5) :
  wpAny (model X.prog X.w) X.A (comprehension (.ListComp elt [⟨tg,iter,[],0⟩,⟨tg2,iter2,[],0⟩] scope pos) scope X.env (firstIterPos [⟨tg,iter,[],0⟩,⟨tg2,iter2,[],0⟩] pos) (newList []) WA (eval iter X.env) use) Q2 X.xe s:=by
 refine pP (CW:=fun J acc H1=>AO J ix σ wi2 te acc H1 Q) ix N' hc ho hN hnd hall hi hs I h hfin fun X' cl C s3 H3 fp it acc tn J R s4 hX' hXc T stat w0 I4 st4 fpn fin=>?_
 have hXp:X'.prog=X.prog:=by rw[<- hX'];rfl
 have hXw:X'.w=X.w:=by rw[<- hX'];rfl
 have hXK:X'.K=X.K:=by rw[<- hX'];rfl
 have hXA:X'.A=X.A:=by rw[<- hX'];rfl
 have hXx:X'.xe=fun _ _=>False:=by rw[<- hX'];exact hxe
 obtain⟨W,⟨m0,w0⟩,turn⟩:=w0
 have IsC:∀{σ0:St} {i:Nat} {v:Option V},gu 2 ix σ σ0->i<2->gu 2 ix σ (σ0.set i v):=fun{σ0 i v} ⟨ts,hl,e⟩ hi=>⟨ts.set i v,by rw[List.length_set];exact hl,by rw[e,List.set_append_left _ _ (by rw[hl];exact hi)]⟩
 refine zu (fun n s'=>∃i ys σ' H',Inv X' [] σ' H' s'/\gu 2 ix σ σ'/\tn i s'.heap/\(∀b∈fp,H' b=Wy)/\W i n ys H') (hs2 _) (fun n s5 h5=>?_) m0
  ⟨0,[],vL tn'.length ix σ,H3,I4,⟨_,by rw[List.length_replicate];exact h2n,rfl⟩,st4,fpn,w0⟩
 obtain⟨i,ys,σ5,H5,I5,hσ,st5,fr5,w5⟩:=h5
 rcases turn i n ys H5 w5 with⟨stop,q⟩ | ⟨go,step⟩
 ·have d:=T.done X' hXp hXw hXK hXc i [] s5 σ5 H5 (fun _ _=>False) I5 (stat fr5) st5 stop
  rw[hXA] at d
  refine thn d fun r s6 zq1=>?_
  obtain⟨hr,I6⟩:=zq1
  subst hr
  exact fin I6 q
 ·have d:=T.item X' hXp hXw hXK hXc i [] s5 σ5 H5 (fun _ _=>False) I5 (stat fr5) st5 go
  rw[hXA] at d
  refine thn d fun r s6 zq1=>?_
  obtain⟨u,hr,h6⟩:=zq1
  subst hr
  refine thn h6 fun _ s7 zq1=>?_
  obtain⟨z,H7,I7,r7,y7,st7,fr7⟩:=zq1
  have I7':=I7.pinned (stat fr7) (T.obj _ _ st7)
  have again:∀{H9:Hp} {s9:Pr} {ys9:List V} {σ9:St},Inv X' ([]++gH fp s7.heap) σ9 H9 s9->gu 2 ix σ σ9->(∃m',m'<n/\W (i+1) m' ys9 H9)->∃m',m'<n/\∃i ys σ' H',Inv X' [] σ' H' s9/\gu 2 ix σ σ'/\tn i s9.heap/\(∀b∈fp,H' b=Wy)/\W i m' ys H':=fun{H9 s9 ys9 σ9} I9 c9 ⟨m',hm,w9⟩=>by
   refine⟨m',hm,i+1,ys9,_,H9,I9.fM,c9,T.keep _ _ _ st7 fun b hb o e=>(I9.pin (b,o) (Px _ (Px _ (cg hb e)))).1,fun b hb=>?_,w9⟩
   obtain⟨o,e,_⟩:=T.obj _ _ st7 b hb
   exact(I9.pin (b,o) (Px _ (Px _ (cg hb e)))).2.1
  have he':=he cl C s3 H3 fp
  have hg':=hg cl C s3 H3 fp
  have hg2':=hg2 cl C s3 H3 fp
  have hi2':=hi2 cl C s3 H3 fp
  rw[hX'] at he' hg' hg2' hi2'
  have a0:=hg' _ s7 σ5 H7 z u (fun σ2 Hn=>σ2=σ5.set 0 (Wx z)/\Hn=H7) I7' r7 ⟨rfl,rfl⟩
  rw[hXp,hXw,hXA,hXx] at a0
  refine thn a0 fun _ s8 zq1=>?_
  obtain⟨σ8,H8,I8,e8,e8'⟩:=zq1
  subst e8 e8'
  have a1:=hi2' _ s8 _ H8 _ I8 (step σ5 z H8 hσ y7)
  rw[hXp,hXw,hXA,hXx] at a1
  refine thn a1 fun v2 s9 h9=>thn h9 fun itv2 s10 h10=>?_
  obtain⟨it2,fp2,tn2,J2,H10,e10,I10,T2,st10,f10,V,⟨m2,v0⟩,turn2⟩:=h10
  subst e10
  rw[hXp,hXw,hXK] at T2
  have stat2:∀{H':Hp},(∀b∈fp2,H' b=Wy)->∀b∈fp2,lJ X' ([]++gH fp s7.heap) H' b:=fun hn b hb=>⟨hn b hb,(f10 b hb).2⟩
  have inner:codeAny (model X.prog X.w) X.A (.compLoop (.ListComp elt [⟨tg,iter,[],0⟩,⟨tg2,iter2,[],0⟩] scope pos) 1 (.ref it2) (.ref acc) X'.env) (fun r s'=>match r with
    | .ok _=>∃m',m'<n/\∃i ys σ' H',Inv X' [] σ' H' s'/\gu 2 ix σ σ'/\tn i s'.heap/\(∀b∈fp,H' b=Wy)/\W i m' ys H'
    | .error _=>False) s10:=by
   refine AV (fun m s'=>∃j zs uo H',Inv X' ([]++gH fp s7.heap) ((σ5.set 0 (Wx z)).set 1 uo) H' s'/\tn2 j s'.heap/\(∀b∈fp2,H' b=Wy)/\V j m zs H') (fun m s11 h11=>?_) m2 ⟨0,ys,((σ5.set 0 (Wx z))[1]?).join,H10,?_,st10,fun b hb=>(f10 b hb).1,v0⟩
   ·obtain⟨j,zs,uo,H11,I11,st11,fr11,v11⟩:=h11
    rcases turn2 j m zs H11 v11 with⟨stop2,q2⟩ | ⟨go2,step2⟩
    ·have d:=T2.done X' hXp hXw hXK hXc j _ s11 _ H11 (fun _ _=>False) I11 (stat2 fr11) st11 stop2
     rw[hXA] at d
     refine thn d fun r s12 zq1=>?_
     obtain⟨hr,I12⟩:=zq1
     subst hr
     exact again I12 (IsC (IsC hσ (by decide)) (by decide)) q2
    ·have d:=T2.item X' hXp hXw hXK hXc j _ s11 _ H11 (fun _ _=>False) I11 (stat2 fr11) st11 go2
     rw[hXA] at d
     refine thn d fun r s12 zq1=>?_
     obtain⟨u2,hr,h12⟩:=zq1
     subst hr
     refine thn h12 fun _ s13 zq1=>?_
     obtain⟨z2,H13,I13,r13,y13,st13,fr13⟩:=zq1
     have I13':=I13.pinned (stat2 fr13) (T2.obj _ _ st13)
     have b0:=hg2' _ s13 _ H13 z2 u2 (fun σ2 Hn=>σ2=((σ5.set 0 (Wx z)).set 1 uo).set 1 (Wx z2)/\Hn=H13) I13' r13 ⟨rfl,rfl⟩
     rw[hXp,hXw,hXA,hXx] at b0
     refine thn b0 fun _ s14 zq1=>?_
     obtain⟨σ14,H14,I14,e14,e14'⟩:=zq1
     subst e14 e14'
     rw[List.set_set] at I14
     have b1:=he' _ s14 _ H14 _ I14 (step2 z2 H14 y13)
     rw[hXp,hXw,hXA,hXx] at b1
     refine thn b1 fun yv s15 zq1=>?_
     obtain⟨y,H15,I15,r15,ks,q1,q2,q3⟩:=zq1
     have b2:=fP (X:=X') _ s15 _ H15 (.ref acc) [y] (.ref acc) [yv] (fun _ Hq=>∃m',m'<m/\V (j+1) m' (ks++[y]) Hq) I15 rfl (.cons r15 .nil) ⟨acc,ks,y,rfl,rfl,q1,q2,q3⟩
     rw[hXp,hXw,hXA,hXx] at b2
     refine thn b2 fun _ s16 zq1=>?_
     obtain⟨_,H16,I16,_,m',hm',w16⟩:=zq1
     refine⟨m',hm',j+1,ks++[y],Wx z2,H16,I16.fM,T2.keep _ _ _ st13 fun b hb o e=>(I16.pin (b,o) (Px _ (Px _ (cg hb e)))).1,fun b hb=>?_,w16⟩
     obtain⟨o,e,_⟩:=T2.obj _ _ st13 b hb
     exact(I16.pin (b,o) (Px _ (Px _ (cg hb e)))).2.1
   ·have:(σ5.set 0 (Wx z)).set 1 ((σ5.set 0 (Wx z))[1]?).join=σ5.set 0 (Wx z):=by
     obtain⟨ts,hl,e⟩:=hσ
     match ts,hl with
     | [p,q],_=>rw[e];rfl
    rw[this];exact I10
  refine CQ inner ?_
  exact T2.self _ 0 _ _ _ st10 inner
section
variable {X:Cx}{elt iter tg iter2 tg2:Rb}{scope osc:Ui}{pos:Pos}{wi wi2:TI}{te:TE}
def tS {py spos:Pos} (ix) (tn' N') (h2n:tn'.length=2)
  (hxe:X.xe=fun _ _=>False) (hc:X.calm=Wz) (ho:X.env.scope=osc) (hN:N'=tn'++ix.map fun i=>(X.N[i]?).getD ("" : Str)) (hnd:N'.Nodup)
  (hall:(∀y∈scope.names,y.2=.free->osc.names.lookup y.1=Wx .cell)/\(∀y∈scope.names,y.2≠.cell)/\scope.kind=.function/\(∀y∈scope.names,y.2=.local->scope.names.lookup y.1=Wx .local)/\(∀y∈N'.drop tn'.length,scope.names.lookup y=Wx .free))
  (hi:PI X tg iter wi) (hg:∀cl C ax aD fp,PG (aZ X scope cl C ax aD fp N') tg (gy 0)) (hi2:∀cl C ax aD fp,PI (aZ X scope cl C ax aD fp N') tg2 iter2 wi2) (hg2:∀cl C ax aD fp,PG (aZ X scope cl C ax aD fp N') tg2 (gy 1))
  (he:∀cl C ax aD fp,PE (aZ X scope cl C ax aD fp N') elt te)
  (hNN:X.N.Nodup) (hy:X.N[i]?=Wx y) (hl:X.env.scope.names.lookup y=Wx .local)
  (hsw:swapsWith (.ListComp elt [⟨tg,iter,[],0⟩,⟨tg2,iter2,[],0⟩] scope pos) (Wx (.Name y py)) spos.line X.env=pure true:=by rfl)
  (hs:∀x,foldedSetIterable iter X.env x=pure x:=by intro _;rfl) (hs2:∀env x,foldedSetIterable iter2 env x=pure x:=by intro _ _;rfl) :
  PS X (.Assign [.Name y py] (.ListComp elt [⟨tg,iter,[],0⟩,⟨tg2,iter2,[],0⟩] scope pos) spos) (Fb (xk wi ix wi2 te) (gy i)):=by
 intro pins s σ H D I h
 rw[exec_Assign_Name_used _ _ _ _ hsw]
 refine gV (QR ?_)
 refine gV ?_
 refine gV (Aq ix N' hxe hc ho hN hnd hall hi hg hi2 hg2 he hs hs2 h2n I h fun acc C H5 s5 o I5 cC hC pC hm q=>?_)
 obtain⟨m,hm⟩:=hm
 refine UJ (ie (v:=.ref acc) I5 hNN hy (.inl hl) rfl (fun s6 I6=>?_) (.inr hl))
 refine⟨m,hm _ (I6.pin (C,o) (Px _ (Px _ (P1.mpr rfl)))).1,fun h' hs'=>?_⟩
 exact Pl (Pl ⟨_,H5,I6.G7 cC hC pC hs',q⟩)
end
end L2
namespace L2.FE
open PySem PySem.Spec PyProof.Rows
abbrev gB (ix:List Nat) (env:En) (a b:Option D):En:=a::b::ix.map fun i=>(env[i]?).join
abbrev Dl (n0:Nat) (y:D) (h:Hh):R Unit:=match aq h n0 with
 | some ds=>if ds.length<1000000 then .ok () (h.set n0 (.lst (ds++[y]))) else .bad
 | none=>.bad
abbrev sI (n0:Nat) (rd:Rdr) (te:ME) (ff:D->En):Nat->Nat->Hh->R Unit
 | k,j,h=>match rd h j with
  | none=>.bad
  | some Wy=>.ok () h
  | some (Wx e)=>match k with
   | 0=>.bad
   | k+1=>(te (ff e) h).bind fun y h2=>(Dl n0 y h2).bind fun _ h3=>sI n0 rd te ff k (j+1) h3
abbrev rP (n0:Nat) (rd:Rdr) (mi2:MI) (te:ME) (ff:Option D->Option D->En):Nat->Nat->Hh->R Unit
 | k,i,h=>match rd h i with
  | none=>.bad
  | some Wy=>.ok () h
  | some (Wx d)=>match k with
   | 0=>.bad
   | k+1=>(mi2 (ff (Wx d) Wy) h).bind fun sr h1=>(sI n0 sr.rdr te (fun e=>ff (Wx d) (Wx e)) (sr.fuel h1) 0 h1).bind fun _ h2=>rP n0 rd mi2 te ff k (i+1) h2
abbrev dU (mi:MI) (ix:List Nat) (mi2:MI) (te:ME):ME:=fun env h=>(mi env h).bind fun sr h1=>(rP h1.length sr.rdr mi2 te (gB ix env) (sr.fuel h1) 0 (h1++[.lst []])).bind fun _ h2=>.ok (.ref h1.length) h2
section
variable {K:Pk}{g:GG}
def uK {α:List PN}{H:Hp}{env:En}{σ:St}{ix:List Nat}{a b:Option D}{p q:Option V} (s:iA K g α H env σ) (ra:∀d,a=Wx d->∃v,p=Wx v/\aC K g α H d v) (rb:∀d,b=Wx d->∃v,q=Wx v/\aC K g α H d v):iA K g α H (gB ix env a b) (p::q::ix.map fun i=>(σ[i]?).join):=by
 refine⟨by simp[gB],fun i e h=>?_⟩
 match i with
 | 0=>
  have:a=Wx e:=by simpa [gB] using h
  simp_all
 | 1=>
  have:b=Wx e:=by simpa [gB] using h
  simp_all
 | i+2=>
  have h':(ix.map fun i=>(env[i]?).join)[i]?=Wx (Wx e):=by assumption
  rw[P5] at h'
  cases ei:ix[i]? with
  | none=>simp_all
  | some j=>
   rw[ei] at h'
   have h2:(env[j]?).join=Wx e:=by simp_all
   cases ej:env[j]? with
   | none=>simp_all
   | some oe=>
    rw[ej] at h2
    have h3:oe=Wx e:=by simp_all
    subst h3
    obtain⟨u,eu,ru⟩:=s.vars j e ej
    simp_all
def qx {α α':List PN}{n:Nat}{p:PN}{H H':Hp} (e:Ext K α H α' H') (h:α[n]?=Wx p):α'[n]?=Wx p:=by
 obtain⟨l,rfl⟩:=e.toEx0.pre
 rw[PB]
 ·exact h
 ·by_cases hl:n<α.length
  ·exact hl
  ·rw[QC {}] at h;cases h
def zV {mi mi2:MI}{te:ME}{ix:List Nat}{σ:St}{H:Hp}{Q:VK} (t:tM K g E00 (dU mi ix mi2 te) σ H Q):xk (tMI K g E00 mi) ix (tMI K g E00 mi2) (tM K g E00 te) σ H Q:=by
 obtain⟨α,env,h,s,w⟩:=t
 refine⟨α,env,h,s,w.bind.mono fun sr h1 _ w1 J H1 α1 e1 hr1 rd=>fun acc hacc=>?_⟩
 have s1:=s.ext e1 hr1
 have xp:Ext K α1 H1 (α1++[acc]) (upd H1 acc (.lst [])):=Ext.push hacc
 have hrp:aK K g (α1++[acc]) (upd H1 acc (.lst [])) (h1++[.lst []]):=hr1.push hacc ⟨[],aL,.nil⟩
 have p0:(α1++[acc])[h1.length]?=Wx acc:=by rw[<- hr1.len];simp
 refine⟨fun i m ys H=>∃α h,Ext K α1 H1 α H/\α[h1.length]?=Wx acc/\aK K g α H h ∧
  WQ K g E00 α1 H1 ((rP h1.length sr.rdr mi2 te (gB ix env) m i h).bind fun _ h2=>.ok (.ref h1.length) h2) (aA K g α1 H1 Q),
  ⟨sr.fuel h1,_,_,xp,p0,hrp,w1.post e1⟩,?_⟩
 rintro i m ys H2 ⟨α2,h2,x2,p2,hr2,w2⟩
 have q:=rd α2 H2 h2 x2 hr2 i
 unfold rP at w2
 cases e:sr.rdr h2 i with
 | none=>rw[e] at w2;exact w2.elim
 | some od=>
  rw[e] at w2 q
  cases od with
  | none=>exact .inl ⟨q,(show aA K g α1 H1 Q (.ref h1.length) h2 from w2) _ _ _ x2 hr2 (.ref p2)⟩
  | some d=>
   cases m with
   | zero=>exact w2.elim
   | succ m=>
    rw[bA] at w2
    have w3:=WQ.bind (show WQ K g E00 α1 H1 ((mi2 (gB ix env (Wx d) Wy) h2).bind _) _ from w2)
    refine .inr ⟨q.1,fun σ0 x H3 hcap y=>?_⟩
    obtain⟨ts,hl,hσ0⟩:=hcap
    match ts,hl with
    | [v0,q0],_=>
    subst hσ0
    obtain⟨α3,x3,hr3,rx⟩:=q.2 x H3 y
    have s3:cM K g α3 H3 (gB ix env (Wx d) Wy) (Wx x::q0::ix.map fun i=>(σ[i]?).join) h2:=⟨hr3,uK (s1.vs.ext (x2.trans x3)) (fun d' hd=>by simp_all) (fun d' hd=>by cases hd)⟩
    refine⟨α3,_,h2,s3,((w3.ext x2).ext x3).mono fun sr2 h4 _ w4 J2 H4 α4 x4 hr4 rd2=>?_⟩
    have x14:=x2.trans (x3.trans x4)
    have p4:=qx (x3.trans x4) p2
    refine⟨fun j m2 zs H=>∃α h,Ext K α4 H4 α H/\aK K g α H h ∧
     WQ K g E00 α1 H1 (((sI h1.length sr2.rdr te (fun e=>gB ix env (Wx d) (Wx e)) m2 j h).bind fun _ h2=>rP h1.length sr.rdr mi2 te (gB ix env) m (i+1) h2).bind fun _ h2=>.ok (.ref h1.length) h2) (aA K g α1 H1 Q),
     ⟨sr2.fuel h4,α4,h4,Ext.refl,hr4,w4⟩,?_⟩
    rintro j m2 zs H5 ⟨α5,h5,x5,hr5,w5⟩
    have q2:=rd2 α5 H5 h5 x5 hr5 j
    have p5:=qx x5 p4
    unfold sI at w5
    cases e2:sr2.rdr h5 j with
    | none=>rw[e2] at w5;exact w5.elim
    | some od2=>
     rw[e2] at w5 q2
     cases od2 with
     | none=>exact .inl ⟨q2,m,RQ _,α5,h5,x14.trans x5,p5,hr5,w5⟩
     | some d2=>
      cases m2 with
      | zero=>exact w5.elim
      | succ m2=>
       have w6:WQ K g E00 α1 H1 ((te (gB ix env (Wx d) (Wx d2)) h5).bind fun y h2=>(((Dl h1.length y h2).bind fun _ h3=>sI h1.length sr2.rdr te (fun e=>gB ix env (Wx d) (Wx e)) m2 (j+1) h3).bind fun _ h2=>rP h1.length sr.rdr mi2 te (gB ix env) m (i+1) h2).bind fun _ h2=>.ok (.ref h1.length) h2) (aA K g α1 H1 Q):=by
        have:=w5
        simp only[bA] at this ⊢
        lia
       refine .inr ⟨q2.1,fun yv H6 yy=>?_⟩
       obtain⟨α6,x6,hr6,ry⟩:=q2.2 yv H6 yy
       have s6:cM K g α6 H6 (gB ix env (Wx d) (Wx d2)) (Wx x::Wx yv::ix.map fun i=>(σ[i]?).join) h5:=⟨hr6,uK (s1.vs.ext (x14.trans (x5.trans x6))) (fun d' hd=>by cases hd;exact⟨x,rfl,rx.ext (x4.trans (x5.trans x6))⟩) (fun d' hd=>by simp_all)⟩
       refine tM.use s6 ((WQ.bind w6).ext (x14.trans (x5.trans x6))) fun y h7 v7 H7 α7 x7 s7 r7 w7=>?_
       have p7:=qx (x6.trans x7) p5
       unfold Dl at w7
       cases el:aq h7 h1.length with
       | none=>rw[el] at w7;exact w7.elim
       | some ds=>
        rw[el] at w7
        dsimp only at w7
        by_cases hlen:ds.length<1000000
        ·rw[if_pos hlen] at w7
         obtain⟨vs,hv,rs⟩:=s7.heap.lst el p7
         have x:=Ext.write (o:=.lst (vs++[v7])) s7.heap p7
         exact⟨vs,hv,by rw[<- rs.length,QN];lia,m2,RQ _,α7,_,(x5.trans (x6.trans x7)).trans x,s7.heap.write (u':=.lst (ds++[y])) p7 ⟨_,aL,(rs.append (.cons r7 .nil)).ext x⟩,w7⟩
        ·rw[if_neg hlen] at w7;exact w7.elim
end
section
variable {X:Cx}{g:GG}
def nS {elt iter iter2:Rb}{x y z:Str}{px py pz:Pos}{scope osc:Ui}{pos spos:Pos}{mi mi2:MI}{te:ME}{i:Nat} (ix:List Nat) (N':List Str)
  (hxe:X.xe=fun _ _=>False) (hc:X.calm=Wz) (ho:X.env.scope=osc) (hN:N'=[x,y]++ix.map fun i=>(X.N[i]?).getD ("" : Str)) (hnd:N'.Nodup)
  (hall:(∀y∈scope.names,y.2=.free->osc.names.lookup y.1=Wx .cell)/\(∀y∈scope.names,y.2≠.cell)/\scope.kind=.function/\(∀y∈scope.names,y.2=.local->scope.names.lookup y.1=Wx .local)/\(∀z∈N'.drop [x,y].length,scope.names.lookup z=Wx .free))
  (hi:PI X (.Name x px) iter (tMI X.K g E00 mi))
  (hx:∀cl C ax aD fp,Loc (aZ X scope cl C ax aD fp N').env.scope x/\(aZ X scope cl C ax aD fp N').env.scope.names.lookup x=Wx .local) (hy:∀cl C ax aD fp,Loc (aZ X scope cl C ax aD fp N').env.scope y/\(aZ X scope cl C ax aD fp N').env.scope.names.lookup y=Wx .local)
  (hi2:∀cl C ax aD fp,PI (aZ X scope cl C ax aD fp N') (.Name y py) iter2 (tMI X.K g E00 mi2))
  (he:∀cl C ax aD fp,PE (aZ X scope cl C ax aD fp N') elt (tM X.K g E00 te))
  (hNN:X.N.Nodup) (hz:X.N[i]?=Wx z) (hl:X.env.scope.names.lookup z=Wx .local:=by rfl)
  (hsw:swapsWith (.ListComp elt [⟨.Name x px,iter,[],0⟩,⟨.Name y py,iter2,[],0⟩] scope pos) (Wx (.Name z pz)) spos.line X.env=pure true:=by rfl)
  (hs:∀x,foldedSetIterable iter X.env x=pure x:=by intro _;rfl) (hs2:∀env x,foldedSetIterable iter2 env x=pure x:=by intro _ _;rfl) :
  PS X (.Assign [.Name z pz] (.ListComp elt [⟨.Name x px,iter,[],0⟩,⟨.Name y py,iter2,[],0⟩] scope pos) spos) (tMS X.K g E00 (aW i (dU mi ix mi2 te))):=
 PS.imp (tS ix [x,y] N' rfl hxe hc ho hN hnd hall hi (fun cl C ax aD fp=>jq hnd (show N'[0]?=Wx x by rw[hN];rfl) (hx cl C ax aD fp).1 (.inr (hx cl C ax aD fp).2)) hi2 (fun cl C ax aD fp=>jq hnd (show N'[1]?=Wx y by rw[hN];rfl) (hy cl C ax aD fp).1 (.inr (hy cl C ax aD fp).2)) he hNN hz hl hsw hs hs2) fun E σ H ⟨α,env,h,s,w⟩=>zV (tM.use s w.bind fun d1 h1 v1 H1 α1 e1 s1 r1 w1=>(show cE X.K g α H E (.nx (env.set i (Wx d1))) h1 from w1) H1 α1 e1 s1.heap _ (s1.vs.set r1))
end
abbrev exitQ (h:Hh):D->Hh->R D:=fun d h'=>match d with
 | .ref n=>gm h (.ref n) h'
 | d=>bg h d h'
def uG (h) (r:R D):r.bind (exitQ h)=r.bind (gm h)\/r.bind (exitQ h)=r.bind (bg h):=by
 cases r with
 | ok d h'=>cases d<;>first | exact .inl rfl | exact .inr rfl
 | err x h'=>simp
 | bad=>simp
section
variable {P:PJ}{w:Qc}{K:Pk}{mg:Str->Option Pp}{base:QQ}{g:GG}{k np:Nat}{f:PN}{fd:RV}{ps:List Str}{m:MF}
def A2 {CX:CXT}{ε:XK->EE} (F:b9 P w K mg base CX k f fd ps (spG K g ε np m)):b9 P w K mg base CX k f fd ps (spG K g ε np fun ds h=>(m ds h).bind (exitQ h)):=by
 have cv:∀{vs:List V} {H:Hp} {Q:VK} {E:XK},spG K g ε np (fun ds h=>(m ds h).bind (exitQ h)) vs H Q E->spG K g ε np (fun ds h=>(m ds h).bind (gm h)) vs H Q E\/spG K g ε np (fun ds h=>(m ds h).bind (bg h)) vs H Q E:=fun{vs H Q E} ⟨hl,α,ds,h,rs,hh,w⟩=>by
  rcases uG h (m ds h) with e | e
  ·exact .inl ⟨hl,α,ds,h,rs,hh,by simp_all⟩
  ·exact .inr ⟨hl,α,ds,h,rs,hh,by simp_all⟩
 refine⟨fun vs H Q E h=>?_,fun A outer s H args us vs Q E hr e0 hb hv hsp=>?_⟩
 ·rcases cv h with h | h
  ·exact(og F).len vs H Q E h
  ·exact(fS F).len vs H Q E h
 ·rcases cv hsp with h | h
  ·exact(og F).run A outer s H args us vs Q E hr e0 hb hv h
  ·exact(fS F).run A outer s H args us vs Q E hr e0 hb hv h
end
abbrev Bd (x:Str) (st:TF) (ps:List Str):Prop:=∀(kV doc pm:Pp) (an:Option PN) (cdv ct:Pp) (us:List Pp),us.length=ps.length->bindArgs (QH x x (cb st) (aP st) (ag st) .none kV doc pm an cdv ct) ⟨us,[]⟩=pure (ps.zip us)
section
variable {P:PJ}{w:Qc}{K:Pk}{mg:Str->Option Pp}{base:QQ}{g:GG}{x:Str}{st:TF}{k:Nat}{N ps:List Str}{mb:MS}{m:MF}
def fsc {sc:Ui} (a:sc.kind=.function/\sc.isCoroutine=WA/\sc.isGenerator=WA) (b:(N.Nodup/\N.take ps.length=ps)/\(∀x∈ps,sc.names.lookup x=Wx .local\/sc.names.lookup x=Wx .cell)/\∀y∈sc.names,y.2≠.free):az N ps sc:=⟨a.1,a.2.1,a.2.2,b.1.1,b.1.2,b.2.1,b.2.2⟩
def iE (D:aG K mg x st) (S:az N ps (ag st)) (B:Bd x st ps)
  (hb:N.Nodup->∀(f:PN) (cdv:Pp) (A:P9) (outer:List Env) (s:Pr) (H:Hp) (E:XK),bF k (A.deeper (envOfC x (ag st) s.heap.objs.size f cdv)) →
   PSs (dR CX0 P w K mg base N x (ag st) f cdv A outer s H E).nox (aP st) (tMS K g E00 mb)):Has P w K mg base g x (k+1) ps (bG N.length mb):=
 let ⟨f,fd,hm,F⟩:=D
 ⟨f,fd,vF F S (hb S.nd f),F.kp,F.binds B,hm,c6 F⟩
def Iw (D:aG K mg x st) (S:az N ps (ag st)) (B:Bd x st ps)
  (hb:N.Nodup->∀(f:PN) (cdv:Pp) (A:P9) (outer:List Env) (s:Pr) (H:Hp) (E:XK),bF k (A.deeper (envOfC x (ag st) s.heap.objs.size f cdv)) →
   fh (dR (CXE P w) P w K mg base N x (ag st) f cdv A outer s H E) E->Plain (dR (CXE P w) P w K mg base N x (ag st) f cdv A outer s H E) →
   UK (model P w) (A.deeper (envOfC x (ag st) s.heap.objs.size f cdv)) (envOfC x (ag st) s.heap.objs.size f cdv) (dR (CXE P w) P w K mg base N x (ag st) f cdv A outer s H E).xe →
   PSs (dR (CXE P w) P w K mg base N x (ag st) f cdv A outer s H E) (aP st) (tMS K g (εX g E) mb)):jt P w K mg base g x (k+1) ps (bG N.length mb):=
 let ⟨f,fd,hm,F⟩:=D
 ⟨f,fd,De F S (hb S.nd f),F.kp,F.binds B,hm⟩
def EI (h:Has P w K mg base g x k ps m):Has P w K mg base g x k ps fun ds h=>(m ds h).bind (bg h):=let ⟨f,fd,a,b⟩:=h;⟨f,fd,fS a,b⟩
def Oe (h:Has P w K mg base g x k ps m):Has P w K mg base g x k ps fun ds h=>(m ds h).bind (gm h):=let ⟨f,fd,a,b⟩:=h;⟨f,fd,og a,b⟩
def MY (h:Has P w K mg base g x k ps m):Has P w K mg base g x k ps (oN m):=let ⟨f,fd,a,b⟩:=h;⟨f,fd,Ck a,b⟩
def bd1 {p:Str} (h:∀kV doc pm an cdv ct a,bindArgs (QH x x (cb st) (aP st) (ag st) .none kV doc pm an cdv ct) ⟨[a],[]⟩=pure ([p].zip [a])):Bd x st [p]:=fun _ _ _ _ _ _ us hl=>CK hl (h _ _ _ _ _ _)
def bd2 {p q:Str} (h:∀kV doc pm an cdv ct a b,bindArgs (QH x x (cb st) (aP st) (ag st) .none kV doc pm an cdv ct) ⟨[a,b],[]⟩=pure ([p,q].zip [a,b])):Bd x st [p,q]:=fun _ _ _ _ _ _ us hl=>v_ hl (h _ _ _ _ _ _)
def bd3 {p q r:Str} (h:∀kV doc pm an cdv ct a b c,bindArgs (QH x x (cb st) (aP st) (ag st) .none kV doc pm an cdv ct) ⟨[a,b,c],[]⟩=pure ([p,q,r].zip [a,b,c])):Bd x st [p,q,r]:=fun _ _ _ _ _ _ us hl=>H_ hl (h _ _ _ _ _ _)
end
section
variable {X:Cx}{g:GG}{E:XK}{k j:Nat}{ps:List Str}{m:MF}{x:Str}{p pos:Pos}{e:Rb}{es:List Rb}{mr:MA}
def cT (F:Has X.prog X.w X.K X.mg X.base g x j ps m) (hr:bF k X.A) (ha:PA X (e::es) (tMA X.K g E00 mr)) (hlen:∀env h ds h',mr env h=.ok ds h'->ds.length=ps.length) (hj:j<=k:=by decide) (hg:Gl X x:=by rfl) (hdb:(x == ("__debug__" : Str))=false:=by decide) (he:starEach (e::es) X.env=(WA,eval e X.env)::starEach es X.env:=by rfl) (hpl:(backTo pos (starEach es X.env)).any (·.1)=false:=by rfl) :
  PE X (.Call (.Name x p) (e::es) [] pos) (tM X.K g E00 (ah m mr)):=
 let ⟨_,_,G,hk,B,hm,_⟩:=F
 FG (G.mono hj) hr hg hm hk B ha hlen hdb he hpl
def lE (fl:fh X E) (pl:Plain X) (F:jt X.prog X.w X.K X.mg X.base g x j ps m) (hr:bF k X.A) (ha:PA X (e::es) (tMA X.K g (εX g E) mr)) (hlen:∀env h ds h',mr env h=.ok ds h'->ds.length=ps.length) (hj:j<=k:=by decide) (hg:Gl X x:=by rfl) (hdb:(x == ("__debug__" : Str))=false:=by decide) (he:starEach (e::es) X.env=(WA,eval e X.env)::starEach es X.env:=by rfl) (hpl:(backTo pos (starEach es X.env)).any (·.1)=false:=by rfl) :
  PE X (.Call (.Name x p) (e::es) [] pos) (tM X.K g (εX g E) (ah m mr)):=
 let ⟨_,_,G,hk,B,hm⟩:=F
 Dg fl pl (G.mono hj) hr hg hm hk B ha hlen hdb he hpl
end
variable {X:Cx}{g:GG}
def xq {K:Pk}{ε:EE}{mi:MI}{ix:List Nat}{tt:TT}{te:TE}{σ:St}{H:Hp}{Q:VK} (t:Gb (tMI K g ε mi) ix tt te σ H Q):qU (tMI K g ε mi) 1 ix (gy 0) tt te σ H Q:=by
 obtain⟨α,env,h,s,w⟩:=t
 refine⟨α,env,h,s,w.mono fun sr h1 _ z J H' α' e hr rd acc ha=>?_⟩
 obtain⟨W,w0,st⟩:=z J H' α' e hr rd acc ha
 refine⟨W,w0,fun i m ys H1 hw=>(st i m ys H1 hw).imp id fun⟨a,b⟩=>⟨a,fun σ0 x H2 hc hy=>?_⟩⟩
 obtain⟨ts,tl,rfl⟩:=hc
 match ts,tl with
 | [t0],_=>exact⟨⟨[Wx x],rfl,rfl⟩,b x H2 hy⟩
def eR [iD nl]{elt iter:Rb}{x:Str}{px:Pos}{ifs:List Rb}{scope osc:Ui}{pos:Pos}{mi:MI}{tt:MT}{te:ME} (ix) (N')
  (hxe:X.xe=fun _ _=>False) (hc:X.calm=Wz) (ho:X.env.scope=osc) (hN:N'=x::ix.map fun i=>(X.N[i]?).getD ("" : Str)) (hnd:N'.Nodup)
  (hall:(∀y∈scope.names,y.2=.free->osc.names.lookup y.1=Wx .cell)/\(∀y∈scope.names,y.2≠.cell)/\scope.kind=.function/\(∀y∈scope.names,y.2=.local->scope.names.lookup y.1=Wx .local)/\scope.names.lookup x=Wx .local/\(∀y∈N'.tail,scope.names.lookup y=Wx .free))
  (hi:PI X (.Name x px) iter (tMI X.K g E00 mi))
  (ht:∀cl C ax aD fp,PTs (aZ X scope cl C ax aD fp N') ifs (tMT X.K g E00 tt))
  (he:∀cl C ax aD fp,PE (aZ X scope cl C ax aD fp N') elt (tM X.K g E00 te))
  (hs:∀x,foldedSetIterable iter X.env x=pure x:=by intro _;rfl) :
  PE X (.ListComp elt [⟨.Name x px,iter,ifs,0⟩] scope pos) (tM X.K g E00 (c7 nl mi ix tt te)):=by
 refine PE.imp (PE.frz (CS ix [x] N' hxe hc ho hN hnd ⟨hall.1,hall.2.1,hall.2.2.1,hall.2.2.2.1,fun y hy=>hall.2.2.2.2.2 y (by simp_all)⟩ hi (fun cl C ax aD fp=>jq hnd (show N'[0]?=Wx x by grind) (.inl (SJ hall.2.2.2.2.1)) (.inr (SJ hall.2.2.2.2.1))) ht he hs)) fun σ H Q t=>?_
 exact xq (ve (fun _ _ z=>z) t)
def mT {nl:NL} [iD nl]{elt iter:Rb}{x z:Str}{px pz:Pos}{ifs:List Rb}{scope osc:Ui}{pos spos:Pos}{mi:MI}{tt:MT}{te:ME}{i:Nat} (ix:List Nat) (N':List Str)
  (hxe:X.xe=fun _ _=>False) (hc:X.calm=Wz) (ho:X.env.scope=osc) (hN:N'=x::ix.map fun i=>(X.N[i]?).getD ("" : Str)) (hnd:N'.Nodup)
  (hall:(∀y∈scope.names,y.2=.free->osc.names.lookup y.1=Wx .cell)/\(∀y∈scope.names,y.2≠.cell)/\scope.kind=.function/\(∀y∈scope.names,y.2=.local->scope.names.lookup y.1=Wx .local)/\scope.names.lookup x=Wx .local/\(∀y∈N'.tail,scope.names.lookup y=Wx .free))
  (hi:PI X (.Name x px) iter (tMI X.K g E00 mi))
  (ht:∀cl C ax aD fp,PTs (aZ X scope cl C ax aD fp N') ifs (tMT X.K g E00 tt))
  (he:∀cl C ax aD fp,PE (aZ X scope cl C ax aD fp N') elt (tM X.K g E00 te))
  (hNN:X.N.Nodup) (hz:X.N[i]?=Wx z) (hl:X.env.scope.names.lookup z=Wx .local:=by rfl)
  (hsw:swapsWith (.ListComp elt [⟨.Name x px,iter,ifs,0⟩] scope pos) (Wx (.Name z pz)) spos.line X.env=pure true:=by rfl)
  (hs:∀x,foldedSetIterable iter X.env x=pure x:=by intro _;rfl) :
  PS X (.Assign [.Name z pz] (.ListComp elt [⟨.Name x px,iter,ifs,0⟩] scope pos) spos) (tMS X.K g E00 (aW i (c7 nl mi ix tt te))):=by
 refine PS.imp (PS.frz (t8 ix [x] N' hxe hc ho hN hnd ⟨hall.1,hall.2.1,hall.2.2.1,hall.2.2.2.1,fun y hy=>hall.2.2.2.2.2 y (by simp_all)⟩ hi (fun cl C ax aD fp=>jq hnd (show N'[0]?=Wx x by grind) (.inl (SJ hall.2.2.2.2.1)) (.inr (SJ hall.2.2.2.2.1))) ht he hNN hz hl hsw hs)) fun E σ H ⟨α,env,h,s,w⟩=>xq (ve (fun v H1 z=>Fz z) (tM.use s w.bind fun d1 h1 v1 H1 α1 e1 s1 r1 w1=>(show cE X.K g α H E (.nx (env.set i (Wx d1))) h1 from w1) H1 α1 e1 s1.heap _ (s1.vs.set r1)))
end L2.FE
namespace L2
open PySem PySem.Spec PyProof.Rows
abbrev lV (h:QQ) (d:PN) (es:Array Wk) (ep:Nat):Prop:=∃q,h.get? d=Wx q/\q.ExactDict/\q.data=.dict es ep
section
variable {prog:PJ}{w:Qc}{A:P9}{E:Pp->Pr->Prop}{s:Pr}{it d:PN}{i ep:Nat}{es:Array Wk}
def lV.typeIs (x:lV s.heap d es ep):s.TypeIs (.ref d) "dict" := let ⟨q,a,b,_⟩:=x;⟨q,a,b.1⟩
def lV.keep {h h':QQ} (x:lV h d es ep) (k:∀q,h.get? d=Wx q->h'.get? d=Wx q):lV h' d es ep:=let ⟨q,a,b⟩:=x;⟨q,k q a,b⟩
def lV.lt {h:QQ} (x:lV h d es ep):d<h.objs.size:=let ⟨_,a,_⟩:=x;Pq a
def Cv (lo:(d == sysModules)=WA) (x:lV s.heap d es ep)
  (hQ:Q (.ref s.heap.objs.size) { s with heap:=s.heap.push { cls:=.type "dict_keyiterator", data:=.fields #[.ref d,.int 0 0,.int es.size 0,.int ep 0] } }):wpAny (model prog w) A (pyIter (.ref d)) Q E s:=by
 obtain⟨q,a,_,c⟩:=id x
 have T:=x.typeIs
 refine US T F.slot_dict_iter (Qw F.slot_dict_iter T F.entry_dict_iter (by
  unfold Qq.«dict.__iter__»;refine gV ?_
  refine gV (wpAny_notOrdered_dict T ?_);refine Pl ?_
  show wpAny _ _ (Qq.Dict.showsAll d >>= _) _ _ s;unfold Qq.Dict.showsAll;rw[if_neg (by simp_all)]
  refine gV (Pl (gV (UT a c (gV (Vn a c (gV (Qn (Pl ⟨_,rfl,"dict_keyiterator", _,⟨_,Pu _ rfl,rfl⟩,Q8.lookup,?_⟩))))))))
  assumption) (F.args_dict_iter_1 _))
def C6 (hi:s.heap.IsKeyIter it d i es.size ep) (x:lV s.heap d es ep) (lt)
  (hQ:∀h',h'.IsKeyIter it d (i+1) es.size ep->Ry it s.heap h'->Q (Wx es[i].key) { s with heap:=h' }):wpAny (model prog w) A (pyNext (.ref it)) Q E s:=by
 obtain⟨p,p1,p2,p3⟩:=id hi
 obtain⟨q,a,_,c⟩:=id x
 have own:Qq.Dict_items.ownsTuple "dict_keyiterator" = false:=by decide
 refine gV (R7 (QD hi.typeIs Q8 (Qw Q8 hi.typeIs F.entry_dict_keyiterator_next ?_ (F.args_dict_keyiterator_next_1 _))))
 refine gV (Pl (gV (gV ?_)))
 refine gV (Rr hi.typeIs (Pl (gV (Vz p1 p3 ?_))))
 simp only[if_false];show wpAny _ _ (if (Qa d == QL)=Wz then _ else _) _ _ s
 rw[if_neg (show ¬ ((Qa d == QL)=Wz) from Qd)];refine gV (Pl (gV (UT a c ?_)))
 rw[if_neg {..}];refine gV (Pl (gV (Vn a c ?_)));rw[if_neg {..}];refine Pl ?_
 simp only[TJ,QZ lt];refine gV ?_
 refine gV (Rr hi.typeIs (Pl (gV (wpAny_isOneOf_keyiter hi.typeIs ?_))))
 show wpAny _ _ (setField (.ref it) 1 (rawInt ((i:Int)+1)) >>= _) _ _ s;refine gV (Sb p1 p3 {..} ?_)
 have hi':(s.heap.update it (R6 (·.setIfInBounds 1 (rawInt ((i:Int)+1))))).IsKeyIter it d (i+1) es.size ep:=⟨_,Qt _ p1 (Q5 (QA p3 _)),(UO ..).trans p2,by rw[QA p3];rfl⟩
 refine gV (P6 (gV (wpAny_isOneOf_keyiter (s:={ s with heap:=s.heap.update it (R6 (·.setIfInBounds 1 (rawInt ((i:Int)+1)))) }) hi'.typeIs ?_)))
 show wpAny _ _ (pure es[i].key) _ _ _;exact Pl (Pl ⟨_,rfl,Pl (hQ _ hi' (Rm ..))⟩)
def Fm (hh:A.handled=Wy) (hi:s.heap.IsKeyIter it d i es.size ep) (x:lV s.heap d es ep) (ge:es.size<=i)
  (hQ:∀h',V6 it s.heap h'->Q Wy { s with heap:=h' }):wpAny (model prog w) A (pyNext (.ref it)) Q E s:=by
 obtain⟨p,p1,p2,p3⟩:=id hi
 obtain⟨q,a,_,c⟩:=id x
 have own:Qq.Dict_items.ownsTuple "dict_keyiterator" = false:=by decide
 refine gV (R7 (QD hi.typeIs Q8 (Qw Q8 hi.typeIs F.entry_dict_keyiterator_next ?_ (F.args_dict_keyiterator_next_1 _))))
 refine gV (Pl (gV (gV ?_)))
 refine gV (Rr hi.typeIs (Pl (gV (Vz p1 p3 ?_))))
 simp only[if_false];show wpAny _ _ (if (Qa d == QL)=Wz then _ else _) _ _ s
 rw[if_neg (show ¬ ((Qa d == QL)=Wz) from Qd)];refine gV (Pl (gV (UT a c ?_)))
 rw[if_neg {..}];refine gV (Pl (gV (Vn a c ?_)));rw[if_neg {..}];refine Pl ?_
 simp only[TJ,Sd ge];refine gV ?_
 refine gV (Rr hi.typeIs (Pl ?_))
 show wpAny _ _ (setField (.ref it) 0 .none >>= _) _ _ s;refine gV (Sb p1 p3 {..} ?_)
 show wpAny _ _ (newExc (.type "StopIteration") [] >>= _) _ _ _;refine gV ?_
 refine gV (Qn (gV (m:=firstArgMember _ _) (U2 (a:=QL) (by rfl) (Qn ?_ (by size_fits)))) (by size_fits))
 simp only[raiseNew];refine gV (VN ?_);rw[show A.in1.handled=Wy from hh]
 refine gV (Pl (V7 ?_));refine gV (U9 (T:="StopIteration") (b:=Wz) ⟨_,Pu _ rfl,rfl⟩ isSubtype_stop ?_)
 exact Pl (hQ _ (((Rm ..).extBut.push _).push _))
def Ab (hh:A.handled=Wy) (I) (ne:d≠I):Wr prog w A I [I,d] [I] es.size (fun j v=>∃e,es[j]?=Wx e/\v=e.key) (fun j h=>h.IsKeyIter I d j es.size ep/\lV h d es ep) where
 sub:=fun b hb=>by simp_all
 frame:=fun _ _ _ st hk=>⟨st.1.at fun o e=>hk I {..} o e,st.2.keep fun o e=>hk d {..} o e⟩
 item:=fun j s Q E hj st hQ=>C6 st.1 st.2 hj fun h' a b=>hQ _ h' s.toks ⟨_,QZ hj,rfl⟩ ⟨a,st.2.keep fun o e=>b.extBut d o ne e⟩ fun c o hc e=>b.extBut c o (fun z=>hc (by simp[z])) e
 done:=fun s Q E st hQ=>Fm hh st.1 st.2 (Pt _) fun h' a=>hQ h' s.toks fun c o hc e=>a c o (fun z=>hc (by simp[z])) e
 self:=fun _ _ _ _ st hQ=>wpAny_pyIter_keyiter st.1 hQ
def Ew (lo:(d == sysModules)=WA):UG prog w "dict" d d es.size (fun j v=>∃e,es[j]?=Wx e/\v=e.key) (fun h=>lV h d es ep) where
 type:=fun _ x=>x.typeIs
 there:=fun _ x=>⟨x.lt,x.lt⟩
 keep:=fun _ _ x k=>x.keep fun o e=>k d (.inl rfl) o e
 notList:=by decide
 notTuple:=by decide
 hint:=fun _ _ _ _ x hq=>PySem.W.kdl_hint_dict x.typeIs hq
 iter:=fun _ _ hh x=>⟨_,_,(fun _ _ hq=>Cv lo x hq),Ab hh _ (PU x.lt),⟨⟨_,Pu _ rfl,rfl,rfl⟩,x.keep fun o e=>Pn _ e⟩⟩
end
def iH (hc:X.calm=Wz):aV X (.type "list") (fun xs H Q=>∃p kvs,xs=[.ref p]/\H p=Wx (.dT kvs)/\∀l bs,H l=Wy->Paired (fun(kv:List Key × V) b=>H b=Wx (.tup (kv.1.map kV))) kvs bs->Q (.ref l) (upd H l (.lst (bs.map V.ref)))):=by
 intro pins s σ H xs us Q I r h
 obtain⟨p,kvs,rfl,hp,q⟩:=h
 obtain⟨u,rfl,rx⟩:=vals1 r
 cases rx
 obtain⟨z,lo,ws,rel,ob,es,ep,h1,h2,h3,h4,h5⟩:=I.hok p _ hp
 have sz:es.size=ws.length:=by rw[<- PF,h4,PR]
 have zz:=rel.length
 refine PySem.W.kdl_call (Ew lo) (I.ok.hd hc) ⟨ob,h1,h2,h3⟩ (by omega) fun h' tk acc c kp e hi=>?_
 have pb:Paired (fun(kv:List Key × V) b=>H b=Wx (.tup (kv.1.map kV))) kvs (ws.map fun x=>x.2.1):=by
  clear hi h5 h4 zz sz z q hp
  induction rel with
  | nil=>exact .nil
  | cons a _ ih=>exact .cons a.2.1 ih
 refine⟨.ref s.heap.objs.size,_,I.laid kp (Pt _) (show a_ X.prog X.w _ h' _ (.lst _) from⟨?_,acc.toList,c,?_,by omega⟩),rfl,q _ _ (I.hok.fresh (Pt _)) pb⟩
 ·simp_all
 ·refine FE.tU _ _ (by rw[PF,hi.1,PR,PR,sz]) fun j u hj=>?_
  obtain⟨en,e1,e2⟩:=hi.2 j u (by simp_all)
  rw[<- PH,h4,P5] at e1
  cases ej:ws[j]? with
  | none=>simp_all
  | some y=>
   rw[ej] at e1
   cases e1
   refine⟨.ref y.2.1,by simp_all,?_⟩
   rw[e2];rfl
end L2
namespace L2.FE
open PySem PySem.Spec PyProof.Rows
abbrev unK:Key->D
 | .inl i=>.int i
 | .inr x=>.str x
abbrev tupK (k:List Key):D:=.tup (k.map unK)
abbrev gT (nl:NL):List D->Hh->R D:=fun ds h=>match ds with
 | [.ref n]=>match cF h n with
  | some kvs=>nl (kvs.map fun kv=>tupK kv.1) h
  | none=>.bad
 | _=>.bad
def rS {K:Pk}{g:GG}{α:List PN}{H:Hp}:∀k:List Key,ao K g α H (k.map unK) (k.map kV)
 | []=>.nil
 | .inl i::r=>.cons (.int i) (rS r)
 | .inr x::r=>.cons (.str x) (rS r)
def BG {K:Pk}{g:GG}{α:List PN}{H:Hp}{kvs:List (List Key × D)}{kws:List (List Key × V)}{bs:List PN} (h:PDT K g α H kvs kws) (k:Paired (fun(kv:List Key × V) b=>H b=Wx (.tup (kv.1.map kV))) kws bs):ao K g α H (kvs.map fun kv=>tupK kv.1) (bs.map V.ref):=by
 induction h generalizing bs with
 | nil=>cases k;exact .nil
 | cons c r ih=>
  cases k with | cons a t=>
  exact .cons (.tup a (by rw[c.1];exact rS _)) (ih t)
def tE {K:Pk}{g:GG}{ε:EE}{nl:NL} [iD nl]:j7 K g ε (gT nl) (fun xs H Q=>∃p kvs,xs=[.ref p]/\H p=Wx (.dT kvs)/\∀l bs,H l=Wy->Paired (fun(kv:List Key × V) b=>H b=Wx (.tup (kv.1.map kV))) kvs bs->gA Q (.ref l) (upd H l (.lst (bs.map V.ref)))):=by
 intro α H h a x Q r ra w
 obtain⟨d,v,rfl,rfl,rd⟩:=kB (fun d _ _ _=>by cases d<;>rfl) (fun _=>rfl) ra w
 unfold gT at w
 cases rd with
 | @ref n p hp=>
  simp only at w
  cases e:cF h n with
  | none=>rw[e] at w;exact w.elim
  | some kvs=>
   rw[e] at w
   obtain⟨kws,hd,rs⟩:=r.dit e hp
   exact⟨p,kws,rfl,hd,fun l bs hl pb=>NL.post w r (BG rs pb) hl⟩
 | _=>exact w.elim
abbrev qT:D->D->D->Hh->R D:=fun o i x h=>match o,lR i with
 | .ref n,Wx k=>match cF h n with
  | some kvs=>.ok ((rm kvs k).getD x) h
  | none=>.bad
 | _,_=>.bad
abbrev n9 (mo mi mx:ME):ME:=fun env h=>(mo env h).bind fun o h1=>match o with
 | .ref n=>match cF h1 n with
  | some _=>(mi env h1).bind fun i h2=>(mx env h2).bind fun x h3=>qT o i x h3
  | none=>.bad
 | _=>.bad
section
variable {X:Cx}{g:GG}{ε:EE}{o e f:Rb}{mo me mf:ME}{apos cpos:Pos}
def DI (hu:X.A.units+1<cLine) (ho:PE X o (tM X.K g ε mo)) (he:PE X e (tM X.K g ε me)) (hf:PE X f (tM X.K g ε mf)) (m:M2 X o "get" apos e f cpos):PE X (.Call (.Attribute o "get" apos) [e,f] [] cpos) (tM X.K g ε (n9 mo me mf)):=
 PE.imp (DG hu ho he hf m) fun σ H Q ⟨α,env,h,s,w⟩=>tM.use s w.bind fun d1 h1 v1 H1 α1 e1 s1 r1 w1=>by
  cases r1 with
  | @ref n p hp=>
   simp only at w1
   cases ed:cF h1 n with
   | none=>rw[ed] at w1;exact w1.elim
   | some kvs0=>
    rw[ed] at w1
    obtain⟨kws0,hd0,_⟩:=s1.heap.dit ed hp
    refine⟨p,rfl,.inr ⟨kws0,.inl hd0⟩,?_⟩
    refine tM.use s1 (w1.ext e1).bind fun d2 h2 v2 H2 α2 e2 s2 r2 w2=>tM.use s2 (w2.ext e2).bind fun d3 h3 v3 H3 α3 e3 s3 r3 w3=>?_
    unfold qT at w3
    cases ek:lR d2 with
    | none=>rw[ek] at w3;exact w3.elim
    | some k=>
     rw[ek] at w3
     simp only at w3
     cases ed3:cF h3 n with
     | none=>rw[ed3] at w3;exact w3.elim
     | some kvs=>
      rw[ed3] at w3
      have hp3:=(e2.trans e3).toEx0.get hp
      obtain⟨kws,hd,rs⟩:=s3.heap.dit ed3 hp3
      obtain⟨b',rfl,eb⟩:=sH (r2.ext e3) ek
      refine⟨ju kws k,rT.t hd eb,?_⟩
      have pp:=aA.ext (e1.trans (e2.trans e3)) (show aA X.K g α H Q _ h3 from w3)
      rcases rs.val k with⟨ev,ew⟩ | ⟨d,v,ev,ew,rv⟩
      ·rw[ev] at pp;rw[ew];exact aA.now pp s3.heap r3
      ·rw[ev] at pp;rw[ew];exact aA.now pp s3.heap rv
  | _=>exact w1.elim
end
end L2.FE
namespace L2
open PySem PySem.Spec PyProof.Rows
def Hm {X:Cx}{pins:List (PN × Obj)}{σ:St}{H:Hp}{s:Pr}{a b:PN}{k:List Key}{v:V}{r:Pp}{A:P9}{E:Pp->Pr->Prop}{Q:Unit->Pr->Prop} (hu:A.units<cLine) (I:Inv X pins σ H s) (e:H a=Wx (.dT [])) (eb:H b=Wx (.tup (k.map kV))) (rv:RelV v r) (h:∀s',Inv X pins σ (upd H a (.dT [(k,v)])) s'->Q () s') :
  wpAny (model X.prog X.w) A (dictSet a (.ref b) r) Q E s:=by
 obtain⟨z,hd,xs,rel,dd⟩:=Gk I.hok e
 cases rel
 refine wpAny_dictSet_heap (hsz:=QJ _) hu (mO I.hok eb) dd fun h' dd' hs=>h _ ?_
 obtain⟨q,es,ep,hq,h2,h3,h4,_,h5⟩:=dd'
 refine rG I (by rw[e];exact RP) hs ⟨q,hq⟩ ⟨by simp[QN],hd,[(k,b,r)],.cons ⟨rfl,?_,rv⟩ .nil,q,es,ep,hq,h2,h3,h4,h5⟩
 rw[aw (GN eb e (fun z=>nomatch z))]
 exact eb
abbrev Jx (tk tv:TE):TE:=fun σ H Q=>∀p,H p=Wy->tk σ (upd H p (.dT [])) fun x H1=>tv σ H1 fun y H2=>∃b k,x=.ref b/\H2 b=Wx (.tup (k.map kV))/\H2 p=Wx (.dT [])/\Q (.ref p) (upd H2 p (.dT [(k,y)]))
def BF {X:Cx}{ek ev:Rb}{pos:Pos}{tk tv:TE} (hu:X.A.units<cLine) (hk:PE X ek tk) (hv:PE X ev tv):PE X (.Dict [Wx ek] [ev] pos) (Jx tk tv):=by
 intro pins s σ H Q I q
 have hn:=I.hok.fresh (Pt s.heap.objs.size)
 have I1:=I.laid (h':=s.heap.push { cls:=.type "dict", data:=.dict #[] }) (t':=s.toks) (fun _ _ q=>Pn _ q) (Pt _) (tK s.heap I.big)
 rw[arm_eval_Dict,zip_pairTrees [Wx ek] [ev] X.env pos rfl rfl,dictDisplay_pairs (pairTrees [Wx ek] [ev] X.env pos) (by simp[pairTrees]) (by simp[pairTrees])]
 refine gV (QR (gV ?_))
 refine gV (wpAny_alloc (gV (P6 ?_)))
 refine gV (pairTrees_cons_walk (thn (hk pins _ σ _ _ I1 (q _ hn)) fun u s1 ⟨x,H1,J1,rx,q1⟩=>thn (hv pins s1 σ H1 _ J1 q1) fun w2 s2 ⟨y,H2,J2,ry,b,k,ex,eb,ep,q2⟩=>pairTrees_nil_walk ?_))
 subst ex
 cases rx
 refine P6 ?_
 refine gV (gV (gV (Hm hu J2 ep eb ry fun s3 J3=>?_)))
 repeat (refine Pl ?_)
 exact⟨.ref s.heap.objs.size,_,J3,rfl,q2⟩
end L2
namespace L2.FE
open PySem PySem.Spec PyProof.Rows
def un0 {A:P9} (h:A.units+64<cLine):A.units<cLine:={}
abbrev qZ (mk mv:ME):ME:=fun env h=>(mk env (h++[.dit []])).bind fun i h1=>(mv env h1).bind fun v h2=>match lR i,cF h2 h.length with
 | some k,Wx []=>.ok (.ref h.length) (h2.set h.length (.dit [(k,v)]))
 | _,_=>.bad
def Cf {X:Cx}{g:GG}{ε:EE}{ek ev:Rb}{pos:Pos}{mk mv:ME} (hu:X.A.units<cLine) (hk:PE X ek (tM X.K g ε mk)) (hv:PE X ev (tM X.K g ε mv)):PE X (.Dict [Wx ek] [ev] pos) (tM X.K g ε (qZ mk mv)):=
 PE.imp (BF hu hk hv) fun σ H Q ⟨α,env,h,s,w⟩ p hp=>by
  have x:=Ext.push (K:=X.K) (α:=α) (o:=.dT []) hp
  have hr:aK X.K g (α++[p]) (upd H p (.dT [])) (h++[.dit []]):=s.heap.push hp ⟨[],aL,.nil⟩
  have s0:=s.ext x hr
  have ap:(α++[p])[h.length]?=Wx p:=by rw[<- s.heap.len];simp
  refine tM.use s0 (w.ext x).bind fun d1 h1 v1 H1 α1 e1 s1 r1 w1=>tM.use s1 (w1.ext e1).bind fun d2 h2 v2 H2 α2 e2 s2 r2 w2=>?_
  cases ek:lR d1 with
  | none=>rw[ek] at w2;exact w2.elim
  | some k=>
   cases ed:cF h2 h.length with
   | none=>rw[ek,ed] at w2;exact w2.elim
   | some kvs=>
    cases kvs with
    | cons _ _=>rw[ek,ed] at w2;exact w2.elim
    | nil=>
     rw[ek,ed] at w2
     have ap2:=(e1.trans e2).toEx0.get ap
     obtain⟨kws,hd,rs⟩:=s2.heap.dit ed ap2
     cases rs
     obtain⟨b',rfl,eb⟩:=sH (r1.ext e2) ek
     refine⟨b',k,rfl,eb,hd,?_⟩
     have xw:=Ext.write (o:=.dT [(k,v2)]) s2.heap ap2
     have xx:=x.trans (e1.trans e2)
     exact(show aA X.K g α H Q _ _ from w2) _ _ α2 (xx.trans xw) (s2.heap.write ap2 ⟨_,aL,.cons ⟨rfl,r2.ext xw⟩ .nil⟩) (.ref ap2)
end L2.FE
namespace L2.SM
open PySem PySem.W PyProof.Rows
abbrev qE:Bool->Keyed->Array Keyed->Nat->Nat->Nat->StateT SortSt Sem (Option Nat):=sortPriv% PySem.Builtin.gallop
abbrev AZ:Array Keyed->Array Keyed->StateT SortSt Sem (Array Keyed):=sortPriv% PySem.Builtin.mergeLo
abbrev AI:Array Keyed->Array Keyed->StateT SortSt Sem (Array Keyed):=sortPriv% PySem.Builtin.mergeHi
section
variable {prog:PJ}{w:Qc}{A:P9}{E:Pp->Pr->Prop}{s:Pr}
abbrev Gv (prog:PJ) (w:Qc) (A:P9) (E:Pp->Pr->Prop) (s:Pr){α:Type} (m:StateT PQ Sem α) (st:PQ) (Q:α->PQ->Prop):Prop:=
 kasC (model prog w) A E m (fun a st' s'=>s'=s/\Q a st') st s
def Gv.pure {Q:α->PQ->Prop}{st:PQ} (h:Q a st):Gv prog w A E s (Pure.pure a:StateT PQ Sem α) st Q:=kasC_pure ⟨rfl,h⟩
def Gv.bind {f:α->StateT PQ Sem β}{st:PQ} (h:Gv prog w A E s m st fun a st'=>Gv prog w A E s (f a) st' Q):Gv prog w A E s (m >>= f) st Q:=by
 refine kasC_bind (P4 h (fun r s' h'=>?_) fun _ _ e=>e)
 obtain⟨e,h'⟩:=h'
 subst e
 exact h'
def Gv.mono {st:PQ} (h:Gv prog w A E s m st Q) (q:∀a st',Q a st'->Q' a st'):Gv prog w A E s m st Q':=P4 h (fun r s' h'=>⟨h'.1,q _ _ h'.2⟩) fun _ _ e=>e
def Gv.get {st:PQ} (h:Q st st):Gv prog w A E s (MonadState.get:StateT PQ Sem PQ) st Q:=kasC_get ⟨rfl,h⟩
def Gv.set {st st':PQ} (h:Q ⟨⟩ st'):Gv prog w A E s (MonadState.set st':StateT PQ Sem PUnit) st Q:=by
 exact Pl ⟨rfl,h⟩
def Gv.modify {st:PQ} (h:Q ⟨⟩ (f st)):Gv prog w A E s (_root_.modify f:StateT PQ Sem PUnit) st Q:=kasC_modify ⟨rfl,h⟩
def Gv.lift {Q:α->PQ->Prop}{st:PQ} (h:wpAny (model prog w) A m (fun a s'=>s'=s/\Q a st) E s):Gv prog w A E s (liftM m:StateT PQ Sem α) st Q:=kasC_lift h
def Gv.rule {id:String}{st:PQ} (h:Q () st):Gv prog w A E s (liftM (PySem.rule id):StateT PQ Sem Unit) st Q:=Gv.lift (Vr ⟨rfl,h⟩)
def yh {β:Type}{f:Nat->β->StateT PQ Sem (ForInStep β)} (I:Nat->β->PQ->Prop) (D:β->PQ->Prop)
  (step:∀x n b st,I (n+1) b st->Gv prog w A E s (f x b) st fun r st'=>match r with | .done b'=>D b' st' | .yield b'=>I n b' st')
  (fin:∀b st,I 0 b st->D b st):∀(l:List Nat) (b:β) (st:PQ),I l.length b st->Gv prog w A E s (forIn l b f) st D
 | [],b,st,h=>kasC_nil ⟨rfl,fin b st h⟩
 | x::l,b,st,h=>by
  have ih:=yh I D step fin l
  refine kasC_cons (P4 (step x l.length b st h) (fun r s' h'=>?_) fun _ _ e=>e)
  obtain⟨e,h'⟩:=h'
  subst e
  revert h'
  cases r.1 with
  | done b'=>simp
  | yield b'=>intro h';exact ih b' r.2 h'
def Gv.range {st:PQ} (I:Nat->β->PQ->Prop) (h0:I (b - a) c st)
  (step:∀x n b st,I (n+1) b st->Gv prog w A E s (f x b) st fun r st'=>match r with | .done b'=>Q b' st' | .yield b'=>I n b' st')
  (fin:∀b st,I 0 b st->Q b st):Gv prog w A E s (forIn [a:b] c f) st Q:=
 kasC_range (yh I Q step fin _ _ _ (by simp_all))
def Gv.elem {st:PQ} (e:arr[i]?=Wx x) (h:Q x st):Gv prog w A E s (elem' arr i) st Q:=by
 rw[elem'_eq,e];exact Gv.pure h
def Gv.lt {st:PQ} (hc:∀C:Bool->Pr->Prop,C c s->wpAny (model prog w) A (keyLt' (kindOf st) x.1 y.1) C (fun _ _=>False) s) (h:Q (Wx c) st):Gv prog w A E s (lt' x y) st Q:=by
 refine Gv.bind (Gv.get ?_)
 refine Gv.bind (Gv.lift (R7 (P4 (hc (fun c' s'=>c'=c/\s'=s) ⟨rfl,rfl⟩) (fun c' s' hc'=>?_) fun _ _ hF=>hF.elim)))
 obtain⟨rfl,rfl⟩:=hc'
 exact⟨rfl,Gv.pure h⟩
end
section
variable {prog:PJ}{w:Qc}{A:P9}{E:Pp->Pr->Prop}{s:Pr}{κ:Sz}{P:Ql->Prop}{kk:Ql->Int}
abbrev Cmp (prog:PJ) (w:Qc) (A:P9) (s:Pr) (κ:Sz) (P:Ql->Prop) (kk:Ql->Int):Prop:=∀x y,P x->P y->∀C:Bool->Pr->Prop,C (decide (kk x<kk y)) s->wpAny (model prog w) A (keyLt' κ x.1 y.1) C (fun _ _=>False) s
def Gv.ltC {st:PQ} (c:Cmp prog w A s κ P kk) (hx:P x) (hy:P y) (hk:kindOf st=κ) (h:Q (Wx (decide (kk x<kk y))) st):Gv prog w A E s (lt' x y) st Q:=by
 subst hk
 exact Gv.lt (c x y hx hy) h
abbrev kAt (kk:Ql->Int) (a:Array Ql) (i:Nat):Int:=((a[i]?).map kk).getD 0
def B_ {a:Array Ql}{i:Nat}{x:Ql} (e:a[i]?=Wx x):kAt kk a i=kk x:=by unfold kAt;rw[e];rfl
abbrev bey (kk:Ql->Int) (left:Bool) (key:Ql) (arr:Array Ql) (base i:Nat):Bool:=if left then decide (kAt kk arr (base+i)<kk key) else !decide (kk key<kAt kk arr (base+i))
def G4 {st:PQ} (c:Cmp prog w A s κ P kk) (ha:∀x∈arr,P x) (hy:P key) (hk:kindOf st=κ) (hi:base+i<arr.size)
  (h:Q (Wx (bey kk left key arr base i)) st):Gv prog w A E s (do
   let x ← elem' arr (base+i)
   if left=Wz then lt' x key else do
    let r ← lt' key x
    pure (r.map (!·))) st Q:=by
 have e:arr[base+i]?=Wx arr[base+i]:=by simp[hi]
 have hp:=ha _ (Qf hi)
 have hv:=B_ (kk:=kk) e
 unfold bey at h
 rw[hv] at h
 refine Gv.bind (Gv.elem e ?_)
 cases left with
 | true=>exact Gv.ltC c hp hy hk h
 | false=>exact Gv.bind (Gv.ltC c hy hp hk (Gv.pure h))
def eP {c:Prop} [Decidable c]{x y:StateT PQ Sem α}{st:PQ}{Q:α->PQ->Prop} (h1:c->Gv prog w A E s x st Q) (h2:¬ c->Gv prog w A E s y st Q):Gv prog w A E s (if c then x else y) st Q:=by
 split
 ·exact h1 (by assumption)
 ·exact h2 (by assumption)
def Gv.lp6 {t1 t2 t3 t4 t5 t6 β α:Type}{enc:t1->t2->t3->t4->t5->t6->β}{dec:Array Ql->t1->t2->t3->t4->t5->t6->β}{f:Nat->β->StateT PQ Sem (ForInStep β)}{K:β->StateT PQ Sem α}{st:PQ}{lo hi:Nat}{x1 x2 x3 x4 x5 x6}{Q:α->PQ->Prop} (J:Nat->t1->t2->t3->t4->t5->t6->PQ->Prop) (DP:Array Ql->PQ->Prop) (CP:t1->t2->t3->t4->t5->t6->PQ->Prop) (h0:J (hi - lo) x1 x2 x3 x4 x5 x6 st)
  (step:∀F,F=f->∀i n (Q':ForInStep β->PQ->Prop),(∀r y1 y2 y3 y4 y5 y6 st,DP r st->Q' (.done (dec r y1 y2 y3 y4 y5 y6)) st)->(∀y1 y2 y3 y4 y5 y6 st,CP y1 y2 y3 y4 y5 y6 st->Q' (.done (enc y1 y2 y3 y4 y5 y6)) st)->(∀y1 y2 y3 y4 y5 y6 st,J n y1 y2 y3 y4 y5 y6 st->Q' (.yield (enc y1 y2 y3 y4 y5 y6)) st)->∀x1 x2 x3 x4 x5 x6 st,J (n+1) x1 x2 x3 x4 x5 x6 st->Gv prog w A E s (F i (enc x1 x2 x3 x4 x5 x6)) st Q')
  (fin:∀x1 x2 x3 x4 x5 x6 st,J 0 x1 x2 x3 x4 x5 x6 st->CP x1 x2 x3 x4 x5 x6 st) (hd:∀r y1 y2 y3 y4 y5 y6 st,DP r st->Gv prog w A E s (K (dec r y1 y2 y3 y4 y5 y6)) st Q) (hc:∀y1 y2 y3 y4 y5 y6 st,CP y1 y2 y3 y4 y5 y6 st->Gv prog w A E s (K (enc y1 y2 y3 y4 y5 y6)) st Q):Gv prog w A E s (forIn [lo:hi] (enc x1 x2 x3 x4 x5 x6) f >>= K) st Q:=by
 refine Gv.bind (Gv.mono (Q:=fun z st'=>(∃r y1 y2 y3 y4 y5 y6,z=dec r y1 y2 y3 y4 y5 y6/\DP r st')\/(∃y1 y2 y3 y4 y5 y6,z=enc y1 y2 y3 y4 y5 y6/\CP y1 y2 y3 y4 y5 y6 st')) (Gv.range (fun n z st'=>∃y1 y2 y3 y4 y5 y6,z=enc y1 y2 y3 y4 y5 y6/\J n y1 y2 y3 y4 y5 y6 st') ⟨_,_,_,_,_,_,rfl,h0⟩ (fun i n z st' hz=>?_) (fun z st' hz=>?_)) (fun z st' hz=>?_))
 ·obtain⟨y1,y2,y3,y4,y5,y6,rfl,hz⟩:=hz
  exact step f rfl i n _ (fun r y1 y2 y3 y4 y5 y6 st h=>.inl ⟨r,y1,y2,y3,y4,y5,y6,rfl,h⟩) (fun y1 y2 y3 y4 y5 y6 st h=>.inr ⟨y1,y2,y3,y4,y5,y6,rfl,h⟩) (fun y1 y2 y3 y4 y5 y6 st h=>⟨y1,y2,y3,y4,y5,y6,rfl,h⟩) y1 y2 y3 y4 y5 y6 st' hz
 ·obtain⟨y1,y2,y3,y4,y5,y6,rfl,hz⟩:=hz
  exact .inr ⟨_,_,_,_,_,_,rfl,fin y1 y2 y3 y4 y5 y6 st' hz⟩
 ·rcases hz with⟨r,y1,y2,y3,y4,y5,y6,rfl,hz⟩ | ⟨y1,y2,y3,y4,y5,y6,rfl,hz⟩
  ·exact hd r y1 y2 y3 y4 y5 y6 st' hz
  ·exact hc y1 y2 y3 y4 y5 y6 st' hz
def K7 {x y:StateT PQ Sem α}{st:PQ}{Q:α->PQ->Prop} (h:Gv prog w A E s x st Q):Gv prog w A E s (if Wz=Wz then x else y) st Q:=by rw[if_pos rfl];exact h
def Ki {x y:StateT PQ Sem α}{st:PQ}{Q:α->PQ->Prop} (h:Gv prog w A E s y st Q):Gv prog w A E s (if WA=Wz then x else y) st Q:=by rw[if_neg (by decide)];exact h
def qe {st:PQ} (c:Cmp prog w A s κ P kk) (ha:∀x∈arr,P x) (hy:P key) (hk:kindOf st=κ) (hn:base+n<=arr.size) (hh:hint<n)
  (mo:∀i j,i<=j->j<n->bey kk left key arr base j=Wz->bey kk left key arr base i=Wz)
  (h:∀k,k<=n->(∀i,i<k->bey kk left key arr base i=Wz)->(∀i,k<=i->i<n->bey kk left key arr base i=WA)->Q (Wx k) st):Gv prog w A E s (qE left key arr base n hint) st Q:=by
 have B:∀{i:Nat} {Q:Option Bool->PQ->Prop},i<n->Q (Wx (bey kk left key arr base i)) st->Gv prog w A E s (do
   let x ← elem' arr (base+i)
   if left=Wz then lt' x key else do
    let r ← lt' key x
    pure (r.map (!·))) st Q:=fun{i Q} hi h=>G4 c ha hy hk {} h
 have mo':∀i j,i<=j->j<n->bey kk left key arr base i=WA->bey kk left key arr base j=false:=fun i j hij hj e=>Bool.eq_false_iff.mpr fun z=>by rw[mo i j hij hj z] at e;cases e
 generalize bey kk left key arr base=b at *
 -- the last loop
 have L3:∀lo hi,lo<=hi->hi<=n->(∀i,i<lo->b i=Wz)->(∀i,hi<=i->i<n->b i=WA)->∀{f:Nat->Option (Option Nat) × Nat × Nat->StateT PQ Sem (ForInStep (Option (Option Nat) × Nat × Nat))} {R:Option (Option Nat) × Nat × Nat->PQ->Prop},
   (∀x lo hi R,lo ≥ hi->R (.done (Wy,lo,hi)) st->Gv prog w A E s (f x (Wy,lo,hi)) st R) →
   (∀x lo hi R,lo<hi->hi<=n->R (if b (lo+(hi - lo) / 2)=Wz then .yield (Wy,lo+(hi - lo) / 2+1,hi) else .yield (Wy,lo,lo+(hi - lo) / 2)) st->Gv prog w A E s (f x (Wy,lo,hi)) st R) →
   (∀k lo,k<=n->(∀i,i<k->b i=Wz)->(∀i,k<=i->i<n->b i=WA)->R (Wy,lo,k) st) →
   Gv prog w A E s (forIn [:n] (Wy,lo,hi) f) st R:=by
  intro lo hi h1 h2 h3 h4 f R f1 f2 hR
  refine Gv.range (fun m z st'=>st'=st/\∃lo hi,z=(Wy,lo,hi)/\lo<=hi/\hi<=n/\hi - lo<=m/\(∀i,i<lo->b i=Wz)/\(∀i,hi<=i->i<n->b i=WA)) ⟨rfl,lo,hi,rfl,h1,h2,{},h3,h4⟩ (fun x m z st' hz=>?_) (fun z st' hz=>?_)
  ·obtain⟨rfl,lo,hi,rfl,g1,g2,g3,g4,g5⟩:=hz
   by_cases hl:lo ≥ hi
   ·refine f1 x lo hi _ hl ?_
    have:lo=hi:={}
    subst this
    exact hR lo lo g2 g4 g5
   ·have hd:(hi - lo) / 2<hi - lo:=Nat.div_lt_self {} (by decide)
    refine f2 x lo hi _ {} g2 ?_
    clear f1 f2 hR h1 h2 h3 h4
    generalize (hi - lo) / 2=d at *
    cases e:b (lo+d) with
    | true=>
     rw[if_pos rfl]
     exact⟨rfl,_,_,rfl,{},g2,{},fun i hi'=>mo i _ {} {} e,g5⟩
    | false=>
     rw[if_neg (by decide)]
     exact⟨rfl,_,_,rfl,{},{},{},g4,fun i hi' hn'=>mo' _ i hi' hn' e⟩
  ·obtain⟨rfl,lo,hi,rfl,g1,g2,g3,g4,g5⟩:=hz
   have:lo=hi:={}
   subst this
   exact hR lo lo g2 g4 g5
 with_unfolding_all refine Gv.bind ?_
 refine B hh ?_
 dsimp only
 refine eP (fun e0=>?_) (fun e0=>?_)
 ·refine Gv.lp6 (enc:=fun la ofs (_ _ _ _:Unit)=>(Wy,la,ofs)) (dec:=fun _ la ofs _ _ _ _=>(Wy,la,ofs)) (x1:=0) (x2:=1) (x3:=()) (x4:=()) (x5:=()) (x6:=()) (fun m la ofs _ _ _ _ st'=>st'=st/\la<ofs/\n+1<=ofs+m/\hint+la<n/\b (hint+la)=Wz) (fun _ _=>False) (fun la ofs _ _ _ _ st'=>st'=st/\la<ofs/\hint+la<n/\b (hint+la)=Wz/\(n - hint<=ofs\/(ofs<n - hint/\b (hint+ofs)=WA))) ⟨rfl,{},{},{},e0⟩ (fun F hF x m Q1 _ qc qy la ofs _ _ _ _ st' hz=>?_) (fun la ofs _ _ _ _ st' hz=>⟨hz.1,hz.2.1,hz.2.2.2.1,hz.2.2.2.2,.inl (by have:=hz.2.2.1;lia)⟩) (fun _ _ _ _ _ _ _ _ hz=>hz.elim) (fun la ofs _ _ _ _ st' hz=>?_)
  ·have g1:=hz.2.1
   have g2:=hz.2.2.1
   have g3:=hz.2.2.2.1
   have g4:=hz.2.2.2.2
   rw[hz.1]
   clear hz
   subst hF
   dsimp only
   refine eP (fun hl=>Gv.pure (qc la ofs () () () () _ ⟨rfl,g1,g3,g4,.inl hl⟩)) (fun hl=>?_)
   refine Gv.bind (B {} ?_)
   dsimp only
   exact eP (fun e=>Gv.pure (qc la ofs () () () () _ ⟨rfl,g1,g3,g4,.inr ⟨{},by simpa using e⟩⟩)) (fun e=>Gv.pure (qy ofs (2*ofs+1) () () () () _ ⟨rfl,{},{},{},by simpa using e⟩))
  ·have g1:=hz.2.1
   have g3:=hz.2.2.1
   have g4:=hz.2.2.2.1
   have g5:=hz.2.2.2.2
   rw[hz.1]
   clear hz
   dsimp only
   have q1:=Nat.le_min.mpr ⟨g1,(by lia:la+1<=n - hint)⟩
   have q2:=Nat.min_le_right ofs (n - hint)
   refine Gv.bind (L3 (hint+la+1) (hint+min ofs (n - hint)) (by clear g5 h;lia) (by clear g5 h;lia) (fun i hi=>mo i (hint+la) (by clear g5 h q1 q2;lia) g3 g4) (fun i h1 h2=>?_) (fun x lo hi R hl hR=>?_) (fun x lo hi R hl hn' hR=>?_) fun k lo g1 g2 g3=>Gv.pure (h k g1 g2 g3))
   ·rcases g5 with g | ⟨g,g'⟩
    ·rw[Nat.min_eq_right g] at h1;clear q1 q2;lia
    ·rw[Vo (Sk g)] at h1;exact mo' _ i h1 h2 g'
   ·dsimp only
    exact eP (fun _=>Gv.pure hR) (fun z=>absurd hl z)
   ·dsimp only
    refine eP (fun z=>absurd z {}) (fun _=>Gv.bind (B {} ?_))
    dsimp only
    exact eP (fun e=>by rw[if_pos e] at hR;exact Gv.pure hR) (fun e=>by rw[if_neg e] at hR;exact Gv.pure hR)
 ·have e0:b hint=false:=by simpa using e0
  refine Gv.lp6 (enc:=fun la ofs (_ _ _ _:Unit)=>(Wy,la,ofs)) (dec:=fun _ la ofs _ _ _ _=>(Wy,la,ofs)) (x1:=0) (x2:=1) (x3:=()) (x4:=()) (x5:=()) (x6:=()) (fun m la ofs _ _ _ _ st'=>st'=st/\la<ofs/\n+1<=ofs+m/\la<=hint/\b (hint - la)=WA) (fun _ _=>False) (fun la ofs _ _ _ _ st'=>st'=st/\la<ofs/\la<=hint/\b (hint - la)=WA/\(hint+1<=ofs\/(ofs<hint+1/\b (hint - ofs)=Wz))) ⟨rfl,{},{},{},e0⟩ (fun F hF x m Q1 _ qc qy la ofs _ _ _ _ st' hz=>?_) (fun la ofs _ _ _ _ st' hz=>⟨hz.1,hz.2.1,hz.2.2.2.1,hz.2.2.2.2,.inl (by have:=hz.2.2.1;lia)⟩) (fun _ _ _ _ _ _ _ _ hz=>hz.elim) (fun la ofs _ _ _ _ st' hz=>?_)
  ·have g1:=hz.2.1
   have g2:=hz.2.2.1
   have g3:=hz.2.2.2.1
   have g4:=hz.2.2.2.2
   rw[hz.1]
   clear hz
   subst hF
   dsimp only
   refine eP (fun hl=>Gv.pure (qc la ofs () () () () _ ⟨rfl,g1,g3,g4,.inl hl⟩)) (fun hl=>?_)
   refine Gv.bind (B {} ?_)
   dsimp only
   exact eP (fun e=>Gv.pure (qc la ofs () () () () _ ⟨rfl,g1,g3,g4,.inr ⟨{},e⟩⟩)) (fun e=>Gv.pure (qy ofs (2*ofs+1) () () () () _ ⟨rfl,{},{},{},by simpa using e⟩))
  ·have g1:=hz.2.1
   have g3:=hz.2.2.1
   have g4:=hz.2.2.2.1
   have g5:=hz.2.2.2.2
   rw[hz.1]
   clear hz
   dsimp only
   have q1:=Nat.le_min.mpr ⟨g1,(by lia:la+1<=hint+1)⟩
   refine Gv.bind (L3 (hint+1 - min ofs (hint+1)) (hint - la) (by clear g5 h;lia) (by clear g5 h q1;lia) (fun i hi=>?_) (fun i h1 h2=>mo' (hint - la) i h1 h2 g4) (fun x lo hi R hl hR=>?_) (fun x lo hi R hl hn' hR=>?_) fun k lo g1 g2 g3=>Gv.pure (h k g1 g2 g3))
   ·rcases g5 with g | ⟨g,g'⟩
    ·rw[Nat.min_eq_right g] at hi;clear q1;lia
    ·rw[Vo (Sk g)] at hi;clear q1;exact mo i (hint - ofs) {} {} g'
   ·dsimp only
    exact eP (fun _=>Gv.pure hR) (fun z=>absurd hl z)
   ·dsimp only
    refine eP (fun z=>absurd z {}) (fun _=>Gv.bind (B {} ?_))
    dsimp only
    exact eP (fun e=>by rw[if_pos e] at hR;exact Gv.pure hR) (fun e=>by rw[if_neg e] at hR;exact Gv.pure hR)
end
section
variable {kk:Ql->Int}{a b out:Array Ql}{ia ib:Nat}
abbrev Srt (kk:Ql->Int) (l:List Ql):Prop:=l.Pairwise fun x y=>kk x<kk y
structure Mg (kk) (a b out:Array Ql) (ia ib):Prop where
 perm:out.toList.Perm (a.toList.take ia++b.toList.take ib)
 srt:Srt kk out.toList
 la:∀x∈out.toList,∀y∈a.toList.drop ia,kk x<kk y
 lb:∀x∈out.toList,∀y∈b.toList.drop ib,kk x<kk y
def Mg.symm (m:Mg kk a b out ia ib):Mg kk b a out ib ia:=⟨m.perm.trans List.perm_append_comm,m.srt,m.lb,m.la⟩
def Mg.zero:Mg kk a b #[] 0 0:=⟨{..},TH,fun x hx=>by grind,fun x hx=>by grind⟩
def AK {l:List Ql}{h:j<l.length} (hij:i<=j):l[j]∈l.drop i:=by
 have e:l[j]=(l.drop i)[j - i]'(by grind):=by simp_all
 grind
def tB (s:Srt kk l) (h):∀y∈l.drop (j+1),kk l[j]<kk y:=by
 have e:=Qm h
 have s2:Srt kk (l.drop j):=U4.sublist (List.drop_sublist _ _) s
 rw[e] at s2
 exact fun y hy=>(Qe.mp s2).1 y hy
def Mg.iM (m:Mg kk a b out ia ib) (sb:Srt kk b.toList) (hi) (hd:∀y∈a.toList.drop ia,kk b[ib]<kk y):Mg kk a b (out.push b[ib]) ia (ib+1):=by
 have hl:ib<b.toList.length:=by omega
 have eb:b.toList[ib]=b[ib]:={..}
 have bm:b[ib]∈b.toList.drop ib:=by rw[<- eb];exact AK (Pt _)
 have es:(out.push b[ib]).toList=out.toList++[b[ib]]:={..}
 refine⟨?_,?_,?_,?_⟩
 ·rw[es,List.take_succ_eq_append_getElem hl,<- Qy]
  exact m.perm.append_right _
 ·rw[es]
  exact Qb.mpr ⟨m.srt,QT _ _,fun x hx y hy=>by rw[P1] at hy;subst hy;exact m.lb x hx _ bm⟩
 ·intro x hx y hy
  rw[es] at hx
  rcases Qr.mp hx with hx | hx
  ·exact m.la x hx y hy
  simp_all
 ·intro x hx y hy
  rw[es] at hx
  rcases Qr.mp hx with hx | hx
  ·exact m.lb x hx y (by rw[<- SR] at hy;grind)
  ·rw[P1] at hx;subst hx
   have:=tB sb hl y hy
   simp_all
def Mg.lA (m:Mg kk a b out ia ib) (sa:Srt kk a.toList) (hi) (hd:∀y∈b.toList.drop ib,kk a[ia]<kk y):Mg kk a b (out.push a[ia]) (ia+1) ib:=(m.symm.iM sa hi hd).symm
def Mg.eS (m:Mg kk a b out ia ib) (sb:Srt kk b.toList):∀(k:Nat),ib+k<=b.size->(∀j,(hj:j<b.size)->ib<=j->j<ib+k->∀y∈a.toList.drop ia,kk b[j]<kk y)->Mg kk a b (out++b.extract ib (ib+k)) ia (ib+k)
 | 0,_,_=>by
  have e:b.extract ib (ib+0) = #[]:=by simp;lia
  rw[e];simpa using m
 | k+1,hk,hd=>by
  have ih:=Mg.eS m sb k {} (fun j hj h1 h2=>hd j hj h1 {})
  have e:out++b.extract ib (ib+(k+1))=(out++b.extract ib (ib+k)).push b[ib+k]:=by
   rw[<- Array.append_push]
   congr 1
   rw[Array.push_extract_getElem {} ]
   congr 1
   lia
  rw[e]
  exact ih.iM sb {} (hd (ib+k) {} {} {})
def Mg.kK (m:Mg kk a b out ia ib) (sa:Srt kk a.toList) (k) (hk:ia+k<=a.size) (hd:∀j,(hj:j<a.size)->ia<=j->j<ia+k->∀y∈b.toList.drop ib,kk a[j]<kk y):Mg kk a b (out++a.extract ia (ia+k)) (ia+k) ib:=(m.symm.eS sa k hk hd).symm
abbrev eY (kk:Ql->Int) (a b r:Array Ql):Prop:=r.toList.Perm (a.toList++b.toList)/\Srt kk r.toList
def Mg.fin (m:Mg kk a b out a.size b.size):eY kk a b out:=⟨by have:=m.perm;rwa [Rj {..},Rj {..}] at this,m.srt⟩
def Mg.kY (m:Mg kk a b out ia b.size) (sa:Srt kk a.toList) (hi:ia<=a.size):eY kk a b (out++a.extract ia a.size++b.extract b.size b.size):=by
 have e:b.extract b.size b.size = #[]:={..}
 rw[e]
 have:=m.kK sa (a.size - ia) {} (fun j hj _ _ y hy=>by rw[Tv {..}] at hy;cases hy)
 rw[show ia+(a.size - ia)=a.size by lia] at this
 exact this.fin
def Mg.jj (m:Mg kk a b out a.size ib) (sb:Srt kk b.toList) (hi:ib<=b.size):eY kk a b (out++a.extract a.size a.size++b.extract ib b.size):=by
 have e:a.extract a.size a.size = #[]:={..}
 rw[e]
 have:=m.eS sb (b.size - ib) {} (fun j hj _ _ y hy=>by rw[Tv {..}] at hy;cases hy)
 rw[show ib+(b.size - ib)=b.size by lia] at this
 exact this.fin
def Mg.last (m:Mg kk a b out ia ib) (sa:Srt kk a.toList) (sb:Srt kk b.toList) (hi:ia+1=a.size) (hb:ib<=b.size) (hd:∀y∈b.toList,kk y<kk a[ia]):eY kk a b (out++b.extract ib b.size++a.extract ia a.size):=by
 have hla:a.toList.drop ia=[a[ia]]:=by
  have hl:ia<a.toList.length:=by simp;lia
  rw[Qm hl]
  have:a.toList.drop (ia+1)=[]:=by rw[List.drop_eq_nil_iff];simp;lia
  rw[this];simp
 have m1:=m.eS sb (b.size - ib) {} (fun j hj _ _ y hy=>by
  rw[hla,P1] at hy;subst hy
  exact hd _ {..})
 rw[show ib+(b.size - ib)=b.size by lia] at m1
 have m2:=m1.kK sa (a.size - ia) {} (fun j hj _ _ y hy=>by rw[Tv {..}] at hy;cases hy)
 rw[show ia+(a.size - ia)=a.size by lia] at m2
 exact m2.fin
def heads (sa:Srt kk a.toList) (hi) (hv:v<kk a[ia]):∀y∈a.toList.drop ia,v<kk y:=by
 have hl:ia<a.toList.length:=by omega
 intro y hy
 rw[Qm hl] at hy
 rcases PL.mp hy with rfl | hy
 ·simp_all
 ·have:=tB sa hl y hy
  grind
def mH (sa:Srt kk a.toList) (hij:i<j) (hj:j<a.size):kk a[i]<kk a[j]:=by
 have:=PZ.mp sa i j (by grind) (by omega) hij
 simp_all
def yI (h):kAt kk a i=kk a[i]:=B_ (by simp[h])
end
section
variable {prog:PJ}{w:Qc}{A:P9}{E:Pp->Pr->Prop}{s:Pr}{κ:Sz}{P:Ql->Prop}{kk:Ql->Int}{α:Type}{st:PQ}{Q:α->PQ->Prop}
def aX [Decidable c]{x y:StateT PQ Sem α} (h1:c->Gv prog w A E s x st Q) (h2:¬ c->Gv prog w A E s y st Q):Gv prog w A E s (if c then x else y) st Q:=by
 grind
structure cJ (st st':PQ):Prop where
 kind:kindOf st'=kindOf st
 arr:arrOf st'=arrOf st
 pend:pendingOf st'=pendingOf st
 fail:failedOf st'=failedOf st
def cJ.refl:cJ st st:=⟨rfl,rfl,rfl,rfl⟩
def cJ.trans (h:cJ a b) (g:cJ b c):cJ a c:=⟨g.1.trans h.1,g.2.trans h.2,g.3.trans h.3,g.4.trans h.4⟩
end
section
variable {prog:PJ}{w:Qc}{A:P9}{E:Pp->Pr->Prop}{s:Pr}{κ:Sz}{P:Ql->Prop}{kk:Ql->Int}
structure Two (P:Ql->Prop) (kk) (a b:Array Ql):Prop where
 pa:∀x∈a,P x
 pb:∀x∈b,P x
 sa:Srt kk a.toList
 sb:Srt kk b.toList
 dj:∀x∈a.toList,∀y∈b.toList,kk x≠kk y
def Two.ne (t:Two P kk a b) (hi:i<a.size) (hj:j<b.size):kk a[i]≠kk b[j]:=t.dj _ {..} _ {..}
def qX {st:PQ} (c:Cmp prog w A s κ P kk) (pa:∀x∈a,P x) (hy:P key) (hk:kindOf st=κ) (hn:i+n<=a.size) (hh:hint<n)
  (sa:∀j m,(hm:m<a.size)->i<=j->(hj:j<m)->m<i+n->kk (a[j]'{})<kk a[m]) (nk:∀j,(hj:j<a.size)->i<=j->j<i+n->kk a[j]≠kk key)
  (h:∀k,k<=n->(∀j,(hj:j<a.size)->i<=j->j<i+k->kk a[j]<kk key)->(∀j,(hj:j<a.size)->i+k<=j->j<i+n->kk key<kk a[j])->Q (Wx k) st):Gv prog w A E s (qE WA key a i n hint) st Q:=by
 have bv:∀m,(hm:i+m<a.size)->m<n->bey kk WA key a i m=decide (kk a[i+m]<kk key):=fun m hm hmn=>by
  unfold bey
  rw[yI hm]
  grind
 refine qe c pa hy hk hn hh (fun m n hmn hn' e=>?_) (fun k hk1 e1 e2=>?_)
 ·rw[bv n {} {},decide_eq_true_eq] at e
  rw[bv m {} {},decide_eq_true_eq]
  rcases Rf hmn with z | z
  ·have:=sa (i+m) (i+n) {} {} {} {};lia
  simp_all
 ·refine h k hk1 (fun j hj h1 h2=>?_) (fun j hj h1 h2=>?_)
  ·have:=e1 (j - i) {}
   rw[bv (j - i) {} {},decide_eq_true_eq] at this
   simp_all
  ·have:=e2 (j - i) {} {}
   rw[bv (j - i) {} {},decide_eq_false_iff_not] at this
   have ne:=nk j hj {} h2
   have:¬ kk a[j]<kk key:=by simpa [show i+(j - i)=j by lia] using this
   lia
def qK {st:PQ} (c:Cmp prog w A s κ P kk) (pa:∀x∈a,P x) (hy:P key) (hk:kindOf st=κ) (hn:i+n<=a.size) (hh:hint<n)
  (sa:∀j m,(hm:m<a.size)->i<=j->(hj:j<m)->m<i+n->kk (a[j]'{})<kk a[m])
  (h:∀k,k<=n->(∀j,(hj:j<a.size)->i<=j->j<i+k->kk a[j]<kk key)->(∀j,(hj:j<a.size)->i+k<=j->j<i+n->¬ kk a[j]<kk key)->Q (Wx k) st):Gv prog w A E s (qE Wz key a i n hint) st Q:=by
 have bv:∀m,(hm:i+m<a.size)->bey kk Wz key a i m=decide (kk a[i+m]<kk key):=fun m hm=>by
  unfold bey
  rw[yI hm];rfl
 refine qe c pa hy hk hn hh (fun m n hmn hn' e=>?_) (fun k hk1 e1 e2=>?_)
 ·rw[bv n {},decide_eq_true_eq] at e
  rw[bv m {},decide_eq_true_eq]
  rcases Rf hmn with z | z
  ·have:=sa (i+m) (i+n) {} {} {} {};lia
  simp_all
 ·refine h k hk1 (fun j hj h1 h2=>?_) (fun j hj h1 h2=>?_)
  ·have:=e1 (j - i) {}
   simp_all
  ·have:=e2 (j - i) {} {}
   rw[bv (j - i) {},decide_eq_false_iff_not] at this
   simpa [show i+(j - i)=j by lia] using this
end
section
variable {prog:PJ}{w:Qc}{A:P9}{E:Pp->Pr->Prop}{s:Pr}{κ:Sz}{P:Ql->Prop}{kk:Ql->Int}
structure Mid (kk) (a b out) (ia ib):Prop where
 m:Mg kk a b out ia ib
 ha:ia+1<a.size
 hb:ib<b.size
def Gv.modS {st:PQ} (hf:cJ st (f st)) (h:∀st',cJ st st'->Q ⟨⟩ st'):Gv prog w A E s (_root_.modify f:StateT PQ Sem PUnit) st Q:=Gv.modify (h _ hf)
def Cj {c:Prop} [Decidable c]{x y:StateT PQ Sem α}{st:PQ}{Q:α->PQ->Prop} (h:Gv prog w A E s x st Q/\Gv prog w A E s y st Q):Gv prog w A E s (if c then x else y) st Q:=aX (fun _=>h.1) (fun _=>h.2)
def Jd {c:Prop} [Decidable c]{x y:StateT PQ Sem α}{st:PQ}{Q:α->PQ->Prop} (h2:¬ c->Gv prog w A E s y st Q) (h1:c->Gv prog w A E s x st Q):Gv prog w A E s (if c then x else y) st Q:=aX h1 h2
def xt {R:Array Ql->Nat->StateT PQ Sem α}{F:Array Ql->Nat->Prop}{st:PQ} (use:(∀o i,F o i->Gv prog w A E s (R o i) st Q)->Gv prog w A E s x st Q) (h:∀o i,F o i->Gv prog w A E s (R o i) st Q):Gv prog w A E s x st Q:=use h
def yD {P:Nat->Prop} (h:∀g,P g) (hy:(∀g,P g)->Y) (g):P g/\Y:=⟨h g,hy h⟩
def get_some {a:Array Ql} (h:i<a.size):a[i]?=Wx a[i]:=by simp[h]
def Gv.ltB {st:PQ}{Q:Option Bool->PQ->Prop}{x y:Ql} (c:Cmp prog w A s κ P kk) (hx:P x) (hy:P y) (hk:kindOf st=κ) (h1:kk x<kk y->Q (Wx Wz) st) (h2:¬ kk x<kk y->Q (Wx WA) st):Gv prog w A E s (lt' x y) st Q:=by
 refine Gv.ltC c hx hy hk ?_
 by_cases h:kk x<kk y
 ·rw[decide_eq_true h];exact h1 h
 ·rw[decide_eq_false h];exact h2 h
def vV {a b:Array Ql}{st:PQ}{Q:Array Ql->PQ->Prop} (c:Cmp prog w A s κ P kk) (t:Two P kk a b) (hk:kindOf st=κ) (ha:1<=a.size) (hb:1<=b.size) (h0:kk b[0]<kk a[0]) (hl:∀y∈b.toList,kk y<kk a[a.size - 1])
  (h:∀r st',eY kk a b r->cJ st st'->Q r st'):Gv prog w A E s (AZ a b) st Q:=by
 have m1:Mg kk a b #[b[0]] 0 1:=by
  have:=(Mg.zero (kk:=kk) (a:=a) (b:=b)).iM t.sb {} (heads t.sa {} h0)
  simpa using this
 have lastOk:∀{out:Array Ql} {ia ib:Nat},Mg kk a b out ia ib->ia+1=a.size->ib<=b.size->eY kk a b (out++b.extract ib b.size++a.extract ia a.size):=fun{out ia ib} m e hb'=>m.last t.sa t.sb e hb' (fun y hy=>by have:=hl y hy;simpa [show a.size - 1=ia by lia] using this)
 have kY:∀{out:Array Ql} {ia ib:Nat},Mg kk a b out ia ib->ia<=a.size->ib=b.size->eY kk a b (out++a.extract ia a.size++b.extract ib b.size):=fun{out ia ib} m e hb'=>by subst hb';exact m.kY t.sa e
 with_unfolding_all refine Gv.bind (Gv.rule ?_)
 dsimp only
 refine Gv.bind (Gv.elem (get_some {}) ?_)
 refine aX (fun e=>Gv.pure (h _ _ (kY m1 {} (by simpa using e)) cJ.refl)) (fun e1=>?_)
 refine aX (fun e=>Gv.pure (h _ _ (lastOk m1 (by simpa using e) {}) cJ.refl)) (fun e2=>?_)
 have z1:1<b.size:=by have:¬ 1=b.size:=by simpa using e1
                      lia
 have z2:1<a.size:=by have:¬ 0+1=a.size:=by simpa using e2
                      lia
 refine Gv.bind (Gv.get ?_)
 refine Gv.lp6 (enc:=fun out ia ib mg (_ _:Unit)=>(Wy,out,ia,ib,mg)) (dec:=fun r out ia ib mg _ _=>(Wx r,out,ia,ib,mg)) (x5:=()) (x6:=()) (fun m out ia ib _ _ _ st'=>cJ st st'/\Mid kk a b out ia ib/\a.size+b.size<ia+ib+m) (fun r st'=>cJ st st'/\eY kk a b r) (fun _ _ _ _ _ _ _=>False) ⟨cJ.refl,⟨m1,{},{}⟩,{}⟩ (fun F hF x m Q0 qd0 _ qy0 out ia ib mg _ _ st' hz=>?_) (fun out ia ib mg _ _ st' hz=>?_) (fun r out ia ib mg _ _ st' hz=>Gv.pure (h r st' hz.2 hz.1)) (fun _ _ _ _ _ _ _ hz=>hz.elim)
 ·have sm:=hz.1
  have md:=hz.2.1
  have pr:=hz.2.2
  clear hz
  subst hF
  dsimp only
  refine Gv.lp6 (enc:=fun o i j p q (_:Unit)=>(Wy,o,i,j,p,q)) (dec:=fun r o i j p q _=>(Wx r,o,i,j,p,q)) (x6:=()) (fun m' o i j _ _ _ st''=>cJ st st''/\Mid kk a b o i j/\ia+ib<=i+j/\ia+ib+(a.size+b.size)<=i+j+m') (fun r st''=>cJ st st''/\eY kk a b r) (fun o i j _ _ _ st''=>cJ st st''/\Mid kk a b o i j/\ia+ib<i+j) ⟨sm,md,{},{}⟩ (fun F hF x m' Q1 qd qc qy o i j p q _ st'' hz=>?_) (fun o i j p q _ st'' hz=>⟨hz.1,hz.2.1,by have:=hz.2.2.2;have:=hz.2.1.ha;have:=hz.2.1.hb;lia⟩) (fun r o i j p q _ st'' hz=>Gv.pure (qd0 r _ _ _ _ () () _ hz)) (fun o i j p q _ st'' hz=>?_)
  ·have sm2:=hz.1
   have md2:=hz.2.1
   have pr0:=hz.2.2.1
   have pr2:=hz.2.2.2
   clear hz pr z1 z2 e1 e2 m1 h0 hl ha hb
   subst hF
   have hk2:kindOf st''=κ:=sm2.kind.trans hk
   have ha2:=md2.ha
   have hi:i<a.size:={}
   have hj:=md2.hb
   dsimp only
   refine Gv.bind (Gv.elem (get_some hj) ?_)
   refine Gv.bind (Gv.elem (get_some hi) ?_)
   refine Gv.bind (Gv.ltB c (t.pb _ (Qf hj)) (t.pa _ (Qf hi)) hk2 (fun lt=>K7 ?_) (fun nlt=>Ki ?_))
   ·have m3:=md2.m.iM t.sb hj (heads t.sa hi lt)
    refine Gv.bind (Gv.elem (get_some hj) ?_)
    refine aX (fun e=>Gv.pure (qd _ _ _ _ _ _ () _ ⟨sm2,kY m3 {} (by simpa using e)⟩)) (fun e=>?_)
    have e':¬ j+1=b.size:=by simpa using e
    exact aX (fun _=>Gv.pure (qc _ _ _ _ _ () _ ⟨sm2,⟨m3,{},{}⟩,{}⟩)) (fun _=>Gv.pure (qy _ _ _ _ _ () _ ⟨sm2,⟨m3,{},{}⟩,{},{}⟩))
   ·have gt:kk a[i]<kk b[j]:=by have:=t.ne hi hj;lia
    have m3:=md2.m.lA t.sa hi (heads t.sb hj gt)
    refine Gv.bind (Gv.elem (get_some hi) ?_)
    refine aX (fun e=>Gv.pure (qd _ _ _ _ _ _ () _ ⟨sm2,lastOk m3 (by simpa using e) {}⟩)) (fun e=>?_)
    have e':¬ i+1+1=a.size:=by simpa using e
    exact aX (fun _=>Gv.pure (qc _ _ _ _ _ () _ ⟨sm2,⟨m3,{},hj⟩,{}⟩)) (fun _=>Gv.pure (qy _ _ _ _ _ () _ ⟨sm2,⟨m3,{},hj⟩,{},{}⟩))
  ·have sm2:=hz.1
   have md2:=hz.2.1
   have pr2:=hz.2.2
   clear hz
   dsimp only
   refine Gv.bind (Gv.rule ?_)
   refine Gv.lp6 (enc:=fun o i j g p q=>(Wy,o,i,j,g,p,q)) (dec:=fun r o i j g p q=>(Wx r,o,i,j,g,p,q)) (fun _ o i j _ _ _ st4=>cJ st st4/\Mid kk a b o i j/\ia+ib<i+j) (fun r st4=>cJ st st4/\eY kk a b r) (fun o i j _ _ _ st4=>cJ st st4/\Mid kk a b o i j/\ia+ib<i+j) ⟨sm2,md2,pr2⟩ (fun F hF x m' Q1 qd qc qy o i j g p q st4 hz=>?_) (fun o i j g p q st4 hz=>hz) (fun r o i j g p q st4 hz=>Gv.pure (qd0 r _ _ _ _ () () _ hz)) (fun o i j g p q st4 hz=>?_)
   ·have sm4:=hz.1
    have md4:=hz.2.1
    have pr4:=hz.2.2
    clear hz pr pr2 md md2 z1 z2 e1 e2 m1 h0 hl ha hb
    subst hF
    have ha4:=md4.ha
    have hj:=md4.hb
    have hi:i<a.size:={}
    dsimp only
    refine Cj ?_
    generalize g - 1=g1
    revert g1
    refine yD (fun g'=>?_) (fun f=>f g)
    ·with_unfolding_all refine Gv.bind (Gv.modS ⟨rfl,rfl,rfl,rfl⟩ (fun st3 sm3'=>?_))
     have sm3:=sm4.trans sm3'
     have hk3:kindOf st3=κ:=sm3.kind.trans hk
     refine Gv.bind (Gv.elem (get_some hj) ?_)
     refine Gv.bind (qX c t.pa (t.pb _ (Qf hj)) hk3 (show i+(a.size - i)<=a.size by lia) {} (fun p q hq _ hpq _=>mH t.sa hpq hq) (fun p hp _ _=>t.ne hp hj) (fun k hk1 e1 e2=>?_))
     dsimp only
     apply xt (F:=fun o' I=>Mg kk a b o' I j/\i<=I/\I+1<a.size/\∃hI:I<a.size,kk b[j]<kk a[I])
     ·intro key
      refine Jd (fun k0=>?_) (fun k0=>?_)
      ·generalize ho:o=o1
       generalize hi':i=i1
       refine key o1 i1 ?_
       subst ho hi'
       exact⟨md4.m,{},ha4,hi,e2 i hi {} {}⟩
      have m3:=md4.m.kK t.sa k {} (fun p hp h1 h2=>heads t.sb hj (e1 p hp h1 h2))
      refine aX (fun e=>Gv.pure (qd _ _ _ _ _ _ _ _ ⟨sm3,lastOk m3 (by simpa using e) {}⟩)) (fun ne1=>?_)
      refine aX (fun e=>?_) (fun ne2=>?_)
      ·have e':i+k=a.size:=by simpa using e
       have m3':=m3
       rw[e'] at m3'
       refine Gv.pure (qd _ _ _ _ _ _ _ _ ⟨sm3,?_⟩)
       rw[e']
       exact m3'.jj t.sb {}
      ·have ne1':¬ i+k+1=a.size:=by simpa using ne1
       have ne2':¬ i+k=a.size:=by simpa using ne2
       have hI:i+k<a.size:={}
       have gtI:kk b[j]<kk a[i+k]:=e2 (i+k) hI {} {}
       exact key _ _ ⟨m3,{},{},hI,gtI⟩
     ·rintro o' I ⟨m3,iI,ha5,hI,gtI⟩
      refine Gv.bind (Gv.elem (get_some hj) ?_)
      have m4:=m3.iM t.sb hj (heads t.sa hI gtI)
      refine aX (fun e=>Gv.pure (qd _ _ _ _ _ _ _ _ ⟨sm3,kY m4 {} (by simpa using e)⟩)) (fun ne3=>?_)
      have ne3':¬ j+1=b.size:=by simpa using ne3
      refine Gv.bind (Gv.elem (get_some hI) ?_)
      refine Gv.bind (qK c t.pb (t.pa _ (Qf hI)) hk3 (show j+1+(b.size - (j+1))<=b.size by lia) {} (fun p q hq _ hpq _=>mH t.sb hpq hq) (fun k1 hk1 f1 f2=>?_))
      dsimp only
      by_cases k10:k1 > 0
      ·rw[if_pos k10]
       have m5:=m4.eS t.sb k1 {} (fun q hq h1 h2=>heads t.sa hI (f1 q hq h1 h2))
       refine aX (fun e=>Gv.pure (qd _ _ _ _ _ _ _ _ ⟨sm3,kY m5 {} (by simpa using e)⟩)) (fun ne4=>?_)
       have ne4':¬ j+1+k1=b.size:=by simpa using ne4
       have hJ:j+1+k1<b.size:={}
       have ltJ:kk a[I]<kk b[j+1+k1]:=by have:=f2 _ hJ {} {};have:=t.ne hI hJ;lia
       refine Gv.bind (Gv.elem (get_some hI) ?_)
       have m6:=m5.lA t.sa hI (heads t.sb hJ ltJ)
       refine aX (fun e=>Gv.pure (qd _ _ _ _ _ _ _ _ ⟨sm3,lastOk m6 (by simpa using e) {}⟩)) (fun ne5=>?_)
       have ne5':¬ I+1+1=a.size:=by simpa using ne5
       exact aX (fun _=>Gv.pure (qc _ _ _ _ _ _ _ ⟨sm3,⟨m6,{},hJ⟩,{}⟩)) (fun _=>Gv.pure (qy _ _ _ _ _ _ _ ⟨sm3,⟨m6,{},hJ⟩,{}⟩))
      ·rw[if_neg k10]
       have m5:=m4
       have hJ:j+1<b.size:={}
       have ltJ:kk a[I]<kk b[j+1]:=by have:=f2 _ hJ {} {};have:=t.ne hI hJ;lia
       refine Gv.bind (Gv.elem (get_some hI) ?_)
       have m6:=m5.lA t.sa hI (heads t.sb hJ ltJ)
       refine aX (fun e=>Gv.pure (qd _ _ _ _ _ _ _ _ ⟨sm3,lastOk m6 (by simpa using e) {}⟩)) (fun ne5=>?_)
       have ne5':¬ I+1+1=a.size:=by simpa using ne5
       exact aX (fun _=>Gv.pure (qc _ _ _ _ _ _ _ ⟨sm3,⟨m6,{},hJ⟩,{}⟩)) (fun _=>Gv.pure (qy _ _ _ _ _ _ _ ⟨sm3,⟨m6,{},hJ⟩,{}⟩))
   ·have sm4:=hz.1
    have md4:=hz.2.1
    have pr4:=hz.2.2
    clear hz
    dsimp only
    with_unfolding_all refine Gv.bind (Gv.modS ⟨rfl,rfl,rfl,rfl⟩ (fun st3 sm3'=>?_))
    exact Gv.pure (qy0 _ _ _ _ () () _ ⟨sm4.trans sm3',md4,{}⟩)
 ·have:=hz.2.1.ha
  have:=hz.2.1.hb
  have:=hz.2.2
  lia
end
section
variable {kk:Ql->Int}{a b out:Array Ql}{na nb:Nat}
structure Mh (kk:Ql->Int) (a b out:Array Ql) (na nb):Prop where
 perm:out.toList.Perm (a.toList.drop na++b.toList.drop nb)
 srt:out.toList.Pairwise fun x y=>kk y<kk x
 la:∀x∈out.toList,∀y∈a.toList.take na,kk y<kk x
 lb:∀x∈out.toList,∀y∈b.toList.take nb,kk y<kk x
def Mh.symm (m:Mh kk a b out na nb):Mh kk b a out nb na:=⟨m.perm.trans List.perm_append_comm,m.srt,m.lb,m.la⟩
def Mh.zero:Mh kk a b #[] a.size b.size:=⟨{..},TH,fun x hx=>by grind,fun x hx=>by grind⟩
def xu {l:List Ql} (h):l.take (n+1)=l.take n++[l[n]]:=List.take_succ_eq_append_getElem h
def Mh.iM (m:Mh kk a b out na (nb+1)) (sb:Srt kk b.toList) (hi) (hd:∀y∈a.toList.take na,kk y<kk b[nb]):Mh kk a b (out.push b[nb]) na nb:=by
 have hl:nb<b.toList.length:=by omega
 have eb:b.toList[nb]=b[nb]:={..}
 have et:=xu hl
 have bm:b[nb]∈b.toList.take (nb+1):=by simp_all
 have es:(out.push b[nb]).toList=out.toList++[b[nb]]:={..}
 refine⟨?_,?_,?_,?_⟩
 ·rw[es,Qm hl]
  refine(SG _ _).trans ?_
  refine UR.trans ?_ List.perm_middle.symm
  exact m.perm.cons _
 ·rw[es]
  exact Qb.mpr ⟨m.srt,QT _ _,fun x hx y hy=>by rw[P1] at hy;subst hy;exact m.lb x hx _ bm⟩
 ·intro x hx y hy
  rw[es] at hx
  rcases Qr.mp hx with hx | hx
  ·exact m.la x hx y hy
  simp_all
 ·intro x hx y hy
  rw[es] at hx
  rcases Qr.mp hx with hx | hx
  ·exact m.lb x hx y (by simp_all)
  ·rw[P1] at hx;subst hx
   obtain⟨i,hi',rfl⟩:=Ug.mp hy
   rw[Qh] at hi'
   rw[TQ]
   have:=PZ.mp sb i nb {} hl {}
   simp_all
def Mh.lA (m:Mh kk a b out (na+1) nb) (sa:Srt kk a.toList) (hi) (hd:∀y∈b.toList.take nb,kk y<kk a[na]):Mh kk a b (out.push a[na]) na nb:=(m.symm.iM sa hi hd).symm
def Mh.eS (sb:Srt kk b.toList):∀(k nb:Nat){out:Array Ql},Mh kk a b out na (nb+k)->nb+k<=b.size->(∀j,(hj:j<b.size)->nb<=j->j<nb+k->∀y∈a.toList.take na,kk y<kk b[j])->Mh kk a b (out++(b.extract nb (nb+k)).reverse) na nb
 | 0,nb,out,m,_,_=>by
  have e:b.extract nb (nb+0) = #[]:=by simp;lia
  rw[e];simpa using m
 | k+1,nb,out,m,hk,hd=>by
  have ih:=Mh.eS sb k (nb+1) (by rw[show nb+1+k=nb+(k+1) by lia];exact m) {} (fun j hj h1 h2=>hd j hj {} {})
  have e:out++(b.extract nb (nb+(k+1))).reverse=(out++(b.extract (nb+1) (nb+1+k)).reverse).push b[nb]:=by
   rw[<- Array.append_push]
   have e2:b.extract nb (nb+(k+1)) = #[b[nb]]++b.extract (nb+1) (nb+1+k):=by
    apply Array.ext
    ·simp;lia
    ·intro i h1 h2
     rw[Sq,Array.getElem_append]
     split
     ·rename_i hz
      have:i=0:=by simpa using hz
      subst this;simp
     ·rename_i hz
      have:1<=i:=by simp at hz;lia
      rw[Sq]
      congr 1
      simp
      lia
   rw[e2]
   simp
  rw[e]
  exact ih.iM sb {} (hd nb {} {} {})
def Mh.kK (sa:Srt kk a.toList) (k na) (m:Mh kk a b out (na+k) nb) (hk:na+k<=a.size) (hd:∀j,(hj:j<a.size)->na<=j->j<na+k->∀y∈b.toList.take nb,kk y<kk a[j]):Mh kk a b (out++(a.extract na (na+k)).reverse) na nb:=(Mh.eS sa k na m.symm hk hd).symm
def Mh.fin (m:Mh kk a b out 0 0):eY kk a b out.reverse:=by
 refine⟨?_,?_⟩
 ·rw[Array.toList_reverse]
  refine(List.reverse_perm _).trans ?_
  have:=m.perm;simp_all
 ·unfold Srt;rw[Array.toList_reverse,List.pairwise_reverse];exact m.srt
def yN (x y:Array Ql):(x++y.reverse).reverse=y++x.reverse:=by
 simp
def Mh.jj (m:Mh kk a b out 0 nb) (sb:Srt kk b.toList) (hi:nb<=b.size):eY kk a b (a.extract 0 0++b.extract 0 nb++out.reverse):=by
 have e:a.extract 0 0 = #[]:={..}
 rw[e,Array.empty_append]
 have:=Mh.eS sb nb 0 (by rw[Rx];exact m) {} (fun j hj _ _ y hy=>by grind)
 rw[Rx] at this
 have f:=this.fin
 simp_all
def Mh.kY (m:Mh kk a b out na 0) (sa:Srt kk a.toList) (hi:na<=a.size):eY kk a b (a.extract 0 na++b.extract 0 0++out.reverse):=by
 have e:b.extract 0 0 = #[]:={..}
 rw[e]
 have:=Mh.kK sa na 0 (by rw[Rx];exact m) {} (fun j hj _ _ y hy=>by grind)
 rw[Rx] at this
 have f:=this.fin
 simp_all
def Mh.first (m:Mh kk a b out na 1) (sa:Srt kk a.toList) (sb:Srt kk b.toList) (hi:na<=a.size) (hb:0<b.size) (hd:∀y∈a.toList,kk b[0]<kk y):eY kk a b (b.extract 0 1++a.extract 0 na++out.reverse):=by
 have hb1:b.toList.take 1=[b[0]]:=by rw[xu (by simpa using hb)];simp
 have m1:=Mh.kK sa na 0 (by rw[Rx];exact m) {} (fun j hj _ _ y hy=>by
  rw[hb1,P1] at hy;subst hy
  exact hd _ {..})
 have m2:=Mh.eS sb 1 0 (by rw[Rx];exact m1) {} (fun j hj _ _ y hy=>by simp at hy)
 rw[Rx] at m2
 have f:=m2.fin
 rw[yN,yN,<- Array.append_assoc] at f
 exact f
def vi (sa:Srt kk a.toList) (hi) (hv:kk a[i]<v):∀y∈a.toList.take (i+1),kk y<v:=by
 intro y hy
 obtain⟨j,hj,rfl⟩:=Ug.mp hy
 rw[Qh] at hj
 rw[TQ]
 rcases S7 j i with z | z
 ·have:=mH sa z hi
  grind
 grind
end
section
variable {prog:PJ}{w:Qc}{A:P9}{E:Pp->Pr->Prop}{s:Pr}{κ:Sz}{P:Ql->Prop}{kk:Ql->Int}
structure Mih (kk) (a b out) (na nb):Prop where
 m:Mh kk a b out na nb
 ha:1<=na
 hb:2<=nb
 la:na<=a.size
 lb:nb<=b.size
def Mh.yn (sb:Srt kk b.toList) (hle:k<=hi) (m:Mh kk a b out na hi) (hh:hi<=b.size) (hd:∀j,(hj:j<b.size)->k<=j->j<hi->∀y∈a.toList.take na,kk y<kk b[j]):Mh kk a b (out++(b.extract k hi).reverse) na k:=by
 obtain⟨d,rfl⟩:=Nat.exists_eq_add_of_le hle
 exact Mh.eS sb d k m hh hd
def Mh.DY (sa:Srt kk a.toList) (hle:k<=hi) (m:Mh kk a b out hi nb) (hh:hi<=a.size) (hd:∀j,(hj:j<a.size)->k<=j->j<hi->∀y∈b.toList.take nb,kk y<kk a[j]):Mh kk a b (out++(a.extract k hi).reverse) k nb:=(Mh.yn sa hle m.symm hh hd).symm
def get_eq {a:Array Ql} (h:i<a.size) (e:k=i):a[k]?=Wx a[i]:=by simp_all
def wb {a b:Array Ql}{st:PQ}{Q:Array Ql->PQ->Prop} (c:Cmp prog w A s κ P kk) (t:Two P kk a b) (hk:kindOf st=κ) (ha:1<=a.size) (hb:1<=b.size) (h0:∀y∈a.toList,kk b[0]<kk y) (hl:kk b[b.size - 1]<kk a[a.size - 1])
  (h:∀r st',eY kk a b r->cJ st st'->Q r st'):Gv prog w A E s (AI a b) st Q:=by
 obtain⟨A1,hA1⟩:∃A1,a.size=A1+1:=⟨a.size - 1,{}⟩
 have hA:A1<a.size:={}
 have eA:a.size - 1=A1:={}
 have m1:Mh kk a b #[a[A1]] A1 b.size:=by
  have:=(Mh.zero (kk:=kk) (a:=a) (b:=b))
  have t1:=vi t.sb (i:=b.size - 1) {} (show kk b[b.size - 1]<kk a[A1] by have:=hl;simpa [eA] using this)
  rw[show b.size - 1+1=b.size by lia] at t1
  have:=Mh.lA (na:=A1) (by rw[<- hA1];exact this) t.sa hA t1
  simpa using this
 have firstOk:∀{out:Array Ql} {na:Nat},Mh kk a b out na 1->na<=a.size->eY kk a b (b.extract 0 1++a.extract 0 na++out.reverse):=fun{out na} m e=>m.first t.sa t.sb e {} h0
 have firstOk':∀{out:Array Ql} {na nb:Nat},Mh kk a b out na (nb+1)->nb=0->na<=a.size->eY kk a b (b.extract 0 (nb+1)++a.extract 0 na++out.reverse):=fun{out na nb} m e h=>by subst e;exact firstOk m h
 have jj:∀{out:Array Ql} {na nb:Nat},Mh kk a b out na nb->na=0->nb<=b.size->eY kk a b (a.extract 0 na++b.extract 0 nb++out.reverse):=fun{out na nb} m e hb'=>by subst e;exact m.jj t.sb hb'
 with_unfolding_all refine Gv.bind (Gv.rule ?_)
 dsimp only
 refine Gv.bind (Gv.elem (get_eq hA eA) ?_)
 refine aX (fun e=>?_) (fun e1=>?_)
 ·have e':a.size - 1=0:=by simpa using e
  rw[eA]
  exact Gv.pure (h _ _ (jj m1 {} {}) cJ.refl)
 refine aX (fun e=>?_) (fun e2=>?_)
 ·have e':b.size=1:=by simpa using e
  rw[e'] at m1
  rw[e',eA]
  exact Gv.pure (h _ _ (firstOk m1 {}) cJ.refl)
 have z1:¬ a.size - 1=0:=by simpa using e1
 have z2:¬ b.size=1:=by simpa using e2
 refine Gv.bind (Gv.get ?_)
 refine Gv.lp6 (enc:=fun na nb out mg (_ _:Unit)=>(Wy,na,nb,out,mg)) (dec:=fun r na nb out mg _ _=>(Wx r,na,nb,out,mg)) (x5:=()) (x6:=()) (fun m na nb out _ _ _ st'=>cJ st st'/\Mih kk a b out na nb/\na+nb<m+1) (fun r st'=>cJ st st'/\eY kk a b r) (fun _ _ _ _ _ _ _=>False) ⟨cJ.refl,⟨by rw[eA];exact m1,{},{},{},{}⟩,{}⟩ (fun F hF x m Q0 qd0 _ qy0 na nb out mg _ _ st' hz=>?_) (fun na nb out mg _ _ st' hz=>?_) (fun r na nb out mg _ _ st' hz=>Gv.pure (h r st' hz.2 hz.1)) (fun _ _ _ _ _ _ _ hz=>hz.elim)
 ·have sm:=hz.1
  have md:=hz.2.1
  have pr:=hz.2.2
  clear hz
  subst hF
  dsimp only
  refine Gv.lp6 (enc:=fun x y o p q (_:Unit)=>(Wy,x,y,o,p,q)) (dec:=fun r x y o p q _=>(Wx r,x,y,o,p,q)) (x6:=()) (fun m' x y o _ _ _ st''=>cJ st st''/\Mih kk a b o x y/\x+y<=na+nb/\x+y+(a.size+b.size)<=na+nb+m') (fun r st''=>cJ st st''/\eY kk a b r) (fun x y o _ _ _ st''=>cJ st st''/\Mih kk a b o x y/\x+y<na+nb) ⟨sm,md,{},{}⟩ (fun F hF x m' Q1 qd qc qy x2 y2 o p q _ st'' hz=>?_) (fun x2 y2 o p q _ st'' hz=>⟨hz.1,hz.2.1,by have:=hz.2.2.1;have:=hz.2.2.2;have:=hz.2.1.la;have:=hz.2.1.lb;lia⟩) (fun r x2 y2 o p q _ st'' hz=>Gv.pure (qd0 r _ _ _ _ () () _ hz)) (fun x2 y2 o p q _ st'' hz=>?_)
  ·have sm2:=hz.1
   have mm:=hz.2.1.m
   have ha2:=hz.2.1.ha
   have hb2:=hz.2.1.hb
   have la2:=hz.2.1.la
   have lb2:=hz.2.1.lb
   have pr0:=hz.2.2.1
   have pr2:=hz.2.2.2
   clear hz pr md z1 z2 e1 e2 m1 hl eA hA hA1
   obtain⟨i,rfl⟩:∃i,x2=i+1:=⟨x2 - 1,{}⟩
   obtain⟨j,rfl⟩:∃j,y2=j+2:=⟨y2 - 2,{}⟩
   subst hF
   have hk2:kindOf st''=κ:=sm2.kind.trans hk
   have hi:i<a.size:={}
   have hj:j+1<b.size:={}
   dsimp only
   refine Gv.bind (Gv.elem (get_eq hj {}) ?_)
   refine Gv.bind (Gv.elem (get_eq hi {}) ?_)
   refine Gv.bind (Gv.ltB c (t.pb _ (Qf hj)) (t.pa _ (Qf hi)) hk2 (fun lt=>K7 ?_) (fun nlt=>Ki ?_))
   ·have m3:Mh kk a b _ i (j+2):=mm.lA t.sa hi (vi t.sb hj lt)
    refine Gv.bind (Gv.elem (get_eq hi {}) ?_)
    refine aX (fun e=>Gv.pure (qd _ _ _ _ _ _ () _ ⟨sm2,jj m3 (by simpa using e) {}⟩)) (fun e=>?_)
    have e':¬ i=0:=by simpa using e
    exact aX (fun _=>Gv.pure (qc i (j+2) _ _ _ () _ ⟨sm2,⟨m3,{},{},{},{}⟩,{}⟩)) (fun _=>Gv.pure (qy i (j+2) _ _ _ () _ ⟨sm2,⟨m3,{},{},{},{}⟩,{},{}⟩))
   ·have gt:kk a[i]<kk b[j+1]:=by have:=t.ne hi hj;lia
    have m3:Mh kk a b _ (i+1) (j+1):=mm.iM t.sb hj (vi t.sa hi gt)
    refine Gv.bind (Gv.elem (get_eq hj {}) ?_)
    refine aX (fun e=>Gv.pure (qd _ _ _ _ _ _ () _ ⟨sm2,firstOk' m3 (by simpa using e) {}⟩)) (fun e=>?_)
    have e':¬ j=0:=by simpa using e
    exact aX (fun _=>Gv.pure (qc (i+1) (j+1) _ _ _ () _ ⟨sm2,⟨m3,{},{},{},{}⟩,{}⟩)) (fun _=>Gv.pure (qy (i+1) (j+1) _ _ _ () _ ⟨sm2,⟨m3,{},{},{},{}⟩,{},{}⟩))
  ·have sm2:=hz.1
   have md2:=hz.2.1
   have pr2:=hz.2.2
   clear hz
   dsimp only
   refine Gv.bind (Gv.rule ?_)
   refine Gv.lp6 (enc:=fun x y o g p q=>(Wy,x,y,o,g,p,q)) (dec:=fun r x y o g p q=>(Wx r,x,y,o,g,p,q)) (fun _ x y o _ _ _ st4=>cJ st st4/\Mih kk a b o x y/\x+y<na+nb) (fun r st4=>cJ st st4/\eY kk a b r) (fun x y o _ _ _ st4=>cJ st st4/\Mih kk a b o x y/\x+y<na+nb) ⟨sm2,md2,pr2⟩ (fun F hF x m' Q1 qd qc qy x4 y4 o g p q st4 hz=>?_) (fun x4 y4 o g p q st4 hz=>hz) (fun r x4 y4 o g p q st4 hz=>Gv.pure (qd0 r _ _ _ _ () () _ hz)) (fun x4 y4 o g p q st4 hz=>?_)
   ·have sm4:=hz.1
    have mm:=hz.2.1.m
    have ha4:=hz.2.1.ha
    have hb4:=hz.2.1.hb
    have la4:=hz.2.1.la
    have lb4:=hz.2.1.lb
    have pr4:=hz.2.2
    clear hz pr pr2 md md2 z1 z2 e1 e2 m1 hl eA hA hA1
    obtain⟨i,rfl⟩:∃i,x4=i+1:=⟨x4 - 1,{}⟩
    obtain⟨j,rfl⟩:∃j,y4=j+2:=⟨y4 - 2,{}⟩
    have hj:j+1<b.size:={}
    have hi:i<a.size:={}
    subst hF
    dsimp only
    refine Cj ?_
    generalize g - 1=g1
    revert g1
    refine yD (fun g'=>?_) (fun f=>f g)
    ·with_unfolding_all refine Gv.bind (Gv.modS ⟨rfl,rfl,rfl,rfl⟩ (fun st3 sm3'=>?_))
     have sm3:=sm4.trans sm3'
     have hk3:kindOf st3=κ:=sm3.kind.trans hk
     refine Gv.bind (Gv.elem (get_eq hj {}) ?_)
     refine Gv.bind (qX (n:=i+1) (hint:=i) c t.pa (t.pb _ (Qf hj)) hk3 {} {} (fun p q hq _ hpq _=>mH t.sa hpq hq) (fun p hp _ _=>t.ne hp hj) (fun k hk1 e1 e2=>?_))
     dsimp only
     apply xt (F:=fun o' k'=>∃I,∃hI:I<a.size,k'=I+1/\Mh kk a b o' (I+1) (j+2)/\I<=i/\kk a[I]<kk b[j+1])
     ·intro key
      by_cases k0:i+1 - k > 0
      ·rw[if_pos k0]
       have m3':=Mh.DY t.sa (show k<=i+1 by lia) mm {} (fun p hp h1 h2=>vi t.sb hj (e2 p hp {} {}))
       refine aX (fun e=>Gv.pure (qd _ _ _ _ _ _ _ _ ⟨sm3,jj m3' (by simpa using e) {}⟩)) (fun ne1=>?_)
       have ne1':¬ k=0:=by simpa using ne1
       generalize o++(a.extract k (i+1)).reverse=o' at m3' ⊢
       obtain⟨I,hI⟩:∃I,k=I+1:=⟨k - 1,{}⟩
       have z:∃I,∃hI:I<a.size,k=I+1/\Mh kk a b o' (I+1) (j+2)/\I<=i/\kk a[I]<kk b[j+1]:=⟨I,{},hI,by rw[<- hI];exact m3',{},e1 I {} {} {}⟩
       revert z
       generalize k=k2
       exact key o' k2
      ·have e':k=i+1:={}
       subst e'
       rw[if_neg k0]
       exact key o (i+1) ⟨i,hi,rfl,mm,{},e1 i hi {} {}⟩
     ·rintro o' k' ⟨I,hI,ek,m3,iI,gtI⟩
      subst ek
      refine Gv.bind (Gv.elem (get_eq hj {}) ?_)
      have m4:Mh kk a b _ (I+1) (j+1):=Mh.iM m3 t.sb hj (vi t.sa hI gtI)
      refine aX (fun e=>?_) (fun ne3=>?_)
      ·have e':j=0:=by simpa using e
       subst e'
       exact Gv.pure (qd _ _ _ _ _ _ _ _ ⟨sm3,firstOk m4 {}⟩)
      have ne3':¬ j=0:=by simpa using ne3
      refine Gv.bind (Gv.elem (get_eq hI {}) ?_)
      refine Gv.bind (qK (n:=j+1) (hint:=j) c t.pb (t.pa _ (Qf hI)) hk3 {} {} (fun p q hq _ hpq _=>mH t.sb hpq hq) (fun k1 hk1 f1 f2=>?_))
      dsimp only
      refine aX (fun k10=>?_) (fun k10=>?_)
      ·skip
       have m5:=Mh.yn t.sb (show k1<=j+1 by lia) m4 {} (fun q hq h1 h2=>vi t.sa hI (by have:=f2 q hq {} {};have:=t.ne hI hq;lia))
       refine aX (fun e=>?_) (fun ne4=>?_)
       ·have e':k1=1:=by simpa using e
        subst e'
        exact Gv.pure (qd _ _ _ _ _ _ _ _ ⟨sm3,firstOk m5 {}⟩)
       refine aX (fun e=>?_) (fun ne6=>?_)
       ·have e':k1=0:=by simpa using e
        subst e'
        exact Gv.pure (qd _ _ _ _ _ _ _ _ ⟨sm3,m5.kY t.sa {}⟩)
       have ne4':¬ k1=1:=by simpa using ne4
       have ne6':¬ k1=0:=by simpa using ne6
       have ltJ:∀y∈b.toList.take k1,kk y<kk a[I]:=by
        have:=vi t.sb (i:=k1 - 1) {} (f1 (k1 - 1) {} {} {})
        rwa [show k1 - 1+1=k1 by lia] at this
       refine Gv.bind (Gv.elem (get_eq hI {}) ?_)
       have m6:Mh kk a b _ I k1:=Mh.lA m5 t.sa hI ltJ
       refine aX (fun e=>Gv.pure (qd _ _ _ _ _ _ _ _ ⟨sm3,jj m6 (by simpa using e) {}⟩)) (fun ne5=>?_)
       have ne5':¬ I=0:=by simpa using ne5
       exact aX (fun _=>Gv.pure (qc I k1 _ _ _ _ _ ⟨sm3,⟨m6,{},{},{},{}⟩,{}⟩)) (fun _=>Gv.pure (qy I k1 _ _ _ _ _ ⟨sm3,⟨m6,{},{},{},{}⟩,{}⟩))
      ·skip
       have e1':k1=j+1:={}
       have m5:=m4
       have ltJ:∀y∈b.toList.take (j+1),kk y<kk a[I]:=vi t.sb {} (f1 j {} {} {})
       refine Gv.bind (Gv.elem (get_eq hI {}) ?_)
       have m6:Mh kk a b _ I (j+1):=Mh.lA m5 t.sa hI ltJ
       refine aX (fun e=>Gv.pure (qd _ _ _ _ _ _ _ _ ⟨sm3,jj m6 (by simpa using e) {}⟩)) (fun ne5=>?_)
       have ne5':¬ I=0:=by simpa using ne5
       exact aX (fun _=>Gv.pure (qc I (j+1) _ _ _ _ _ ⟨sm3,⟨m6,{},{},{},{}⟩,{}⟩)) (fun _=>Gv.pure (qy I (j+1) _ _ _ _ _ ⟨sm3,⟨m6,{},{},{},{}⟩,{}⟩))
   ·have sm4:=hz.1
    have md4:=hz.2.1
    have pr4:=hz.2.2
    clear hz
    dsimp only
    with_unfolding_all refine Gv.bind (Gv.modS ⟨rfl,rfl,rfl,rfl⟩ (fun st3 sm3'=>?_))
    exact Gv.pure (qy0 _ _ _ _ () () _ ⟨sm4.trans sm3',md4,{}⟩)
 ·have:=hz.2.1.ha
  have:=hz.2.2
  lia
end
section
variable {kk:Ql->Int}
abbrev seg (a:Array Ql) (lo n:Nat):List Ql:=(a.toList.drop lo).take n
def cf {lo n:Nat} (h:lo+n<=a.size):(seg a lo n).length=n:=by unfold seg;grind
def jA {lo n i:Nat} (h) (hi):(seg a lo n)[i]'(by rw[cf h];exact hi)=a[lo+i]:=by
 unfold seg;simp
def bQ (a) (lo n k) (h:k<=n):seg a lo n=seg a lo k++seg a (lo+k) (n - k):=by
 unfold seg
 rw[<- SR]
 have:n=k+(n - k):={}
 grind
def jK {lo n:Nat} (h:lo+n<=a.size) (s:Srt kk (seg a lo n)){j m:Nat} (hj:lo<=j) (hjm:j<m) (hm:m<lo+n):kk (a[j]'{})<kk (a[m]'{}):=by
 have:=PZ.mp s (j - lo) (m - lo) (by rw[cf h];lia) (by rw[cf h];lia) {}
 rw[jA h {},jA h {}] at this
 grind
def cz {lo n:Nat} (h:lo+n<=a.size) (hx:x∈seg a lo n):∃j,∃hj:j<a.size,lo<=j/\j<lo+n/\a[j]=x:=by
 obtain⟨i,hi,rfl⟩:=Ug.mp hx
 have hi':i<n:=by rw[cf h] at hi;exact hi
 exact⟨lo+i,{},{},{},(jA h hi').symm⟩
def yH {lo n:Nat} (h:x∈seg a lo n):x∈a:=by
 have:=List.mem_of_mem_drop (List.mem_of_mem_take h)
 simp_all
def eh (a) (lo n):a.toList=a.toList.take lo++seg a lo n++a.toList.drop (lo+n):=by
 unfold seg
 rw[<- SR,Qy,Sr,Sr]
def ye (a) (lo hi):(a.extract lo hi).toList=seg a lo (hi - lo):=by
 unfold seg;simp
def ug:∀(l o X Z:List Ql) (a:Array Ql) (k pos:Nat),a.toList=X++o++Z->o.length=l.length->X.length=pos+k->((l.zipIdx k).foldl (fun a pj=>a.setIfInBounds (pos+pj.2) pj.1) a).toList=X++l++Z
 | [],o,X,Z,a,k,pos,e,hl,_=>by
  simp_all
 | x::l,[],X,Z,a,k,pos,e,hl,_=>by grind
 | x::l,y::o,X,Z,a,k,pos,e,hl,hX=>by
  rw[List.zipIdx_cons,R1]
  have e1:(a.setIfInBounds (pos+k) x).toList=(X++[x])++o++Z:=by
   simp_all
  have:=ug l o (X++[x]) Z (a.setIfInBounds (pos+k) x) (k+1) pos e1 (by simp_all) (by grind)
  simp_all
end
section
variable {prog:PJ}{w:Qc}{A:P9}{E:Pp->Pr->Prop}{s:Pr}{κ:Sz}{P:Ql->Prop}{kk:Ql->Int}
def Gv.Nj {st st0:PQ} (h:∀st',st'=st0->Q ⟨⟩ st'):Gv prog w A E s (MonadState.set st0:StateT PQ Sem PUnit) st Q:=Gv.set (h _ rfl)
def Gv.oV {st:PQ} (h:∀st',st'=f st->Q ⟨⟩ st'):Gv prog w A E s (_root_.modify f:StateT PQ Sem PUnit) st Q:=Gv.modify (h _ rfl)
def qq {a:Array Ql} (nd:(a.toList.map kk).Nodup){i j:Nat} (hi:i<a.size) (hj:j<a.size) (n:i≠j):kk a[i]≠kk a[j]:=fun e=>by
 have h:=PZ.mp nd
 rcases Nat.lt_or_gt_of_ne n with z | z
 ·have:=h i j (by simpa using hi) (by simpa using hj) z
  simp at this;exact this e
 ·have:=h j i (by simpa using hj) (by simpa using hi) z
  simp at this;exact this e.symm
def nP {a a':Array Ql}{sa na nb k q:Nat}{r:List Ql} (hk:k<=na) (hq:q<=nb) (hn:sa+na+nb<=a.size) (hr:r.Perm (seg a (sa+k) (na - k)++seg a (sa+na) q)) (sr:Srt kk r)
  (e:a'.toList=a.toList.take (sa+k)++r++a.toList.drop (sa+na+q))
  (s1:Srt kk (seg a sa na)) (s2:Srt kk (seg a (sa+na) nb)) (o3:∀j,(hj:j<a.size)->sa<=j->j<sa+k->∀m,(hm:m<a.size)->sa+na<=m->m<sa+na+nb->kk a[j]<kk a[m])
  (o4:∀j,(hj:j<a.size)->sa<=j->j<sa+na->∀m,(hm:m<a.size)->sa+na+q<=m->m<sa+na+nb->kk a[j]<kk a[m]) :
  a'.toList=a.toList.take sa++(seg a sa k++r++seg a (sa+na+q) (nb - q))++a.toList.drop (sa+na+nb)/\(seg a sa k++r++seg a (sa+na+q) (nb - q)).Perm (seg a sa (na+nb))/\Srt kk (seg a sa k++r++seg a (sa+na+q) (nb - q)):=by
 have e1:=bQ a sa na k hk
 have e2:=bQ a (sa+na) nb q hq
 refine⟨?_,?_,?_⟩
 ·rw[e,List.take_add]
  have:a.toList.drop (sa+na+q)=seg a (sa+na+q) (nb - q)++a.toList.drop (sa+na+nb):=by
   have:=(Sr (nb - q) (a.toList.drop (sa+na+q))).symm
   rwa [SR,show sa+na+q+(nb - q)=sa+na+nb by lia] at this
  rw[this]
  unfold seg
  simp[Qy]
 ·have e3:seg a sa (na+nb)=seg a sa na++seg a (sa+na) nb:=by
   have:=bQ a sa (na+nb) na {}
   rwa [show na+nb - na=nb by lia] at this
  rw[e3,e1,e2]
  have:=(hr.append_left (seg a sa k)).append_right (seg a (sa+na+q) (nb - q))
  simpa [Qy] using this
 ·have S1:=s1
  rw[e1] at S1
  have S2:=s2
  rw[e2] at S2
  unfold Srt at S1 S2
  rw[Qb] at S1 S2
  refine Qb.mpr ⟨Qb.mpr ⟨S1.1,sr,fun x hx y hy=>?_⟩,S2.2.1,fun x hx y hy=>?_⟩
  ·rcases Qr.mp (hr.mem_iff.mp hy) with hy | hy
   ·exact S1.2.2 x hx y hy
   ·obtain⟨j,hj,j1,j2,rfl⟩:=cz {} hx
    obtain⟨m,hm,m1,m2,rfl⟩:=cz {} hy
    exact o3 j hj j1 j2 m hm m1 {}
  ·obtain⟨m,hm,m1,m2,rfl⟩:=cz {} hy
   rcases Qr.mp hx with hx | hx
   ·obtain⟨j,hj,j1,j2,rfl⟩:=cz {} hx
    exact o4 j hj j1 {} m hm {} {}
   ·rcases Qr.mp (hr.mem_iff.mp hx) with hx | hx
    ·obtain⟨j,hj,j1,j2,rfl⟩:=cz {} hx
     exact o4 j hj {} {} m hm {} {}
    ·exact S2.2.2 _ hx _ hy
def xm {i sa na pw nb pw2:Nat}{st:PQ}{Q:Bool->PQ->Prop} (c:Cmp prog w A s κ P kk) (hk:kindOf st=κ) (hf:failedOf st=Wy) (hp:∀x∈arrOf st,P x) (nd:((arrOf st).toList.map kk).Nodup)
  (p1:(pendingOf st)[i]?=Wx (sa,na,pw)) (p2:(pendingOf st)[i+1]?=Wx (sa+na,nb,pw2)) (h1:1<=na) (h2:1<=nb) (hn:sa+na+nb<=(arrOf st).size) (s1:Srt kk (seg (arrOf st) sa na)) (s2:Srt kk (seg (arrOf st) (sa+na) nb))
  (h:∀(st':PQ) (M:List Ql),kindOf st'=κ->failedOf st'=Wy->pendingOf st'=((pendingOf st).setIfInBounds i (sa,na+nb,pw)).eraseIdxIfInBounds (i+1)->(arrOf st').toList=(arrOf st).toList.take sa++M++(arrOf st).toList.drop (sa+na+nb)->M.Perm (seg (arrOf st) sa (na+nb))->Srt kk M->Q Wz st'):Gv prog w A E s (mergeAt' i) st Q:=by
 obtain⟨kd,a,pd,mg,fl⟩:=st
 with_unfolding_all refine Gv.bind (Gv.get ?_)
 rw[show pd[i]?=_ from p1,show pd[i+1]?=_ from p2]
 dsimp only
 replace nd:(a.toList.map kk).Nodup:=nd
 replace hn:sa+na+nb<=a.size:=hn
 refine Gv.bind (Gv.Nj fun st1 f1=>?_)
 have k1:kindOf st1=κ:=by rw[f1];exact hk
 have fl1:failedOf st1=none:=by rw[f1];exact hf
 have a1:arrOf st1=a:=by rw[f1]
 have pd1:pendingOf st1=(pd.setIfInBounds i (sa,na+nb,pw)).eraseIdxIfInBounds (i+1):=by rw[f1]
 have hsb:sa+na<a.size:={}
 have hs1:sa+na<=a.size:={}
 have o1:∀{j m:Nat} (hm:m<a.size),sa<=j->(hjm:j<m)->m<sa+na->kk (a[j]'{})<kk a[m]:=fun hm h1 h2 h3=>jK hs1 s1 h1 h2 h3
 have o2:∀{j m:Nat} (hm:m<a.size),sa+na<=j->(hjm:j<m)->m<sa+na+nb->kk (a[j]'{})<kk a[m]:=fun hm h1 h2 h3=>jK hn s2 h1 h2 h3
 refine Gv.bind (Gv.elem (get_some hsb) ?_)
 refine Gv.bind (qX c hp (hp _ (Qf hsb)) k1 hs1 {} (fun j m hm h1 h2 h3=>o1 hm h1 h2 h3) (fun j hj h1 h2=>qq nd hj hsb {}) (fun k hk1 e1 e2=>?_))
 have O3:∀j,(hj:j<a.size)->sa<=j->j<sa+k->∀m,(hm:m<a.size)->sa+na<=m->m<sa+na+nb->kk a[j]<kk a[m]:=fun j hj h1 h2 m hm h3 h4=>by
  have x1:=e1 j hj h1 h2
  rcases Rf h3 with z | z
  ·have:=o2 hm (Pt _) z h4;lia
  ·subst z;exact x1
 dsimp only
 refine aX (fun e=>?_) (fun ne1=>?_)
 ·have e':na - k=0:=by simpa using e
  have ek:k=na:={}
  subst ek
  have pb:=nP (a:=a) (a':=arrOf st1) (sa:=sa) (na:=k) (nb:=nb) (k:=k) (q:=nb) (r:=seg a (sa+k) nb) (Pt _) (Pt _) hn (by unfold seg;simp) s2 (by rw[a1];exact eh a (sa+k) nb) s1 s2 O3 (fun j hj h1 h2 m hm h3 h4=>{})
  exact Gv.pure (h st1 _ k1 fl1 pd1 pb.1 pb.2.1 pb.2.2)
 have ne1':¬ na - k=0:=by simpa using ne1
 have hx:sa+na - 1<a.size:={}
 refine Gv.bind (Gv.elem (get_eq hx {}) ?_)
 refine Gv.bind (qK c hp (hp _ (Qf hx)) k1 hn {} (fun j m hm h1 h2 h3=>o2 hm h1 h2 h3) (fun q hq1 f1 f2=>?_))
 have O4:∀j,(hj:j<a.size)->sa<=j->j<sa+na->∀m,(hm:m<a.size)->sa+na+q<=m->m<sa+na+nb->kk a[j]<kk a[m]:=fun j hj h1 h2 m hm h3 h4=>by
  have x1:=f2 m hm h3 h4
  have x2:=qq nd hm hx {}
  rcases Rf (show j<=sa+na - 1 by lia) with z | z
  ·have:=o1 hx h1 z {};lia
  ·subst z;lia
 dsimp only
 refine aX (fun e=>?_) (fun ne2=>?_)
 ·have e':q=0:=by simpa using e
  subst e'
  have pb:=nP (a:=a) (a':=arrOf st1) (sa:=sa) (na:=na) (nb:=nb) (k:=k) (q:=0) (r:=seg a (sa+k) (na - k)) hk1 (QJ _) hn (by unfold seg;simp) (by have:=s1;rw[bQ a sa na k hk1] at this;exact(Qb.mp this).2.1) (by rw[a1,Nat.add_zero];have:=eh a (sa+k) (na - k);rwa [show sa+k+(na - k)=sa+na by lia] at this) s1 s2 O3 O4
  exact Gv.pure (h st1 _ k1 fl1 pd1 pb.1 pb.2.1 pb.2.2)
 have ne2':¬ q=0:=by simpa using ne2
 -- the merge
 have xl:(a.extract (sa+k) (sa+na)).toList=seg a (sa+k) (na - k):=by rw[ye,show sa+na - (sa+k)=na - k by lia]
 have yl:(a.extract (sa+na) (sa+na+q)).toList=seg a (sa+na) q:=by rw[ye,show sa+na+q - (sa+na)=q by lia]
 have xs:(a.extract (sa+k) (sa+na)).size=na - k:=by simp;lia
 have ys:(a.extract (sa+na) (sa+na+q)).size=q:=by simp;lia
 have xg:∀j,(hj:j<na - k)->(a.extract (sa+k) (sa+na))[j]'(by rw[xs];exact hj)=a[sa+k+j]'{}:=fun j hj=>by rw[Sq]
 have yg:∀j,(hj:j<q)->(a.extract (sa+na) (sa+na+q))[j]'(by rw[ys];exact hj)=a[sa+na+j]'{}:=fun j hj=>by rw[Sq]
 have tw:Two P kk (a.extract (sa+k) (sa+na)) (a.extract (sa+na) (sa+na+q)):=by
  refine⟨fun x hx=>hp x ?_,fun x hx=>hp x ?_,?_,?_,?_⟩
  ·have hx':x∈(a.extract (sa+k) (sa+na)).toList:=Rv.mpr hx
   rw[xl] at hx';exact yH hx'
  ·have hx':x∈(a.extract (sa+na) (sa+na+q)).toList:=Rv.mpr hx
   rw[yl] at hx';exact yH hx'
  ·rw[xl];have:=s1;rw[bQ a sa na k hk1] at this;exact(Qb.mp this).2.1
  ·rw[yl];have:=s2;rw[bQ a (sa+na) nb q hq1] at this;exact(Qb.mp this).1
  ·intro x hx y hy
   rw[xl] at hx
   rw[yl] at hy
   obtain⟨j,hj,j1,j2,rfl⟩:=cz {} hx
   obtain⟨m,hm,m1,m2,rfl⟩:=cz {} hy
   exact qq nd hj hm {}
 have fin:∀(r:Array Ql) (st2:PQ),eY kk (a.extract (sa+k) (sa+na)) (a.extract (sa+na) (sa+na+q)) r->cJ st1 st2->∀st3:PQ,kindOf st3=kindOf st2->failedOf st3=failedOf st2->pendingOf st3=pendingOf st2->arrOf st3=r.toList.zipIdx.foldl (fun a pj=>a.setIfInBounds (sa+k+pj.2) pj.1) (arrOf st2)->Q Wz st3:=by
  intro r st2 fr sm st3 g1 g2 g3 g4
  obtain⟨pr,sr⟩:=fr
  rw[xl,yl] at pr
  have hrl:r.toList.length=na - k+q:=by rw[pr.length_eq,P_,cf {},cf {}]
  have ea:(arrOf st3).toList=a.toList.take (sa+k)++r.toList++a.toList.drop (sa+na+q):=by
   rw[g4,sm.arr,a1]
   have e0:=eh a (sa+k) (na - k+q)
   rw[show sa+k+(na - k+q)=sa+na+q by lia] at e0
   exact ug r.toList (seg a (sa+k) (na - k+q)) (a.toList.take (sa+k)) (a.toList.drop (sa+na+q)) a 0 (sa+k) e0 (by rw[cf {},hrl]) (by rw[Qh,PF];lia)
  have pb:=nP hk1 hq1 hn pr sr ea s1 s2 O3 O4
  exact h st3 _ (g1.trans (sm.kind.trans k1)) (g2.trans (sm.fail.trans fl1)) (g3.trans (sm.pend.trans pd1)) pb.1 pb.2.1 pb.2.2
 have lo0:kk ((a.extract (sa+na) (sa+na+q))[0]'{})<kk ((a.extract (sa+k) (sa+na))[0]'{}):=by
  rw[xg 0 {},yg 0 {}]
  exact e2 (sa+k) {} {} {}
 have allY:∀y∈(a.extract (sa+na) (sa+na+q)).toList,kk y<kk ((a.extract (sa+k) (sa+na))[(a.extract (sa+k) (sa+na)).size - 1]'{}):=by
  intro y hy
  rw[yl] at hy
  obtain⟨m,hm,m1,m2,rfl⟩:=cz {} hy
  have:(a.extract (sa+k) (sa+na))[(a.extract (sa+k) (sa+na)).size - 1]'{}=a[sa+na - 1]:=by
   rw[xg _ {}]
   congr 1
   lia
  rw[this]
  exact f1 m hm m1 m2
 refine aX (fun _=>?_) (fun _=>?_)
 ·refine Gv.bind (vV c tw k1 {} {} lo0 allY (fun r st2 fr sm=>?_))
  refine Gv.bind (Gv.oV fun st3 g=>?_)
  refine Gv.bind (Gv.get ?_)
  have g2:failedOf st3=failedOf st2:=by rw[g]
  have g3:(failedOf st3).isNone=true:=by rw[g2.trans (sm.fail.trans fl1)];rfl
  refine Gv.pure ?_
  show Q (failedOf st3).isNone st3
  rw[g3]
  exact fin r st2 fr sm st3 (by rw[g]) g2 (by rw[g]) (by rw[g])
 ·refine Gv.bind (wb c tw k1 {} {} (fun y hy=>?_) (allY _ (Rv.mpr (Qf _))) (fun r st2 fr sm=>?_))
  ·rw[xl] at hy
   obtain⟨m,hm,m1,m2,rfl⟩:=cz {} hy
   rw[yg 0 {}]
   exact e2 m hm {} {}
  refine Gv.bind (Gv.oV fun st3 g=>?_)
  refine Gv.bind (Gv.get ?_)
  have g2:failedOf st3=failedOf st2:=by rw[g]
  have g3:(failedOf st3).isNone=true:=by rw[g2.trans (sm.fail.trans fl1)];rfl
  refine Gv.pure ?_
  show Q (failedOf st3).isNone st3
  rw[g3]
  exact fin r st2 fr sm st3 (by rw[g]) g2 (by rw[g]) (by rw[g])
end
section
variable {kk:Ql->Int}{a:Array Ql}
def h_ {lo n i:Nat}:(seg a lo n)[i]?=if i<n then a[lo+i]? else none:=by
 unfold seg
 rw[Sh,Tj]
 split
 ·rw[PH]
 ·rfl
def uc {i j:Nat} (hij:i<=j) (hj:j<=a.size):(mirror a i j ((j - i) / 2)).toList=a.toList.take i++(seg a i (j - i)).reverse++a.toList.drop j:=by
 have hsl:(seg a i (j - i)).length=j - i:=cf {}
 apply R4
 intro k
 rw[PH,getElem?_mirror_all hj]
 have l1:(a.toList.take i).length=i:=by rw[Qh,PF];lia
 have l2:(a.toList.take i++(seg a i (j - i)).reverse).length=j:=by rw[P_,Ut];lia
 by_cases h1:k<i
 ·rw[if_neg {},PB (by rw[l2];lia),PB (by rw[l1];exact h1),Sh,if_pos h1,PH]
 ·by_cases h2:k<j
  ·rw[if_pos ⟨{},h2⟩,PB (by rw[l2];lia),PM (by rw[l1];lia),List.getElem?_reverse (by rw[hsl];lia),h_,if_pos {}]
   congr 1
   lia
  ·rw[if_neg {},PM (by rw[l2];lia),Tj,PH]
   congr 1
   lia
def tO {src dst:Nat} (hd:dst<=src) (hs:src<a.size):(bubble a src (src - dst)).toList=a.toList.take dst++(a[src]::seg a dst (src - dst))++a.toList.drop (src+1):=by
 have hsl:(seg a dst (src - dst)).length=src - dst:=cf {}
 apply R4
 intro k
 rw[PH,getElem?_bubble hs _ {},show src - (src - dst)=dst by lia]
 have l1:(a.toList.take dst).length=dst:=by rw[Qh,PF];lia
 have l2:(a.toList.take dst++(a[src]::seg a dst (src - dst))).length=src+1:=by rw[P_,Qp];lia
 by_cases h0:k<dst
 ·rw[if_neg {},if_neg {},PB (by rw[l2];lia),PB (by rw[l1];exact h0),Sh,if_pos h0,PH]
 ·by_cases h1:k=dst
  ·subst h1
   rw[PB (by rw[l2];lia),PM (by rw[l1];lia),l1]
   simp[hs]
  ·by_cases h2:k<=src
   ·rw[if_neg h1,if_pos ⟨{},h2⟩,PB (by rw[l2];lia),PM (by rw[l1];lia),l1]
    obtain⟨e,he⟩:∃e,k - dst=e+1:=⟨k - dst - 1,{}⟩
    rw[he,List.getElem?_cons_succ,h_,if_pos {}]
    congr 1
    lia
   ·rw[if_neg h1,if_neg {},PM (by rw[l2];lia),Tj,PH]
    congr 1
    lia
def gY {lo n:Nat} (h:lo+n<a.size):seg a lo (n+1)=seg a lo n++[a[lo+n]]:=by
 rw[bQ a lo (n+1) n {}]
 congr 1
 apply R4
 intro k
 rw[h_]
 cases k with
 | zero=>simp[h]
 | succ k=>simp
def yJ:Srt kk [x]:=QT _ _
def D_ {lo:Nat} (h:lo<a.size):Srt kk (seg a lo 1):=by
 have:=gY (show lo+0<a.size by lia)
 rw[this]
 have e:seg a lo 0=[]:=by rfl
 rw[e];exact yJ
def Eh {lo n:Nat} (s:Srt kk (seg a lo n)) (h1:1<=n) (h:lo+n<a.size) (lt:kk a[lo+n - 1]<kk a[lo+n]):Srt kk (seg a lo (n+1)):=by
 rw[gY h]
 refine Qb.mpr ⟨s,yJ,fun x hx y hy=>?_⟩
 rw[P1] at hy;subst hy
 obtain⟨j,hj,j1,j2,rfl⟩:=cz {} hx
 rcases Rf (show j<=lo+n - 1 by lia) with z | z
 ·have:=jK {} s j1 z {};lia
 simp_all
abbrev Dsc (kk:Ql->Int) (l:List Ql):Prop:=l.Pairwise fun x y=>kk y<kk x
def ym {lo n:Nat} (s:Dsc kk (seg a lo n)) (h1:1<=n) (h) (lt:kk a[lo+n]<kk a[lo+n - 1]):Dsc kk (seg a lo (n+1)):=by
 rw[gY h]
 refine Qb.mpr ⟨s,QT _ _,fun x hx y hy=>?_⟩
 rw[P1] at hy;subst hy
 obtain⟨j,hj,j1,j2,rfl⟩:=cz {} hx
 rcases Rf (show j<=lo+n - 1 by lia) with z | z
 ·have hl:(seg a lo n).length=n:=cf {}
  have:=PZ.mp s (j - lo) (n - 1) {} {} {}
  rw[jA {} {},jA {} {}] at this
  grind
 simp_all
structure Prt (a a':Array Ql) (lo n) (S):Prop where
 eq:a'.toList=a.toList.take lo++S++a.toList.drop (lo+n)
 perm:S.Perm (seg a lo n)
def Prt.all {lo n:Nat} (p:Prt a a' lo n S):a'.toList.Perm a.toList:=by
 rw[p.eq]
 conv=>rhs;rw[eh a lo n]
 exact(p.perm.append_left _).append_right _
def Prt.size {lo n:Nat} (p:Prt a a' lo n S):a'.size=a.size:=by
 have:=p.all.length_eq;omega
def Prt.P {lo n:Nat}{P:Ql->Prop} (p:Prt a a' lo n S) (h:∀x∈a,P x):∀x∈a',P x:=fun x hx=>h x (by
 have:=p.all.mem_iff.mp (Rv.mpr hx);simp_all)
def Prt.nd {lo n:Nat} (p:Prt a a' lo n S) (h:(a.toList.map kk).Nodup):(a'.toList.map kk).Nodup:=((p.all.map kk).nodup_iff).mpr h
def Prt.seg {lo n:Nat} (p:Prt a a' lo n S) (h:lo+n<=a.size):seg a' lo n=S:=by
 have hS:S.length=n:=by rw[p.perm.length_eq,cf h]
 unfold L2.SM.seg
 rw[p.eq,Qy,List.drop_append_of_le_length (by grind),Tw (by grind),So,Sa {},Rj {}]
def Prt.before {lo n:Nat} (p:Prt a a' lo n S) (h:lo+n<=a.size) (hk:i+k<=lo):L2.SM.seg a' i k=L2.SM.seg a i k:=by
 apply R4
 intro q
 rw[h_,h_]
 split
 ·rename_i hq
  rw[<- PH,<- PH,p.eq,Qy,PB (by grind),Sh,if_pos {}]
 ·rfl
def Prt.refl {lo n:Nat}:Prt a a lo n (L2.SM.seg a lo n):=⟨eh a lo n,.refl _⟩
end
section
variable {prog:PJ}{w:Qc}{A:P9}{E:Pp->Pr->Prop}{s:Pr}{κ:Sz}{P:Ql->Prop}{kk:Ql->Int}
def vg {β:Type}{f:Nat->β->StateT PQ Sem (ForInStep β)} (I:Nat->β->PQ->Prop) (D:β->PQ->Prop) (hi:Nat)
  (step:∀x b st,x<hi->I x b st->Gv prog w A E s (f x b) st fun r st'=>match r with | .done b'=>D b' st' | .yield b'=>I (x+1) b' st')
  (fin:∀b st,I hi b st->D b st):∀(n lo:Nat) (b:β) (st:PQ),lo+n=hi->I lo b st->Gv prog w A E s (forIn (U1 lo n) b f) st D
 | 0,lo,b,st,e,h=>kasC_nil ⟨rfl,fin b st ((show lo=hi by lia) ▸ h)⟩
 | n+1,lo,b,st,e,h=>by
  have ih:=vg I D hi step fin n (lo+1)
  refine kasC_cons (P4 (step lo b st {} h) (fun r s' h'=>?_) fun _ _ e=>e)
  obtain⟨e',h'⟩:=h'
  subst e'
  revert h'
  cases r.1 with
  | done b'=>simp
  | yield b'=>intro h';exact ih b' r.2 {} h'
def Gv.vM {st:PQ} (I:Nat->β->PQ->Prop) (hab:a<=b) (h0:I a c st)
  (step:∀x z st,x<b->I x z st->Gv prog w A E s (f x z) st fun r st'=>match r with | .done b'=>Q b' st' | .yield b'=>I (x+1) b' st')
  (fin:∀z st,I b z st->Q z st):Gv prog w A E s (forIn [a:b] c f) st Q:=
 kasC_range (vg I Q b step fin (b - a) a c st {} h0)
structure Ok (κ) (P:Ql->Prop) (kk:Ql->Int) (st:PQ):Prop where
 kind:kindOf st=κ
 fail:failedOf st=none
 all:∀x∈arrOf st,P x
 nd:((arrOf st).toList.map kk).Nodup
def Gv.ltAt {st:PQ} (c:Cmp prog w A s κ P kk) (o:Ok κ P kk st) (hi) (hj:j<(arrOf st).size) (h:Q (Wx (decide (kk (arrOf st)[i]<kk (arrOf st)[j]))) st):Gv prog w A E s (ltAt' i j) st Q:=by
 refine Gv.bind (Gv.get ?_)
 refine Gv.bind (Gv.elem (get_some hi) ?_)
 refine Gv.bind (Gv.elem (get_some hj) ?_)
 exact Gv.ltC c (o.all _ (Qf hi)) (o.all _ (Qf hj)) o.kind h
structure Arr (st st':PQ) (a'):Prop where
 kind:kindOf st'=kindOf st
 fail:failedOf st'=failedOf st
 pend:pendingOf st'=pendingOf st
 arr:arrOf st'=a'
def Arr.refl {st:PQ}:Arr st st (arrOf st):=⟨rfl,rfl,rfl,rfl⟩
def Arr.ok {st st':PQ}{lo n:Nat} (o:Ok κ P kk st) (r:Arr st st' a') (p:Prt (arrOf st) a' lo n S):Ok κ P kk st':=⟨r.kind.trans o.kind,r.fail.trans o.fail,by rw[r.arr];exact p.P o.all,by rw[r.arr];exact p.nd o.nd⟩
def ud {lo nrem n0:Nat}{st:PQ}{f:Nat->Option (Option Nat) × Nat->StateT PQ Sem (ForInStep (Option (Option Nat) × Nat))}{R:Option (Option Nat) × Nat->PQ->Prop} (hn:lo+nrem<=(arrOf st).size) (nd:((arrOf st).toList.map kk).Nodup) (h1:1<=n0) (h2:n0<=nrem) (s0:Srt kk (seg (arrOf st) lo n0))
  (hf:∀x n T,1<=n->(hl:lo+n<(arrOf st).size)->T (if kk (arrOf st)[lo+n]<kk ((arrOf st)[lo+n - 1]'{}) then .done (Wy,n) else .yield (Wy,n+1)) st->Gv prog w A E s (f x (Wy,n)) st T)
  (hR:∀n,n0<=n->n<=nrem->Srt kk (seg (arrOf st) lo n)->(n<nrem->∀hl:lo+n<(arrOf st).size,kk (arrOf st)[lo+n]<kk ((arrOf st)[lo+n - 1]'{}))->R (Wy,n) st):Gv prog w A E s (forIn [n0:nrem] (Wy,n0) f) st R:=by
 refine Gv.vM (fun x z st'=>st'=st/\z=(Wy,x)/\n0<=x/\Srt kk (seg (arrOf st) lo x)) h2 ⟨rfl,rfl,Pt _,s0⟩ (fun x z st' hx hz=>?_) (fun z st' hz=>?_)
 ·obtain⟨rfl,rfl,g1,g2⟩:=hz
  have hl:lo+x<(arrOf st').size:={}
  refine hf x x _ {} hl ?_
  by_cases lt:kk (arrOf st')[lo+x]<kk ((arrOf st')[lo+x - 1]'{})
  ·rw[if_pos lt]
   exact hR x g1 {} g2 fun _ _=>lt
  ·rw[if_neg lt]
   have ne:=qq nd hl (show lo+x - 1<(arrOf st').size by lia) {}
   exact⟨rfl,rfl,{},Eh g2 {} hl {}⟩
 ·obtain⟨rfl,rfl,g1,g2⟩:=hz
  exact hR nrem g1 (Pt _) g2 fun h=>absurd h (Ra _)
def uu {lo nrem:Nat}{st:PQ} (c:Cmp prog w A s κ P kk) (o:Ok κ P kk st) (hn:lo+nrem<=(arrOf st).size) (h1:1<=nrem)
  (h:∀n a' st' S,1<=n->n<=nrem->Arr st st' a'->Prt (arrOf st) a' lo n S->Srt kk S->Q (Wx n) st'):Gv prog w A E s (countRun' lo nrem) st Q:=by
 have F:∀(st:PQ),Ok κ P kk st->lo+nrem<=(arrOf st).size->∀n,1<=n->lo+n<(arrOf st).size->∀{T:Option Bool->PQ->Prop},(∀(hl:lo+n<(arrOf st).size),T (Wx (decide (kk (arrOf st)[lo+n]<kk ((arrOf st)[lo+n - 1]'{})))) st)->Gv prog w A E s (ltAt' (lo+n) (lo+n - 1)) st T:=fun st o hn n h1 hl T hT=>Gv.ltAt c o hl {} (hT hl)
 with_unfolding_all refine Gv.bind ?_
 refine ud hn o.nd (Pt _) h1 (D_ {}) (fun x n T g1 hl hT=>?_) (fun n g1 g2 g3 g4=>?_)
 ·refine Gv.bind (F st o hn n g1 hl fun hl=>?_)
  dsimp only
  by_cases lt:kk (arrOf st)[lo+n]<kk ((arrOf st)[lo+n - 1]'{})
  ·rw[decide_eq_true lt];rw[if_pos lt] at hT;exact Gv.pure hT
  ·rw[decide_eq_false lt];rw[if_neg lt] at hT;exact Gv.pure hT
 refine aX (fun e=>?_) (fun e=>?_)
 ·exact Gv.pure (h n _ st _ g1 g2 Arr.refl Prt.refl g3)
 have e':¬ n=nrem:=by simp_all
 refine aX (fun e2=>?_) (fun e2=>?_)
 ·-- it rose
  refine Gv.bind (Gv.ltAt c o (show lo<(arrOf st).size by lia) (show lo+n - 1<(arrOf st).size by lia) ?_)
  have lt:kk (arrOf st)[lo]<kk (arrOf st)[lo+n - 1]:=jK {} g3 (Pt _) {} {}
  rw[decide_eq_true lt]
  dsimp only
  exact Gv.pure (h n _ st _ g1 g2 Arr.refl Prt.refl g3)
 have n1:n=1:={}
 subst n1
 refine Gv.bind (Gv.rule ?_)
 have d2:Dsc kk (seg (arrOf st) lo 2):=by
  have l:=g4 {} {}
  refine ym (n:=1) ?_ (Pt _) {} l
  rw[gY (n:=0) {}]
  have e0:seg (arrOf st) lo 0=[]:=by rfl
  rw[e0];exact QT _ _
 refine Gv.bind (Gv.mono (Q:=fun z st'=>st'=st/\∃m,z=(Wy,m,0)/\2<=m/\m<=nrem/\Dsc kk (seg (arrOf st) lo m)) (Gv.vM (fun x z st'=>st'=st/\z=(Wy,x,0)/\2<=x/\Dsc kk (seg (arrOf st) lo x)) {} ⟨rfl,rfl,{},d2⟩ (fun x z st' hx hz=>?_) (fun z st' hz=>?_)) (fun z st' hz=>?_))
 ·obtain⟨rfl,rfl,q1,q2⟩:=hz
  have hl:lo+x<(arrOf st').size:={}
  refine Gv.bind (F st' o hn x {} hl fun hl=>?_)
  dsimp only
  by_cases lt:kk (arrOf st')[lo+x]<kk ((arrOf st')[lo+x - 1]'{})
  ·rw[decide_eq_true lt,if_pos rfl,if_neg {}]
   exact Gv.pure ⟨rfl,rfl,{},ym q2 {} hl lt⟩
  ·rw[decide_eq_false lt,if_neg (by decide)]
   have ne:=qq o.nd hl (show lo+x - 1<(arrOf st').size by lia) {}
   have gt:kk ((arrOf st')[lo+x - 1]'{})<kk (arrOf st')[lo+x]:={}
   refine Gv.bind (Gv.ltAt c o (show lo+x - 1<(arrOf st').size by lia) hl ?_)
   rw[decide_eq_true gt]
   dsimp only
   rw[if_pos rfl]
   exact Gv.pure ⟨rfl,x,rfl,q1,{},q2⟩
 ·simp_all
 ·obtain⟨rfl,m,rfl,q1,q2,q3⟩:=hz
  dsimp only
  rw[if_neg {}]
  have pr:Prt (arrOf st') (mirror (arrOf st') lo (lo+m) ((lo+m - lo) / 2)) lo m (seg (arrOf st') lo m).reverse:=by
   refine⟨?_,List.reverse_perm _⟩
   have:=uc (a:=arrOf st') (show lo<=lo+m by lia) {}
   simp_all
  have sr:Srt kk (seg (arrOf st') lo m).reverse:=by unfold Srt;rw[List.pairwise_reverse];exact q3
  with_unfolding_all refine Gv.bind (Gv.oV fun st2 g=>?_)
  have r2:Arr st' st2 (mirror (arrOf st') lo (lo+m) ((lo+m - lo) / 2)):=⟨by rw[g],by rw[g],by rw[g],by rw[g];rfl⟩
  clear g
  have o2:=r2.ok o pr
  have hs2:(arrOf st2).size=(arrOf st').size:=by rw[r2.arr];exact pr.size
  have sg:seg (arrOf st2) lo m=(seg (arrOf st') lo m).reverse:=by rw[r2.arr];exact pr.seg {}
  refine Gv.bind ?_
  refine ud (st:=st2) (lo:=lo) (n0:=m) {} o2.nd {} q2 (by simp_all) (fun x n T z1 hl hT=>?_) (fun n z1 z2 z3 z4=>?_)
  ·refine Gv.bind (F st2 o2 {} n z1 hl fun hl=>?_)
   dsimp only
   by_cases lt:kk (arrOf st2)[lo+n]<kk ((arrOf st2)[lo+n - 1]'{})
   ·rw[decide_eq_true lt,if_pos rfl];rw[if_pos lt] at hT;exact Gv.pure hT
   ·rw[decide_eq_false lt,if_neg (by decide)];rw[if_neg lt] at hT;exact Gv.pure hT
  ·dsimp only
   refine Gv.pure (h n _ st2 (seg (arrOf st2) lo n) {} z2 r2 ?_ z3)
   rw[r2.arr]
   -- the longer part
   refine⟨?_,?_⟩
   ·have e0:=eh (mirror (arrOf st') lo (lo+m) ((lo+m - lo) / 2)) lo n
    rw[e0]
    congr 1
    ·congr 1
     rw[pr.eq,Qy,Sa (by grind),List.take_take,Nat.min_self]
    ·rw[pr.eq]
     have hl:(Wq lo (arrOf st').toList++(seg (arrOf st') lo m).reverse).length=lo+m:=by rw[P_,Qh,PF,Ut,cf {}];lia
     rw[List.drop_append,Tw {},So,hl,SR]
     simp_all
   ·have sp1:=bQ (mirror (arrOf st') lo (lo+m) ((lo+m - lo) / 2)) lo n m z1
    have sp2:=bQ (arrOf st') lo n m z1
    have sg':seg (mirror (arrOf st') lo (lo+m) ((lo+m - lo) / 2)) lo m=(seg (arrOf st') lo m).reverse:=pr.seg {}
    rw[sp1,sp2,sg']
    have tl:seg (mirror (arrOf st') lo (lo+m) ((lo+m - lo) / 2)) (lo+m) (n - m)=seg (arrOf st') (lo+m) (n - m):=by
     unfold seg
     congr 1
     rw[pr.eq]
     have hl:(Wq lo (arrOf st').toList++(L2.SM.seg (arrOf st') lo m).reverse).length=lo+m:=by rw[P_,Qh,PF,Ut,cf {}];lia
     grind
    grind
end
section
variable {prog:PJ}{w:Qc}{A:P9}{E:Pp->Pr->Prop}{s:Pr}{κ:Sz}{P:Ql->Prop}{kk:Ql->Int}
def Prt.head {i m lo:Nat} (p:Prt a a' i m S) (h1:lo<=i) (h3:i<=a.size):a'.toList.take lo=a.toList.take lo:=by
 rw[p.eq,Qy,Sa (by simp_all),List.take_take,Vo h1]
def Prt.tail (p:Prt a a' i m S) (h2:i+m<=hi) (h3:i+m<=a.size):a'.toList.drop hi=a.toList.drop hi:=by
 have hS:S.length=m:=by rw[p.perm.length_eq,cf h3]
 have hl:(Wq i a.toList++S).length=i+m:=by grind
 rw[p.eq,List.drop_append,Tw {},So,SR]
 simp_all
def Prt.widen {i m lo n:Nat} (p:Prt a a' i m S) (h1:lo<=i) (h2:i+m<=lo+n) (h3:lo+n<=a.size):Prt a a' lo n (L2.SM.seg a' lo n):=by
 have tk:=p.head h1 {}
 have dp:=p.tail h2 {}
 refine⟨by rw[<- tk,<- dp];exact eh a' lo n,?_⟩
 have e:=p.all
 rw[eh a' lo n,eh a lo n,tk,dp,List.perm_append_right_iff,List.perm_append_left_iff] at e
 exact e
def Prt.trans {lo n:Nat} (p:Prt a a' lo n S) (q:Prt a' a'' lo n S') (h3:lo+n<=a.size):Prt a a'' lo n S':=by
 refine⟨?_,q.perm.trans (by rw[p.seg h3];exact p.perm)⟩
 rw[q.eq,p.head (Pt _) {},p.tail (Pt _) h3]
def FH {a a'':Array Ql}{lo k l:Nat} (hk:lo+k<a.size) (hl:l<=k) (sr:Srt kk (seg a lo k)) (lt:∀i,(hi:lo+i<a.size)->i<l->kk a[lo+i]<kk a[lo+k]) (gt:∀i,(hi:lo+i<a.size)->l<=i->i<k->kk a[lo+k]<kk a[lo+i])
  (p:Prt a a'' (lo+l) (k - l+1) (a[lo+k]::seg a (lo+l) (k - l))):Srt kk (seg a'' lo (k+1)):=by
 have e1:=bQ a'' lo (k+1) l {}
 have e2:seg a'' lo l=seg a lo l:=p.before {} {}
 have e3:=p.seg {}
 rw[e1,e2,show k+1 - l=k - l+1 by lia,e3]
 have s1:=sr
 rw[bQ a lo k l hl] at s1
 have s2:=Qb.mp s1
 refine Qb.mpr ⟨s2.1,Qe.mpr ⟨fun y hy=>?_,s2.2.1⟩,fun x hx y hy=>?_⟩
 ·obtain⟨m,hm,m1,m2,rfl⟩:=cz {} hy
  have:=gt (m - lo) {} {} {}
  simpa [show lo+(m - lo)=m by lia] using this
 ·rcases PL.mp hy with rfl | hy
  ·obtain⟨m,hm,m1,m2,rfl⟩:=cz {} hx
   have:=lt (m - lo) {} {}
   simpa [show lo+(m - lo)=m by lia] using this
  ·exact s2.2.2 x hx y hy
def oJ {lo n ok:Nat}{st:PQ}{Q:Bool->PQ->Prop} (c:Cmp prog w A s κ P kk) (o:Ok κ P kk st) (hn:lo+n<=(arrOf st).size) (h1:1<=ok) (h2:ok<=n) (s0:Srt kk (seg (arrOf st) lo ok))
  (h:∀a' st',Arr st st' a'->Prt (arrOf st) a' lo n (seg a' lo n)->Srt kk (seg a' lo n)->Q Wz st'):Gv prog w A E s (binarySort' lo n ok) st Q:=by
 with_unfolding_all refine Gv.bind ?_
 refine Gv.mono (Q:=fun z st'=>z=(Wy,())/\∃a',Arr st st' a'/\Prt (arrOf st) a' lo n (seg a' lo n)/\Srt kk (seg a' lo n)) (Gv.vM (fun x z st'=>z=(Wy,())/\∃a',Arr st st' a'/\Prt (arrOf st) a' lo n (seg a' lo n)/\Srt kk (seg a' lo x)/\1<=x) {} ⟨rfl,_,Arr.refl,Prt.refl,by rw[Nat.max_eq_left h1];exact s0,{}⟩ (fun k z st1 hk hz=>?_) (fun z st1 hz=>?_)) (fun z st1 hz=>?_)
 ·obtain⟨rfl,a1,r1,p1,g1,g2⟩:=hz
  have o1:=r1.ok o p1
  have hs1:(arrOf st1).size=(arrOf st).size:=by rw[r1.arr];exact p1.size
  have ha1:=r1.arr
  have hk1:lo+k<(arrOf st1).size:={}
  refine Gv.bind (Gv.mono (Q:=fun z st2=>st2=st1/\∃l r,z=(Wy,l,r)/\l<=k/\(∀i,(hi:lo+i<(arrOf st1).size)->i<l->kk (arrOf st1)[lo+i]<kk (arrOf st1)[lo+k])/\(∀i,(hi:lo+i<(arrOf st1).size)->l<=i->i<k->kk (arrOf st1)[lo+k]<kk (arrOf st1)[lo+i])) (Gv.range (fun m z st2=>st2=st1/\∃l r,z=(Wy,l,r)/\l<=r/\r<=k/\r - l<=m/\(∀i,(hi:lo+i<(arrOf st1).size)->i<l->kk (arrOf st1)[lo+i]<kk (arrOf st1)[lo+k])/\(∀i,(hi:lo+i<(arrOf st1).size)->r<=i->i<k->kk (arrOf st1)[lo+k]<kk (arrOf st1)[lo+i])) ⟨rfl,0,k,rfl,QJ _,Pt _,{},fun i hi z=>absurd z (To _),fun i hi z1 z2=>{}⟩ (fun x m z st2 hz=>?_) (fun z st2 hz=>?_)) (fun z st2 hz=>?_))
  ·obtain⟨rfl,l,r,rfl,b1,b2,b3,b4,b5⟩:=hz
   by_cases hl:l ≥ r
   ·rw[if_pos hl]
    have:l=r:={}
    subst this
    exact Gv.pure ⟨rfl,l,l,rfl,b2,b4,b5⟩
   ·rw[if_neg hl]
    have hm:lo+(l+r) / 2<(arrOf st2).size:={}
    have sr:∀{i j:Nat},(hij:i<j)->(hj:j<k)->kk ((arrOf st2)[lo+i]'{})<kk ((arrOf st2)[lo+j]'{}):=fun{i j} hij hj=>by
     have g1':Srt kk (seg (arrOf st2) lo k):=by rw[ha1];exact g1
     exact jK {} g1' {} {} {}
    refine Gv.bind (Gv.ltAt c o1 hk1 hm ?_)
    dsimp only
    by_cases lt:kk (arrOf st2)[lo+k]<kk (arrOf st2)[lo+(l+r) / 2]
    ·rw[decide_eq_true lt]
     refine Gv.pure ⟨rfl,l,(l+r) / 2,rfl,{},{},{},b4,fun i hi z1 z2=>?_⟩
     rcases Rf z1 with z | z
     ·have:=sr z z2;lia
     ·subst z;exact lt
    ·rw[decide_eq_false lt]
     have ne:=qq o1.nd hk1 hm {}
     refine Gv.pure ⟨rfl,(l+r) / 2+1,r,rfl,{},{},{},fun i hi z1=>?_,b5⟩
     rcases Rf (show i<=(l+r) / 2 by lia) with z | z
     ·have:=sr z (show(l+r) / 2<k by lia);lia
     ·subst z;lia
  ·obtain⟨rfl,l,r,rfl,b1,b2,b3,b4,b5⟩:=hz
   have:l=r:={}
   subst this
   exact⟨rfl,l,l,rfl,b2,b4,b5⟩
  ·obtain⟨rfl,l,r,rfl,b2,b4,b5⟩:=hz
   have bl:=tO (a:=arrOf st2) (show lo+l<=lo+k by lia) hk1
   rw[show lo+k - (lo+l)=k - l by lia] at bl
   have p2:Prt (arrOf st2) (bubble (arrOf st2) (lo+k) (lo+k - (lo+l))) (lo+l) (k - l+1) ((arrOf st2)[lo+k]::seg (arrOf st2) (lo+l) (k - l)):=by
    refine⟨?_,?_⟩
    ·rw[show lo+k - (lo+l)=k - l by lia,bl,show lo+l+(k - l+1)=lo+k+1 by lia]
    ·rw[gY {}]
     simp only[show lo+l+(k - l)=lo+k by lia]
     exact(SG _ _).symm
   with_unfolding_all refine Gv.bind (Gv.oV fun st3 g=>?_)
   have r3:Arr st2 st3 (bubble (arrOf st2) (lo+k) (lo+k - (lo+l))):=⟨by rw[g],by rw[g],by rw[g],by rw[g];rfl⟩
   clear g
   have p3:=p2.widen (lo:=lo) (n:=n) {} {} {}
   rw[ha1] at p3
   have p4:=p1.trans p3 hn
   rw[<- ha1] at p4
   refine Gv.pure ⟨rfl,_,⟨r3.kind.trans r1.kind,r3.fail.trans r1.fail,r3.pend.trans r1.pend,r3.arr⟩,p4,?_,{}⟩
   exact FH hk1 b2 (by rw[ha1];exact g1) b4 b5 p2
 ·obtain⟨rfl,a1,r1,p1,g1,g2⟩:=hz
  exact⟨rfl,a1,r1,p1,g1⟩
 ·obtain⟨rfl,a1,r1,p1,g1⟩:=hz
  dsimp only
  exact Gv.pure (h a1 st1 r1 p1 g1)
end
section
variable {prog:PJ}{w:Qc}{A:P9}{E:Pp->Pr->Prop}{s:Pr}{κ:Sz}{P:Ql->Prop}{kk:Ql->Int}
def Prt.after {i m lo n:Nat} (p:Prt a a' i m S) (h2:i+m<=lo) (h3:i+m<=a.size):L2.SM.seg a' lo n=L2.SM.seg a lo n:=by
 unfold L2.SM.seg
 rw[p.tail h2 h3]
abbrev Rn (kk:Ql->Int) (a:Array Ql):Nat->List (Nat × Nat × Nat)->Nat->Prop
 | s,[],lo=>s=lo
 | s,x::r,lo=>x.1=s/\1<=x.2.1/\Srt kk (seg a s x.2.1)/\Rn kk a (s+x.2.1) r lo
def Rn.le {a:Array Ql}:∀{L:List (Nat × Nat × Nat)}{s lo:Nat},Rn kk a s L lo->s+L.length<=lo
 | [],s,lo,h=>by have:s=lo:=h;grind
 | x::r,s,lo,h=>by have:=Rn.le h.2.2.2;have:=h.2.1;grind
def Rn.app {a:Array Ql}:∀{X Y:List (Nat × Nat × Nat)}{s lo:Nat},Rn kk a s (X++Y) lo↔∃m,Rn kk a s X m/\Rn kk a m Y lo
 | [],Y,s,lo=>⟨fun h=>⟨s,rfl,h⟩,fun⟨m,h1,h2⟩=>by have:s=m:=h1;simp_all⟩
 | x::X,Y,s,lo=>by
  constructor
  ·intro h
   obtain⟨m,h1,h2⟩:=Rn.app.mp h.2.2.2
   exact⟨m,⟨h.1,h.2.1,h.2.2.1,h1⟩,h2⟩
  ·intro⟨m,h1,h2⟩
   exact⟨h1.1,h1.2.1,h1.2.2.1,Rn.app.mpr ⟨m,h1.2.2.2,h2⟩⟩
def Rn.E8 {a a':Array Ql}:∀{L:List (Nat × Nat × Nat)}{s lo:Nat},Rn kk a s L lo->(∀i k,s<=i->i+k<=lo->seg a' i k=seg a i k)->Rn kk a' s L lo
 | [],s,lo,h,_=>h
 | x::r,s,lo,h,e=>by
  have l:=Rn.le h.2.2.2
  refine⟨h.1,h.2.1,?_,Rn.E8 h.2.2.2 fun i k h1 h2=>e i k {} h2⟩
  rw[e s x.2.1 (Pt _) {}];exact h.2.2.1
def Rn.pow {a:Array Ql}:∀{L L':List (Nat × Nat × Nat)}{s lo:Nat},Rn kk a s L lo->L'.map (fun x=>(x.1,x.2.1))=L.map (fun x=>(x.1,x.2.1))->Rn kk a s L' lo
 | [],[],s,lo,h,_=>h
 | [],_::_,s,lo,h,e=>by simp at e
 | _::_,[],s,lo,h,e=>by simp at e
 | x::r,y::r',s,lo,h,e=>by
  simp only[PC,Vm,Prod.mk.injEq] at e
  obtain⟨⟨e1,e2⟩,e3⟩:=e
  refine⟨e1.trans h.1,by rw[e2];exact h.2.1,by rw[e2];exact h.2.2.1,?_⟩
  rw[e2];exact Rn.pow h.2.2.2 e3
structure J (κ) (P) (kk) (st0 st) (lo):Prop where
 ok:Ok κ P kk st
 perm:(arrOf st).toList.Perm (arrOf st0).toList
 runs:Rn kk (arrOf st) 0 (pendingOf st).toList lo
 le:lo<=(arrOf st).size
def J.size {st0 st:PQ}{lo:Nat} (j:J κ P kk st0 st lo):(arrOf st).size=(arrOf st0).size:=by have:=j.perm.length_eq;omega
def gL {i lo:Nat}{st0 st:PQ}{Q:Bool->PQ->Prop} (c:Cmp prog w A s κ P kk) (j:J κ P kk st0 st lo) (hi:i+2<=(pendingOf st).size)
  (h:∀st',J κ P kk st0 st' lo->(pendingOf st').size+1=(pendingOf st).size->(∀q k,lo<=q->seg (arrOf st') q k=seg (arrOf st) q k)->Q Wz st'):Gv prog w A E s (mergeAt' i) st Q:=by
 have hl:i+2<=(pendingOf st).toList.length:=by simpa using hi
 obtain⟨X,x,y,Y,e,hX⟩:∃X x y Y,(pendingOf st).toList=X++x::y::Y/\X.length=i:=by
  refine⟨(pendingOf st).toList.take i,(pendingOf st).toList[i],(pendingOf st).toList[i+1],(pendingOf st).toList.drop (i+2),?_,by rw[Qh];lia⟩
  rw[<- Qm,<- Qm,Sr]
 have rn:=j.runs
 rw[e] at rn
 obtain⟨m,r1,r2⟩:=Rn.app.mp rn
 obtain⟨x1,x2,x3⟩:=x
 obtain⟨y1,y2,y3⟩:=y
 obtain⟨q1,q2,q3,q4,q5,q6,q7⟩:=r2
 dsimp only at q1 q2 q3 q4 q5 q6 q7
 subst q1
 subst q4
 have l7:=q7.le
 have hs:=j.le
 have p1:(pendingOf st)[i]?=Wx (x1,x2,x3):=by rw[<- PH,e,PM {},hX,Nat.sub_self];rfl
 have p2:(pendingOf st)[i+1]?=Wx (x1+x2,y2,y3):=by rw[<- PH,e,PM {},hX,Nat.add_sub_cancel_left];rfl
 refine xm c j.ok.kind j.ok.fail j.ok.all j.ok.nd p1 p2 q2 q5 {} q3 q6 (fun st' M k1 f1 pd1 a1 pm sm=>?_)
 have pr:Prt (arrOf st) (arrOf st') x1 (x2+y2) M:=⟨by rw[<- VQ];exact a1,pm⟩
 have pl:(pendingOf st').toList=X++(x1,x2+y2,x3)::Y:=by
  rw[pd1]
  have e1:(((pendingOf st).setIfInBounds i (x1,x2+y2,x3)).eraseIdxIfInBounds (i+1)).toList=((pendingOf st).toList.set i (x1,x2+y2,x3)).eraseIdx (i+1):={..}
  rw[e1,e,<- hX]
  simp[List.eraseIdx_append]
  intro hh;lia
 refine h st' ⟨⟨k1,f1,pr.P j.ok.all,pr.nd j.ok.nd⟩,pr.all.trans j.perm,?_,by rw[pr.size];exact hs⟩ ?_ (fun q k hq=>pr.after {} {})
 ·rw[pl]
  refine Rn.app.mpr ⟨x1,r1.E8 fun i k h1 h2=>pr.before {} h2,rfl,by show 1<=x2+y2;lia,?_,?_⟩
  ·show Srt kk (seg (arrOf st') x1 (x2+y2))
   rw[pr.seg {}];exact sm
  ·show Rn kk (arrOf st') (x1+(x2+y2)) Y lo
   rw[<- VQ]
   exact q7.E8 fun i k h1 h2=>pr.after {} {}
 ·have e1:(pendingOf st').size=(pendingOf st').toList.length:={..}
  have e2:(pendingOf st).size=(pendingOf st).toList.length:={..}
  rw[e1,e2,pl,e];simp;lia
end
section
variable {prog:PJ}{w:Qc}{A:P9}{E:Pp->Pr->Prop}{s:Pr}{κ:Sz}{P:Ql->Prop}{kk:Ql->Int}
def J.part {st0 st st2:PQ}{lo n:Nat} (j:J κ P kk st0 st lo) (r:Arr st st2 a2) (p:Prt (arrOf st) a2 lo n S) (hn:lo+n<=(arrOf st).size):J κ P kk st0 st2 lo:=by
 refine⟨r.ok j.ok p,by rw[r.arr];exact p.all.trans j.perm,?_,by rw[r.arr,p.size];lia⟩
 rw[r.arr,r.pend]
 exact j.runs.E8 fun i k h1 h2=>p.before hn h2
def J.push {st0 st st':PQ}{lo n:Nat} (j:J κ P kk st0 st lo) (ek:kindOf st'=kindOf st) (ef:failedOf st'=failedOf st) (ea:arrOf st'=arrOf st) (ep:(pendingOf st').toList.map (fun x=>(x.1,x.2.1))=(pendingOf st).toList.map (fun x=>(x.1,x.2.1))++[(lo,n)]) (h1:1<=n) (hn:lo+n<=(arrOf st).size) (sr:Srt kk (seg (arrOf st) lo n)):J κ P kk st0 st' (lo+n):=by
 refine⟨⟨ek.trans j.ok.kind,ef.trans j.ok.fail,by rw[ea];exact j.ok.all,by rw[ea];exact j.ok.nd⟩,by rw[ea];exact j.perm,?_,by simp_all⟩
 rw[ea]
 refine Rn.pow (L:=(pendingOf st).toList++[(lo,n,0)]) (Rn.app.mpr ⟨lo,j.runs,rfl,h1,sr,rfl⟩) ?_
 simp_all
def vd (p:Array (Nat × Nat × Nat)) (i pw lo:Nat) (n:Nat):((p.modify i fun x=>(x.1,x.2.1,pw)).push (lo,n,0)).toList.map (fun x=>(x.1,x.2.1))=p.toList.map (fun x=>(x.1,x.2.1))++[(lo,n)]:=by
 rw[UU,Uu]
 congr 1
 apply R4
 intro k
 rw[P5,P5,PH,PH,Array.getElem?_modify]
 split
 ·cases p[k]?<;>rfl
 ·rfl
def uT (p:Array (Nat × Nat × Nat)) (lo n):(p.push (lo,n,0)).toList.map (fun x=>(x.1,x.2.1))=p.toList.map (fun x=>(x.1,x.2.1))++[(lo,n)]:=by
 simp
def vk {st:PQ}{Q:Unit->PQ->Prop} (c:Cmp prog w A s κ P kk) (o:Ok κ P kk st) (hp:pendingOf st = #[]) (h:∀st',failedOf st'=Wy->(arrOf st').toList.Perm (arrOf st).toList->Srt kk (arrOf st').toList->Q () st'):Gv prog w A E s sortRuns' st Q:=by
 have j0:J κ P kk st st 0:=⟨o,.refl _,by rw[hp];rfl,QJ _⟩
 with_unfolding_all refine Gv.bind (Gv.get ?_)
 refine Gv.bind (Gv.mono (Q:=fun z st'=>∃lo,z=(Wy,lo)/\J κ P kk st st' (arrOf st).size) (Gv.range (fun m z st'=>∃lo,z=(Wy,lo)/\J κ P kk st st' lo/\(arrOf st).size<=lo+m) ⟨0,rfl,j0,by show(arrOf st).size<=0+((arrOf st).size - 0);lia⟩ (fun x m z st1 hz=>?_) (fun z st1 hz=>?_)) (fun z st1 hz=>?_))
 ·obtain⟨lo,rfl,j1,pr⟩:=hz
  have sz1:=j1.size
  have le1:=j1.le
  by_cases hl:lo ≥ (arrOf st).size
  ·rw[if_pos hl]
   have:lo=(arrOf st).size:={}
   subst this
   exact Gv.pure ⟨_,rfl,j1⟩
  rw[if_neg hl]
  refine Gv.bind (uu c j1.ok (nrem:=(arrOf st).size - lo) {} {} (fun n a2 st2 S n1 n2 r2 p2 sS=>?_))
  have j2:=j1.part r2 p2 {}
  have s2:Srt kk (seg (arrOf st2) lo n):=by rw[r2.arr,p2.seg {}];exact sS
  have sz2:=j2.size
  dsimp only
  generalize hmr:(minRun' (arrOf st).size (arrOf st).size 0)=mr
  by_cases lt:n<mr
  ·rw[<- hmr] at lt
   refine aX (fun lt'=>?_) (fun nl=>absurd lt nl)
   refine Gv.bind (Gv.rule ?_)
   refine Gv.bind (oJ c j2.ok (n:=min ((arrOf st).size - lo) (minRun' (arrOf st).size (arrOf st).size 0)) {} n1 (by rw[hmr];lia) s2 (fun a3 st3 r3 p3 s3=>?_))
   have hN1:1<=(min ((arrOf st).size - lo) (minRun' (arrOf st).size (arrOf st).size 0)):=by rw[hmr];lia
   have hN2:lo+(min ((arrOf st).size - lo) (minRun' (arrOf st).size (arrOf st).size 0))<=(arrOf st).size:={}
   have jX:J κ P kk st st3 lo:=j2.part r3 p3 {}
   have sX:Srt kk (seg (arrOf st3) lo (min ((arrOf st).size - lo) (minRun' (arrOf st).size (arrOf st).size 0))):=by rw[r3.arr];exact s3
   refine Gv.bind (Gv.get ?_)
   split
   ·refine Gv.bind (Gv.mono (Q:=fun z st4=>z=(Wy,())/\J κ P kk st st4 lo/\Srt kk (seg (arrOf st4) lo (min ((arrOf st).size - lo) (minRun' (arrOf st).size (arrOf st).size 0)))) (Gv.range (fun m z st4=>z=(Wy,())/\J κ P kk st st4 lo/\Srt kk (seg (arrOf st4) lo (min ((arrOf st).size - lo) (minRun' (arrOf st).size (arrOf st).size 0)))) ⟨rfl,jX,sX⟩ (fun x m z st4 hz=>?_) (fun z st4 hz=>hz)) (fun z st4 hz=>?_))
    ·obtain⟨rfl,j4,s4⟩:=hz
     refine Gv.bind (Gv.get ?_)
     by_cases h2:(pendingOf st4).size > 1
     ·rw[if_pos h2]
      split
      ·refine aX (fun _=>Gv.pure ⟨rfl,j4,s4⟩) (fun _=>?_)
       refine Gv.bind (gL (i:=(pendingOf st4).size - 2) c j4 {} (fun st5 j5 _ e5=>?_))
       exact Gv.pure ⟨rfl,j5,by rw[e5 lo (min ((arrOf st).size - lo) (minRun' (arrOf st).size (arrOf st).size 0)) (Pt _)];exact s4⟩
      ·exact Gv.pure ⟨rfl,j4,s4⟩
     ·rw[if_neg h2]
      exact Gv.pure ⟨rfl,j4,s4⟩
    ·obtain⟨rfl,j4,s4⟩:=hz
     dsimp only
     refine Gv.bind (Gv.oV fun st5 g5=>?_)
     refine Gv.bind (Gv.oV fun st6 g6=>?_)
     have j6:J κ P kk st st6 (lo+(min ((arrOf st).size - lo) (minRun' (arrOf st).size (arrOf st).size 0))):=by
      refine j4.push (by rw[g6,g5]) (by rw[g6,g5]) (by rw[g6,g5]) ?_ hN1 (by have:=j4.size;lia) s4
      rw[g6,g5]
      exact vd _ _ _ _ _
     exact Gv.pure ⟨lo+(min ((arrOf st).size - lo) (minRun' (arrOf st).size (arrOf st).size 0)),rfl,j6,{}⟩
   ·refine Gv.bind (Gv.oV fun st6 g6=>?_)
    have j6:J κ P kk st st6 (lo+(min ((arrOf st).size - lo) (minRun' (arrOf st).size (arrOf st).size 0))):=by
     refine jX.push (by rw[g6]) (by rw[g6]) (by rw[g6]) ?_ hN1 (by have:=jX.size;lia) sX
     rw[g6]
     exact uT _ _ _
    exact Gv.pure ⟨lo+(min ((arrOf st).size - lo) (minRun' (arrOf st).size (arrOf st).size 0)),rfl,j6,{}⟩
  ·rw[<- hmr] at lt
   refine aX (fun lt'=>absurd lt' lt) (fun nl=>?_)
   have jX:=j2
   have sX:=s2
   have hN1:1<=n:=n1
   have hN2:lo+n<=(arrOf st).size:={}
   refine Gv.bind (Gv.get ?_)
   split
   ·refine Gv.bind (Gv.mono (Q:=fun z st4=>z=(Wy,())/\J κ P kk st st4 lo/\Srt kk (seg (arrOf st4) lo n)) (Gv.range (fun m z st4=>z=(Wy,())/\J κ P kk st st4 lo/\Srt kk (seg (arrOf st4) lo n)) ⟨rfl,jX,sX⟩ (fun x m z st4 hz=>?_) (fun z st4 hz=>hz)) (fun z st4 hz=>?_))
    ·obtain⟨rfl,j4,s4⟩:=hz
     refine Gv.bind (Gv.get ?_)
     by_cases h2:(pendingOf st4).size > 1
     ·rw[if_pos h2]
      split
      ·refine aX (fun _=>Gv.pure ⟨rfl,j4,s4⟩) (fun _=>?_)
       refine Gv.bind (gL (i:=(pendingOf st4).size - 2) c j4 {} (fun st5 j5 _ e5=>?_))
       exact Gv.pure ⟨rfl,j5,by rw[e5 lo n (Pt _)];exact s4⟩
      ·exact Gv.pure ⟨rfl,j4,s4⟩
     ·rw[if_neg h2]
      exact Gv.pure ⟨rfl,j4,s4⟩
    ·obtain⟨rfl,j4,s4⟩:=hz
     dsimp only
     refine Gv.bind (Gv.oV fun st5 g5=>?_)
     refine Gv.bind (Gv.oV fun st6 g6=>?_)
     have j6:J κ P kk st st6 (lo+n):=by
      refine j4.push (by rw[g6,g5]) (by rw[g6,g5]) (by rw[g6,g5]) ?_ hN1 (by have:=j4.size;lia) s4
      rw[g6,g5]
      exact vd _ _ _ _ _
     exact Gv.pure ⟨lo+n,rfl,j6,{}⟩
   ·refine Gv.bind (Gv.oV fun st6 g6=>?_)
    have j6:J κ P kk st st6 (lo+n):=by
     refine jX.push (by rw[g6]) (by rw[g6]) (by rw[g6]) ?_ hN1 (by have:=jX.size;lia) sX
     rw[g6]
     exact uT _ _ _
    exact Gv.pure ⟨lo+n,rfl,j6,{}⟩
 ·obtain⟨lo,rfl,j1,pr⟩:=hz
  have:=j1.le
  have:=j1.size
  have e:lo=(arrOf st).size:={}
  subst e
  exact⟨_,rfl,j1⟩
 ·obtain⟨lo,rfl,j1⟩:=hz
  dsimp only
  have ps:(pendingOf st1).size<=(arrOf st).size:=by have:=j1.runs.le;simpa using this
  refine Gv.bind (Gv.mono (Q:=fun z st4=>z=(Wy,())/\J κ P kk st st4 (arrOf st).size/\(pendingOf st4).size<=1) (Gv.range (fun m z st4=>z=(Wy,())/\J κ P kk st st4 (arrOf st).size/\(pendingOf st4).size<=m+1) ⟨rfl,j1,by show(pendingOf st1).size<=(arrOf st).size - 0+1;lia⟩ (fun x m z st4 hz=>?_) (fun z st4 hz=>?_)) (fun z st4 hz=>?_))
  ·obtain⟨rfl,j4,l4⟩:=hz
   refine Gv.bind (Gv.get ?_)
   by_cases h1:(pendingOf st4).size<=1
   ·rw[if_pos h1]
    exact Gv.pure ⟨rfl,j4,h1⟩
   ·rw[if_neg h1]
    refine Gv.bind (gL c j4 ?_ (fun st5 j5 e5 _=>?_))
    ·have g:∀(c:Prop) [Decidable c],(if c then (pendingOf st4).size - 2 - 1 else (pendingOf st4).size - 2)+2<=(pendingOf st4).size:=fun c _=>by split<;>lia
     exact g _
    ·exact Gv.pure ⟨rfl,j5,{}⟩
  ·obtain⟨rfl,j4,l4⟩:=hz
   exact⟨rfl,j4,{}⟩
  ·obtain⟨rfl,j4,l4⟩:=hz
   dsimp only
   refine Gv.pure (h st4 j4.ok.fail j4.perm ?_)
   have rn:=j4.runs
   have sz:=j4.size
   have l5:(pendingOf st4).toList.length<=1:=by simpa using l4
   cases e:(pendingOf st4).toList with
   | nil=>
    rw[e] at rn
    have:0=(arrOf st).size:=rn
    have e2:(arrOf st4).toList=[]:=Tr.mp (by rw[PF];lia)
    rw[e2];exact TH
   | cons x r=>
    rw[e] at rn l5
    have:r=[]:=Tr.mp (by rw[Qp] at l5;lia)
    subst this
    obtain⟨r1,r2,r3,r4⟩:=rn
    have r4:0+x.2.1=(arrOf st).size:=r4
    have e2:seg (arrOf st4) 0 x.2.1=(arrOf st4).toList:=by
     unfold seg
     rw[VA,Rj (by rw[PF];lia)]
    rw[e2] at r3
    exact r3
end
end L2.SM
namespace L2.Srt
open PySem PySem.W PyProof.Rows PySem.Calls L2.SM
section
variable {prog:PJ}{w:Qc}{A:P9}{E:Pp->Pr->Prop}{s:Pr}{a:PN}{vs:List Pp}
def rQ (vs:List Pp):(vs.toArray.zip vs.toArray).toList=vs.map fun v=>(v,v):=by
 simp only[Array.toList_zip]
 induction vs with
 | nil=>rfl
 | cons v vs ih=>simp_all
@[inline]abbrev Gg (prog:PJ) (w:Qc) (A:P9) (s:Pr) (vs:List Pp) (κ:Sz) (R:List Pp->Prop):Prop:=∀E,Gv prog w A E s sortRuns' (Wg κ (vs.toArray.zip vs.toArray) #[] 7 Wy) fun _ st'=>failedOf st'=Wy/\((arrOf st').map (·.2)).size=vs.length/\R ((arrOf st').map (·.2)).toList
def o_ {n:Nat}{R:List Pp->Prop}{P:Wo->Pr->Prop} (ho:s.heap.get? a=Wx (seqObj "list" vs.toArray n)) (h2:2<=vs.length) (hz:vs.length<=100000)
  (hk:wpAny (model prog w) A (keyKind' vs.toArray) (fun κ s'=>s'={ s with heap:=eB s.heap a vs }/\Gg prog w A { s with heap:=eB s.heap a vs } vs κ R) (fun _ _=>False) { s with heap:=eB s.heap a vs })
  (h:∀out:List Pp,R out->P (.done (.ret .none)) { s with heap:=sortedHeap s.heap a vs out.toArray }) :
  wpAny (model prog w) A (Qq.«list.sort» ⟨[.ref a],[]⟩) P E s:=by
 obtain⟨e1,ho1⟩:∃e1,(s.heap.update a (R0 fun _=>(#[]:Array Pp))).get? a=Wx (seqObj "list" #[] e1):=⟨_,Vl ho fun _=>#[]⟩
 have hm:(eB s.heap a vs).get? a=Wx (seqObj "list" #[] e1):=Pn _ (Pn _ ho1)
 rw[list_sort_plain]
 refine gV (Vk ho rfl ?_)
 refine gV (Uj ho rfl ?_ (by rw[Qo,QN];lia) (QJ _))
 refine gV (VF ho1 rfl ?_)
 refine gV (wpAny_newTuple ?_ (by show vs.length<=_;rw[QN];lia))
 refine gV (Tp ?_ (QJ _))
 refine P6 ?_
 have hn2:¬ vs.toArray.size<2:=by rw[Qo];lia
 rw[if_neg hn2,if_neg hn2]
 refine gV (P4 hk (fun κ s0 hk=>?_) fun _ _ x=>x.elim)
 obtain⟨rfl,cm⟩:=hk
 refine gV (P4 (cm _) ?_ fun _ _ e=>e)
 rintro⟨⟨⟩,st'⟩ s' ⟨rfl,hf,hsz,sr⟩
 refine gV (VF hm rfl ?_)
 refine gV (Uj hm rfl ?_ (QJ _) (P7 (Nat.le_of_eq hsz) (by rw[QN];lia)))
 rw[hf]
 simp only[bne_self_eq_false]
 have:=h _ sr
 exact Pl this
def F1 {kv:Pp->Int} (cm:Cmp prog w A s κ (fun x=>x.1∈vs/\x.2=x.1) (fun x=>kv x.1)) (nd:(vs.map kv).Nodup):Gg prog w A s vs κ fun out=>out.Perm vs/\out.Pairwise fun x y=>kv x<kv y:=by
 intro E
 have zl:=rQ vs
 have ok:Ok κ (fun x:Ql=>x.1∈vs/\x.2=x.1) (fun x=>kv x.1) (Wg κ (vs.toArray.zip vs.toArray) #[] 7 Wy):=by
  refine⟨rfl,rfl,fun x hx=>?_,?_⟩
  ·have hx:=Rv.mpr hx
   rw[zl] at hx
   obtain⟨v,hv,rfl⟩:=Qi.mp hx
   exact⟨hv,rfl⟩
  ·show((vs.toArray.zip vs.toArray).toList.map _).Nodup
   rw[zl,QV];exact nd
 refine vk cm ok rfl (fun st' f1 pm sr=>?_)
 have p1:((arrOf st').map (·.2)).toList.Perm vs:=by
  have:=pm.map (fun x:Ql=>x.2)
  rw[Array.toList_map]
  refine this.trans ?_
  rw[zl,QV]
  have:((fun x:Ql=>x.2) ∘ fun v=>(v,v))=(id:Pp->Pp):=rfl
  rw[this,List.map_id]
 refine⟨f1,by have:=p1.length_eq;simpa using this,p1,?_⟩
 rw[Array.toList_map,RC]
 refine S8 ?_ sr
 intro x y hx hy lt
 have gx:∀z:Ql,z∈(arrOf st').toList->z.2=z.1:=fun z hz=>by
  have hz:=pm.mem_iff.mp hz
  rw[zl] at hz
  obtain⟨v,_,rfl⟩:=Qi.mp hz
  rfl
 rw[gx x hx,gx y hy];exact lt
end
abbrev kT:Nat->List Int->Int
 | 0,_=>0
 | _+1,[]=>0
 | n+1,x::r=>(x+1)*100 ^ n+kT n r
abbrev oG:List Int->List Int->Bool
 | [],ys=>decide (0<ys.length)
 | _::_,[]=>WA
 | x::xs,y::ys=>if x=y then oG xs ys else decide (x<y)
abbrev Bd (xs:List Int):Prop:=∀x∈xs,0<=x/\x<=98
def tI:∀(n:Nat){xs:List Int},Bd xs->0<=kT n xs/\kT n xs<100 ^ n
 | 0,xs,_=>by unfold kT;lia
 | n+1,[],_=>by unfold kT;exact⟨Int.le_refl _,U5 (by decide)⟩
 | n+1,x::r,b=>by
  have h:=tI n fun y hy=>b y (Po _ hy)
  have hx:=b x Pw
  unfold kT
  have q1:0<=(x+1)*100 ^ n:=Int.mul_nonneg {} {}
  have q2:(x+1)*100 ^ n<=99*100 ^ n:=QU {} {}
  lia
def Bx:∀(n:Nat){xs ys:List Int},Bd xs->Bd ys->xs.length<=n->ys.length<=n->oG xs ys=decide (kT n xs<kT n ys)
 | n,[],[],_,_,_,_=>by cases n<;>simp[oG]
 | 0,[],y::ys,_,_,_,h=>by simp at h
 | 0,x::xs,ys,_,_,h,_=>by simp at h
 | n+1,[],y::ys,_,by_,_,_=>by
  have h:=(tI n fun z hz=>by_ z (Po _ hz)).1
  have hy:=by_ y Pw
  have p:(0:Int)<100 ^ n:=U5 (by decide)
  have q:0<(y+1)*100 ^ n:=Int.mul_pos {} p
  unfold oG kT
  grind
 | n+1,x::xs,[],bx,_,_,_=>by
  have h:=(tI n fun z hz=>bx z (Po _ hz)).1
  have hx:=bx x Pw
  have p:(0:Int)<100 ^ n:=U5 (by decide)
  have q:0<(x+1)*100 ^ n:=Int.mul_pos {} p
  unfold oG kT
  grind
 | n+1,x::xs,y::ys,bx,by_,lx,ly=>by
  have ih:=Bx n (fun z hz=>bx z (Po _ hz)) (fun z hz=>by_ z (Po _ hz)) (by simp_all) (by simp_all)
  have hX:=tI n fun z hz=>bx z (Po _ hz)
  have hY:=tI n fun z hz=>by_ z (Po _ hz)
  unfold oG kT
  by_cases e:x=y
  ·simp_all
  ·rw[if_neg e]
   by_cases z:x<y
   ·have:(x+1+1)*100 ^ n<=(y+1)*100 ^ n:=QU {} {}
    grind
   ·have:(y+1+1)*100 ^ n<=(x+1)*100 ^ n:=QU {} {}
    grind
section
variable {prog:PJ}{w:Qc}{A:P9}{E:Pp->Pr->Prop}{s:Pr}
def tN {fin:Bool}{Q:Bool->Pr->Prop}:∀{us vs:List Pp}{xs ys:List Int} (i:Nat),IntsAre us xs->IntsAre vs ys->fin=decide (xs.length<ys.length)->Q (oG xs ys) s->KatLex prog w A Wz fin Q (us.zip vs) i s
 | _,_,_,_,i,.nil,.nil,e,h=>by subst e;assumption
 | _,_,_,_,i,.nil,.cons y t r,e,h=>by subst e;assumption
 | _,_,_,_,i,.cons x t r,.nil,e,h=>by subst e;assumption
 | _,_,_,_,i,.cons x t r,.cons y u r',e,h=>by
  refine kat_cons (wpAny_eqBool_int (kat_go (fun e1=>kat_yes ?_) (fun e1=>kat_no ?_)))
  ·have e1:x=y:=by simp_all
   refine tN (i+1) r r' ?_ ?_
   ·rw[e];simp
   ·unfold oG at h;simp_all
  ·have e1:¬ x=y:=by simp_all
   unfold oG at h
   rw[if_neg e1] at h
   cases i with
   | zero=>exact oneLt_int h
   | succ i=>
    have:((Wz&&(i+1 == 0)):Bool)=false:={..}
    exact kat_one _ _ (lt_int h)
end
inductive Tps (h:QQ):List Pp->List (List Int)->Prop
 | nil:Tps h [] []
 | cons {us:Array Pp} {xs:List Int} {vs:List Pp} {xss:List (List Int)}:h.get? a=some o->o.cls=.type "tuple" -> o.data=.seq us k->IntsAre us.toList xs->Tps h vs xss->Tps h (.ref a::vs) (xs::xss)
abbrev kvH (h:QQ):Pp->Int
 | .ref a=>match h.get? a with
  | some o=>match o.data with
   | .seq us _=>kT 20 (us.toList.map numOf)
   | _=>0
  | none=>0
 | _=>0
section
variable {prog:PJ}{w:Qc}{A:P9}{E:Pp->Pr->Prop}{s:Pr}{vs:List Pp}{xss:List (List Int)}{h h':QQ}
def Tps.len (r:Tps h vs xss):vs.length=xss.length:=by
 induction r with
 | nil=>rfl
 | cons _ _ _ _ _ ih=>simp[ih]
def Tps.keeps (r:Tps h vs xss) (k:∀b o,h.get? b=Wx o->h'.get? b=Wx o):Tps h' vs xss:=by
 induction r with
 | nil=>exact .nil
 | cons a b c d _ ih=>exact .cons (k _ _ a) b c d ih
def Tps.kv (r:Tps h vs xss):vs.map (kvH h)=xss.map (kT 20):=by
 induction r with
 | nil=>rfl
 | @cons a o k us xs vs xss ha hc hd hi r ih=>
  rw[PC]
  congr 1
  unfold kvH
  simp only[ha,hd,hi.nums]
def Tps.mem (r:Tps h vs xss){v:Pp} (hv:v∈vs):∃a o k us xs,v=.ref a/\h.get? a=Wx o/\o.data=.seq us k/\IntsAre us.toList xs/\xs∈xss/\kvH h v=kT 20 xs:=by
 induction r with
 | nil=>cases hv
 | @cons a o k us xs vs xss ha hc hd hi r ih=>
  rcases PL.mp hv with rfl | hv
  ·refine⟨a,o,k,us,xs,rfl,ha,hd,hi,Pw,?_⟩
   unfold kvH
   simp only[ha,hd,hi.nums]
  ·obtain⟨a',o',k',us',xs',e1,e2,e3,e4,e5,e6⟩:=ih hv
   exact⟨a',o',k',us',xs',e1,e2,e3,e4,Po _ e5,e6⟩
def Tps.iY (r:Tps h vs xss) (ne:∀xs∈xss,xs≠[]):∃fs,KatTups h vs fs/\fs.length=xss.length/\∀v∈fs,∃x t,v=Sj x t:=by
 induction r with
 | nil=>exact⟨[],KatTups.nil,rfl,{..}⟩
 | @cons a o k us xs vs xss ha hc hd hi r ih=>
  obtain⟨fs,q1,q2,q3⟩:=ih fun xs hx=>ne xs (Po _ hx)
  obtain⟨x,t,ul,e⟩:∃x t ul,us.toList=Sj x t::ul:=by
   have:=ne xs Pw
   generalize us.toList=l at hi
   cases hi with
   | nil=>exact absurd rfl this
   | cons n t r=>exact⟨n,t,_,rfl⟩
  have e0:us[0]?=Wx (Sj x t):=by rw[<- PH,e];rfl
  refine⟨.int x t::fs,KatTups.cons ha hc hd e0 q1,by simp[q2],fun v hv=>?_⟩
  rcases PL.mp hv with rfl | hv
  ·exact⟨x,t,rfl⟩
  ·exact q3 v hv
def Ds {β γ:Type}{f:β->γ}:∀{out m:List γ},out.Perm m->∀{l:List β},m=l.map f->∃q:List β,q.Perm l/\out=q.map f:=by
 intro out m h
 induction h with
 | nil=>simp
 | cons x _ ih=>
  intro l e
  cases l with
  | nil=>cases e
  | cons b l=>
   injection e with e1 e2
   obtain⟨q,hq,e3⟩:=ih e2
   exact⟨b::q,hq.cons b,by simp_all⟩
 | swap x y l'=>
  intro l e
  cases l with
  | nil=>cases e
  | cons b l=>
   cases l with
   | nil=>simp at e
   | cons c l=>
    simp only[PC,Vm] at e
    obtain⟨e1,e2,e3⟩:=e
    exact⟨c::b::l,UR.swap _ _ _,by simp_all⟩
 | trans _ _ ih1 ih2=>
  intro l e
  obtain⟨q,hq,e2⟩:=ih2 e
  obtain⟨q',hq',e3⟩:=ih1 e2
  exact⟨q',hq'.trans hq,e3⟩
def range_getD {β:Type} (l) (d:β):l=(Py l.length).map fun i=>l.getD i d:=by
 apply T_ {..}
 simp_all
def zy {Q:Sz->Pr->Prop} (r:Tps s.heap vs xss) (ne:∀xs∈xss,xs≠[]) (bd:∀xs∈xss,Bd xs/\xs.length<=20) (h1:1<=xss.length)
  (h:∀κ,Cmp prog w A s κ (fun x=>x.1∈vs/\x.2=x.1) (fun x=>kvH s.heap x.1)->Q κ s):wpAny (model prog w) A (keyKind' vs.toArray) Q E s:=by
 obtain⟨fs,t,fl,fi⟩:=r.iY ne
 refine kat_kind (T:=.type "int") t {} (fun v hv=>?_) {:_} ?_
 ·obtain⟨x,tk,rfl⟩:=fi v hv
  exact .now
 ·rw[show(TB "int" != TB "tuple")=Wz by decide +kernel]
  refine h _ fun x y hx hy C hc=>?_
  obtain⟨a,oa,ka,ua,xa,e1,ga,da,ia,ma,va⟩:=r.mem hx.1
  obtain⟨b,ob,kb,ub,xb,e2,gb,db,ib,mb,vb⟩:=r.mem hy.1
  have hd:decide (kvH s.heap x.1<kvH s.heap y.1)=oG xa xb:=by
   simp only[va,vb]
   exact(Bx 20 (bd _ ma).1 (bd _ mb).1 (bd _ ma).2 (bd _ mb).2).symm
  rw[hd] at hc
  rw[e1,e2]
  refine kat_lt ga da gb db (tN 0 ia ib ?_ hc)
  have l1:ua.size=xa.length:=by rw[<- ia.nums,PR,PF]
  have l2:ub.size=xb.length:=by rw[<- ib.nums,PR,PF]
  rw[l1,l2]
end
end L2.Srt
namespace L2
open PySem PySem.Spec PyProof.Rows L2.Srt
inductive TpV (K) (H):List V->List (List Int)->Prop
 | nil:TpV K H [] []
 | cons {xs:List V} {xss:List (List Int)}:SqT K H a (ns.map V.int)->TpV K H xs xss->TpV K H (.ref a::xs) (ns::xss)
def TpV.len {K:Pk} (r:TpV K H xs xss):xs.length=xss.length:=by
 induction r with
 | nil=>rfl
 | cons _ _ ih=>simp[ih]
def n8:∀{ns:List Int}{us:List Pp},Vals (ns.map V.int) us->IntsAre us ns
 | [],_,.nil=>.nil
 | n::ns,_,.cons ⟨t,e⟩ r=>by subst e;exact .cons n t (n8 r)
section
variable {X:Cx}
def Inv.tps {σ:St} (I:Inv X pins σ H s) (r:TpV X.K H xs xss):∀{us:List Pp},Vals xs us->Tps s.heap us xss:=by
 induction r with
 | nil=>intro us v;cases v;exact .nil
 | cons h _ ih=>
  intro us v
  cases v with
  | cons ru rv=>
   cases ru
   obtain⟨its,rt,pl,hz⟩:=I.tuple h
   obtain⟨o,ho,hc,n,hd⟩:=pl
   exact .cons ho hc hd (by simpa using n8 rt) (ih rv)
end
end L2
namespace L2.FE
open PySem PySem.Spec PyProof.Rows L2.Srt
abbrev vX (x:List Int):List (List Int)->List (List Int)
 | []=>[x]
 | y::r=>if kT 20 x<=kT 20 y then x::y::r else y::vX x r
abbrev iF:List (List Int)->List (List Int)
 | []=>[]
 | x::r=>vX x (iF r)
def kM (x:List Int):∀l,(vX x l).Perm (x::l)
 | []=>.refl _
 | y::r=>by
  unfold vX
  split
  ·rfl
  ·exact((kM x r).cons y).trans (.swap x y r)
def i3:∀l,(iF l).Perm l
 | []=>.refl _
 | x::r=>(kM x _).trans ((i3 r).cons x)
def lD (x:List Int):∀l,l.Pairwise (fun a b=>kT 20 a<=kT 20 b)->(vX x l).Pairwise (fun a b=>kT 20 a<=kT 20 b)
 | [],_=>by simp[vX]
 | y::r,h=>by
  unfold vX
  rw[Qe] at h
  split
  ·rename_i hx
   refine Qe.mpr ⟨fun z hz=>?_,Qe.mpr h⟩
   rcases PL.mp hz with rfl | hz
   ·exact hx
   ·exact Int.le_trans hx (h.1 z hz)
  ·rename_i hx
   refine Qe.mpr ⟨fun z hz=>?_,lD x r h.2⟩
   rcases PL.mp ((kM x r).mem_iff.mp hz) with rfl | hz
   ·lia
   ·exact h.1 z hz
def gf:∀l,(iF l).Pairwise (fun a b=>kT 20 a<=kT 20 b)
 | []=>.nil
 | x::r=>lD x _ (gf r)
def iZ:∀{xs ys:List (List Int)},xs.Perm ys->xs.Pairwise (fun a b=>kT 20 a<kT 20 b)->ys.Pairwise (fun a b=>kT 20 a<=kT 20 b)->xs=ys
 | [],ys,p,_,_=>by simp_all
 | x::xs,[],p,_,_=>absurd (UR.eq_nil p) {..}
 | x::xs,y::ys,p,hx,hy=>by
  rw[Qe] at hx hy
  have e:x=y:=by
   grind
  subst e
  rw[iZ (List.perm_cons x |>.mp p) hx.2 hy.2]
abbrev zp (ns:List Int):D:=.tup (ns.map D.int)
abbrev fY:List D->Option (List (List Int))
 | []=>Wx []
 | .tup ds::r=>match intsOf ds,fY r with
  | some ns,Wx xss=>Wx (ns::xss)
  | _,_=>Wy
 | _::_=>Wy
def mP:∀xss , fY (xss.map zp)=Wx xss
 | []=>rfl
 | ns::xss=>by
  show(match intsOf (ns.map D.int),fY (xss.map zp) with | some ns,Wx xss=>Wx (ns::xss) | _,_=>Wy)=_
  rw[fV,mP xss]
def AQ {q:List Nat} (pm:q.Perm (Py xss.length)) (up:(q.map fun i=>kT 20 (xss.getD i [])).Pairwise (· < ·)):q.map (fun i=>xss.getD i [])=iF xss:=by
 refine iZ ?_ ?_ (gf xss)
 ·have e:=L2.Srt.range_getD xss []
  have this:(q.map fun i=>xss.getD i []).Perm ((Py xss.length).map fun i=>xss.getD i []):=pm.map _
  exact(this.trans (.of_eq e.symm)).trans (i3 xss).symm
 grind
section
variable {X:Cx}{g:GG}{ε:EE}{K:Pk}
def pT {α:List PN}{H:Hp}:∀{ns:List Int}{vs:List V},ao K g α H (ns.map D.int) vs->vs=ns.map V.int
 | [],_,.nil=>rfl
 | n::ns,_,.cons r rs=>by cases r;rw[pT rs];rfl
def nu {α:List PN}{H:Hp}:∀{ds:List D}{xs:List V}{xss:List (List Int)},ao K g α H ds xs->fY ds=Wx xss->TpV K H xs xss/\ds=xss.map zp
 | _,_,xss,.nil,e=>by cases e;exact⟨.nil,rfl⟩
 | d::ds,_,xss,.cons rd rs,e=>by
  cases rd with
  | @tup es p vs hp rs2=>
   have e:(match intsOf es,fY ds with | some ns,Wx xss=>Wx (ns::xss) | _,_=>Wy)=Wx xss:=e
   cases e1:intsOf es with
   | none=>simp_all
   | some ns=>
    cases e2:fY ds with
    | none=>simp_all
    | some yss=>
     rw[e1,e2] at e
     cases e
     obtain⟨a,b⟩:=nu rs e2
     have e3:=dO e1
     subst e3
     have e4:=pT rs2
     subst e4
     exact⟨.cons (SqT.of hp) a,by rw[b];rfl⟩
  | _=>cases e
end
end L2.FE
namespace L2.ST
open PySem
@[inline]abbrev Asc (l:List Nat):Prop:=l.Pairwise (· < ·)
def getD_at {xs:Array Nat} (h):xs.getD i d=xs.toList[i]'(by simpa using h):=by
 simp[h]
def nF (xs:Array Nat) (j:Nat) (so:Asc xs.toList):∀(f lo hi:Nat),lo<=hi->hi<=xs.size->hi - lo<=f->(∀i (h:i<xs.toList.length),i<lo->xs.toList[i]<j)->(∀i (h:i<xs.toList.length),hi<=i->j<=xs.toList[i]) →
  ∃r,QG.go xs j f lo hi=r/\r<=xs.size/\(∀i (h:i<xs.toList.length),i<r->xs.toList[i]<j)/\(∀i (h:i<xs.toList.length),r<=i->j<=xs.toList[i])
 | 0,lo,hi,h1,h2,hf,a,b=>⟨lo,rfl,{},a,fun i h hi'=>b i h {}⟩
 | f+1,lo,hi,h1,h2,hf,a,b=>by
  unfold QG.go
  by_cases c:lo<hi
  ·rw[if_pos c]
   dsimp only
   have hm:(lo+hi) / 2<xs.size:={}
   have hm':(lo+hi) / 2<xs.toList.length:=by simpa using hm
   rw[getD_at hm]
   by_cases d:xs.toList[(lo+hi) / 2]<j
   ·rw[if_pos d]
    refine nF xs j so f _ hi {} h2 {} (fun i h hi'=>?_) b
    rcases S7 i ((lo+hi) / 2) with e | e
    ·have:=PZ.mp so i ((lo+hi) / 2) h hm' e
     lia
    ·have:i=(lo+hi) / 2:={}
     subst this;exact d
   ·rw[if_neg d]
    refine nF xs j so f lo _ {} {} {} a (fun i h hi'=>?_)
    rcases S7 ((lo+hi) / 2) i with e | e
    ·have:=PZ.mp so ((lo+hi) / 2) i hm' h e
     lia
    ·have:i=(lo+hi) / 2:={}
     subst this;lia
  ·rw[if_neg c]
   exact⟨lo,rfl,{},a,fun i h hi'=>b i h {}⟩
def jC (j) (so:Asc xs.toList):∃r,QG xs j=r/\r<=xs.size/\(∀i h , i<r->xs.toList[i]<j)/\(∀i h , r<=i->j<=xs.toList[i]):=by
 exact nF xs j so xs.size 0 xs.size {} (Pt _) {} (fun i h hi=>{}) (fun i h hi=>by grind)
def iJ (xs) (p) (x:α) (hp:p<=xs.size):(Q7 xs p x).toList=xs.toList.take p++x::xs.toList.drop p:=by
 unfold Q7
 simp[List.extract_eq_drop_take]
 rw[Rj {..}]
def vD {xs:Array Nat}{j:Nat} (so:Asc xs.toList) (hj:j∉xs.toList):Asc (Q7 xs (QG xs j) j).toList:=by
 obtain⟨r,e,hr,a,b⟩:=jC j so
 rw[e,iJ _ _ _ hr]
 have s1:Asc (xs.toList.take r):=so.sublist (List.take_sublist _ _)
 have s2:Asc (xs.toList.drop r):=so.sublist (List.drop_sublist _ _)
 refine Qb.mpr ⟨s1,Qe.mpr ⟨fun y hy=>?_,s2⟩,fun x hx y hy=>?_⟩
 ·obtain⟨i,hi,rfl⟩:=Ro hy
  rw[List.getElem_drop]
  rw[T9] at hi
  have h1:=b (r+i) {} {}
  have h2:j≠xs.toList[r+i]:=fun z=>hj (z ▸ SS _)
  lia
 ·obtain⟨i,hi,rfl⟩:=Ro hx
  rw[Qh] at hi
  have h1:=a i {} {}
  rw[TQ]
  rcases PL.mp hy with rfl | hy
  ·exact h1
  ·obtain⟨k,hk,rfl⟩:=Ro hy
   rw[T9] at hk
   rw[List.getElem_drop]
   have:=b (r+k) {} {}
   lia
abbrev okM (m:Nat):Prop:=m=7\/m=31\/m=127\/m=511
abbrev itr (m:Nat):Nat->Nat->Nat
 | 0,i=>i
 | b+1,i=>itr m b ((i*5+1) % (m+1))
def lY (m:Nat):∀a b i,itr m (a+b) i=itr m b (itr m a i)
 | 0,b,i=>by rw[Rx];rfl
 | a+1,b,i=>by rw[show a+1+b=(a+b)+1 by lia];exact lY m a b _
abbrev HG (m:Nat):Nat->Nat->List Nat
 | 0,_=>[]
 | b+1,i=>i::HG m b ((i*5+1) % (m+1))
def yT (m:Nat):∀b i e,e∈HG m b i->∃c,c<b/\itr m c i=e
 | 0,i,e,h=>by cases h
 | b+1,i,e,h=>by
  rcases PL.mp h with rfl | h
  ·exact⟨0,{},rfl⟩
  ·obtain⟨c,h1,h2⟩:=yT m b _ e h
   exact⟨c+1,{},h2⟩
abbrev ckO (m:Nat):Bool:=(Py (m+1)).all (fun e=>(HG m (m+1) 0).contains e)&&(itr m (m+1) 0 == 0)
def ck7:ckO 7=true:=by rfl
def LF:ckO 127=true:={:_}
def LO:ckO 511=true:={:_}
def K6 (h:okM m):ckO m=true:=by
 rcases h with rfl | rfl | rfl | rfl
 ·exact ck7
 ·rfl
 ·exact LF
 ·exact LO
def LA (h:okM m) (hi:i<=m) (he:e<=m):∃b,b<=m/\itr m b i=e:=by
 have q:=K6 h
 unfold ckO at q
 rw[PV,PX,beq_iff_eq] at q
 obtain⟨q1,q2⟩:=q
 have get:∀x,x<=m->∃c,c<m+1/\itr m c 0=x:=fun x hx=>yT m _ _ _ (by simpa using q1 x (QX.mpr {}))
 obtain⟨a,ha,ea⟩:=get i hi
 obtain⟨b,hb,eb⟩:=get e he
 rcases S7 b a with c | c
 ·refine⟨m+1 - a+b,{},?_⟩
  rw[lY,show itr m (m+1 - a) i=0 by rw[<- ea,<- lY,show a+(m+1 - a)=m+1 by lia,q2],eb]
 ·refine⟨b - a,{},?_⟩
  rw[<- ea,<- lY,show a+(b - a)=b by lia,eb]
abbrev blk (m:Nat):Nat->Nat->Nat->Nat × Nat
 | 0,i,p=>(i,p)
 | b+1,i,p=>blk m b (Rw m i p).1 (Rw m i p).2
def Kt (m:Nat):∀b i,(blk m b i 0).1=itr m b i
 | 0,i=>rfl
 | b+1,i=>by
  show(blk m b ((i*5+1+0 / 32) % (m+1)) (0 / 32)).1=_
  rw[Kt m b];rfl
def reach {m e:Nat} (h:okM m) (he:e<=m):∀c i p,p<32 ^ c->i<=m->∃b,b<=m+c/\(blk m b i p).1=e
 | 0,i,p,hp,hi=>by
  have:p=0:=by simpa using hp
  subst this
  obtain⟨b,h1,h2⟩:=LA h hi he
  exact⟨b,{},by rw[Kt,h2]⟩
 | c+1,i,p,hp,hi=>by
  have h1:p / 32<32 ^ c:=by rw[Nat.div_lt_iff_lt_mul (by decide)];exact hp
  have h2:(i*5+1+p / 32) % (m+1)<=m:=SA (UW _ {})
  obtain⟨b,h3,h4⟩:=reach h he c ((i*5+1+p / 32) % (m+1)) (p / 32) h1 h2
  exact⟨b+1,{},h4⟩
def xB (h):QK h<32 ^ 13:=by
 have:(h % 2 ^ 64).toNat<2 ^ 64:={}
 exact S5 this (by decide)
structure Tb (t:Qv):Prop where
 m:okM t.mask
 so:Asc t.place.toList
 le:∀x∈t.place.toList,x<=t.mask
 du:t.dummies = #[]
 sz:t.place.size<=t.mask
def Eb (j):Qv.has #[] j=false:=by
 rfl
def D1 {t:Qv} (T:Tb t){j:Nat} (hj:j∈t.place.toList):∃i,t.slot j=.live i/\i<t.place.size:=by
 obtain⟨r,e,hr,a,b⟩:=jC j T.so
 obtain⟨i,hi,ei⟩:=Ro hj
 have h1:r<=i:=by
  rcases S7 i r with c | c
  ·have:=a i hi c;lia
  ·exact c
 have h2:i<=r:=by
  rcases S7 r i with c | c
  ·have q:=b r {} (Pt _)
   have:=PZ.mp T.so r i {} hi c
   lia
  ·exact c
 have:i=r:={}
 subst this
 refine⟨i,?_,by simpa using hi⟩
 unfold Qv.slot
 rw[e]
 have:t.place[i]?=Wx j:=by rw[<- PH,Pz hi,ei]
 simp[this]
def ui {t:Qv} (T:Tb t){j:Nat} (hj:j∉t.place.toList):t.slot j=.empty:=by
 unfold Qv.slot
 have:(t.place[QG t.place j]? == Wx j)=false:=by
  cases e:t.place[QG t.place j]? with
  | none=>rfl
  | some x=>
   have:x∈t.place.toList:=by rw[<- PH] at e;exact P0 e
   have ne:x≠j:=fun z=>hj (z ▸ this)
   simpa using ne
 simp[this,T.du,Eb]
def wq (T:Tb t) (j):(t.slot j=.empty/\j∉t.place.toList)\/∃i,t.slot j=.live i/\i<t.place.size:=by
 by_cases h:j∈t.place.toList
 ·exact .inr (D1 T h)
 ·exact .inl ⟨ui T h,h⟩
def B3:∀{l l':List Nat},l.Nodup->(∀x∈l,x∈l')->l.length<=l'.length
 | [],_,_,_=>QJ _
 | x::l,l',nd,s=>by
  obtain⟨n1,n2⟩:=Qs.mp nd
  have:=B3 n2 fun y hy=>(List.mem_erase_of_ne (fun z:y=x=>n1 (z ▸ hy))).mpr (s y (Po _ hy))
  grind
def wU (T:Tb t):∃e,e<=t.mask/\t.slot e=.empty:=by
 by_cases c:∃e,e<=t.mask/\e∉t.place.toList
 ·obtain⟨e,h1,h2⟩:=c
  exact⟨e,h1,ui T h2⟩
 ·exfalso
  have all:=fun e he=>Classical.byContradiction fun z=>c ⟨e,he,z⟩
  have q:=B3 (l:=Py (t.mask+1)) U_ fun x hx=>all x (by grind)
  rw[TR,PF] at q
  have:=T.sz
  lia
abbrev adv (t:Qv):Nat->TX->TX
 | 0,q=>q
 | k+1,q=>adv t k (t.advance q)
def yi (t:Qv):∀a b q,adv t (a+b) q=adv t b (adv t a q)
 | 0,b,q=>by rw[Rx];rfl
 | a+1,b,q=>by rw[show a+1+b=(a+b)+1 by lia];exact yi t a b _
@[inline]abbrev pAt (t:Qv) (i p:Nat):TX:={ j:=i,more:=Q3 t.mask i - i,i:=i,perturb:=p,dummy:=Wy }
def xV (t:Qv):∀c (q:TX),q.more=c->q.dummy=Wy->adv t (c+1) q=pAt t (Rw t.mask q.i q.perturb).1 (Rw t.mask q.i q.perturb).2
 | 0,q,h,hd=>by
  show t.advance q=_
  unfold Ua
  simp_all
 | c+1,q,h,hd=>by
  show adv t (c+1) (t.advance q)=_
  have e:t.advance q={ q with j:=q.j+1,more:=q.more - 1 }:=by unfold Ua;simp_all
  rw[e];exact xV t c _ (by simp_all) hd
def IW (m i):Q3 m i - i<=9:=by unfold Q3;grind
def x9 (t):∀b i p,∃k,k<=10*b/\adv t k (pAt t i p)=pAt t (blk t.mask b i p).1 (blk t.mask b i p).2
 | 0,i,p=>⟨0,{},rfl⟩
 | b+1,i,p=>by
  obtain⟨k,h1,h2⟩:=x9 t b (Rw t.mask i p).1 (Rw t.mask i p).2
  refine⟨Q3 t.mask i - i+1+k,by have:=IW t.mask i;lia,?_⟩
  rw[yi,xV t _ (pAt t i p) rfl rfl,h2]
  rfl
def Dt (t:Qv) (h):(t.probeStart h).j+(t.probeStart h).more<=t.mask:=by
 show QK h % (t.mask+1)+(Q3 t.mask (QK h % (t.mask+1)) - QK h % (t.mask+1))<=_
 have:QK h % (t.mask+1)<=t.mask:=SA (UW _ {})
 unfold Q3
 grind
def Jf {t:Qv} (q) (h:q.j+q.more<=t.mask):(t.advance q).j+(t.advance q).more<=t.mask:=by
 unfold Ua
 split
 ·grind
 ·show(Rw t.mask q.i q.perturb).1+(Q3 t.mask (Rw t.mask q.i q.perturb).1 - (Rw t.mask q.i q.perturb).1)<=t.mask
  have:(Rw t.mask q.i q.perturb).1<=t.mask:=SA (UW _ {})
  unfold Q3
  grind
abbrev Rch (t:Qv) (k:Nat) (q:TX):Prop:=q.dummy=Wy/\q.j+q.more<=t.mask/\t.slot (adv t k q).j=.empty
def ze (T:Tb t) (h):∃k,k+1<10*RU t.mask/\Rch t k (t.probeStart h):=by
 obtain⟨e,he,ee⟩:=wU T
 obtain⟨b,h1,h2⟩:=reach T.m he 13 (QK h % (t.mask+1)) (QK h) (xB h) (SA (UW _ {}))
 obtain⟨k,h3,h4⟩:=x9 t b (QK h % (t.mask+1)) (QK h)
 refine⟨k,by unfold RU;lia,rfl,Dt t h,?_⟩
 show t.slot (adv t k (pAt t (QK h % (t.mask+1)) (QK h))).j=.empty
 simp_all
def zD (t:Qv) (q):(t.advance q).dummy=q.dummy:=by unfold Ua;grind
def A3 {t:Qv} (T:Tb t) (ha:Nat->Int) (h:Int):∀k fuel q,k<fuel->Rch t k q →
  (∃j,UX t ha h fuel q=Wx (.empty j Wy)/\j∉t.place.toList/\j<=t.mask)\/(∃j i k' q',UX t ha h fuel q=Wx (.candidate j i q')/\t.slot j=.live i/\i<t.place.size/\ha i=h/\k'<k/\Rch t k' q')
 | k,0,q,hf,_=>{}
 | k,f+1,q,hf,R=>by
  unfold UX
  rcases wq T q.j with⟨e,hn⟩ | ⟨i,e,hi⟩
  ·rw[e]
   exact .inl ⟨q.j,by show Wx (Qv.Met.empty q.j q.dummy)=_;rw[R.1],hn,by have:=R.2.1;lia⟩
  ·rw[e]
   cases k with
   | zero=>have:=R.2.2;rw[show adv t 0 q=q from rfl,e] at this;cases this
   | succ k=>
    have R':Rch t k (t.advance q):=⟨by rw[zD];exact R.1,Jf q R.2.1,R.2.2⟩
    by_cases c:(ha i == h)=Wz
    ·refine .inr ⟨q.j,i,k,t.advance q,?_,e,hi,by simpa using c,{},R'⟩
     show(if (ha i == h)=Wz then _ else _)=_
     rw[if_pos c]
    ·show(∃j,(if (ha i == h)=Wz then _ else _)=_/\_)\/(∃j i' k' q',(if (ha i == h)=Wz then _ else _)=_/\_)
     rw[if_neg c]
     rcases A3 T ha h k f (t.advance q) {} R' with⟨j,h1,h2,h3⟩ | ⟨j,i',k',q',h1,h2,h3,h4,h5,h6⟩
     ·exact .inl ⟨j,h1,h2,h3⟩
     ·exact .inr ⟨j,i',k',q',h1,h2,h3,h4,{},h6⟩
def tJ {m:Nat} (owner:Array (Option Nat)){e:Nat} (he:(owner.getD e (Wx 0)).isNone=Wz):∀b fuel i p,b<fuel->(blk m b i p).1=e →
  ∃j,Tx m owner fuel i p=Wx j/\(owner.getD j (Wx 0)).isNone=Wz
 | b,0,i,p,h,_=>{}
 | b,f+1,i,p,h,hb=>by
  unfold Tx
  cases c:(Py (Q3 m i+1 - i)).find? fun k=>(owner.getD (i+k) (Wx 0)).isNone with
  | some k=>simp_all
  | none=>
   cases b with
   | zero=>
    exfalso
    have hr:Q3 m i ≥ i:=by unfold Q3;grind
    have:=List.find?_eq_none.mp c 0 (QX.mpr {})
    rw[show i+0=e from hb] at this
    simp_all
   | succ b=>exact tJ owner he b f _ _ {} hb
abbrev jf (l:List (Option Nat)):List Nat:=l.filterMap id
def uH:∀{l:List (Option Nat)},(jf l).length<l.length->∃j:Nat,l[j]?=Wx Wy
 | [],h=>by simp_all
 | none::l,_=>⟨0,rfl⟩
 | some x::l,h=>by
  obtain⟨j,e⟩:=uH (by simp[jf] at h ⊢;omega)
  exact⟨j+1,e⟩
def rh {k:Nat}:∀{l:List (Option Nat)}{j:Nat},l[j]?=Wx Wy->(jf (l.set j (Wx k))).Perm (k::jf l)
 | none::l,0,_=>by rfl
 | some x::l,0,h=>by cases h
 | none::l,j+1,h=>by simpa [jf] using rh (l:=l) h
 | some x::l,j+1,h=>by
  have:=rh (k:=k) (l:=l) h
  exact(this.cons x).trans (.swap _ _ _)
abbrev mj (m:Nat) (acc:Option (Array (Option Nat) × Nat)) (h:Int):Option (Array (Option Nat) × Nat):=do
 let (owner,k) ← acc
 let j ← Tx m owner (RU m) (QK h % (m+1)) (QK h)
 pure (owner.setIfInBounds j (Wx k),k+1)
def vm {m:Nat} (hm:okM m):∀(hs:List Int) (owner:Array (Option Nat)) (k:Nat),owner.size=m+1->(jf owner.toList).Perm (Py k)->k+hs.length<=m+1 →
  ∃owner',hs.foldl (mj m) (Wx (owner,k))=Wx (owner',k+hs.length)/\owner'.size=m+1/\(jf owner'.toList).Perm (Py (k+hs.length))
 | [],owner,k,hs,hp,_=>⟨owner,rfl,hs,hp⟩
 | h::r,owner,k,hs,hp,hk=>by
  rw[Qp] at hk
  have hl:(jf owner.toList).length<owner.toList.length:=by rw[hp.length_eq,TR,PF];lia
  obtain⟨e,ee⟩:=uH hl
  rw[PH] at ee
  have he:(owner.getD e (Wx 0)).isNone=true:=by simp[ee]
  have hle:e<=m:=by have:=(Rh.mp ee).1;lia
  obtain⟨b,h1,h2⟩:=reach hm hle 13 (QK h % (m+1)) (QK h) (xB h) (SA (UW _ {}))
  obtain⟨j,h3,h4⟩:=tJ owner he b (RU m) _ _ (by unfold RU;lia) h2
  have hj:owner[j]?=Wx none:=by
   rw[Array.getD_eq_getD_getElem?] at h4
   cases c:owner[j]? with
   | none=>rw[c] at h4;simp at h4
   | some x=>rw[c] at h4;simp at h4;rw[h4]
  have hp2:(jf (owner.setIfInBounds j (Wx k)).toList).Perm (Py (k+1)):=by
   rw[Array.toList_setIfInBounds]
   refine(rh (by rw[PH];exact hj)).trans ((hp.cons k).trans ?_)
   rw[Ss]
   exact(SG k (Py k)).symm
  obtain⟨o',q1,q2,q3⟩:=vm hm r (owner.setIfInBounds j (Wx k)) (k+1) (by simpa using hs) hp2 {}
  refine⟨o',?_,q2,?_⟩
  ·rw[R1,show mj m (Wx (owner,k)) h=Wx (owner.setIfInBounds j (Wx k),k+1) by unfold mj;simp[h3],q1,Qp]
   congr 2;lia
  ·rw[Qp,show k+(r.length+1)=k+1+r.length by lia];exact q3
def Il (hm:okM m) (hs) (hl:hs.size<=m+1):∃owner,SetTable.layClean m hs=Wx owner/\owner.size=m+1/\(jf owner.toList).Perm (Py hs.size):=by
 obtain⟨o',q1,q2,q3⟩:=vm hm hs.toList (Array.replicate (m+1) Wy) 0 {..} (by simp[jf]) (by simp_all)
 refine⟨o',?_,q2,by simp_all⟩
 show(hs.foldl (mj m) (Wx (Array.replicate (m+1) Wy,0))).map (·.1)=_
 simp_all
def je (g:Nat->Option Nat):∀l:List Nat,(l.filterMap fun j=>(g j).map (j,·)).map (·.1)=l.filter fun j=>(g j).isSome
 | []=>rfl
 | j::l=>by
  cases e:g j with
  | none=>simpa [e] using je g l
  | some x=>simpa [e] using je g l
def jd (g:Nat->Option Nat):∀l:List Nat,(l.filterMap fun j=>(g j).map (j,·)).map (·.2)=l.filterMap g
 | []=>rfl
 | j::l=>by
  cases e:g j with
  | none=>simpa [e] using jd g l
  | some x=>simpa [e] using jd g l
def pK (o:Array (Option Nat)):(Py o.size).filterMap (fun j=>o.getD j Wy)=jf o.toList:=by
 have e:(Py o.size).map (fun j=>o.getD j Wy)=o.toList:=by
  apply T_
  ·simp
  simp_all
 rw[jf,<- e,List.filterMap_map];rfl
def Fy (hm:okM m) (hs) (hl:hs.size<=m):∃t order,Qv.laid m f mv ld pl hs=Wx (t,order)/\Tb t/\t.mask=m/\t.led=ld/\t.plain=pl/\t.place.size=hs.size/\order.toList.Perm (Py hs.size):=by
 obtain⟨o,q1,q2,q3⟩:=Il hm hs {}
 refine⟨{ mask:=m,place:=((Py (m+1)).filter fun j=>(o.getD j Wy).isSome).toArray,dummies:=#[],finger:=f,led:=ld,moves:=mv,plain:=pl },(jf o.toList).toArray,?_,?_⟩
 ·unfold Qv.laid
  rw[q1]
  show Wx _=Wx _
  congr 2
  ·congr 2
   exact je (fun j=>o.getD j Wy) _
  ·rw[jd (fun j=>o.getD j Wy),<- q2,pK]
 ·have len:((Py (m+1)).filter fun j=>(o.getD j Wy).isSome).length=hs.size:=by
   rw[<- je,PR,<- PR,jd,<- q2,pK,q3.length_eq,TR]
  refine⟨⟨hm,?_,?_,rfl,?_⟩,rfl,rfl,rfl,?_,?_⟩
  ·show Asc (List.toArray _).toList
   exact U4.filter _ List.pairwise_lt_range
  ·grind
  ·simp_all
  ·omega
  lia
def HF {t:Qv} (T:Tb t){j:Nat} (hj:j∉t.place.toList) (hm:j<=t.mask) (hs:t.place.size+1<=t.mask):Tb (t.put j).1/\(t.put j).1.mask=t.mask/\(t.put j).1.led=t.led/\(t.put j).1.plain=t.plain/\(t.put j).1.place.size=t.place.size+1/\(t.put j).2<=t.place.size:=by
 obtain⟨r,e,hr,_⟩:=jC j T.so
 have il:=iJ t.place r j hr
 have sz:(Q7 t.place (QG t.place j) j).size=t.place.size+1:=by
  rw[e,<- PF,il,P_,Qp,Qh,T9,PF];lia
 have du:(t.put j).1.dummies = #[]:=by
  show(if Qv.has t.dummies j=Wz then _ else t.dummies)=_
  rw[T.du];rfl
 refine⟨⟨T.m,vD T.so hj,?_,du,?_⟩,rfl,rfl,rfl,sz,by show QG t.place j<=_;rw[e];exact hr⟩
 ·intro x hx
  have hx:x∈(Q7 t.place (QG t.place j) j).toList:=hx
  rw[e,il] at hx
  rcases Qr.mp hx with h | h
  ·exact T.le x (List.mem_of_mem_take h)
  ·rcases PL.mp h with rfl | h
   ·exact hm
   ·exact T.le x (List.mem_of_mem_drop h)
 ·show(Q7 t.place (QG t.place j) j).size<=t.mask
  rw[sz];exact hs
structure Gd (bt) (t) (n):Prop where
 tb:Tb t
 sz:t.place.size=n
 led:t.led = !bt
 pl:t.plain=true
 rng:(t.mask=7/\n<=4)\/(t.mask=31/\5<=n/\n<=18)\/(t.mask=127/\19<=n/\n<=76)\/(t.mask=511/\77<=n/\n<=306)
def Gd.fits (g:Gd bt t n):t.fits n=true:=by
 unfold Qv.fits VR
 rw[g.sz,g.tb.du]
 have:=g.tb.sz
 rw[g.sz] at this
 simp_all
def Ha (bt:Bool):Gd bt (.fresh 0 0 (!bt)) 0:=⟨⟨.inl rfl,by simp[VB],by simp[VB],rfl,by simp[VB]⟩,rfl,rfl,rfl,.inl ⟨rfl,{}⟩⟩
structure Pre (bt) (t) (n):Prop where
 tb:Tb t
 sz:t.place.size=n
 led:t.led = !bt
 pl:t.plain=true
 fits:t.fits n=true
 no:t.tooFull=false->Gd bt t n
 yes:t.tooFull=true->∃m,UB (TY n)=m+1/\m<=511/\∀hs:Array Int,hs.size=n->∃t' order,t.relaid hs (TY n)=some (t',order)/\Gd bt t' n/\order.toList.Perm (Py n)
def IG {bt:Bool}{t:Qv}{n:Nat} (g:Gd bt t n) (hn:n<306){j:Nat} (hj:j∉t.place.toList) (hm:j<=t.mask):Pre bt (t.put j).1 (n+1)/\(t.put j).2<=n:=by
 have hs:t.place.size+1<=t.mask:=by rw[g.sz];rcases g.rng with h | h | h | h<;>lia
 obtain⟨T,e1,e2,e3,e4,e5⟩:=HF g.tb hj hm hs
 rw[g.sz] at e4 e5
 have ft:(t.put j).1.fits (n+1)=true:=by
  unfold Qv.fits VR
  have:=T.sz
  rw[e4] at this
  rw[e4,T.du];simp;exact this
 have tf:(t.put j).1.tooFull=decide ((n+1)*5 ≥ t.mask*3):=by
  unfold Qv.tooFull VR
  rw[e4,T.du,e1];simp
 refine⟨⟨T,e4,by rw[e2];exact g.led,by rw[e3];exact g.pl,ft,fun c=>⟨T,e4,by rw[e2];exact g.led,by rw[e3];exact g.pl,?_⟩,fun c=>?_⟩,e5⟩
 ·rw[tf] at c
  have c:=of_decide_eq_false c
  rcases g.rng with h | h | h | h
  ·exact .inl ⟨h.1,{}⟩
  ·exact .inr (.inl ⟨h.1,{},{}⟩)
  ·exact .inr (.inr (.inl ⟨h.1,{},{}⟩))
  ·exact .inr (.inr (.inr ⟨h.1,{},{}⟩))
 ·rw[tf] at c
  have c:=of_decide_eq_true c
  have key:∀m,okM m->UB (TY (n+1))=m+1->m<=511->n+1<=m->((m=7/\n+1<=4)\/(m=31/\5<=n+1/\n+1<=18)\/(m=127/\19<=n+1/\n+1<=76)\/(m=511/\77<=n+1/\n+1<=306)) →
    ∃m,UB (TY (n+1))=m+1/\m<=511/\∀hs:Array Int,hs.size=n+1->∃t' order,(t.put j).1.relaid hs (TY (n+1))=Wx (t',order)/\Gd bt t' (n+1)/\order.toList.Perm (Py (n+1)):=by
   intro m om hsz h5 hle hr
   refine⟨m,hsz,h5,fun hs hh=>?_⟩
   unfold Qv.relaid
   rw[hsz]
   obtain⟨t',order,a1,a2,a3,a4,a5,a6,a7⟩:=Fy om hs {}
   rw[hh] at a6 a7
   exact⟨t',order,a1,⟨a2,a6,by rw[a4,e2];exact g.led,by rw[a5,e3];exact g.pl,by rw[a3];exact hr⟩,a7⟩
  rcases g.rng with h | h | h | h
  ·have:n+1=5:={}
   exact key 31 (.inr (.inl rfl)) (by rw[this];decide) {} {} (.inr (.inl ⟨rfl,{},{}⟩))
  ·have:n+1=19:={}
   exact key 127 (.inr (.inr (.inl rfl))) (by rw[this];decide) {} {} (.inr (.inr (.inl ⟨rfl,{},{}⟩)))
  ·have:n+1=77:={}
   exact key 511 (.inr (.inr (.inr rfl))) (by rw[this];decide) {} {} (.inr (.inr (.inr ⟨rfl,{},{}⟩)))
  ·exfalso;lia
end L2.ST
namespace L2.ST
open PySem PySem.Spec PyProof.Rows
@[inline]abbrev byT (w:Qc):Bool:=w.params.followText "set-order"
abbrev Ik (w:Qc) (h:QQ) (S:PN) (es:Array (Int × Pp)):Prop:=∃o ep t,h.get? S=Wx o/\o.ExactSet/\o.data=.set es ep t/\Gd (byT w) t es.size
def DE (xs) (p) (x:α):(Q7 xs p x).size=xs.size+1:=by
 have:=(Qv.insertAt_perm xs p x).length_eq
 simp_all
def An {α:Type}{es:Array α}{order:Array Nat} (p:order.toList.Perm (Py es.size)):(order.filterMap (es[·]?)).toList.Perm es.toList:=by
 rw[Array.toList_filterMap]
 exact(p.filterMap _).trans (by rw[filterMap_getElem?_range])
section
variable {prog:PJ}{w:Qc}{A:P9}{E:Pp->Pr->Prop}{s:Pr}{S:PN}{es:Array (Int × Pp)}
def xn {h:QQ} (ho:h.get? S=Wx o) (hd:o.data=.set es ep t) (es') (t') :
  (h.update S (Obj.putSet es' t')).get? S=Wx { o with data:=.set es' (ep+1) t' }:=by
 have:=Qt (Obj.putSet es' t') ho (by rw[putSet_of es' t' hd];rfl)
 rw[putSet_of es' t' hd] at this;lia
def t_ (h:n<=306):n<=sizeLine:=P7 h (by decide)
end
section
variable {prog:PJ}{w:Qc}{A:P9}{E:Pp->Pr->Prop}{s:Pr}{S:PN}{es:Array (Int × Pp)}
@[inline]abbrev TK (prog:PJ) (w:Qc) (h:QQ) (ks:List Int) (a:PN):Prop:=IsTupleKey (intKind prog w) h ks a
abbrev HB (prog:PJ) (w:Qc) (h:QQ) (es:List (Int × Pp)) (x:List Int):Prop:=∀e∈es,∃ks a,e.2=.ref a/\TK prog w h ks a/\ks≠x
def G8 (h:(intKind prog w).is k v=Wz):∃t,v=.int k t:=by
 cases v<;>simp[intKind,V2] at h
 simp_all
def items_int (h:ItemsAre (intKind prog w) ks vs):∀v∈vs,∃n t,v=.int n t:=by
 induction h with
 | nil=>simp
 | cons h1 _ ih=>
  intro v hv
  rcases PL.mp hv with rfl | hv
  ·obtain⟨t,e⟩:=G8 h1;simp_all
  simp_all
def pS {ks:List Int}{a:PN}{Q:Bool->Pr->Prop} (hk:TK prog w s.heap ks a) (h:Q WA s):wpAny (model prog w) A (ofAClassStatement 8 (.ref a)) Q E s:=by
 have hT:=hk.typeIs
 obtain⟨o,items,n,ho,_,hd,hi⟩:=hk
 unfold ofAClassStatement
 refine gV (S4 hT ?_)
 refine gV (Pl ?_)
 refine gV (UE ho hd ?_)
 refine gV ?_
 rw[<- Array.forIn_toList]
 refine Va _ (fun rest r s'=>r.1=Wy/\s'=s/\∀v∈rest,∃n t,v=.int n t) _ ?_ ?_ _ _ ⟨rfl,rfl,items_int hi⟩
 ·rintro v rest r s' ⟨hr,rfl,hall⟩
  obtain⟨n,t,rfl⟩:=hall v Pw
  refine gV ?_
  refine Pl ?_
  exact Pl ⟨rfl,rfl,fun u hu'=>hall u (Po _ hu')⟩
 ·rintro⟨r1,r2⟩ s' ⟨hr,rfl,_⟩
  subst hr
  exact Pl h
def FI (hk:TK prog w s.heap x a) (hl:∀v∈l,∃ks b,v=.ref b/\TK prog w s.heap ks b) (h:Q WA s):wpAny (model prog w) A (searchCouldBeSeen (.ref a) l) Q E s:=by
 refine gV ?_
 refine Va _ (fun rest r s'=>r.1=Wy/\s'=s/\∀v∈rest,∃ks b,v=.ref b/\TK prog w s.heap ks b) _ ?_ ?_ _ _ ⟨rfl,rfl,hl⟩
 ·rintro v rest r s' ⟨hr,rfl,hall⟩
  obtain⟨ks,b,rfl,hb⟩:=hall v Pw
  have nx:=fun u hu'=>hall u (Po _ hu')
  refine Vp (fun _=>Pl ⟨rfl,rfl,nx⟩) fun _=>?_
  refine gV (wpAny_eqIsQuiet_tuple hk ?_)
  refine gV (wpAny_eqIsQuiet_tuple hb ?_)
  refine gV (pS hk ?_)
  refine gV (pS hb ?_)
  exact Pl ⟨rfl,rfl,nx⟩
 ·rintro⟨r1,r2⟩ s' ⟨hr,rfl,_⟩
  subst hr
  exact Pl h
def LS (T:Tb t):t.gaveWay=false:=by
 unfold Qv.gaveWay
 rcases T.m with h | h | h | h<;>rw[h]<;>rfl
def DW (hk:TK prog w s.heap ks a) (h:Q Wz s):wpAny (model prog w) A (hashByValue 8 (.ref a)) Q E s:=by
 have hT:=hk.typeIs
 obtain⟨o,items,n,ho,_,hd,hi⟩:=hk
 refine gV (Vg hT F.slot_tuple_hash.lookup ?_)
 refine gV (UE ho hd ?_)
 refine gV ?_
 show wpAny _ _ (forIn items _ _) _ _ s
 rw[<- Array.forIn_toList]
 refine Va _ (fun rest r s'=>r.1=Wy/\s'=s/\∀v∈rest,∃n t,v=.int n t) _ ?_ ?_ _ _ ⟨rfl,rfl,items_int hi⟩
 ·rintro v rest r s' ⟨hr,rfl,hall⟩
  obtain⟨n,t,rfl⟩:=hall v Pw
  refine gV ?_
  refine Pl ?_
  exact Pl ⟨rfl,rfl,fun u hu'=>hall u (Po _ hu')⟩
 ·rintro⟨r1,r2⟩ s' ⟨hr,rfl,_⟩
  subst hr
  exact Pl h
def zt {x:List Int}{a:PN}{h:Int}{o:Obj}{ep:Nat}{t:Qv}{Q:SetFound->Pr->Prop} (ho:s.heap.get? S=Wx o) (hd:o.data=.set es ep t) (T:Tb t) (hsz:t.place.size=es.size) (hf:t.fits es.size=Wz) (hu:A.units<cLine)
  (hk:TK prog w s.heap x a) (hes:HB prog w s.heap es.toList x) (hQ:∀j,j∉t.place.toList->j<=t.mask->Q (.free j WA) s) :
  ∀k fuel stand,k<fuel->k<10*RU t.mask->Rch t k (stand.getD (t.probeStart h))->wpAny (model prog w) A (setSearchFrom S (.ref a) h Wz fuel stand) Q E s:=by
 intro k
 induction k using Nat.strongRecOn with
 | _ k ih=>
  intro fuel stand hfu hk2 R
  cases fuel with
  | zero=>lia
  | succ fuel=>
   refine gV (Rp ho hd hf ?_)
   dsimp only
   rw[LS T]
   simp only[Bool.false_eq_true,if_false]
   generalize hp:t.probe _ h (stand.getD (t.probeStart h))=mt
   have key:∀ha,t.probe ha h (stand.getD (t.probeStart h))=mt->_:=fun ha e=>(e ▸ A3 T ha h k (10*RU t.mask) _ hk2 R:(∃j,mt=Wx (.empty j Wy)/\j∉t.place.toList/\j<=t.mask)\/(∃j i k' q',mt=Wx (.candidate j i q')/\t.slot j=.live i/\i<t.place.size/\ha i=h/\k'<k/\Rch t k' q'))
   rcases key _ hp with⟨j,rfl,j1,j2⟩ | ⟨j,i,k',q',rfl,j1,j2,_,j4,j5⟩
   ·exact Pl (hQ j j1 j2)
   ·dsimp only
    have hi:i<es.size:={}
    obtain⟨ks,b,e1,e2,e3⟩:=hes es[i] (Array.getElem_mem_toList hi)
    have hei:es[i]?=Wx (es[i].1,.ref b):=by rw[QZ hi,<- e1]
    have rest:wpAny (model prog w) A (do
      let Wx (_,y):=es[i]? | unsupported "internal:set-entry"
      let equal ← holding [y] (eqBool y (.ref a))
      let (es',_,t') ← setState S
      if Wz&&equal then return SetFound.there Wy
      let Wx same:=t'.sameMemory t.moves t.mask | unsupported "set.changed-during-lookup:is-the-new-block-at-the-old-address"
      let still ← match (if same then t'.slot j else .empty) with
       | .live i'=>match es'[i']? with
        | some (_,y')=>do pure (if ← isSame y' y then Wx i' else Wy)
        | none=>pure Wy
       | _=>pure Wy
      match still with
      | none=>rule "set.search.anew"; setSearchFrom S (.ref a) h Wz fuel Wy
      | some i'=>if equal then return SetFound.there (Wx i') else setSearchFrom S (.ref a) h Wz fuel (Wx q')) Q E s:=by
     rw[hei]
     refine gV (P6 (wpAny_eqBool_tuple hu e2 hk ?_))
     rw[decide_eq_false e3]
     refine gV (Rp ho hd hf ?_)
     simp only[if_false]
     have sm:t.sameMemory t.moves t.mask=Wx true:=by unfold Qv.sameMemory;simp
     rw[sm]
     simp only[if_true]
     rw[j1]
     dsimp only
     rw[hei]
     refine gV (wpAny_isSame_ref_self (gV (Pl ?_)))
     exact ih k' j4 fuel (Wx q') {} {} j5
    refine Vp (fun _=>?_) fun _=>?_
    ·refine gV (FI hk (fun v hv=>?_) ?_)
     ·obtain⟨e,he,rfl⟩:=Qi.mp hv
      obtain⟨ks',b',q1,q2,_⟩:=hes e (by rw[Array.toList_filter] at he;exact(RD.mp he).1)
      exact⟨ks',b',q1,q2⟩
     ·simp only[Bool.false_eq_true]
      exact rest
    ·exact rest
end
section
variable {prog:PJ}{w:Qc}{A:P9}{E:Pp->Pr->Prop}{s:Pr}{S:PN}{es:Array (Int × Pp)}
def D7 (hS:Ik w s.heap S es) (hn:es.size<306) (hu:A.units<cLine) (hk:TK prog w s.heap x a) (hes:HB prog w s.heap es.toList x)
  (h1:∀h' es',Ry S s.heap h'->Ik w h' S es'->es'.toList.Perm (es.toList++[(hs,.ref a)])->Q Wz { s with heap:=h' }) :
  wpAny (model prog w) A (setAddHashed S (.ref a) hs) Q E s:=by
 obtain⟨o,ep,t,ho,hex,hd,g⟩:=hS
 have hf:=g.fits
 refine P6 (gV (Rp ho hd hf ?_))
 dsimp only
 rw[show byScan (.ref a) es=WA by rfl]
 obtain⟨k,k1,R⟩:=ze g.tb hs
 refine gV (zt ho hd g.tb g.sz hf hu hk hes (fun j jn jl=>?_) k 100000 Wy ?_ {} R)
 ·dsimp only
  refine gV (Rp ho hd hf ?_)
  obtain⟨P,pl⟩:=IG g hn jn jl
  have sz:(Q7 es (t.put j).2 (hs,Qa a)).size=es.size+1:=DE _ _ _
  have pm:=Qv.insertAt_perm es (t.put j).2 (hs,Qa a)
  rw[UU] at pm
  generalize he1:Q7 es (t.put j).2 (hs,Qa a)=es1 at sz pm
  generalize ht1:(t.put j).1=t1 at P
  rw[P.pl]
  refine gV (DW hk ?_)
  simp only[if_true]
  refine gV (wpAny_storeSet_of ho hd ?_ (t_ {}))
  have e1:=xn ho hd es1 t1
  by_cases c:t1.tooFull=Wz
  ·rw[c]
   obtain⟨m,m1,m2,q⟩:=P.yes c
   obtain⟨t',order,a1,a2,a3⟩:=q (es1.map (·.1)) (by simp_all)
   rw[<- sz] at a3
   have pm2:=An a3
   have sz2:(order.filterMap (es1[·]?)).size=es.size+1:=by rw[<- PF,pm2.length_eq,PF,sz]
   refine gV ?_
   refine gV (Rp e1 rfl (by rw[sz];exact P.fits) ?_)
   dsimp only
   rw[if_neg (by rw[m1];have:512<=sizeLine:=by decide
                 lia)]
   rw[a1]
   show wpAny _ _ ((if ((order.filterMap (es1[·]?)).size != es1.size)=Wz then unsupported "internal:set-table-lost-an-element" else pure PUnit.unit >>= fun _=>pure (order.filterMap (es1[·]?),t')) >>= _) _ _ _
   rw[if_neg (by simp_all)]
   refine gV (gV (Pl (Pl ?_)))
   dsimp only
   refine wpAny_storeSet_of e1 rfl ?_ (t_ {})
   exact Pl (h1 _ _ ((Rm _ _ _).trans (Rm _ _ _)) ⟨_,_,t',xn e1 rfl _ t',hex,rfl,by simp_all⟩ (pm2.trans pm))
  ·rw[Bool.not_eq_true] at c
   rw[c]
   exact Pl (h1 _ es1 (Rm _ _ _) ⟨_,_,t1,e1,hex,rfl,by rw[sz];exact P.no c⟩ pm)
 ·have:t.mask<=511:=by rcases g.tb.m with h | h | h | h<;>lia
  unfold RU at k1
  lia
end
section
variable {prog:PJ}{w:Qc}{A:P9}{R:Wv->Pr->Prop}{I:PN}{fp wr:List PN}{n:Nat}{P:Nat->Pp->Prop}{St:Nat->QQ->Prop}
def Eg (W:Wr prog w A.in1 I fp wr n P St) (S) (hSf:S∉fp) (J:Nat->QQ->Prop)
  (keep:∀i h h',J i h->(∀b o,b∉wr->h.get? b=Wx o->h'.get? b=Wx o)->J i h')
  (step:∀i v s Q E , i<n->P i v->J i s.heap->(∀b h' tk,Ry S s.heap h'->J (i+1) h'->Q b { s with heap:=h',toks:=tk })->wpAny (model prog w) A.in1 (setAdd S v) Q E s) :
  ∀k i s , n - i=k->i<=n->St i s.heap->J i s.heap →
   (∀h' tk,(∀b o,b∉S::wr->s.heap.get? b=Wx o->h'.get? b=Wx o)->J n h'->R (.ok (.ret .none)) { s with heap:=h',toks:=tk }) →
   codeAny (model prog w) A (.builtin "set.update.loop" ⟨[.ref S,.ref I],[]⟩) R s:=by
 intro k
 induction k with
 | zero=>
  intro i s hk hi hst hJ hR
  have hin:i=n:={}
  subst hin
  refine RG F.entry_set_update_loop ?_
  rw[Uh Ts _]
  refine gV (W.done s _ _ hst fun h' tk hm=>?_)
  exact Pl (hR _ _ (fun b o hb e=>hm b o (fun z=>hb (Po _ z)) e) (keep _ _ _ hJ hm))
 | succ k ih=>
  intro i s hk hi hst hJ hR
  have hlt:i<n:={}
  refine RG F.entry_set_update_loop ?_
  rw[Uh Ts _]
  refine gV (W.item i s _ _ hlt hst fun v h' tk hP hst' hm=>?_)
  refine gV (P6 (step i v _ _ _ hlt hP (keep _ _ _ hJ hm) fun b h2 tk2 sb J2=>?_))
  refine Pl ⟨plainId_quiet Ts _,ih (i+1) _ {} hlt (W.frame _ _ _ hst' fun b hb o e=>?_) J2 fun h3 tk3 m3 J3=>?_⟩
  ·rw[sb.2 b (fun z:b=S=>hSf (z ▸ hb))];exact e
  ·refine hR h3 tk3 (fun b o hb e=>m3 b o hb ?_) J3
   rw[sb.2 b (fun z:b=S=>hb (by simp_all))]
   simp_all
end
def HH (a)
  (h:Q₁ (.ref s.heap.objs.size) { s with heap:=s.heap.push { cls:=.type "set", dict:=Wy,data:=.set #[] 0 (.fresh 0 0 (!byT w)) } }) :
  codeAny (model prog w) A (.call (.builtin "set.__new__") ⟨[.type "set", a],[]⟩) (wants Q₁ E) s:=by
 refine Ur ?_
 refine gV (U2 (F.newCall_set_1 a) (Pl ⟨plainId_quiet F.plain_set_new _,RG F.entry_set_new ?_⟩))
 unfold Qq.«set.__new__» Qq.Frozenset.newClass
 have hsub:=sub_set_self
 wp_walk
 refine R_ (Pl ?_)
 refine gV (wpAny_alloc (Pl ?_))
 exact Pl h
@[inline]abbrev nv (w:Qc):Obj:={ cls:=.type "set", dict:=Wy,data:=.set #[] 0 (.fresh 0 0 (!byT w)) }
structure Src (prog) (w) (T) (a) (n) (P) (OK:QQ->Prop):Prop where
 obj:∀h,OK h->∃o,h.get? a=some o/\o.cls=.type T
 keep:∀h h':QQ,OK h->(∀o,h.get? a=some o->h'.get? a=some o)->OK h'
 iter:∀A s , A.handled=none->OK s.heap->∃oI St,
  (∀E Q , Q (.ref s.heap.objs.size) { s with heap:=s.heap.push oI }->wpAny (model prog w) A (pyIter (.ref a)) Q E s) ∧
  (∀A':P9,A'.handled=none->Wr prog w A' s.heap.objs.size [s.heap.objs.size,a] [s.heap.objs.size] n P St)/\St 0 (s.heap.push oI)
 s1:isSubtype (.type T) (.type "set")=pure false
 s2:isSubtype (.type T) (.type "frozenset")=pure false
 nd:(TB T == TB "dict")=false
set_option maxHeartbeats 3200000 in
def Hg {prog:PJ}{w:Qc}{B:P9}{Er:Pp->Pr->Prop}{z:Pr}{T:String}{a:PN}{n:Nat}{P:Nat->Pp->Prop}{OK:QQ->Prop}{Q:Pp->Pr->Prop} (K:Src prog w T a n P OK)
  (hh:B.handled=Wy) (hok:OK z.heap) (J:Nat->QQ->Prop) (j0:∀h,h.get? z.heap.objs.size=Wx (nv w)->(∀b o,z.heap.get? b=Wx o->h.get? b=Wx o)->J 0 h)
  (keep:∀i h h',J i h->(∀b o,b≠z.heap.objs.size+1->h.get? b=Wx o->h'.get? b=Wx o)->J i h')
  (step:∀(A:P9) i v (s:Pr) (Q:Bool->Pr->Prop) (E:Pp->Pr->Prop),A.units<=B.units+20->i<n->P i v->J i s.heap->(∀b h' tk,Ry z.heap.objs.size s.heap h'->J (i+1) h'->Q b { s with heap:=h',toks:=tk })->wpAny (model prog w) A (setAdd z.heap.objs.size v) Q E s)
  (fin:∀(g':QQ) (tk:Nat),J n g'->(∀b o,b<z.heap.objs.size->z.heap.get? b=Wx o->g'.get? b=Wx o)->Q (.ref z.heap.objs.size) { z with heap:=g',toks:=tk }) :
  wpAny (model prog w) B (call (.type "set") [.ref a]) Q Er z:=by
 obtain⟨_,_,_⟩:=Su.mro
 have:=Su.made
 have:=Su.sub
 refine Sw (Ur ?_)
 show wpAny _ _ (callAny (.type "set") _) _ _ _
 refine Pl ⟨Si _ {:_},RG F.entry_type_call ?_⟩
 rw[P9.under_plain (weight_type_call_type "set" [.ref a] []) rfl]
 have:=Su.notType
 have:=Su.canCreate
 have:=F.typeCall_set_1 (.ref a)
 repeat (any_goals (first | assumption | wp_step))
 refine RA (HH (.ref a) (E:=Er) (Q₁:=fun v y=>v=.ref z.heap.objs.size/\y={ z with heap:=z.heap.push (nv w) }) ⟨rfl,rfl⟩) fun r y hr=>?_
 cases r with
 | error e=>exact hr
 | ok fl=>
  cases fl with
  | ret v=>
   obtain⟨rfl,rfl⟩:=hr
   have hS:(z.heap.push (nv w)).get? z.heap.objs.size=Wx (nv w):=Pu _ rfl
   have hT:Pr.TypeIs { z with heap:=z.heap.push (nv w) } (.ref z.heap.objs.size) "set" := ⟨_,hS,rfl⟩
   have:=Su.init.lookup
   have:=Su.init.bind (.ref z.heap.objs.size)
   repeat (any_goals (first | assumption | wp_step))
   refine RA (SI (R:=wants (fun r y=>r=.none/\∃g' tk,y={ z with heap:=g',toks:=tk }/\J n g' ∧
     (∀b o,b<z.heap.objs.size->z.heap.get? b=Wx o->g'.get? b=Wx o)) Er) Su.init.plain F.entry_set_init (check_set_init_1 hT ?_)) fun r₂ y₂ hr₂=>?_
   ·obtain⟨ol,hol,hcl⟩:=K.obj _ hok
    have hlS:a<z.heap.objs.size:=Pq hol
    obtain⟨oc,od,oda,osl⟩:=ol
    simp only at hcl
    subst hcl
    have hol':(z.heap.push (nv w)).get? a=Wx { cls:=.type T,dict:=od,data:=oda,slots:=osl }:=Pn _ hol
    have:=K.s1
    have:=K.s2
    have:=K.nd
    have ok1:OK (z.heap.push (nv w)):=K.keep _ _ hok fun o e=>Pn _ e
    unfold Qq.«set.__init__» noKeywords Qq.Frozenset.updateFrom
    generalize hPI:pyIter=PI
    wp_walk
    subst hPI
    obtain⟨oI,St,hit,W,st⟩:=K.iter B.in1.in1 { z with heap:=z.heap.push (nv w) } hh ok1
    refine hit _ _ ?_
    refine gV (Vy ?_)
    have sz:(z.heap.push (nv w)).objs.size=z.heap.objs.size+1:=QQ.size_push _ _
    have W':=W B.in1.in1.in1 hh
    rw[show({ z with heap:=z.heap.push (nv w) }:Pr).heap.objs.size=z.heap.objs.size+1 from sz] at W'
    show codeAny _ _ (.builtin "set.update.loop" ⟨[.ref z.heap.objs.size,.ref (z.heap.push (nv w)).objs.size],[]⟩) _ _
    rw[sz]
    refine Eg W' z.heap.objs.size ?hSf J (fun i h h' j k=>keep i h h' j fun b o hb e=>k b o (by simpa using hb) e) (fun i v s Q E hi hp hj hq=>step _ i v s Q E ?un hi hp hj hq) (n - 0) 0 _ {} (QJ _) st ?hJ0 ?hR
    case hSf=>simp only[PL,List.not_mem_nil,or_false,not_or];exact⟨PU (RQ _),Rz hlS⟩
    case un=>show B.units+3<=_;lia
    case hJ0=>exact j0 _ (Pn _ hS) fun b o e=>Pn _ (Pn _ e)
    case hR=>
     intro h' tk hm hJ
     show wpAny _ _ _ _ _ _
     refine Pl ?_
     show wpAny _ _ (ret QL) _ _ _
     refine Pl ⟨rfl,h',tk,rfl,hJ,fun b o hb e=>hm b o ?_ (Pn _ (Pn _ e))⟩
     simp only[PL,List.not_mem_nil,or_false,not_or]
     exact⟨PU hb,PU (UY hb)⟩
   ·cases r₂ with
    | error e=>exact hr₂
    | ok fl₂=>
     cases fl₂ with
     | ret r=>
      obtain⟨rfl,g',tk,rfl,hS',hk'⟩:=hr₂
      repeat (any_goals (first | assumption | wp_step))
      exact fin _ _ hS' hk'
     | _=>exact hr₂.elim
  | _=>exact hr.elim
def yG {α:Type} (next:Nat->Nat):∀(f k:Nat) (l:List α) (out:Array α),l.length=f->(VY next f k l out).toList.Perm (out.toList++l)
 | 0,k,l,out,h=>by
  have:l=[]:=Tr.mp h
  subst this
  unfold VY;simp
 | f+1,k,l,out,h=>by
  unfold VY
  have hl:next k % l.length<l.length:=UW _ {}
  rw[Pz hl]
  refine(yG next f (k+1) _ _ (by rw[List.length_eraseIdx_of_lt hl,h];rfl)).trans ?_
  rw[UU,Qy]
  refine UR.append_left _ ?_
  generalize next k % l.length=i at hl
  clear h
  induction l generalizing i with
  | nil=>simp at hl
  | cons a r ih=>
   cases i with
   | zero=>simp
   | succ i=>
    exact(UR.swap _ _ _).trans ((ih i (by simpa using hl)).cons a)
def y_ (next) (xs:Array α):(pickOrder next xs).toList.Perm xs.toList:=by
 unfold pickOrder
 simpa using yG next xs.size 0 xs.toList #[] {..}
abbrev gp (w:Qc) (S:PN) (ep:Nat) (es:Array (Int × Pp)):Array (Int × Pp):=if byT w then pickOrder (w.params.setOrder S ep) es else es
def qb (w) (S) (ep) (es):(gp w S ep es).toList.Perm es.toList:=by
 unfold gp;split
 ·exact y_ _ _
 rfl
abbrev plF (t:Qv):Nat->Nat
 | 0=>0
 | j+1=>t.place.getD j 0+1
abbrev slW (w:Qc) (t:Qv) (j:Nat):Nat:=if byT w then 0 else plF t j
def wm (T:Tb t) (hj:j<=t.place.size):QG t.place (plF t j)=j:=by
 have key:∀x,(∀i (h:i<t.place.toList.length),i<j->t.place.toList[i]<x)->(∀i (h:i<t.place.toList.length),j<=i->x<=t.place.toList[i])->QG t.place x=j:=by
  intro x a b
  obtain⟨r,e,hr,a',b'⟩:=jC x T.so
  rw[e]
  rcases Nat.lt_trichotomy r j with c | c | c
  ·grind
  ·exact c
  grind
 cases j with
 | zero=>exact key 0 (fun i h c=>{}) (fun i h c=>QJ _)
 | succ j=>
  have hl:j<t.place.toList.length:=by grind
  have e:t.place.getD j 0=t.place.toList[j]:=getD_at {}
  show QG t.place (t.place.getD j 0+1)=j+1
  refine key _ (fun i h c=>?_) (fun i h c=>?_)
  ·rcases S7 i j with d | d
   ·have:=PZ.mp T.so i j h hl d;lia
   grind
  ·have:=PZ.mp T.so j i hl h {};lia
def slot_next:Slot "set_iterator" "__next__" "set_iterator.__next__" :=
 .of (owner:="set_iterator") (n:="__next__") (by rfl) (by rfl) (by rfl) (by rfl)
  (by exact .inl (by rfl)) (by rfl)
def qt:Slot "set_iterator" "__iter__" "set_iterator.__iter__" :=
 .of (owner:="set_iterator") (n:="__iter__") (by rfl) (by rfl) (by rfl) (by rfl)
  (by exact .inl (by rfl)) (by rfl)
def entry_next:entryFor table "set_iterator.__next__" = Wx Qq.«set_iterator.__next__»:=entryFor_of_tree (by rfl)
def uB:entryFor table "set_iterator.__iter__" = Wx Qq.«dict_keyiterator.__iter__»:=
 entryFor_alias (id':="dict_keyiterator.__iter__") (by kernel_rfl) rfl {:_} (by kernel_rfl)
def vv:entryFor table "set.__iter__" = Wx Qq.«frozenset.__iter__»:=
 entryFor_alias (id':="frozenset.__iter__") (by kernel_rfl) rfl {:_} (by kernel_rfl)
def uY:Manifest.owners.lookup (String.ofList ['r','o','t','a','r','e','t','i','_','t','e','s'].reverse)=Wx Manifest.sig_set_iterator:=by kernel_rfl
def args_next (a):argsOk "set_iterator.__next__" ⟨[a],[]⟩:=by
 unfold argsOk;rw[signature?_of (n:=['_','_','t','x','e','n','_','_']) (by rfl) uY];rfl
def zi (a):argsOk "set_iterator.__iter__" ⟨[a],[]⟩:=by
 unfold argsOk;rw[signature?_of (n:=['_','_','r','e','t','i','_','_']) (by rfl) uY];rfl
abbrev eM (h:QQ) (S:PN) (es:Array (Int × Pp)) (ep:Nat) (t:Qv):Prop:=∃o,h.get? S=Wx o/\o.ExactSet/\o.data=.set es ep t
abbrev uw (h:QQ) (I S:PN) (sl i n ep:Nat):Prop:=h.get? I=Wx { cls:=.type "set_iterator", data:=.fields #[rawInt sl,rawInt i,.ref S,rawInt n,rawInt ep] }
section
variable {prog:PJ}{w:Qc}{A:P9}{E:Pp->Pr->Prop}{s:Pr}{S I:PN}{es:Array (Int × Pp)}{ep:Nat}{t:Qv}
def eM.typeIs (x:eM s.heap S es ep t):s.TypeIs (.ref S) "set" := let ⟨o,a,b,_⟩:=x;⟨o,a,b.1⟩
def eM.keep {h h':QQ} (x:eM h S es ep t) (k:∀o,h.get? S=Wx o->h'.get? S=Wx o):eM h' S es ep t:=let ⟨o,a,b⟩:=x;⟨o,k o a,b⟩
def B7 (g:Gd (byT w) t es.size) (x:eM s.heap S es ep t) (h:Q WA s):wpAny (model prog w) A (setDrawn S) Q E s:=by
 obtain⟨o,a,b,c⟩:=x
 refine gV (Rp a c g.fits ?_)
 refine gV ?_
 refine gV (R_ (Pl ?_))
 show wpAny _ _ (pure (!_&&(!t.plain&&_))) _ _ _
 rw[g.pl]
 simp only[Bool.not_true,Bool.false_and,Bool.and_false]
 exact Pl h
def Cs (g:Gd (byT w) t es.size) (x:eM s.heap S es ep t)
  (hQ:Q (.ref s.heap.objs.size) { s with heap:=s.heap.push { cls:=.type "set_iterator", data:=.fields #[rawInt 0,rawInt 0,.ref S,rawInt es.size,rawInt ep] } }):wpAny (model prog w) A (pyIter (.ref S)) Q E s:=by
 have T:=x.typeIs
 refine US T F.slot_set_iter (Qw F.slot_set_iter T vv ?_ (F.args_set_iter_1 _))
 obtain⟨o,a,b,c⟩:=id x
 unfold Qq.«frozenset.__iter__» Qq.Frozenset.slot0 slotArgs
 simp only[bind_assoc]
 refine gV (Pl ?_)
 refine gV (Pl ?_)
 refine gV (gV (wpAny_setEntries_of a c g.fits (Pl ?_)))
 refine gV (B7 g x ?_)
 refine gV (Pl ?_)
 refine gV (wpAny_setEpoch_of a c g.fits ?_)
 refine gV (Qn (Pl ⟨_,rfl,"set_iterator", _,⟨_,Pu _ rfl,rfl⟩,slot_next.lookup,?_⟩))
 exact hQ
def xM (g:Gd (byT w) t es.size) (x:eM s.heap S es ep t){j:Nat} (hj:j<=es.size){Q:Option (Pp × Nat)->Pr->Prop}
  (h:Q (((gp w S ep es)[j]?).map fun e=>(e.2,slW w t (j+1))) s):wpAny (model prog w) A (setNext S (slW w t j) j ep) Q E s:=by
 obtain⟨o,a,b,c⟩:=id x
 refine gV (Rp a c g.fits ?_)
 refine gV ?_
 refine gV (R_ (Pl ?_))
 unfold gp slW at h
 by_cases hb:byT w=Wz
 ·rw[if_pos hb] at h
  show wpAny _ _ (if byT w=Wz then _ else _) _ _ _
  rw[if_pos hb,if_neg {..}]
  refine gV ?_
  refine gV (Rp a c g.fits ?_)
  refine gV ?_
  refine gV (R_ (Pl ?_))
  show wpAny _ _ (if byT w=Wz then _ else _) _ _ _
  rw[if_pos hb]
  refine gV (R_ (Pl (Pl ?_)))
  unfold slW
  simp only[if_pos hb] at h ⊢
  exact h
 ·simp only[if_neg hb] at h
  show wpAny _ _ (if byT w=Wz then _ else _) _ _ _
  rw[if_neg hb]
  show wpAny _ _ (if (!t.plain&&decide (es.size > 1))=Wz then _ else _) _ _ _
  rw[g.pl]
  show wpAny _ _ ((if (!t.led&&!es.isEmpty)=Wz then unsupported "set:maker-not-led" else pure PUnit.unit) >>= _) _ _ _
  rw[show t.led=Wz by rw[g.led];simp_all]
  have e:QG t.place (slW w t j)=j:=by
   unfold slW;rw[if_neg hb];exact wm g.tb (by rw[g.sz];exact hj)
  rw[e]
  refine Pl ?_
  cases q:es[j]? with
  | none=>simp_all
  | some v=>
   rw[q] at h
   have hl:j<t.place.size:=by rw[g.sz];grind
   rw[QZ hl]
   simp only[plF,Array.getD,hl] at h
   exact h
def kN:(gp w S ep es).size=es.size:=by rw[<- PF,(qb w S ep es).length_eq,PF]
def xP (g:Gd (byT w) t es.size) (hi:uw s.heap I S (slW w t j) j es.size ep) (x:eM s.heap S es ep t)
  (h:wpAny (model prog w) A (do
   match ← setNext S (slW w t j) j ep with
   | some (x,next)=>
    setField (.ref I) 0 (rawInt next)
    setField (.ref I) 1 (rawInt ((j:Int)+1))
    ret x
   | none=>setField (.ref I) 2 .none;raiseNew (← newExc (.type "StopIteration") [])) P E s) :
  wpAny (model prog w) A (Qq.«set_iterator.__next__» ⟨[.ref I],[]⟩) P E s:=by
 obtain⟨o,a,b,c⟩:=id x
 unfold Qq.«set_iterator.__next__» slotArgs
 refine gV (Pl ?_)
 refine gV (Vz hi rfl ?_)
 refine gV (wpAny_setEntries_of a c g.fits ?_)
 rw[if_neg {..}]
 exact h
end
section
variable {prog:PJ}{w:Qc}{A:P9}{E:Pp->Pr->Prop}{s:Pr}{S I:PN}{es:Array (Int × Pp)}{ep:Nat}{t:Qv}
def uw.typeIs (hi:uw s.heap I S sl j n ep):s.TypeIs (.ref I) "set_iterator" := ⟨_,hi,rfl⟩
def next_item (g:Gd (byT w) t es.size) (hi:uw s.heap I S (slW w t j) j es.size ep) (x:eM s.heap S es ep t) (hj:j<es.size)
  (hQ:∀h' e,(gp w S ep es)[j]?=Wx e->uw h' I S (slW w t (j+1)) (j+1) es.size ep->Ry I s.heap h'->Q (Wx e.2) { s with heap:=h' }):wpAny (model prog w) A (pyNext (.ref I)) Q E s:=by
 refine gV (R7 (QD hi.typeIs slot_next (Qw slot_next hi.typeIs entry_next (xP g hi x ?_) (args_next _))))
 have hl:j<(gp w S ep es).size:=by rw[kN];exact hj
 refine gV (xM g x (Sk hj) ?_)
 rw[QZ hl]
 refine gV (UC hi {..} fun h1 e1 s1=>?_)
 refine gV (UC e1 {..} fun h2 e2 s2=>?_)
 refine Pl ⟨_,rfl,Pl (hQ h2 _ (QZ hl) ?_ (s1.trans s2))⟩
 exact e2
def next_end (hh:A.handled=Wy) (g:Gd (byT w) t es.size) (hi:uw s.heap I S (slW w t j) j es.size ep) (x:eM s.heap S es ep t) (hj:j=es.size)
  (hQ:∀h',V6 I s.heap h'->Q Wy { s with heap:=h' }):wpAny (model prog w) A (pyNext (.ref I)) Q E s:=by
 refine gV (R7 (QD hi.typeIs slot_next (Qw slot_next hi.typeIs entry_next (xP g hi x ?_) (args_next _))))
 refine gV (xM g x {} ?_)
 rw[Sd (by rw[kN];lia)]
 refine gV (UC hi {..} fun h1 e1 s1=>?_)
 show wpAny _ _ (newExc (.type "StopIteration") [] >>= _) _ _ _;refine gV ?_
 refine gV (Qn (gV (U2 (by rfl) (Qn ?_ (by size_fits)))) (by size_fits))
 simp only[raiseNew];refine gV (VN ?_);rw[show A.in1.handled=Wy from hh]
 refine gV (Pl (V7 ?_));refine gV (U9 ⟨_,Pu _ rfl,rfl⟩ isSubtype_stop ?_)
 exact Pl (hQ _ ((s1.extBut.push _).push _))
def zJ (hh:A.handled=Wy) (I) (ne:S≠I) (g:Gd (byT w) t es.size):Wr prog w A I [I,S] [I] es.size (fun j v=>∃e,(gp w S ep es)[j]?=Wx e/\v=e.2) (fun j h=>uw h I S (slW w t j) j es.size ep/\eM h S es ep t) where
 sub:=fun b hb=>by simp_all
 frame:=fun _ _ _ st hk=>⟨hk I {..} _ st.1,st.2.keep fun o e=>hk S {..} o e⟩
 item:=fun j s Q E hj st hQ=>next_item g st.1 st.2 hj fun h' e he a b=>hQ _ h' s.toks ⟨e,he,rfl⟩ ⟨a,st.2.keep fun o e=>b.extBut S o ne e⟩ fun c o hc e=>b.extBut c o (fun z=>hc (by simp[z])) e
 done:=fun s Q E st hQ=>next_end hh g st.1 st.2 rfl fun h' a=>hQ h' s.toks fun c o hc e=>a c o (fun z=>hc (by simp[z])) e
 self:=fun _ _ _ _ st hQ=>US st.1.typeIs qt (Qw qt st.1.typeIs uB (Pl ⟨_,rfl,"set_iterator", _,st.1.typeIs,slot_next.lookup,hQ⟩) (zi _))
def Ct (hT:s.TypeIs (.ref S) "set") (h:Q WA s):wpAny (model prog w) A (Qq.List.listLengthHint (.ref S)) Q E s:=by
 refine gV (Vg hT F.slot_set_len.lookup ?_)
 generalize hid:("set.__len__" : String)=id0
 wp_delta
 subst hid
 refine gV (U9 (b:=Wz) hT (by rfl) ?_)
 refine Vp (fun hab=>absurd hab (by decide)) (fun _=>?_)
 refine gV (S4 hT ?_)
 exact Pl h
def eM.lt {h:QQ} (x:eM h S es ep t):S<h.objs.size:=let ⟨_,a,_⟩:=x;Pq a
def FN (g:Gd (byT w) t es.size):UG prog w "set" S S es.size (fun j v=>∃e,(gp w S ep es)[j]?=Wx e/\v=e.2) (fun h=>eM h S es ep t) where
 type:=fun _ x=>x.typeIs
 there:=fun _ x=>⟨x.lt,x.lt⟩
 keep:=fun _ _ x k=>x.keep fun o e=>k S (.inl rfl) o e
 notList:=by decide
 notTuple:=by decide
 hint:=fun _ _ _ _ x hq=>Ct x.typeIs hq
 iter:=fun _ s hh x=>⟨_,_,(fun _ _ hq=>Cs g x hq),zJ hh _ (PU x.lt) g,⟨by
  have:slW w t 0=0:=by unfold slW;split<;>rfl
  unfold uw
  rw[this]
  exact Pu _ rfl,x.keep fun o e=>Pn _ e⟩⟩
end
section
variable {prog:PJ}{w:Qc}{A:P9}{E:Pp->Pr->Prop}{s:Pr}
def uv {T:String}{r d:PN}{n:Nat}{P:Nat->Pp->Prop}{OK:QQ->Prop} (K:UG prog w T r d n P OK) (hh:A.handled=Wy) (hok:OK s.heap) (hn:n<=sizeLine){Q:List Pp->Pr->Prop}
  (h:∀(h':QQ) tk (acc:Array Pp),s.heap.objs.size<=h'.objs.size->(∀b o,s.heap.get? b=Wx o->h'.get? b=Wx o)->Ws P acc n->Q acc.toList { s with heap:=h',toks:=tk }):wpAny (model prog w) A (collect (.ref r)) Q E s:=by
 refine gV (Vy (RG entry_proto_collect' ?_))
 refine gV (Tp (Pl ⟨Si _ {..},RG entry_list_iadd' ?_⟩))
 have hlt:=K.there _ hok
 rw[Uh (show plainId "list.__iadd__" = Wz by decide +kernel) _]
 refine PySem.W.kdl_extend (R:=fun r s'=>match r with
  | .ok (.ret v)=>wpAny (model prog w) A (match v with
   | .ref a=>do
    match (← load a).data with
    | .seq xs _=>pure xs.toList
    | _=>unsupported "internal:collect"
   | _=>unsupported "internal:collect") Q E s'
  | .ok _=>False
  | .error e=>E e s') (s:={ s with heap:=s.heap.push (seqObj "list" #[] 0) }) K hh (K.keep _ _ hok fun b _ o e=>Pn _ e) _ (Rz hlt.1) (Rz hlt.2) _ 0 (Pu _ rfl) (fun h' tk acc c kp e hi=>?_) hn
 refine gV (V_ e ?_)
 exact Pl (h h' tk acc (Sk (Pq e)) (fun b o q=>kp b o (PU (Pq q)) (Pn _ q)) hi)
def wG {T:String}{r d:PN}{n:Nat}{P:Nat->Pp->Prop}{OK:QQ->Prop} (K:UG prog w T r d n P OK) (hh:A.handled=Wy) (hok:OK s.heap) (hn:n<=sizeLine){Q:Pp->Pr->Prop}
  (h:∀(h':QQ) tk (acc:Array Pp),s.heap.objs.size<=h'.objs.size->(∀b o,s.heap.get? b=Wx o->h'.get? b=Wx o)->Ws P acc n →
   wpAny (model prog w) A.in1.in1 (Qq.«list.sort» ⟨[.ref h'.objs.size],[]⟩) (fun fin s'=>∃v,fin=.done (.ret v)/\Q (.ref h'.objs.size) s') E { s with heap:=h'.push (seqObj "list" acc.toList.toArray 0),toks:=tk }) :
  wpAny (model prog w) A (call (.builtin "sorted") [.ref r]) Q E s:=by
 refine Calls.call_function_entry kind_sorted plain_sorted entry_sorted (args_sorted1 _) ?_
 refine gV (Pl ?_)
 refine gV (uv (A:=A.in1) K hh hok hn fun h' tk acc le kp hi=>?_)
 refine gV (Tp ?_ (by rw[PF,hi.1];exact hn))
 refine gV (P6 (Qw slot_list_sort ⟨_,Pu _ rfl,rfl⟩ entry_list_sort ?_ (args_list_sort _)))
 refine P4 (h h' tk acc le kp hi) (fun fin s' ⟨v,e,q⟩=>⟨v,e,Pl ⟨_,rfl,q⟩⟩) fun _ _ x=>x
def z_ (hi:Ws (fun j v=>∃e,(gp w S ep es)[j]?=Wx e/\v=e.2) acc es.size):acc.toList.Perm (es.toList.map (·.2)):=by
 have e:acc.toList=(gp w S ep es).toList.map (·.2):=by
  apply R4
  intro j
  rw[P5,PH,PH]
  cases q:acc[j]? with
  | none=>
   have:(gp w S ep es)[j]?=none:=by
    rw[Array.getElem?_eq_none_iff] at q ⊢
    rw[kN,<- hi.1];exact q
   simp_all
  | some v=>
   obtain⟨e,h1,h2⟩:=hi.2 j v q
   simp_all
 rw[e]
 exact(qb w S ep es).map _
end
end L2.ST
namespace L2.FE
open PySem PySem.Spec PyProof.Rows L2.ST
section
variable {X:Cx}{g:GG}{ε:EE}{e:Rb}{es:List Rb}{pos pos1:Pos}{mr:MA}{K:Pk}
def Bn {id T:String}{p q:Pos} (hc2:aV X (.builtin id) r2) (hc1:aV X (.type T) r1) (im:j7 X.K g ε f (fun vs H Q=>r1 vs H (fun v H1=>r2 [v] H1 Q)))
  (hg:Gl X x) (hm:X.mg x=Wy) (hv:bootBuiltins x=Wx (.builtin id)) (hg1:Gl X y) (hm1:X.mg y=Wy) (hv1:bootBuiltins y=Wx (.type T)) (ha:PA X (e::es) (tMA X.K g ε mr)) (hn:x≠"__name__" := by decide) (hdb:(x == ("__debug__" : Str))=false:=by decide) (hn1:y≠"__name__" := by decide) (hdb1:(y == ("__debug__" : Str))=false:=by decide)
  (he1:starEach (e::es) X.env=(WA,eval e X.env)::starEach es X.env:=by rfl) (hpl1:(backTo pos1 (starEach es X.env)).any (·.1)=false:=by rfl)
  (he:starEach [Rb.Call (.Name y q) (e::es) [] pos1] X.env=(WA,eval (Rb.Call (.Name y q) (e::es) [] pos1) X.env)::starEach [] X.env:=by rfl) (hpl:(backTo pos (starEach [] X.env)).any (·.1)=false:=by rfl) :
  PE X (.Call (.Name x p) [.Call (.Name y q) (e::es) [] pos1] [] pos) (tM X.K g ε (ah f mr)):=
 PE.imp (gG hc2 hg hm hv (dq (iy hc1 hg1 hm1 hv1 ha hn1 hdb1 he1 hpl1) g_ he) hn hdb he hpl) fun _ _ _ t=>(xc (f:=f) im t :)
end
end L2.FE
namespace L2.ST
open PySem PySem.W PySem.Spec PyProof.Rows PySem.Calls L2.Srt L2.SM
section
variable {prog:PJ}{w:Qc}{A:P9}{E:Pp->Pr->Prop}{s:Pr}{vs us:List Pp}{xss:List (List Int)}{h h':QQ}
def AL (p:vs.Perm us):∀{xss},Tps h us xss->∃yss,Tps h vs yss/\yss.Perm xss:=by
 induction p with
 | nil=>intro xss r;exact⟨xss,r,.refl _⟩
 | cons x _ ih=>
  intro xss r
  cases r with
  | cons a b c d r=>
   obtain⟨yss,q,pm⟩:=ih r
   exact⟨_,.cons a b c d q,pm.cons _⟩
 | swap x y l=>
  intro xss r
  cases r with
  | cons a b c d r=>
   cases r with
   | cons a2 b2 c2 d2 r=>exact⟨_,.cons a2 b2 c2 d2 (.cons a b c d r),.swap _ _ _⟩
 | trans _ _ ih1 ih2=>
  intro xss r
  obtain⟨y1,q1,p1⟩:=ih2 r
  obtain⟨y2,q2,p2⟩:=ih1 q1
  exact⟨y2,q2,p2.trans p1⟩
def zx {a:PN}{n:Nat}{P:Wo->Pr->Prop} (ho:s.heap.get? a=Wx (seqObj "list" vs.toArray n)) (hz:vs.length<=306) (r:Tps s.heap vs xss) (bd:∀xs∈xss,Bd xs/\xs.length<=20) (nd:(xss.map (kT 20)).Nodup) (ne:∀xs∈xss,xs≠[])
  (hP:∀out:List Pp,out.Perm vs->out.Pairwise (fun x y=>kvH s.heap x<kvH s.heap y)->P (.done (.ret .none)) { s with heap:=sortedHeap s.heap a vs out.toArray }) :
  wpAny (model prog w) A (Qq.«list.sort» ⟨[.ref a],[]⟩) P E s:=by
 have len:=r.len
 by_cases h2:vs.length<2
 ·refine oX ho h2 (hP vs (.refl _) ?_)
  rcases vs with _ | ⟨x,_ | ⟨y,l⟩⟩
  ·exact .nil
  ·exact QT _ _
  ·exact absurd h2 {..}
 ·have keep:∀b o,b≠a->s.heap.get? b=Wx o->(eB s.heap a vs).get? b=Wx o:=fun b o hb q=>FU hb q
  have ta:∀{us:List Pp} {zss:List (List Int)},Tps s.heap us zss->Tps (eB s.heap a vs) us zss:=by
   intro us zss r
   induction r with
   | nil=>exact .nil
   | @cons b o k us' xs vs' xss' e1 e2 e3 e4 _ ih=>
    refine .cons (keep b o (fun z=>?_) e1) e2 e3 e4 ih
    subst z
    rw[ho] at e1
    cases e1
    exact absurd e2 (by show ¬ (TB "list" = TB "tuple");decide)
  have r1:=ta r
  have kk:=List.map_inj_left.mp (r1.kv.trans r.kv.symm)
  exact o_ ho {} {} (zy (s:={ s with heap:=eB s.heap a vs }) r1 ne bd {} fun κ cm=>⟨rfl,F1 cm (by rw[r1.kv];exact nd)⟩) (fun out ⟨pm,sr⟩=>hP out pm (S8 (fun hx hy lt=>by rw[kk _ (pm.mem_iff.mp hx),kk _ (pm.mem_iff.mp hy)] at lt;exact lt) sr))
def nU:∀{us:List Pp}{xs:List Int},IntsAre us xs->PySem.ItemsAre (intKind prog w) xs us
 | _,_,.nil=>.nil
 | _,_,.cons n t r=>.cons (intKind_is _ _ _ _) (nU r)
def Bl (r:Tps h us xss):∀(i:Nat) v , us[i]?=Wx v->∃a xs,v=.ref a/\xss[i]?=Wx xs/\TK prog w h xs a:=by
 induction r with
 | nil=>simp
 | @cons a o k us xs vs xss e1 e2 e3 e4 _ ih=>
  intro i v e
  cases i with
  | zero=>
   simp at e
   subst e
   exact⟨a,xs,rfl,rfl,o,us,k,e1,e2,e3,nU e4⟩
  | succ i=>simp_all
def EF (a:PN) (its:Array Pp):Src prog w "list" a its.size (fun i v=>its[i]?=Wx v) (fun h=>h.IsList a its) where
 obj:=fun h ⟨o,a,b,_⟩=>⟨o,a,b⟩
 keep:=fun h h' ⟨o,a,b⟩ k=>⟨o,k o a,b⟩
 iter:=fun A s hh x=>⟨_,_,(fun E Q hq=>UP x hq),(fun A' hh'=>Wr.list hh' _ a (by obtain⟨o,e,_⟩:=x;exact PU (Pq e)) its),⟨⟨_,Pu _ rfl,rfl,rfl⟩,by obtain⟨o,e,r⟩:=x;exact⟨o,Pn _ e,r⟩⟩⟩
 s1:=F.sub_list_set
 s2:=F.sub_list_frozenset
 nd:=by decide
abbrev WSt (w:Qc) (o:Obj) (us:List Pp):Prop:=∃es ep t,o.ExactSet/\o.data=.set es ep t/\Gd (byT w) t es.size/\(es.toList.map (·.2)).Perm us
def Dk {B:P9}{Er:Pp->Pr->Prop}{z:Pr}{a:PN}{its:Array Pp}{xss:List (List Int)}{Q:Pp->Pr->Prop}
  (hh:B.handled=Wy) (hu:B.units+20<cLine) (ht:z.heap.IsList a its) (hi:Tps z.heap its.toList xss) (nd:xss.Nodup) (hb:its.size<=306)
  (fin:∀(g':QQ) (tk:Nat) o,g'.get? z.heap.objs.size=Wx o->WSt w o its.toList->(∀b o,b<z.heap.objs.size->z.heap.get? b=Wx o->g'.get? b=Wx o)->Q (.ref z.heap.objs.size) { z with heap:=g',toks:=tk }) :
  wpAny (model prog w) B (call (.type "set") [.ref a]) Q Er z:=by
 have hl:=hi.len
 rw[PF] at hl
 refine Hg (EF a its) hh ht (fun i h=>(∀b o,b<z.heap.objs.size->z.heap.get? b=Wx o->h.get? b=Wx o)/\∃es,Ik w h z.heap.objs.size es/\(es.toList.map (·.2)).Perm (its.toList.take i)) ?_ ?_ ?_ ?_
 ·intro h e k
  exact⟨fun b o _ q=>k b o q,#[],⟨_,_,_,e,⟨rfl,rfl,rfl⟩,rfl,Ha _⟩,{..}⟩
 ·rintro i h h' ⟨kp,es,⟨o,ep,t,e,r⟩,q⟩ k
  exact⟨fun b o hb e=>k b o (PU (UY hb)) (kp b o hb e),es,⟨o,ep,t,k _ o (PU (RQ _)) e,r⟩,q⟩
 ·rintro A i v s Q E hu' hi' hp ⟨kp,es,hS,pm⟩ hq
  have hit:its.toList[i]?=Wx v:=by rw[PH];exact hp
  have hi2:=hi.keeps fun b o q=>kp b o (Pq q) q
  obtain⟨b,xs,rfl,ex,tk⟩:=Bl hi2 i v hit
  have sz:es.size=i:=by
   have:=pm.length_eq
   rw[PR,PF,Qh,PF] at this
   lia
  have tu:HB prog w s.heap es.toList xs:=fun e he=>by
   have m:=pm.mem_iff.mp (Qi.mpr ⟨e,he,rfl⟩)
   obtain⟨j,hj,ej⟩:=Ro m
   rw[Qh] at hj
   have:its.toList[j]?=Wx e.2:=by
    rw[<- ej,TQ,Pz]
   obtain⟨b',ys,e1,e2,e3⟩:=Bl hi2 j e.2 this
   refine⟨ys,b',e1,e3,fun z=>?_⟩
   subst z
   have hx:i<xss.length:={}
   have hy:j<xss.length:={}
   rw[Pz hx] at ex
   rw[Pz hy] at e2
   have:=(List.getElem_inj nd).mp (show xss[i]=xss[j] by rw[QM ex,QM e2])
   lia
  refine P6 ?_
  have hA:A.units<cLine:={}
  refine gV (wpAny_pyHash_tuple hA tk ?_)
  refine D7 (s:={ s with toks:=s.toks+(xs.length+1) }) hS {} hA tk tu fun h' es' sb hS' pm'=>?_
  refine hq Wz h' _ sb ⟨fun b o hb e=>?_,es',hS',?_⟩
  ·rw[sb.2 b (PU hb)];exact kp b o hb e
  ·have:=pm'.map fun e=>e.2
   rw[Uu] at this
   refine this.trans ?_
   rw[List.take_succ,hit]
   exact UR.append_right _ pm
 ·rintro g' tk ⟨_,es,⟨o,ep,t,e,hx,hd,g⟩,pm⟩ kp
  rw[Rj (by rw[PF];exact Pt _)] at pm
  exact fin g' tk o e ⟨es,ep,t,hx,hd,g,pm⟩ kp
end
end L2.ST
namespace L2
open PySem PySem.Spec PyProof.Rows L2.ST L2.Srt
structure OkV (xss:List (List Int)):Prop where
 hz:xss.length<=306
 bd:∀xs∈xss,Bd xs/\xs.length<=20
 nd:(xss.map (kT 20)).Nodup
 ne:∀xs∈xss,xs≠[]
def qr {α β:Type}{f:α->β}:∀{l:List α},(l.map f).Nodup->l.Nodup
 | [],_=>.nil
 | x::l,h=>by
  obtain⟨a,b⟩:=Qs.mp h
  exact Qs.mpr ⟨fun z=>a (Qi.mpr ⟨x,z,rfl⟩),qr b⟩
section
variable {X:Cx}
def zW (hc:X.calm=Wz) (hu:X.A.units+64<cLine):aV X (.type "set") (fun vs H Q=>∃p xs xss,vs=[.ref p]/\SqL X.K H p xs/\TpV X.K H xs xss/\OkV xss/\∀l o us,H l=Wy->WSt X.w o us->Vals xs us->Q (.ref l) (upd H l (FE.AtO l o))):=by
 intro pins s σ H xs0 us0 Q I r h
 obtain⟨p,xs,xss,rfl,hq,pr,ok,q⟩:=h
 obtain⟨u,rfl,rx⟩:=vals1 r
 cases rx
 obtain⟨its,rv,pl,hz⟩:=I.list hq
 have lx:=pr.len
 have li:=rv.length
 have h0:=ok.hz
 refine Dk (I.ok.hd hc) {} pl.isList (by simpa using I.tps pr rv) (qr ok.nd) (by simp_all) fun g' tk o e hW hk=>?_
 exact⟨.ref s.heap.objs.size,_,I.laid (fun b o e=>hk b o (Pq e) e) (Pt _) (KO e),rfl,q _ _ its (I.hok.fresh (Pt _)) {} rv⟩
def uk (hc:X.calm=Wz):aV X (.builtin "sorted") (fun vs H Q=>∃(p:PN) (o:Obj) (us:List Pp) (xs:List V) (xss:List (List Int)),vs=[.ref p]/\H p=Wx (FE.AtO p o)/\WSt X.w o us/\Vals xs us/\TpV X.K H xs xss/\OkV xss ∧
  ∀(l:PN) (q:List Nat),q.Perm (Py xss.length)->(q.map fun i=>kT 20 (xss.getD i [])).Pairwise (· < ·)->H l=Wy->Q (.ref l) (upd H l (.lst (q.map fun i=>xs.getD i .non)))):=by
 intro pins s σ H xs0 us0 Q I r h
 obtain⟨p,o,us,xs,xss,rfl,hp,⟨es,ep,t,hx,hd,g,pm⟩,rv,pr,ok,q⟩:=h
 obtain⟨u,rfl,rx⟩:=vals1 r
 cases rx
 have ho:=(I.hok p _ hp).1
 have tp:=I.tps pr rv
 have h0:=ok.hz
 have lx:=pr.len
 have lu:=rv.length
 have hes:es.size=us.length:=by rw[<- pm.length_eq,PR,PF]
 have h64:306<=sizeLine:=by decide
 refine wG (FN g) (I.ok.hd hc) ⟨o,ho,hx,hd⟩ {} fun h' tk acc hle kp hi=>?_
 have va:=(z_ hi).trans pm
 have kp2:∀b o,s.heap.get? b=Wx o->(h'.push (seqObj "list" acc.toList.toArray 0)).get? b=Wx o:=fun b o e=>Pn _ (kp b o e)
 obtain⟨yss,ta,py⟩:=AL va (tp.keeps kp2)
 refine zx (s:={ s with heap:=h'.push (seqObj "list" acc.toList.toArray 0),toks:=tk }) (Pu _ rfl) (by rw[va.length_eq];lia) ta (fun xs hx=>ok.bd xs (py.mem_iff.mp hx)) ((py.map _).nodup_iff.mpr ok.nd) (fun xs hx=>ok.ne xs (py.mem_iff.mp hx)) fun out po so=>⟨_,rfl,?_⟩
 have pu:=po.trans va
 obtain⟨qs,hqs,e⟩:=Ds pu (range_getD us QL)
 rw[show us.length=xss.length by lia] at hqs
 have kq:∀i∈qs,kvH (h'.push (seqObj "list" acc.toList.toArray 0)) (us.getD i QL)=kT 20 (xss.getD i []):=fun i hi=>by
  have hi':i<xss.length:=by have:=hqs.mem_iff.mp hi;simpa using this
  have hv:i<us.length:={}
  have kk:=(tp.keeps kp2).kv
  have e1:(us.map (kvH (h'.push (seqObj "list" acc.toList.toArray 0))))[i]'(by simpa using hv)=(xss.map (kT 20))[i]'(by simpa using hi'):=by simp only[kk]
  simpa [hv,hi'] using e1
 have up:(qs.map fun i=>kT 20 (xss.getD i [])).Pairwise (· < ·):=by
  rw[e,RC] at so
  rw[RC]
  refine S8 ?_ so
  intro i j hi hj lt
  rw[kq i hi,kq j hj] at lt
  exact lt
 obtain⟨k,hk⟩:=sortedHeap_at (Pu _ rfl)
 have hn:=I.hok.fresh hle
 have ql:qs.length=xss.length:=by rw[hqs.length_eq,TR]
 have len:(qs.map fun i=>xs.getD i V.non).length<=sizeLine:=by rw[PR];lia
 have vp:=p_ rv qs (fun i hi=>by
  have:=hqs.mem_iff.mp hi
  have:i<xss.length:=by simpa using this
  lia)
 refine⟨.ref h'.objs.size,upd H h'.objs.size (.lst (qs.map fun i=>xs.getD i .non)),I.laid (fun b o z=>?_) hle ⟨len,qs.map fun i=>us.getD i QL,k,vp,?_⟩,rfl,q _ qs hqs up hn⟩
 ·have z':=kp b o z
  rw[sortedHeap_old (PU (Pq z')) (by rw[size_push'];exact UY (Pq z'))]
  exact Pn _ z'
 ·rw[hk,e]
end
end L2
namespace L2.FE
open PySem PySem.Spec PyProof.Rows L2.ST L2.Srt
abbrev okV (xss:List (List Int)):Bool:=decide (xss.length<=306)&&xss.all (fun xs=>!xs.isEmpty&&decide (xs.length<=20)&&xs.all fun x=>decide (0<=x/\x<=98))&&decide ((xss.map (kT 20)).Nodup)
def B8 {xss:List (List Int)} (e:okV xss=Wz):OkV xss:=by
 unfold okV at e
 simp only[PV,decide_eq_true_eq,PX] at e
 obtain⟨⟨hz,al⟩,nd⟩:=e
 refine⟨hz,fun xs hx=>⟨fun x hx'=>(al xs hx).2 x hx',(al xs hx).1.2⟩,nd,fun xs hx z=>?_⟩
 have:=(al xs hx).1.1
 rw[z] at this;simp at this
abbrev kh (nl:NL):List D->Hh->R D:=fun ds h=>match ds with
 | [d]=>match gQ d h with
  | some xs=>match fY xs with
   | some xss=>if okV xss=Wz then nl ((iF xss).map zp) h else .bad
   | none=>.bad
  | none=>.bad
 | _=>.bad
section
variable {K:Pk}{g:GG}{ε:EE}{w:Qc}
def Ed (r:aK K g α H h) (rd:aC K g α H d x) (e:gQ d h=Wx ds):∃p vs,x=.ref p/\SqL K H p vs/\ao K g α H ds vs:=by
 cases rd with
 | frl hq rs=>cases e;exact⟨_,_,rfl,hq.sq,rs⟩
 | ref hp=>obtain⟨vs,hv,rs⟩:=r.lst e hp;exact⟨_,vs,rfl,SqL.of hv,rs⟩
 | _=>cases e
def Bw [iD nl]:j7 K g ε (kh nl) (fun vs H Q=>∃p xs xss,vs=[.ref p]/\SqL K H p xs/\TpV K H xs xss/\OkV xss/\∀l o us,H l=Wy->WSt w o us->Vals xs us →
  ∃p' o' us' xs' xss',[V.ref l]=[V.ref p']/\upd H l (AtO l o) p'=Wx (AtO p' o')/\WSt w o' us'/\Vals xs' us'/\TpV K (upd H l (AtO l o)) xs' xss'/\OkV xss' ∧
  ∀l' (q:List Nat),q.Perm (Py xss'.length)->(q.map fun i=>kT 20 (xss'.getD i [])).Pairwise (· < ·)->upd H l (AtO l o) l'=Wy->gA Q (.ref l') (upd (upd H l (AtO l o)) l' (.lst (q.map fun i=>xs'.getD i .non)))):=by
 intro α H h a x Q r ra w
 cases ra with
 | nil=>exact w.elim
 | cons rd rr=>
  cases rr with
  | cons _ _=>exact w.elim
  | nil=>
   unfold kh at w
   dsimp only at w
   cases e0:gQ _ h with
   | none=>rw[e0] at w;exact w.elim
   | some ds=>
    rw[e0] at w
    dsimp only at w
    obtain⟨p,vs,rfl,hq,rs⟩:=Ed r rd e0
    cases e:fY ds with
    | none=>rw[e] at w;exact w.elim
    | some xss=>
     rw[e] at w
     obtain⟨ok,w⟩:=WQ.cO w
     obtain⟨pr,ee0⟩:=nu rs e
     refine⟨p,vs,xss,rfl,hq,pr,B8 ok,fun l o us hl hW rv=>?_⟩
     have ex:Ext K α H α (upd H l (AtO l o)):=Ext.fresh hl
     have rs2:=rs.ext ex
     obtain⟨pr2,_⟩:=nu rs2 e
     refine⟨l,o,us,vs,xss,rfl,aL,hW,rv,pr2,B8 ok,fun l' q pm up hl'=>?_⟩
     subst ee0
     have lt:∀i∈q,i<xss.length:=fun i hi=>by
      grind
     have rp:=t7 rs2 q (fun i hi=>by simp_all)
     have ee:(q.map fun i=>(xss.map zp).getD i .non)=(iF xss).map zp:=by
      rw[<- AQ pm up,QV]
      simp_all
     rw[ee] at rp
     exact NL.post (w.post ex) (r.grow hl) rp hl'
end
end L2.FE
namespace FC
open PySem L2 L2.FE
abbrev bB:MF:=bG 2 (aH (eX (aJ asB (av dLt (af 1) (ah cU (aa (af 0) ak)))) (a9 (av dIx (af 0) (af 1))) cG)
  (a9 (cC (.int 0))))
abbrev b7:MF:=bG 2 (aH (aW 1 (ah CM (aa (af 0) (aa (av kO (cC (.int 0)) (af 0)) ak))))
  (a9 (ah (c4 kC) (aa (af 1) (aa (ah z9 (aa (av dGe (af 1) (av Ic (cC (.int 10)) (cC (.int 18)))) ak)) (aa (av wg (af 1) (cC (.int 1000003))) ak))))))
abbrev dE:MF:=oN (fun ds h=>((bG 5 (aH (aW 1 (ah (c4 aI) (aa (ah cu ak) ak)))
  (aH (cD (dX fq (aa (af 0) ak)) (gN 2) (aH (aW 3 (ah (c4 kC) ak))
  (aH (cD (bp (af 1)) (gN 4) (eg (dW e9 (af 3) (aa (c7 aI (dX fq (aa (af 0) ak)) [4] (aJ asB (av (dIn Wz) (af 0) (af 1))) (av (bS aI) (af 1) (ah cu (aa (af 0) ak)))) ak))))
  (aW 1 (af 3)))))
  (a9 (af 1))))) ds h).bind (bg h))
abbrev bh:MF:=bG 1 (a9 (c7 aI (dX fq (aa (av kO (ah cU (aa (af 0) ak)) (cC (.int 1))) ak)) [0] (aJ asB (av dGt (av dIx (af 1) (af 0)) (av dIx (af 1) (av (bS aI) (af 0) (cC (.int 1)))))) (af 0)))
abbrev eG:MF:=bG 2 (aH (aW 1 (ah (c4 aI) (aa (cUn (uA "NoOrder") (af 0)) (aa (cUn (uA "NoNumber") (af 0)) (aa (cUn (uA "NoSet") (af 0)) (aa (cUn (uA "NoRow") (af 0)) ak))))))
  (aH (aW 1 (av (bS aI) (af 1) (ah (c4 aI) (aa (cUn (uA "NoLine") (af 0)) (aa (cUn (uA "NoText") (af 0)) (aa (cUn (uA "TooGreat") (af 0)) ak))))))
  (aH (eX (rZ (iK (aJ iz (cUn KY (af 0)))) (aJ asB (av dNe (dW qV (af 1) (aa (cC (.bl Wz)) ak)) (cC (.int 1))))) (a9 (cC (.str "other"))) cG)
  (a9 (av dIx (ah (c4 aI) (aa (cC (.str "order")) (aa (cC (.str "number")) (aa (cC (.str "set")) (aa (cC (.str "row")) (aa (cC (.str "line")) (aa (cC (.str "text")) (aa (cC (.str "great")) ak)))))))) (dW rO (af 1) (aa (cC (.bl Wz)) ak)))))))
abbrev aR:MF:=bG 2 (aH (aW 1 (ah eG (aa (af 0) ak)))
  (a9 (cIf (aJ asB (av dEq (af 1) (cC (.str "great")))) (ah cu (aa (af 1) (aa (cUn (AW "TooGreat" "many") (af 0)) (aa (cUn (AW "TooGreat" "most") (af 0)) ak)))) (ah cu (aa (af 1) ak)))))
abbrev fX:MF:=bG 1 (a9 (ya (cUn (fA "int") (af 0)) (BQ (cUn (fA "bool") (af 0)))))
abbrev dP:MF:=bG 3 (a9 (ya (ah fX (aa (af 0) ak)) (kS dLe dLe (af 1) (af 0) (af 2))))
abbrev bW:MF:=bG 3 (eX (up (iK (aJ iz (ah dP (aa (af 0) (aa (af 1) (aa (af 2) ak))))))) (vy "NoNumber") cG)
abbrev ba:MF:=bG 2 (aH (eg (ah bW (aa (up (af 0)) (aa (up (cC (.int 1))) (aa (up (cC (.int 12))) ak)))))
  (eg (ah bW (aa (up (af 1)) (aa (up (cC (.int 0))) (aa (up (cC (.int 12))) ak))))))
abbrev bL:MF:=fun ds h=>((bG 8 (aH (aW 2 (av (qW kC) (ah (c4 aI) (aa (cC (.int 0)) ak)) (av (bS aI) (ah cU (aa (af 0) ak)) (cC (.int 1)))))
  (aH (cD (kf (af 0)) (gT2 3 4) (aH (aW 5 (cIf (aJ asB (av dLt (af 3) (af 1))) (cC (.int 1)) (cC (.int 0))))
  (cD (kf (af 4)) (gT2 6 7) (qY (af 2) (av (bS aI) (af 6) (af 5)) (af 7)))))
  (a9 (af 2))))) ds h).bind (bg h)
abbrev eN:MF:=fun ds h=>((bG 3 (aH (aW 1 (ah (c4 kC) (aa (ah (c4 aI) (aa (ah (c4 aI) (aa (cC (.int 1)) ak)) ak)) ak)))
  (aH (cD (dX qz (aa (cC (.int 1)) (aa (av (bS aI) (af 0) (cC (.int 1))) ak))) (gN 2) (eg (dW df (af 1) (aa (c7 aI (dX fq (aa (av (bS aI) (af 2) (cC (.int 1))) ak)) [1] tt1 (ah bL (aa (av dIx (af 1) (cUn tQ (cC (.int 1)))) (aa (af 0) ak)))) ak))))
  (a9 (af 1))))) ds h).bind (bg h)
abbrev bq:MF:=FF 3 (aW 2 (ah eN (aa (af 0) ak))) "begun_count" [2,1]
abbrev aS:MF:=bG 1 (eX (up (aJ asB (av dGt (af 0) (cC (.int 300))))) (mz "TooGreat" ["many", "most"] (aa (up (af 0)) (aa (up (cC (.int 300))) ak))) cG)
abbrev dh:MF:=bG 1 (aH (eX (aJ asB (av dEq (ah cU (aa (af 0) ak)) (cC (.int 0)))) (a9 (cC (.int 0))) cG)
  (a9 (av kO (av dIx (af 0) (cUn tQ (cC (.int 1)))) (ah cU (aa (c7 aI (bp (af 0)) [0] (aJ asB (av dLt (af 0) (av dIx (af 1) (cUn tQ (cC (.int 1)))))) (af 0)) ak)))))
abbrev eF:MF:=bG 1 (a9 (ah mM (aa (c7 aI (dX fq (aa (av kO (ah cU (aa (af 0) ak)) (cC (.int 1))) ak)) [0] (aJ asB (av dGt (av dIx (af 1) (af 0)) (av dIx (af 1) (av (bS aI) (af 0) (cC (.int 1)))))) (af 0)) ak)))
abbrev aQ:MF:=bG 5 (aH (aW 3 (av dIx (av dIx (af 0) (av kO (av kO (ah cU (aa (af 0) ak)) (cC (.int 1))) (ah cU (aa (af 2) ak)))) (ah dh (aa (af 2) ak))))
  (aH (aW 4 (av kO (af 1) (ah cU (aa (ah eF (aa (af 2) ak)) ak))))
  (a9 (cIf (aJ asB (kS dLe dLt (cC (.int 0)) (af 4) (ah cU (aa (af 3) ak)))) (av dIx (af 3) (af 4)) (cC (.int 0))))))
abbrev js:Str->Option (Nat × MF):=fun x=>if x="begun_count" then Wx (3,aQ) else Wy
@[simp] def jY:js "begun_count" = Wx (3,aQ):=by kernel_rfl
abbrev bu:MF:=bG 4 (aH (aW 3 (c7 aI (dX fq (aa (af 0) ak)) [1] (aJ asB (av (dIn Wz) (af 0) (af 1))) (av (bS aI) (af 1) (ah cu (aa (af 0) ak)))))
  (a9 (c7 aI (bp (af 3)) [2] (aJ asB (av dGt (fW js (af 1) (aa (af 0) ak)) (cC (.int 0)))) (af 0))))
abbrev bV:MF:=fun ds h=>((bG 4 (aH (aW 2 (ah (c4 kC) (aa (ah cu ak) ak)))
  (aH (cD (dX fq (aa (af 0) ak)) (gN 3) (aW 2 (dU (bp (af 2)) [0,1] (bp (ah bu (aa (af 2) (aa (af 0) (aa (af 3) ak))))) (af 1))))
  (a9 (af 2))))) ds h).bind (gm h)
abbrev aY:MF:=bG 3 (aH (eg (ah ba (aa (up (af 0)) (aa (up (af 1)) ak))))
  (aH (up (aW 2 (ah bq (aa (af 0) (aa (af 1) ak)))))
  (aH (eg (ah aS (aa (up (fW js (af 2) (aa (ah cu ak) ak))) ak)))
  (up (a9 (ah bV (aa (af 0) (aa (af 2) ak))))))))
abbrev br:MF:=fun ds h=>((bG 3 (pf (a9 (ah aY (aa (up (af 0)) (aa (up (af 1)) ak)))) aR)) ds h).bind (exitQ h)
abbrev bc:MF:=fun ds h=>((bG 5 (aH (aW 2 (c7 aI (bp (ah dE (aa (af 0) ak))) [1] (aJ asB (av dEq (ah cU (aa (ah bh (aa (af 0) ak)) ak)) (af 1))) (af 0)))
  (aH (cD (dX fq (aa (cC (.int 2)) ak)) (gN 3) (aH (aW 4 (ah br (aa (af 0) (aa (af 1) ak))))
  (aH (eX (aJ asB (av dNe (ah dv (aa (af 4) ak)) (ah dv (aa (cIf (aJ asB (av dLt (ah cU (aa (af 2) ak)) (cC (.int 301)))) (af 2) (ah cu (aa (cC (.str "great")) (aa (ah cU (aa (af 2) ak)) (aa (cC (.int 300)) ak))))) ak)))) (a9 (cC (.bl WA))) cG)
  (eX (aJ iz (cUn (fA "list") (af 4))) (eg (dW df (af 4) (aa (ah cu ak) ak))) cG))))
  (a9 (cC (.bl Wz)))))) ds h).bind (bg h)
abbrev cX:MF:=bG 1 (aH (aW 0 (av wg (av (bS aI) (af 0) (cC (.int 7919))) (cC (.int 2147483647))))
  (a9 (av wg (av (bS aI) (av (bS aI) (av (qW aI) (af 0) (af 0)) (av (qW aI) (cC (.int 48271)) (af 0))) (cC (.int 12345))) (cC (.int 2147483629)))))
abbrev aF:MF:=bG 3 (aH (eX (CZ (aJ asB (av dEq (av dIx (af 0) (cC (.int 1))) (cC (.int 1)))) (aJ asB (av dGt (av dIx (af 0) (cC (.int 0))) (cC (.int 0))))) (aH (aW 2 (av wg (av dIx (af 0) (cC (.int 0))) (af 1)))
  (aH (i4 f_ (af 0) (cC (.int 0)) (av E3 (av dIx (af 0) (cC (.int 0))) (af 1)))
  (a9 (af 2)))) cG)
  (aH (i4 f_ (af 0) (cC (.int 2)) (ah cX (aa (av (bS aI) (ah cX (aa (av dIx (af 0) (cC (.int 2))) ak)) (cC (.int 7))) ak)))
  (a9 (av wg (av E3 (av dIx (af 0) (cC (.int 2))) (cC (.int 64))) (af 1)))))
abbrev cW:MF:=oN (fun ds h=>((bG 9 (aH (aW 2 (qZ (ah cu (aa (cC (.int 0)) (aa (cC (.int 0)) ak))) (cC (.int 1))))
  (aH (cD (dX qz (aa (cC (.int 1)) (aa (af 0) ak))) (gN 3) (aH (aW 4 x_)
  (aH (cD (bp (ah (gT aI) (aa (af 2) ak))) (gT2 5 6) (cD (dX fq (aa (av (bS aI) (af 3) (cC (.int 1))) ak)) (gN 7) (aH (aW 8 (ah cu (aa (af 7) (aa (av (bS aI) (af 6) (ah z9 (aa (av dLe (af 7) (af 5)) ak))) ak))))
  (i4 qh (af 4) (af 8) (av (bS aI) (n9 (af 4) (af 8) (cC (.int 0))) (av gP (af 2) (ah cu (aa (af 5) (aa (af 6) ak)))))))))
  (aW 2 (af 4)))))
  (a9 (ah As (aa (c7 aI (bp (ah (gT aI) (aa (af 2) ak))) [2,1] (aJ asB (av dEq (av dIx (af 0) (cC (.int 1))) (af 2))) (av gP (af 1) (af 0))) ak)))))) ds h).bind (bg h))
abbrev bZ:MF:=fun ds h=>((bG 4 (aH (aW 2 (ah (c4 aI) (aa (ah cu ak) ak)))
  (aH (cD (dX fq (aa (af 0) ak)) (gN 3) (aW 2 (dU (bp (af 2)) [0,1] (bp (ah bu (aa (af 2) (aa (af 0) (aa (af 3) ak))))) (af 1))))
  (a9 (af 2))))) ds h).bind (bg h)
abbrev cA:MF:=bG 3 (aH (eg (ah ba (aa (up (af 0)) (aa (up (af 1)) ak))))
  (aH (up (aW 2 (ah bq (aa (af 0) (aa (af 1) ak)))))
  (aH (eg (ah aS (aa (up (fW js (af 2) (aa (ah cu ak) ak))) ak)))
  (up (a9 (ah bZ (aa (af 0) (aa (af 2) ak))))))))
abbrev cY:MF:=bG 3 (pf (a9 (ah cA (aa (up (af 0)) (aa (up (af 1)) ak)))) aR)
abbrev aM:MF:=fun ds h=>((bG 6 (aH (aW 2 (ah cW (aa (af 0) (aa (af 1) ak))))
  (aH (aW 3 (ah br (aa (af 0) (aa (af 1) ak))))
  (aH (eX (aJ asB (av dGt (af 2) (cC (.int 300)))) (a9 (av dEq (af 3) (ah cu (aa (cC (.str "great")) (aa (af 2) (aa (cC (.int 300)) ak)))))) cG)
  (aH (eX (rZ (iK (aJ iz (cUn (fA "list") (af 3)))) (rZ (aJ asB (av dNe (ah cU (aa (af 3) ak)) (af 2))) (aJ asB (av dNe (af 3) (ah (kh aI) (aa (af 3) ak)))))) (a9 (cC (.bl WA))) cG)
  (aH (cD (bp (af 3)) (gN 4) (eX (rZ (aJ asB (av dNe (ah dv (aa (ah (lG aI) (aa (af 4) ak)) ak)) (ah dv (aa (ah (iQ aI) (aa (af 0) ak)) ak)))) (aJ asB (av dNe (ah cU (aa (ah bh (aa (af 4) ak)) ak)) (af 1)))) (a9 (cC (.bl WA))) cG))
  (aH (aW 5 (ah dv (aa (af 3) ak)))
  (aH (eg (dW df (af 3) (aa (ah cu ak) ak)))
  (a9 (av dEq (ah dv (aa (ah cY (aa (af 0) (aa (af 1) ak))) ak)) (af 5))))))))))) ds h).bind (bg h)
abbrev nO:MF:=fun ds h=>((bG 5 (aH (cD (bp (av (bS aI) (ah (c4 aI) (aa (ah bB (aa (af 0) (aa (cC (.int 0)) ak))) ak)) (rF aI (af 0) (qv (cC (.int 1))) (qv (cC (.int 4)))))) (gN 1) (aH (aW 2 (ah b7 (aa (af 1) ak)))
  (aH (eX (iK (aJ iz (ah bc (aa (av (bS aI) (cC (.int 1)) (ah aF (aa (af 2) (aa (cC (.int 6)) ak)))) (aa (ah aF (aa (af 2) (aa (av dIx (ah (c4 aI) (aa (cC (.int 6)) (aa (cC (.int 13)) ak))) (ah aF (aa (af 2) (aa (cC (.int 2)) ak)))) ak))) ak))))) (a9 (cC (.bl WA))) cG)
  (aH (aW 3 (av (bS aI) (cC (.int 7)) (ah aF (aa (af 2) (aa (cC (.int 6)) ak)))))
  (cD (bp (ah cu (aa (cC (.int 0)) (aa (av kO (af 3) (cC (.int 1))) (aa (ah aF (aa (af 2) (aa (cC (.int 13)) ak))) (aa (av dIx (ah (c4 aI) (aa (cC (.int 1)) (aa (av kO (af 3) (cC (.int 2))) ak))) (ah aF (aa (af 2) (aa (cC (.int 2)) ak)))) ak)))))) (gN 4) (eX (iK (aJ iz (ah aM (aa (af 3) (aa (af 4) ak))))) (a9 (cC (.bl WA))) cG))))))
  (a9 (cC (.bl Wz))))) ds h).bind (bg h)
abbrev aB (i:Nat):TF:=P2.main.body.getD i (.Pass ⟨0,0,0,0⟩)
structure Blt (mg:Str->Option Pp):Prop where
 ValueError:mg "ValueError" = none
 bool:mg "bool" = none
 enumerate:mg "enumerate" = none
 int:mg "int" = none
 isinstance:mg "isinstance" = none
 len:mg "len" = none
 list:mg "list" = none
 max:mg "max" = none
 range:mg "range" = none
 repr:mg "repr" = none
 set:mg "set" = none
 sorted:mg "sorted" = none
 sum:mg "sum" = none
 tuple:mg "tuple" = none
section
variable {P:PJ}{w:Qc}{K:Pk}{mg:Str->Option Pp}{base:QQ}{g:GG}
local macro_rules | `($a :: $b) => `(@Ey _ _ _ _ _ _ _ $a $b rfl)
local macro_rules | `($a \/ $b) => `(@EA _ _ _ _ _ _ _ $a $b)
local macro_rules | `(!$a) => `(@G9 _ _ _ _ _ $a)
local macro_rules | `(-$a) => `(@LL _ _ _ _ _ _ $a)
local macro_rules | `($a ++ $b) => `(@j3 _ _ _ _ _ _ _ _ _ _ _ Jv HP $a $b)
local macro_rules | `($a - $b) => `(@j3 _ _ _ _ _ _ _ _ _ _ _ IC HJ $a $b)
local macro_rules | `($a * $b) => `(@j3 _ _ _ _ _ _ _ _ _ _ _ Hk JA $a $b)
local macro_rules | `($a / $b) => `(@j3 _ _ _ _ _ _ _ _ _ _ _ AH Hu $a $b)
local macro_rules | `($a % $b) => `(@j3 _ _ _ _ _ _ _ _ _ _ _ Ir Hw $a $b)
local macro_rules | `($a < $b) => `(@cQ _ _ _ _ _ _ _ _ _ _ _ F9 Ge $a $b (cj _))
local macro_rules | `($a > $b) => `(@cQ _ _ _ _ _ _ _ _ _ _ _ Kx Lj $a $b (cj _))
local macro_rules | `($a ^ $b) => `(@JT _ _ _ _ _ _ _ _ _ _ He LI $a $b (fun _ _ => rfl))
local macro_rules | `($a >>= $b) => `(@La _ _ _ _ _ _ $a _ _ (by assumption) rfl (by first | exact Or.inl rfl | exact Or.inr rfl) $b rfl (.inl rfl))
local macro_rules | `(~~~$a) => `(@Iu _ _ _ _ _ _ _ $a)
local macro_rules | `(#[$a]) => `(@Ip _ _ _ _ _ _ _ _ $a)
local macro_rules | `(↑$a) => `(@K_ _ _ _ _ _ $a)
local macro_rules | `(¬$a) => `(jq (i := $a) (by assumption) rfl (by first | exact Or.inl rfl | exact Or.inr rfl))
def lU:az ["_law_script", "_law_k"] ["_law_script", "_law_k"] (ag (aB 29)):=fsc ⟨rfl,rfl,rfl⟩ {:_}
def kI (D:aG K mg "_law_cell_at" (aB 29)) (T:Blt mg):Has P w K mg base g "_law_cell_at" 1 ["_law_script", "_law_k"] bB:=by
 refine iE D lU (bd2 fun _ _ _ _ _ _ _ _=>rfl) fun nd f cdv A outer s H E hr=>?_
 exact @kA _ _ _ _ _ _ _ _ _ _ (ae 1<aO cR cS rfl T.len QB (ae 0::ai)) (!-(ae 0 ^ ae 1)) cB\/!-au
def m8:az ["_law_cell", "_law_left"] ["_law_cell"] (ag (aB 31)):=fsc ⟨rfl,rfl,rfl⟩ {:_}
def lH (D:aG K mg "_law_pen_of" (aB 31)) (T:Blt mg):Has P w K mg base g "_law_pen_of" 1 ["_law_cell"] b7:=by
 refine iE D m8 (bd1 fun _ _ _ _ _ _ _=>rfl) fun nd f cdv A outer s H E hr=>?_
 exact 1 >>= aO (Aw rfl) Fh rfl T.max PyProof.Rows.boot_max (ae 0::(au - ae 0)::ai)\/!-#[ae 1::fN pE B6 rfl T.int T7 (@rR _ _ _ _ _ _ _ _ _ _ _ Kw LY (ae 1) (@j3 _ _ _ _ _ _ _ _ _ _ _ E9 HD au au) (cj _)::ai)::ae 1 % au::ai]
def lj:az ["_law_n", "_law_found", "_law_turn", "_law_longer", "_law_begun"] ["_law_n"] (ag (aB 36)):=fsc ⟨rfl,rfl,rfl⟩ {:_}
def qw (D:aG K mg "_law_all" (aB 36)) (T:Blt mg):Has P w K mg base g "_law_all" 1 ["_law_n"] dE:=by
 obtain⟨f,fd,hm,F⟩:=D
 refine⟨f,fd,Ck (fS (vF F lj (fun cdv A outer s H E hr=>?_))),F.kp,F.binds (fun _ _ _ _ _ _ us hl=>CK hl fun _=>rfl),hm,c6 F⟩
 have nd:=lj.nd
 exact 1 >>= #[~~~ai::ai]\/fc Qz rfl (dI rfl T.range (ae 0::ai)) (¬2) dm (3 >>= #[ai]\/fc Qz rfl (@dy _ _ _ _ _ _ (ae 1)) (¬4) dm (!fC (kF PySem.F.slot_list_extend PySem.F.type_list_extend wW zh (ae 3) (eR (osc:=ag (aB 36)) [4] ["_law_number", "_law_begun"] rfl rfl rfl rfl {:_} ⟨{:_},{:_},rfl,{:_},rfl,{:_}⟩ (dI rfl T.range (ae 0::ai)) (fun cl C ax aD fp=>gZ (@cQ _ _ _ _ _ _ _ _ _ _ _ ji GF (ae 0) (ae 1) (by rfl))) (fun cl C ax aD fp=>ae 1++~~~(ae 0::ai))::ai)))\/!1 >>= ae 3)\/!-ae 1
def oy:az ["_law_row"] ["_law_row"] (ag (aB 35)):=fsc ⟨rfl,rfl,rfl⟩ {:_}
def n_ (D:aG K mg "_law_falls" (aB 35)) (T:Blt mg):Has P w K mg base g "_law_falls" 1 ["_law_row"] bh:=by
 refine iE D oy (bd1 fun _ _ _ _ _ _ _=>rfl) fun nd f cdv A outer s H E hr=>?_
 exact !-eR (osc:=ag (aB 35)) [0] ["_law_place", "_law_row"] rfl rfl rfl rfl {:_} ⟨{:_},{:_},rfl,{:_},rfl,{:_}⟩ (dI rfl T.range ((aO cR cS rfl T.len QB (ae 0::ai) - au)::ai)) (fun cl C ax aD fp=>gZ (ae 1 ^ ae 0 > ae 1 ^ (ae 0++au))) (fun cl C ax aD fp=>ae 0)
def gr:az ["_law_e", "_law_marks"] ["_law_e"] (ag (aB 33)):=fsc ⟨rfl,rfl,rfl⟩ {:_}
def jU (D:aG K mg "_law_kind_of" (aB 33)) (T:Blt mg) (hgo:g=gOf mg) (CL:m7 K mg):BP P w K mg base g "_law_kind_of" 1 ["_law_e"] eG:=by
 obtain⟨f,fd,hm,F⟩:=D
 refine⟨f,fd,Gf F gr (fun cdv A outer s H E hr=>?_),F.kp,F.binds (fun _ _ _ _ _ _ us hl=>CK hl fun _=>rfl),hm⟩
 have nd:=gr.nd
 exact 1 >>= #[iV CL hgo (ae 0) rfl T.isinstance rfl (by decide)::iV CL hgo (ae 0) rfl T.isinstance rfl (by decide)::iV CL hgo (ae 0) rfl T.isinstance rfl (by decide)::iV CL hgo (ae 0) rfl T.isinstance rfl (by decide)::ai]\/1 >>= ae 1++#[iV CL hgo (ae 0) rfl T.isinstance rfl (by decide)::iV CL hgo (ae 0) rfl T.isinstance rfl (by decide)::iV CL hgo (ae 0) rfl T.isinstance rfl (by decide)::ai]\/@kA _ _ _ _ _ _ _ _ _ _ (PW.pt (@yQ _ _ _ _ _ _ _ _ _ (@oo _ _ _ _ _ _ (@fO _ _ _ _ _ _ ki (Jt CL hgo (ae 0) rfl T.isinstance rfl T.ValueError) (fun _=>rfl))) (@vz _ _ _ _ _ _ (@cQ _ _ _ _ _ _ _ _ _ _ _ (j8 hr.units) qp (kF PySem.F.slot_list_count PySem.F.type_list_count Ay zO (ae 1) (jb::ai)) au (cj _))))) (!-eQ) cB\/!-(#[eQ::eQ::eQ::eQ::eQ::eQ::eQ::ai] ^ kF PySem.F.slot_list_index PySem.F.type_list_index zf zX (ae 1) (jb::ai))
def gv:az ["_law_e", "_law_kind"] ["_law_e"] (ag (aB 34)):=fsc ⟨rfl,rfl,rfl⟩ {:_}
def kz (D:aG K mg "_law_refused" (aB 34)) (T:Blt mg) (hgo:g=gOf mg) (cq:CIm K mg "TooGreat" (aB 8) ["many", "most"]) (dG:BP P w K mg base g "_law_kind_of" 1 ["_law_e"] eG):BP P w K mg base g "_law_refused" 2 ["_law_e"] aR:=by
 obtain⟨f,fd,hm,F⟩:=D
 obtain⟨Ai,yO,jV,kJ,kH,kr⟩:=dG
 refine⟨f,fd,Gf F gv (fun cdv A outer s H E hr=>?_),F.kp,F.binds (fun _ _ _ _ _ _ us hl=>CK hl fun _=>rfl),hm⟩
 have nd:=gv.nd
 exact 1 >>= AG (jV.mono (by decide)) hr rfl kr kJ kH (ae 0::ai) (aj ay)\/!-@jD _ _ _ _ _ _ _ _ _ _ (@cQ _ _ _ _ _ _ _ _ _ _ _ (i5 hr.units) nz (ae 1) eQ (cj _)) (~~~(ae 1::yS (ae 0) cq hgo (by decide)::yS (ae 0) cq hgo (by decide)::ai)) (~~~(ae 1::ai))
def tP:az ["thing"] ["thing"] (ag (aB 10)):=fsc ⟨rfl,rfl,rfl⟩ {:_}
def qM (D:aG K mg "is_whole" (aB 10)) (T:Blt mg):Has P w K mg base g "is_whole" 1 ["thing"] fX:=by
 refine iE D tP (bd1 fun _ _ _ _ _ _ _=>rfl) fun nd f cdv A outer s H E hr=>?_
 exact !-@Co _ _ _ _ _ _ _ _ _ (rH (ae 0) rfl T.isinstance rfl T.int T7) (@BU _ _ _ _ _ _ _ (@HX _ _ _ _ _ _ (rH (ae 0) rfl T.isinstance rfl T.bool PyProof.Rows.boot_bool)))
def r6:az ["thing", "least", "most"] ["thing", "least", "most"] (ag (aB 11)):=fsc ⟨rfl,rfl,rfl⟩ {:_}
def pk (D:aG K mg "is_within" (aB 11)) (T:Blt mg) (f9:Has P w K mg base g "is_whole" 1 ["thing"] fX):Has P w K mg base g "is_within" 2 ["thing", "least", "most"] dP:=by
 refine iE D r6 (bd3 fun _ _ _ _ _ _ _ _ _=>rfl) fun nd f cdv A outer s H E hr=>?_
 exact !-@Co _ _ _ _ _ _ _ _ _ (cT f9 hr (ae 0::ai) (aj ay)) (@BU _ _ _ _ _ _ _ (DH xK xK yP yP (ae 1) (ae 0) (ae 2)))
def kE:az ["thing", "least", "most"] ["thing", "least", "most"] (ag (aB 12)):=fsc ⟨rfl,rfl,rfl⟩ {:_}
def jk (D:aG K mg "number_needed" (aB 12)) (T:Blt mg) (hgo:g=gOf mg) (CL:m7 K mg) (fD:Has P w K mg base g "is_within" 2 ["thing", "least", "most"] dP):jt P w K mg base g "number_needed" 3 ["thing", "least", "most"] bW:=by
 obtain⟨A_NoNumber,iP⟩:=CL.at_ "NoNumber" (by decide)
 refine Iw D kE (bd3 fun _ _ _ _ _ _ _ _ _=>rfl) fun nd f cdv A outer s H E hr fl pl po=>?_
 exact !@kA _ _ _ _ _ _ _ _ _ _ (@Gy _ _ _ _ _ (@oo _ _ _ _ _ _ (@fO _ _ _ _ _ _ ki (cT fD hr (ae 0::ae 1::ae 2::ai) (aj (aj (aj ay)))) (fun _=>rfl)))) (!EK fl pl rfl rfl iP (IF hgo iP) ((CL.one _ (by decide) _ iP).2.2 rfl)) cB
def jr:az ["n", "k"] ["n", "k"] (ag (aB 19)):=fsc ⟨rfl,rfl,rfl⟩ {:_}
def i7 (D:aG K mg "numbers_needed" (aB 19)) (T:Blt mg){iL:Tok} (dM:mg "MOST_LISTED" = Wx (.int 12 iL)) (b_:jt P w K mg base g "number_needed" 3 ["thing", "least", "most"] bW):jt P w K mg base g "numbers_needed" 4 ["n", "k"] ba:=by
 refine Iw D jr (bd2 fun _ _ _ _ _ _ _ _=>rfl) fun nd f cdv A outer s H E hr fl pl po=>?_
 exact fC (lE fl pl b_ hr (↑(ae 0)::↑au::↑(jN rfl dM)::ai) (aj (aj (aj ay))))\/!fC (lE fl pl b_ hr (↑(ae 1)::↑au::↑(jN rfl dM)::ai) (aj (aj (aj ay))))
def nj:az ["fewer", "lower", "counts", "rank", "rest", "fall", "falls", "many"] ["fewer", "lower"] (ag (aB 22)):=fsc ⟨rfl,rfl,rfl⟩ {:_}
def lS (D:aG K mg "rest_counts" (aB 22)) (T:Blt mg):Has P w K mg base g "rest_counts" 1 ["fewer", "lower"] bL:=by
 refine EI (iE D nj (bd2 fun _ _ _ _ _ _ _ _=>rfl) fun nd f cdv A outer s H E hr=>?_)
 exact 2 >>= #[au::ai]*(aO cR cS rfl T.len QB (ae 0::ai)++au)\/fc Qz rfl (yx rfl T.enumerate (ae 0)) (wy rfl (fQ (¬3) (fQ (¬4) sE))) wR (5 >>= @jD _ _ _ _ _ _ _ _ _ _ (ae 3<ae 1) au au\/!fc Qz rfl (yx rfl T.enumerate (ae 4)) (wy rfl (fQ (¬6) (fQ (¬7) sE))) wR (!EN (ae 2) (ae 6++ae 5) (ae 7)))\/!-ae 2
def lB:az ["n", "rests", "left"] ["n"] (ag (aB 21)):=fsc ⟨rfl,rfl,rfl⟩ {:_}
def qN (D:aG K mg "rests_of" (aB 21)) (T:Blt mg) (dZ:Has P w K mg base g "rest_counts" 1 ["fewer", "lower"] bL):Has P w K mg base g "rests_of" 2 ["n"] eN:=by
 obtain⟨f,fd,hm,F⟩:=D
 refine⟨f,fd,fS (vF F lB (fun cdv A outer s H E hr=>?_)),F.kp,F.binds (fun _ _ _ _ _ _ us hl=>CK hl fun _=>rfl),hm,c6 F⟩
 have nd:=lB.nd
 exact 1 >>= #[#[#[au::ai]::ai]::ai]\/fc Qz rfl (yd rfl T.range (au::(ae 0++au)::ai)) (¬2) dm (!fC (kF S9 S_ fP kD (ae 1) (eR (osc:=ag (aB 21)) [1] ["lower", "rests"] rfl rfl rfl rfl {:_} ⟨{:_},{:_},rfl,{:_},rfl,{:_}⟩ (dI rfl T.range ((ae 2++au)::ai)) (fun cl C ax aD fp=>IL) (fun cl C ax aD fp=>cT dZ hr (ae 1 ^ @Dq _ _ _ _ _ _ _ _ _ vG vZ au::ae 0::ai) (aj (aj ay)))::ai)))\/!-ae 1
def iN:az ["n", "k", "rests"] ["n", "k"] (ag (aB 25)):=fsc ⟨rfl,rfl,rfl⟩ {:_}
def nI (D:aG K mg "counter_of" (aB 25)) (T:Blt mg) (MK:D0 K mg base "counter_of" (aB 25)) (fR:Has P w K mg base g "rests_of" 2 ["n"] eN):Has P w K mg base g "counter_of" 3 ["n", "k"] bq:=by
 obtain⟨f,fd,hm,F⟩:=D
 obtain⟨c,PT,MK⟩:=MK f fd hm F
 refine⟨f,fd,JB ((aP (aB 25)).take 1) "begun_count" "begun" ["rests", "k"] [2,1] F iN MK rfl (fun _=>rfl) {:_} {:_} rfl ⟨⟨_,_,_,[("rests", _),("k", _)],rfl,rfl⟩,rfl,rfl,rfl,{:_},rfl,rfl,{:_},⟨by decide,by decide⟩,fun _ _ _ _ _=>rfl⟩ (fun cdv A outer s H E hr=>?_),F.kp,F.binds (fun _ _ _ _ _ _ us hl=>v_ hl fun _ _=>rfl),hm,c6 F⟩
 have nd:=iN.nd
 exact !2 >>= cT fR hr (ae 0::ai) (aj ay)
def nq:az ["many"] ["many"] (ag (aB 20)):=fsc ⟨rfl,rfl,rfl⟩ {:_}
def lN (D:aG K mg "told_needed" (aB 20)) (T:Blt mg) (hgo:g=gOf mg) (cq:CIm K mg "TooGreat" (aB 8) ["many", "most"]){k_:Tok} (e_:mg "MOST_TOLD" = Wx (.int 300 k_)):jt P w K mg base g "told_needed" 3 ["many"] aS:=by
 refine Iw D nq (bd1 fun _ _ _ _ _ _ _=>rfl) fun nd f cdv A outer s H E hr fl pl po=>?_
 exact !@kA _ _ _ _ _ _ _ _ _ _ (@Gy _ _ _ _ _ (ae 0 > jN rfl e_)) (!C_ (k:=0) fl pl rfl rfl cq hgo (hr.mono (by decide)) (by decide) (↑(ae 0)::↑(jN rfl e_)::ai)) cB
def oQ:az ["begun"] ["begun"] (ag (aB 24)):=fsc ⟨rfl,rfl,rfl⟩ {:_}
def nZ (D:aG K mg "lower_left" (aB 24)) (T:Blt mg):Has P w K mg base g "lower_left" 1 ["begun"] dh:=by
 refine iE D oQ (bd1 fun _ _ _ _ _ _ _=>rfl) fun nd f cdv A outer s H E hr=>?_
 exact @kA _ _ _ _ _ _ _ _ _ _ (@cQ _ _ _ _ _ _ _ _ _ _ _ (i5 hr.units) nz (aO cR cS rfl T.len QB (ae 0::ai)) au (cj _)) (!-au) cB\/!-(ae 0 ^ @Dq _ _ _ _ _ _ _ _ _ vG vZ au - aO cR cS rfl T.len QB (eR (osc:=ag (aB 24)) [0] ["number", "begun"] rfl rfl rfl rfl {:_} ⟨{:_},{:_},rfl,{:_},rfl,{:_}⟩ (@dy _ _ _ _ _ _ (ae 0)) (fun cl C ax aD fp=>gZ (ae 0<ae 1 ^ @Dq _ _ _ _ _ _ _ _ _ vG vZ au)) (fun cl C ax aD fp=>ae 0)::ai))
def tm:az ["numbers"] ["numbers"] (ag (aB 14)):=fsc ⟨rfl,rfl,rfl⟩ {:_}
def rV (D:aG K mg "falls_in" (aB 14)) (T:Blt mg):Has P w K mg base g "falls_in" 1 ["numbers"] eF:=by
 refine iE D tm (bd1 fun _ _ _ _ _ _ _=>rfl) fun nd f cdv A outer s H E hr=>?_
 exact !-fN oY C7 rfl T.tuple PyProof.Rows.boot_tuple (eR (osc:=ag (aB 14)) [0] ["place", "numbers"] rfl rfl rfl rfl {:_} ⟨{:_},{:_},rfl,{:_},rfl,{:_}⟩ (dI rfl T.range ((aO cR cS rfl T.len QB (ae 0::ai) - au)::ai)) (fun cl C ax aD fp=>gZ (ae 1 ^ ae 0 > ae 1 ^ (ae 0++au))) (fun cl C ax aD fp=>ae 0)::ai)
def nY:az ["rests", "k", "begun", "counts", "falls"] ["rests", "k", "begun"] (ag (aB 23)):=fsc ⟨rfl,rfl,rfl⟩ {:_}
def lQ (D:aG K mg "begun_count" (aB 23)) (T:Blt mg) (eU:Has P w K mg base g "lower_left" 1 ["begun"] dh) (gi:Has P w K mg base g "falls_in" 1 ["numbers"] eF):Has P w K mg base g "begun_count" 2 ["rests", "k", "begun"] aQ:=by
 refine iE D nY (bd3 fun _ _ _ _ _ _ _ _ _=>rfl) fun nd f cdv A outer s H E hr=>?_
 exact 3 >>= (ae 0 ^ (aO cR cS rfl T.len QB (ae 0::ai) - au - aO cR cS rfl T.len QB (ae 2::ai))) ^ cT eU hr (ae 2::ai) (aj ay)\/4 >>= ae 1 - aO cR cS rfl T.len QB (cT gi hr (ae 2::ai) (aj ay)::ai)\/!-@jD _ _ _ _ _ _ _ _ _ _ (BE xK F9 yP Ge au (ae 4) (aO cR cS rfl T.len QB (ae 3::ai))) (ae 3 ^ ae 4) au
def eT:az ["n", "begun", "many_with", "longer"] ["n", "begun", "many_with"] (ag (aB 26)):=fsc ⟨rfl,rfl,rfl⟩ {:_}
def lL (D:aG K mg "longer_ones" (aB 26)) (T:Blt mg) (aU:Has P w K mg base g "begun_count" 2 ["rests", "k", "begun"] aQ):Has P w K mg base g "longer_ones" 4 ["n", "begun", "many_with"] bu:=by
 obtain⟨f,fd,hm,F⟩:=D
 obtain⟨gq,fK,bT,bY,bU,bX,_⟩:=aU
 have TC:∀x np m,js x=Wx (np,m)->∃f fd ps,mg x=Wx (.ref f)/\b9 P w K mg base CX0 2 f fd ps (spM K g np m)/\Qk K (.ref f)=Wz/\Binds K fd ps []:=by
  intro x np m e
  unfold js at e
  by_cases aN:x="begun_count"
  ·rw[if_pos aN] at e;cases e;rw[aN];exact⟨_,_,_,bX,bT.mono (by decide),bY,bU⟩
  rw[if_neg aN] at e
  cases e
 refine⟨f,fd,vF F eT (fun cdv A outer s H E hr=>?_),F.kp,F.binds (fun _ _ _ _ _ _ us hl=>H_ hl fun _ _ _=>rfl),hm,c6 F⟩
 have nd:=eT.nd
 exact mT (osc:=ag (aB 26)) [1] ["number", "begun"] rfl rfl rfl rfl {:_} ⟨{:_},{:_},rfl,{:_},rfl,{:_}⟩ (dI rfl T.range (ae 0::ai)) (fun cl C ax aD fp=>gZ (@cQ _ _ _ _ _ _ _ _ _ _ _ ji GF (ae 0) (ae 1) (by rfl))) (fun cl C ax aD fp=>ae 1++~~~(ae 0::ai)) (i:=3) eT.nd rfl\/!-eR (osc:=ag (aB 26)) [2] ["one", "many_with"] rfl rfl rfl rfl {:_} ⟨{:_},{:_},rfl,{:_},rfl,{:_}⟩ (@dy _ _ _ _ _ _ (ae 3)) (fun cl C ax aD fp=>gZ (ng TC hr (ae 1) (ae 0::ai) (aj ay) > au)) (fun cl C ax aD fp=>ae 0)
def cy:az ["n", "many_with", "orders", "place"] ["n", "many_with"] (ag (aB 27)):=fsc ⟨rfl,rfl,rfl⟩ {:_}
def jg (D:aG K mg "orders_listed" (aB 27)) (T:Blt mg) (bH:Has P w K mg base g "longer_ones" 4 ["n", "begun", "many_with"] bu):Has P w K mg base g "orders_listed" 5 ["n", "many_with"] bV:=by
 refine Oe (iE D cy (bd2 fun _ _ _ _ _ _ _ _=>rfl) fun nd f cdv A outer s H E hr=>?_)
 exact 2 >>= #[~~~ai::ai]\/fc Qz rfl (dI rfl T.range (ae 0::ai)) (¬3) dm (!nS (osc:=ag (aB 27)) [0,1] ["begun", "longer", "n", "many_with"] rfl rfl rfl rfl {:_} ⟨{:_},{:_},rfl,{:_},{:_}⟩ (@dy _ _ _ _ _ _ (ae 2)) (fun cl C ax aD fp=>⟨Wn rfl,rfl⟩) (fun cl C ax aD fp=>⟨Wn rfl,rfl⟩) (fun cl C ax aD fp=>@dy _ _ _ _ _ _ (cT bH hr (ae 2::ae 0::ae 3::ai) (aj (aj (aj ay))))) (fun cl C ax aD fp=>ae 1) (i:=2) cy.nd rfl)\/!-ae 2
def dH:az ["n", "k", "many_with"] ["n", "k"] (ag (aB 18)):=fsc ⟨rfl,rfl,rfl⟩ {:_}
def lI (D:aG K mg "orders_all" (aB 18)) (T:Blt mg) (bf:jt P w K mg base g "numbers_needed" 4 ["n", "k"] ba) (bP:Has P w K mg base g "counter_of" 3 ["n", "k"] bq) (bI:jt P w K mg base g "told_needed" 3 ["many"] aS) (aU:Has P w K mg base g "begun_count" 2 ["rests", "k", "begun"] aQ) (c5:Has P w K mg base g "orders_listed" 5 ["n", "many_with"] bV):jt P w K mg base g "orders_all" 6 ["n", "k"] aY:=by
 obtain⟨f,fd,hm,F⟩:=D
 obtain⟨gq,fK,bT,bY,bU,bX,_⟩:=aU
 have TC:∀x np m,js x=Wx (np,m)->∃f fd ps,mg x=Wx (.ref f)/\b9 P w K mg base CX0 4 f fd ps (spM K g np m)/\Qk K (.ref f)=Wz/\Binds K fd ps []:=by
  intro x np m e
  unfold js at e
  by_cases aN:x="begun_count"
  ·rw[if_pos aN] at e;cases e;rw[aN];exact⟨_,_,_,bX,bT.mono (by decide),bY,bU⟩
  rw[if_neg aN] at e
  cases e
 refine⟨f,fd,De F dH (fun cdv A outer s H E hr fl pl po=>?_),F.kp,F.binds (fun _ _ _ _ _ _ us hl=>v_ hl fun _ _=>rfl),hm⟩
 have nd:=dH.nd
 exact fC (lE fl pl bf hr (↑(ae 0)::↑(ae 1)::ai) (aj (aj ay)))\/@DO _ _ _ _ _ (2 >>= cT bP hr (ae 0::ae 1::ai) (aj (aj ay)))\/fC (lE fl pl bI hr (↑(ng TC hr (ae 2) (~~~ai::ai) (aj ay))::ai) (aj ay))\/!@DO _ _ _ _ _ (-cT c5 hr (ae 0::ae 2::ai) (aj (aj ay)))
def dg:az ["_law_n", "_law_k", "_law_e"] ["_law_n", "_law_k"] (ag (aB 38)):=fsc ⟨rfl,rfl,rfl⟩ {:_}
def ou (D:aG K mg "_law_told" (aB 38)) (T:Blt mg) (hgo:g=gOf mg) (CL:m7 K mg) (bz:BP P w K mg base g "_law_refused" 2 ["_law_e"] aR) (d7:jt P w K mg base g "orders_all" 6 ["n", "k"] aY):Has P w K mg base g "_law_told" 7 ["_law_n", "_law_k"] br:=by
 obtain⟨f,fd,hm,F⟩:=D
 obtain⟨kg,jv,dD,dF,dC,dB⟩:=bz
 refine⟨f,fd,A2 (vF F dg (fun cdv A outer s H E hr=>?_)),F.kp,F.binds (fun _ _ _ _ _ _ us hl=>v_ hl fun _ _=>rfl),hm,c6 F⟩
 have nd:=dg.nd
 exact !Gq (i:=2) CL hgo ⟨rfl,rfl,rfl⟩ dg.nd rfl rfl rfl rfl (dD.mono (by decide)) (uQ hr) dB dF dC (fun pn xe E fl pl po=>!-lE fl pl d7 hr (↑(ae 0)::↑(ae 1)::ai) (aj (aj ay)))
def cI:az ["_law_n", "_law_k", "_law_due", "_law_turn", "_law_found"] ["_law_n", "_law_k"] (ag (aB 39)):=fsc ⟨rfl,rfl,rfl⟩ {:_}
def gK (D:aG K mg "_law_small_right" (aB 39)) (T:Blt mg) (gj:Has P w K mg base g "_law_all" 1 ["_law_n"] dE) (bN:Has P w K mg base g "_law_falls" 1 ["_law_row"] bh) (b8:Has P w K mg base g "_law_told" 7 ["_law_n", "_law_k"] br):Has P w K mg base g "_law_small_right" 8 ["_law_n", "_law_k"] bc:=by
 obtain⟨f,fd,hm,F⟩:=D
 refine⟨f,fd,fS (vF F cI (fun cdv A outer s H E hr=>?_)),F.kp,F.binds (fun _ _ _ _ _ _ us hl=>v_ hl fun _ _=>rfl),hm,c6 F⟩
 have nd:=cI.nd
 exact mT (osc:=ag (aB 39)) [1] ["_law_order", "_law_k"] rfl rfl rfl rfl {:_} ⟨{:_},{:_},rfl,{:_},rfl,{:_}⟩ (@dy _ _ _ _ _ _ (cT gj hr (ae 0::ai) (aj ay))) (fun cl C ax aD fp=>gZ (@cQ _ _ _ _ _ _ _ _ _ _ _ (i5 hr.units) nz (aO cR cS rfl T.len QB (cT bN hr (ae 0::ai) (aj ay)::ai)) (ae 1) (cj _))) (fun cl C ax aD fp=>ae 0) (i:=2) cI.nd rfl\/fc Qz rfl (dI rfl T.range (au::ai)) (¬3) dm (4 >>= cT b8 hr (ae 0::ae 1::ai) (aj (aj ay))\/@kA _ _ _ _ _ _ _ _ _ _ (@cQ _ _ _ _ _ _ _ _ _ _ _ (j8 hr.units) qp (aO (iw hr.gd hr.units) ip rfl T.repr Rk (ae 4::ai)) (aO (iw hr.gd hr.units) ip rfl T.repr Rk (@jD _ _ _ _ _ _ _ _ _ _ (aO cR cS rfl T.len QB (ae 2::ai)<au) (ae 2) (~~~(eQ::aO cR cS rfl T.len QB (ae 2::ai)::au::ai))::ai)) (cj _)) (!-jb) cB\/!@kA _ _ _ _ _ _ _ _ _ _ (@fO _ _ _ _ _ _ ki (rH (ae 4) rfl T.isinstance rfl T.list RJ) (fun _=>rfl)) (!fC (kF S9 S_ fP kD (ae 4) (~~~ai::ai))) cB)\/!-jb
def rX:az ["_law_seed"] ["_law_seed"] (ag (aB 30)):=fsc ⟨rfl,rfl,rfl⟩ {:_}
def oK (D:aG K mg "_law_next" (aB 30)) (T:Blt mg):Has P w K mg base g "_law_next" 1 ["_law_seed"] cX:=by
 refine iE D rX (bd1 fun _ _ _ _ _ _ _=>rfl) fun nd f cdv A outer s H E hr=>?_
 exact 0 >>= (ae 0++au) % au\/!-((ae 0*ae 0++au*ae 0++au) % au)
def rf:az ["_law_pen", "_law_many_here", "_law_found"] ["_law_pen", "_law_many_here"] (ag (aB 32)):=fsc ⟨rfl,rfl,rfl⟩ {:_}
def oP (D:aG K mg "_law_draw" (aB 32)) (T:Blt mg) (dJ:Has P w K mg base g "_law_next" 1 ["_law_seed"] cX):Has P w K mg base g "_law_draw" 2 ["_law_pen", "_law_many_here"] aF:=by
 refine iE D rf (bd2 fun _ _ _ _ _ _ _ _=>rfl) fun nd f cdv A outer s H E hr=>?_
 exact @kA _ _ _ _ _ _ _ _ _ _ (PW.pt (@GW _ _ _ _ _ _ _ _ _ (@cQ _ _ _ _ _ _ _ _ _ _ _ (i5 hr.units) nz (ae 0 ^ au) au (cj _)) (@EX _ _ _ _ _ _ (ae 0 ^ au > au)))) (2 >>= ae 0 ^ au % ae 1\/xQ (ae 0 ^ au / ae 1) (ae 0) au set_list mV\/!-ae 2) cB\/xQ (cT dJ hr ((cT dJ hr (ae 0 ^ au::ai) (aj ay)++au)::ai) (aj ay)) (ae 0) au set_list mV\/!-(ae 0 ^ au / au % ae 1)
def qF:az ["_law_n", "_law_k", "_law_ends", "_law_size", "_law_later", "_law_last", "_law_falls_here", "_law_place", "_law_there"] ["_law_n", "_law_k"] (ag (aB 37)):=fsc ⟨rfl,rfl,rfl⟩ {:_}
def oA (D:aG K mg "_law_many" (aB 37)) (T:Blt mg):Has P w K mg base g "_law_many" 1 ["_law_n", "_law_k"] cW:=by
 refine MY (EI (iE D qF (bd2 fun _ _ _ _ _ _ _ _=>rfl) fun nd f cdv A outer s H E hr=>?_))
 exact 2 >>= Cf (un0 hr.units) (~~~(au::au::ai)) au\/fc Qz rfl (yd rfl T.range (au::ae 0::ai)) (¬3) dm (4 >>= EL\/fc Qz rfl (@dy _ _ _ _ _ _ (fN (aV.frz (iH rfl)) tE rfl T.list RJ (ae 2::ai))) (wy rfl (fQ (¬5) (fQ (¬6) sE))) wR (!fc Qz rfl (dI rfl T.range ((ae 3++au)::ai)) (¬7) dm (8 >>= ~~~(ae 7::(ae 6++fN pE B6 rfl T.int T7 (@rR _ _ _ _ _ _ _ _ _ _ _ xK yP (ae 7) (ae 5) (cj _)::ai))::ai)\/!Hf (un1 hr.units) (DI (un1 hr.units) (ae 4) (ae 8) au ⟨rfl,rfl,rfl,rfl⟩++xR (un1 hr.units) (ae 2) (~~~(ae 5::ae 6::ai)) (fun _ _=>rfl)) (ae 4) (ae 8)))\/!2 >>= ae 4)\/!-aO (zR rfl) Hb rfl T.sum PyProof.Rows.boot_sum (eR (osc:=ag (aB 37)) [2,1] ["_law_one", "_law_ends", "_law_k"] rfl rfl rfl rfl {:_} ⟨{:_},{:_},rfl,{:_},rfl,{:_}⟩ (@dy _ _ _ _ _ _ (fN (aV.frz (iH rfl)) tE rfl T.list RJ (ae 2::ai))) (fun cl C ax aD fp=>gZ (@cQ _ _ _ _ _ _ _ _ _ _ _ (i5 hr.units) nz (ae 0 ^ au) (ae 2) (cj _))) (fun cl C ax aD fp=>xR (un1 hr.units) (ae 1) (ae 0) (fun _ _=>rfl))::ai)
def jw (D:aG K mg "orders_listed" (aB 27)) (T:Blt mg) (bH:Has P w K mg base g "longer_ones" 4 ["n", "begun", "many_with"] bu):Has P w K mg base g "orders_listed" 5 ["n", "many_with"] bZ:=by
 refine EI (iE D cy (bd2 fun _ _ _ _ _ _ _ _=>rfl) fun nd f cdv A outer s H E hr=>?_)
 exact 2 >>= #[~~~ai::ai]\/fc Qz rfl (dI rfl T.range (ae 0::ai)) (¬3) dm (!nS (osc:=ag (aB 27)) [0,1] ["begun", "longer", "n", "many_with"] rfl rfl rfl rfl {:_} ⟨{:_},{:_},rfl,{:_},{:_}⟩ (@dy _ _ _ _ _ _ (ae 2)) (fun cl C ax aD fp=>⟨Wn rfl,rfl⟩) (fun cl C ax aD fp=>⟨Wn rfl,rfl⟩) (fun cl C ax aD fp=>@dy _ _ _ _ _ _ (cT bH hr (ae 2::ae 0::ae 3::ai) (aj (aj (aj ay))))) (fun cl C ax aD fp=>ae 1) (i:=2) cy.nd rfl)\/!-ae 2
def oq (D:aG K mg "orders_all" (aB 18)) (T:Blt mg) (bf:jt P w K mg base g "numbers_needed" 4 ["n", "k"] ba) (bP:Has P w K mg base g "counter_of" 3 ["n", "k"] bq) (bI:jt P w K mg base g "told_needed" 3 ["many"] aS) (aU:Has P w K mg base g "begun_count" 2 ["rests", "k", "begun"] aQ) (de:Has P w K mg base g "orders_listed" 5 ["n", "many_with"] bZ):jt P w K mg base g "orders_all" 6 ["n", "k"] cA:=by
 obtain⟨f,fd,hm,F⟩:=D
 obtain⟨gq,fK,bT,bY,bU,bX,_⟩:=aU
 have TC:∀x np m,js x=Wx (np,m)->∃f fd ps,mg x=Wx (.ref f)/\b9 P w K mg base CX0 4 f fd ps (spM K g np m)/\Qk K (.ref f)=Wz/\Binds K fd ps []:=by
  intro x np m e
  unfold js at e
  by_cases aN:x="begun_count"
  ·rw[if_pos aN] at e;cases e;rw[aN];exact⟨_,_,_,bX,bT.mono (by decide),bY,bU⟩
  rw[if_neg aN] at e
  cases e
 refine⟨f,fd,De F dH (fun cdv A outer s H E hr fl pl po=>?_),F.kp,F.binds (fun _ _ _ _ _ _ us hl=>v_ hl fun _ _=>rfl),hm⟩
 have nd:=dH.nd
 exact fC (lE fl pl bf hr (↑(ae 0)::↑(ae 1)::ai) (aj (aj ay)))\/@DO _ _ _ _ _ (2 >>= cT bP hr (ae 0::ae 1::ai) (aj (aj ay)))\/fC (lE fl pl bI hr (↑(ng TC hr (ae 2) (~~~ai::ai) (aj ay))::ai) (aj ay))\/!@DO _ _ _ _ _ (-cT de hr (ae 0::ae 2::ai) (aj (aj ay)))
def oU (D:aG K mg "_law_told" (aB 38)) (T:Blt mg) (hgo:g=gOf mg) (CL:m7 K mg) (bz:BP P w K mg base g "_law_refused" 2 ["_law_e"] aR) (eL:jt P w K mg base g "orders_all" 6 ["n", "k"] cA):Has P w K mg base g "_law_told" 7 ["_law_n", "_law_k"] cY:=by
 obtain⟨kg,jv,dD,dF,dC,dB⟩:=bz
 refine iE D dg (bd2 fun _ _ _ _ _ _ _ _=>rfl) fun nd f cdv A outer s H E hr=>?_
 exact !Gq (i:=2) CL hgo ⟨rfl,rfl,rfl⟩ dg.nd rfl rfl rfl rfl (dD.mono (by decide)) (uQ hr) dB dF dC (fun pn xe E fl pl po=>!-lE fl pl eL hr (↑(ae 0)::↑(ae 1)::ai) (aj (aj ay)))
def d_:az ["_law_n", "_law_k", "_law_many_here", "_law_found", "_law_order", "_law_kept"] ["_law_n", "_law_k"] (ag (aB 40)):=fsc ⟨rfl,rfl,rfl⟩ {:_}
def gM (D:aG K mg "_law_great_right" (aB 40)) (T:Blt mg) (fE:Has P w K mg base g "_law_many" 1 ["_law_n", "_law_k"] cW) (b8:Has P w K mg base g "_law_told" 7 ["_law_n", "_law_k"] br) (bN:Has P w K mg base g "_law_falls" 1 ["_law_row"] bh) (fG:Has P w K mg base g "_law_told" 7 ["_law_n", "_law_k"] cY):Has P w K mg base g "_law_great_right" 8 ["_law_n", "_law_k"] aM:=by
 obtain⟨f,fd,hm,F⟩:=D
 refine⟨f,fd,fS (vF F d_ (fun cdv A outer s H E hr=>?_)),F.kp,F.binds (fun _ _ _ _ _ _ us hl=>v_ hl fun _ _=>rfl),hm,c6 F⟩
 have nd:=d_.nd
 exact 2 >>= cT fE hr (ae 0::ae 1::ai) (aj (aj ay))\/3 >>= cT b8 hr (ae 0::ae 1::ai) (aj (aj ay))\/@kA _ _ _ _ _ _ _ _ _ _ (ae 2 > au) (!-@rR _ _ _ _ _ _ _ _ _ _ _ (i5 hr.units) nz (ae 3) (~~~(eQ::ae 2::au::ai)) (cj _)) cB\/@kA _ _ _ _ _ _ _ _ _ _ (PW.pt (@yQ _ _ _ _ _ _ _ _ _ (@oo _ _ _ _ _ _ (@fO _ _ _ _ _ _ ki (rH (ae 3) rfl T.isinstance rfl T.list RJ) (fun _=>rfl))) (@yQ _ _ _ _ _ _ _ _ _ (@cQ _ _ _ _ _ _ _ _ _ _ _ (j8 hr.units) qp (aO cR cS rfl T.len QB (ae 3::ai)) (ae 2) (cj _)) (@vz _ _ _ _ _ _ (@cQ _ _ _ _ _ _ _ _ _ _ _ (j8 hr.units) qp (ae 3) (Bn (aV.frz (uk rfl)) (zW rfl hr.units) Bw rfl T.sorted PyProof.Rows.boot_sorted rfl T.set PyProof.Rows.boot_set (ae 3::ai)) (cj _)))))) (!-jb) cB\/fc Qz rfl (@dy _ _ _ _ _ _ (ae 3)) (¬4) dm (!@kA _ _ _ _ _ _ _ _ _ _ (PW.pt (@yQ _ _ _ _ _ _ _ _ _ (@cQ _ _ _ _ _ _ _ _ _ _ _ (j8 hr.units) qp (aO (iw hr.gd hr.units) ip rfl T.repr Rk (aO (aV.frz zr) Ft rfl T.sorted PyProof.Rows.boot_sorted (ae 4::ai)::ai)) (aO (iw hr.gd hr.units) ip rfl T.repr Rk (AE rfl rfl T.list rfl T.range (ae 0::ai)::ai)) (cj _)) (@vz _ _ _ _ _ _ (@cQ _ _ _ _ _ _ _ _ _ _ _ (j8 hr.units) qp (aO cR cS rfl T.len QB (cT bN hr (ae 4::ai) (aj ay)::ai)) (ae 1) (cj _))))) (!-jb) cB)\/5 >>= aO (iw hr.gd hr.units) ip rfl T.repr Rk (ae 3::ai)\/fC (kF S9 S_ fP kD (ae 3) (~~~ai::ai))\/!-@rR _ _ _ _ _ _ _ _ _ _ _ (i5 hr.units) nz (aO (iw hr.gd hr.units) ip rfl T.repr Rk (cT fG hr (ae 0::ae 1::ai) (aj (aj ay))::ai)) (ae 5) (cj _)
def Iq:az ["_law_script", "_law_cell", "_law_pen", "_law_n", "_law_k"] ["_law_script"] (ag (aB 41)):=fsc ⟨rfl,rfl,rfl⟩ {:_}
def Fv (D:aG K mg "law" (aB 41)) (T:Blt mg) (dz:Has P w K mg base g "_law_cell_at" 1 ["_law_script", "_law_k"] bB) (dY:Has P w K mg base g "_law_pen_of" 1 ["_law_cell"] b7) (cw:Has P w K mg base g "_law_small_right" 8 ["_law_n", "_law_k"] bc) (bw:Has P w K mg base g "_law_draw" 2 ["_law_pen", "_law_many_here"] aF) (cn:Has P w K mg base g "_law_great_right" 8 ["_law_n", "_law_k"] aM):Has P w K mg base g "law" 9 ["_law_script"] nO:=by
 refine EI (iE D Iq (bd1 fun _ _ _ _ _ _ _=>rfl) fun nd f cdv A outer s H E hr=>?_)
 exact fc Qz rfl (@dy _ _ _ _ _ _ (#[cT dz hr (ae 0::au::ai) (aj (aj ay))::ai]++CI (ae 0) (@yW _ _ _ _ _ au) (@yW _ _ _ _ _ au))) (¬1) dm (2 >>= cT dY hr (ae 1::ai) (aj ay)\/@kA _ _ _ _ _ _ _ _ _ _ (@oo _ _ _ _ _ _ (@fO _ _ _ _ _ _ ki (cT cw hr ((au++cT bw hr (ae 2::au::ai) (aj (aj ay)))::cT bw hr (ae 2::#[au::au::ai] ^ cT bw hr (ae 2::au::ai) (aj (aj ay))::ai) (aj (aj ay))::ai) (aj (aj ay))) (fun _=>rfl))) (!-jb) cB\/3 >>= au++cT bw hr (ae 2::au::ai) (aj (aj ay))\/!@fc _ _ _ _ _ _ _ _ _ _ _ Qz rfl (@dy _ _ _ _ _ _ (~~~(au::(ae 3 - au)::cT bw hr (ae 2::au::ai) (aj (aj ay))::#[au::(ae 3 - au)::ai] ^ cT bw hr (ae 2::au::ai) (aj (aj ay))::ai))) (¬4) dm (!@kA _ _ _ _ _ _ _ _ _ _ (@oo _ _ _ _ _ _ (@fO _ _ _ _ _ _ ki (cT cn hr (ae 3::ae 4::ai) (aj (aj ay))) (fun _=>rfl))) (!-jb) cB) (by intro _ ; rfl))\/!-jb
def sA:az ["self", "many", "most"] ["self", "many", "most"] (ag (bO (aB 8))):=⟨rfl,rfl,rfl,{:_},rfl,{:_},{:_}⟩
def oW:∀y∈(["self", "many", "most"]:List Str),(ag (bO (aB 8))).names.lookup y=Wx .local:={:_}
def sC:jQ (aP (bO (aB 8))) ["many", "most"]:=jQ.cons rfl (jQ.cons rfl (.nil))
def qA:∀(kV doc pm:Pp) (an:Option PN) (cdv ct:Pp) (us:List Pp),us.length=(["self", "many", "most"]:List Str).length->bindArgs (QH "__init__" "TooGreat.__init__" (cb (bO (aB 8))) (aP (bO (aB 8))) (ag (bO (aB 8))) .none kV doc pm an cdv ct) ⟨us,[]⟩=pure ((["self", "many", "most"]:List Str).zip us):=fun _ _ _ _ _ _ us hl=>H_ hl fun _ _ _=>rfl
end
structure Text (K:Pk) (ts:List PN):Prop where
 mL:bK K "_law_cell_at" (aB 29)
 oM:bK K "_law_pen_of" (aB 31)
 wF:bK K "_law_all" (aB 36)
 rq:bK K "_law_falls" (aB 35)
 nA:bK K "_law_kind_of" (aB 33)
 n5:bK K "_law_refused" (aB 34)
 wk:bK K "is_whole" (aB 10)
 vf:bK K "is_within" (aB 11)
 lK:bK K "number_needed" (aB 12)
 kn:bK K "numbers_needed" (aB 19)
 oH:bK K "rest_counts" (aB 22)
 wC:bK K "rests_of" (aB 21)
 sf:bK K "counter_of" (aB 25)
 oB:bK K "told_needed" (aB 20)
 rB:bK K "lower_left" (aB 24)
 wY:bK K "falls_in" (aB 14)
 oE:bK K "begun_count" (aB 23)
 oz:bK K "longer_ones" (aB 26)
 lM:bK K "orders_listed" (aB 27)
 qB:bK K "orders_all" (aB 18)
 t9:bK K "_law_told" (aB 38)
 iR:bK K "_law_small_right" (aB 39)
 tL:bK K "_law_next" (aB 30)
 tF:bK K "_law_draw" (aB 32)
 tZ:bK K "_law_many" (aB 37)
 iX:bK K "_law_great_right" (aB 40)
 LB:bK K "law" (aB 41)
 cls:AF K
 uR:CIs K "TooGreat" (aB 8) ["many", "most"]
 qD:Qu K mainGlobals "ValueError" = some none
 IP:Qu K mainGlobals "bool" = some none
 s_:Qu K mainGlobals "enumerate" = some none
 Kv:Qu K mainGlobals "int" = some none
 sG:Qu K mainGlobals "isinstance" = some none
 KJ:Qu K mainGlobals "len" = some none
 IS:Qu K mainGlobals "list" = some none
 JS:Qu K mainGlobals "max" = some none
 Fq:Qu K mainGlobals "range" = some none
 HC:Qu K mainGlobals "repr" = some none
 Ke:Qu K mainGlobals "set" = some none
 Bq:Qu K mainGlobals "sorted" = some none
 JZ:Qu K mainGlobals "sum" = some none
 Fi:Qu K mainGlobals "tuple" = some none
 fF:∃t,Qu K mainGlobals "MOST_LISTED" = some (some (Sj 12 t))
 g9:∃t,Qu K mainGlobals "MOST_TOLD" = some (some (Sj 300 t))
 bq:IJ K ts "counter_of" (aB 25)
def all_mk {P:PJ}{w:Qc}{K:Pk}{h:QQ}{mg:Str->Option Pp}{fa:PN} (X:K.In h) (G:h.Ns mainGlobals mg) (hfa:mg "law" = Wx (.ref fa)){ts:List PN} (hU:mkU K=Wz) (t:Text K ts) :
  ∃fd:RV,(∀(s:Pr) (v:Pp),VU s fd ⟨[v],[]⟩ [("_law_script", v)])/\∀base:QQ,K.In base->base.Ns mainGlobals mg->(∀P∈ts,base.BuiltinsAt mg P)->b9 P w K mg base CX0 9 fa fd ["_law_script"] (spM K (gOf mg) 1 nO):=by
 have T:Blt mg:=⟨Qg X G t.qD,Qg X G t.IP,Qg X G t.s_,Qg X G t.Kv,Qg X G t.sG,Qg X G t.KJ,Qg X G t.IS,Qg X G t.JS,Qg X G t.Fq,Qg X G t.HC,Qg X G t.Ke,Qg X G t.Bq,Qg X G t.JZ,Qg X G t.Fi⟩
 obtain⟨iL,fF⟩:=t.fF
 have dM:=Ux X G fF
 obtain⟨k_,g9⟩:=t.g9
 have e_:=Ux X G g9
 have nQ:=aG.of X G t.mL
 have ow:=aG.of X G t.oM
 have vK:=aG.of X G t.wF
 have sF:=aG.of X G t.rq
 have m9:=aG.of X G t.nA
 have nh:=aG.of X G t.n5
 have wz:=aG.of X G t.wk
 have uS:=aG.of X G t.vf
 have lP:=aG.of X G t.lK
 have kj:=aG.of X G t.kn
 have oR:=aG.of X G t.oH
 have wZ:=aG.of X G t.wC
 have se:=aG.of X G t.sf
 have oS:=aG.of X G t.oB
 have rW:=aG.of X G t.rB
 have xh:=aG.of X G t.wY
 have oO:=aG.of X G t.oE
 have oZ:=aG.of X G t.oz
 have gw:=aG.of X G t.lM
 have jo:=aG.of X G t.qB
 have k6:=aG.of X G t.t9
 have iU:=aG.of X G t.iR
 have uz:=aG.of X G t.tL
 have vh:=aG.of X G t.tF
 have uM:=aG.of X G t.tZ
 have iO:=aG.of X G t.iX
 have LV:=aG.of X G t.LB
 have CL:=m7.of X G t.cls
 have cq:=CIm.of X G t.uR
 obtain⟨f,fd,hm,F⟩:=LV
 have e:=hfa.symm.trans hm
 cases e
 refine⟨fd,?_,fun base _ _ hBA=>?_⟩
 ·obtain⟨oc,od,kV,doc,pm,an,cdv,ct,osl,rfl,lk,hcd⟩:=F.ex
  exact fun s v=>.of_eq rfl
 ·have dz:=kI (P:=P) (w:=w) (base:=base) (g:=gOf mg) nQ T
  have dY:=lH (P:=P) (w:=w) (base:=base) (g:=gOf mg) ow T
  have gj:=qw (P:=P) (w:=w) (base:=base) (g:=gOf mg) vK T
  have bN:=n_ (P:=P) (w:=w) (base:=base) (g:=gOf mg) sF T
  have dG:=jU (P:=P) (w:=w) (base:=base) (g:=gOf mg) m9 T rfl CL
  have bz:=kz (P:=P) (w:=w) (base:=base) (g:=gOf mg) nh T rfl cq dG
  have f9:=qM (P:=P) (w:=w) (base:=base) (g:=gOf mg) wz T
  have fD:=pk (P:=P) (w:=w) (base:=base) (g:=gOf mg) uS T f9
  have b_:=jk (P:=P) (w:=w) (base:=base) (g:=gOf mg) lP T rfl CL fD
  have bf:=i7 (P:=P) (w:=w) (base:=base) (g:=gOf mg) kj T dM b_
  have dZ:=lS (P:=P) (w:=w) (base:=base) (g:=gOf mg) oR T
  have fR:=qN (P:=P) (w:=w) (base:=base) (g:=gOf mg) wZ T dZ
  have bP:=nI (P:=P) (w:=w) (base:=base) (g:=gOf mg) se T (D0.of X G hBA hU t.bq) fR
  have bI:=lN (P:=P) (w:=w) (base:=base) (g:=gOf mg) oS T rfl cq e_
  have eU:=nZ (P:=P) (w:=w) (base:=base) (g:=gOf mg) rW T
  have gi:=rV (P:=P) (w:=w) (base:=base) (g:=gOf mg) xh T
  have aU:=lQ (P:=P) (w:=w) (base:=base) (g:=gOf mg) oO T eU gi
  have bH:=lL (P:=P) (w:=w) (base:=base) (g:=gOf mg) oZ T aU
  have c5:=jg (P:=P) (w:=w) (base:=base) (g:=gOf mg) gw T bH
  have d7:=lI (P:=P) (w:=w) (base:=base) (g:=gOf mg) jo T bf bP bI aU c5
  have b8:=ou (P:=P) (w:=w) (base:=base) (g:=gOf mg) k6 T rfl CL bz d7
  have cw:=gK (P:=P) (w:=w) (base:=base) (g:=gOf mg) iU T gj bN b8
  have dJ:=oK (P:=P) (w:=w) (base:=base) (g:=gOf mg) uz T
  have bw:=oP (P:=P) (w:=w) (base:=base) (g:=gOf mg) vh T dJ
  have fE:=oA (P:=P) (w:=w) (base:=base) (g:=gOf mg) uM T
  have de:=jw (P:=P) (w:=w) (base:=base) (g:=gOf mg) gw T bH
  have eL:=oq (P:=P) (w:=w) (base:=base) (g:=gOf mg) jo T bf bP bI aU de
  have fG:=oU (P:=P) (w:=w) (base:=base) (g:=gOf mg) k6 T rfl CL bz eL
  have cn:=gM (P:=P) (w:=w) (base:=base) (g:=gOf mg) iO T fE b8 bN fG
  have E5:=Fv (P:=P) (w:=w) (base:=base) (g:=gOf mg) ⟨_,_,hm,F⟩ T dz dY cw bw cn
  exact Hx F hm E5
def walk {l:PySem.W.OpenLaw}{q:PJ}{loose:List Str}{XP:(Str->Option Pp)->QQ->Prop}{YP:Qc->QQ->Prop}{d:DefRec}{K:Params->Pk}{ts:List PN} (hn:l.most=Wx 63) (hdf:d.params.defaults=[])
  (hY:∀(w:Qc) (h:QQ),YP w h->(K w.params).In h) (hT:∀(w:Qc) (h:QQ),YP w h->∀P∈ts,h.get? P=Wx (SQ #[])) (hI:∀P,Jw (K P) ts=Wz)
  (ok:∀ns:List Int,ns.length<=63->∃h,nO [.scr (ns.map D.int)] []=.ok (.bl Wz) h)
  (F:∀(w:Qc) (mg:Str->Option Pp) (fa:PN) (h:QQ),(K w.params).In h->h.Ns mainGlobals mg->mg d.name=Wx (.ref fa) →
   ∃fd:RV,(∀(s:Pr) (u:Pp),VU s fd ⟨[u],[]⟩ [("_law_script", u)])/\∀base:QQ,(K w.params).In base->base.Ns mainGlobals mg->(∀P∈ts,base.BuiltinsAt mg P)->b9 l.prog w (K w.params) mg base CX0 9 fa fd ["_law_script"] (spM (K w.params) (gOf mg) 1 nO)) :
  PySem.W.WalkO q loose XP YP l.row.toRowW d [] (fun f vs=>Wd f vs):=
 EH (k:=9) hn hdf ⟨rfl,by decide,by decide,rfl⟩ hY hT hI ok F
def eD (h1:-(10 ^ 30)<=i) (h2:i<=10 ^ 30):sml i=true:=Jm (P7 (show i.natAbs<=10 ^ 30 by lia) {})
def BY (e:aq h n=Wx ds):n<h.length:=by
 unfold aq at e
 grind
def xv (e:aq h n=Wx ds):aq (h.set n (.lst es)) n=Wx es:=by
 unfold aq;rw[Tt (BY e)]
def F7 (e:aq h n=Wx ds):aq (h++t) n=Wx ds:=by
 have:=BY e
 unfold aq at e ⊢;grind
structure Pen where
 a:Int
 b:Int
 s:Int
@[inline]abbrev lX (p:Pen):List D:=[.int p.a,.int p.b,.int p.s]
abbrev nxt (x:Int):Int:=((x+7919) % 2147483647*((x+7919) % 2147483647)+48271*((x+7919) % 2147483647)+12345) % 2147483629
abbrev g8 (p:Pen) (m:Int):Int:=if p.b=1/\0<p.a then p.a % m else nxt (nxt p.s+7) / 64 % m
abbrev tD (p:Pen) (m:Int):Pen:=if p.b=1/\0<p.a then ⟨p.a / m,p.b,p.s⟩ else ⟨p.a,p.b,nxt (nxt p.s+7)⟩
def EO (p) (h:0<m):0<=g8 p m:=by unfold g8;split<;>exact Int.emod_nonneg _ {}
def CY (p) (h:0<m):g8 p m<m:=by unfold g8;split<;>exact Int.emod_lt_of_pos _ h
@[simp] def Nd {x:Int}{h:Hh}:cX [.int x] h=.ok (.int (nxt x)) h:=by
 have h1:0<=(x+7919) % 2147483647:=Int.emod_nonneg _ (by decide)
 have h2:(x+7919) % 2147483647<2147483647:=Int.emod_lt_of_pos _ (by decide)
 have s1:sml ((x+7919) % 2147483647)=true:=eD {} {}
 have s2:sml 48271=true:={:_}
 simp[cX,bo,s1,s2,nxt]
def Jj {p:Pen}{m:Int}{h:Hh}{n:Nat} (e:aq h n=Wx (lX p)) (hm:0<m) (hm2:m<=10 ^ 20):aF [.ref n,.int m] h=.ok (.int (g8 p m)) (h.set n (.lst (lX (tD p m)))):=by
 have s1:sml m=true:=eD {} {}
 have s2:sml 64=true:={:_}
 have i2:∀(x y z:Int) (h:Hh),ixK [D.int x,.int y,.int z] 2 h=.ok (.int z) h:=fun _ _ _ _=>rfl
 have n0:ixN (lX p).length 0=Wx 0:=rfl
 have n2:ixN (lX p).length 2=Wx 2:=rfl
 by_cases c:p.b=1
 ·by_cases c2:0<p.a
  ·simp[aF,bo,mU e,c,c2,hm,s1,mq e n0,g8,tD]
  ·simp[aF,bo,mU e,c,c2,i2,mq e n2,mU (xv e),s1,s2,hm,g8,tD]
 ·simp[aF,bo,mU e,c,i2,mq e n2,mU (xv e),s1,s2,hm,g8,tD]
@[simp] def Eu {h t:Hh} (hm:0<m/\m<=10 ^ 20):aF [.ref h.length,.int m] (h++.lst (lX p)::t)=.ok (.int (g8 p m)) (h++.lst (lX (tD p m))::t):=by
 rw[Jj bR hm.1 hm.2,ir]
abbrev Cz (c:Int):Pen:=⟨max c (0 - c),if max c (0 - c) ≥ 10 ^ 18 then 1 else 0,max c (0 - c) % 1000003⟩
@[simp] def Og {c:Int}{h:Hh}:b7 [.int c] h=.ok (.ref h.length) (h++[.lst (lX (Cz c))]):=by
 have s1:sml 10=true:={:_}
 simp[b7,bo,s1,Cz]
@[simp] def M7 {ns:List Int}{h:Hh}:bB [.scr (ns.map D.int),.int 0] h=.ok (.int (ns.headD 0)) h:=by
 cases ns with
 | nil=>simp[bB,bo]
 | cons c r=>simp[bB,bo]
@[simp] def Md {i:Int}{h:Hh}:fX [.int i] h=.ok (.bl Wz) h:=by rfl
@[simp] def Lm {i a b:Int}{h:Hh}:dP [.int i,.int a,.int b] h=.ok (.bl (decide (a<=i/\i<=b))) h:=by
 by_cases z:a<=i<;>simp[dP,bo,z]
abbrev tH {X:Type} (xs:List X) (lo hi:Option Int):List X:=(xs.drop (HT.sIx xs.length 0 lo)).take (HT.sIx xs.length xs.length hi - HT.sIx xs.length 0 lo)
def B9 (f) (xs:List X) (lo hi):cutD (xs.map f) lo hi=(tH xs lo hi).map f:=by
 unfold cutD tH
 simp
def iS {k:Nat}{h:Hh}:∀{ns:List Int},(∀x∈ns,sml x=Wz)->cZ (toPy (k+1) h) (ns.map D.int)=Wx (ns.map RR)
 | [],_=>rfl
 | n::r,hs=>by
  have h1:sml n=true:=hs n Pw
  rw[PC,cZ,iS (ns:=r) fun x hx=>hs x (Po _ hx)]
  simp[toPy,h1]
def km:∀ns:List Int,TZ (ns.map RR)=ns.length
 | []=>rfl
 | n::r=>by rw[PC,TZ,km r,Uv,Qp];lia
def xN (i):∀ns:List Int,((ns.map D.int).any fun d=>eqF d (.int i))=ns.any (· == i)
 | []=>rfl
 | n::r=>by rw[PC,Rc,Rc,xN i r];rfl
def zb (ns:List Int):(ns.map D.int).all d8=true:=by simp[d8]
@[simp] def OS {neg:Bool}{i:Int}{ns:List Int}{h:Hh}:dIn neg (.int i) (.tup (ns.map D.int)) h=.ok (.bl (if neg then !(ns.any (· == i)) else ns.any (· == i))) h:=by
 simp only[dIn,eJ,d8,zb,and_self,if_true,xN]
abbrev xi (xs:List Int):List Nat:=(Py (xs.length - 1)).filter fun i=>decide (gI xs (i+1)<gI xs i)
abbrev bj (xs:List Int):List Int:=(xi xs).map fun(i:Nat)=>(i:Int)
def pM {xs:List Int}{h:Hh}{d:D} (hd:∀(i:Int),dIx d (.int i) h=ixK (xs.map D.int) i h):cN (aJ asB (av dGt (av dIx (af 1) (af 0)) (av dIx (af 1) (av (bS aI) (af 0) (cC (.int 1)))))) (af 0) (fun x=>[Wx x,Wx d]) (bD 0 (xs.length - 1)) h=.ok ((bj xs).map D.int) h:=by
 rw[tT (fun i=>decide (gI xs (i+1)<gI xs i)) (fun i=>D.int i)]
 ·simp[bj,xi,QV]
 ·intro i hi
  have e1:ixK (xs.map D.int) (i:Int) h=.ok (.int (gI xs i)) h:=jE rfl {}
  have e2:ixK (xs.map D.int) ((i:Int)+1) h=.ok (.int (gI xs (i+1))) h:=jE {} {}
  simp_all
def AB (w:Wf h) (p):Wf (h++[.lst (lX p)]):=w.app rfl
def JG (p) (m) (h:0<m):∃k:Nat,g8 p m=(k:Int)/\(k:Int)<m:=by
 have h0:=EO p h
 have h1:=CY p h
 exact⟨(g8 p m).toNat,{},{}⟩
def zj (ns) (lo hi):cutD (ns.map D.int) lo hi=(tH ns lo hi).map D.int:=B9 _ _ _ _
def EW (xs:List X) (lo hi):(tH xs lo hi).length<=xs.length:=by
 unfold tH;grind
def pQ (k:Nat) (h:Hh):∀xs ys:List Int,eqL (eqD (k+1) h) (xs.map D.int) (ys.map D.int)=Wx (decide (xs=ys))
 | [],[]=>rfl
 | [],y::ys=>rfl
 | x::xs,[]=>rfl
 | x::xs,y::ys=>by
  have ih:=pQ k h xs ys
  have e1:eqD (k+1) h (.int x) (.int y)=Wx (x == y):=rfl
  simp only[PC,eqL,e1,ih]
  by_cases a:x=y<;>by_cases b:xs=ys<;>simp[a,b]
section
variable {env:En}{h:Hh}
@[simp] def Pf:up m env h=noR (m env h):=V1 rfl rfl
@[simp] def Bv {f:β->Hh->R γ}:(R.err x h:R β).bind f=.err x h:=V1 rfl rfl
@[simp] def Mc:vy x env h=.err ⟨x,[]⟩ h:=V1 rfl rfl
def Dv (e:mb env h=.ok fl h'):pf mb mr env h=.ok fl h':=by unfold pf;rw[e]
def Iv (w:Wf h) (e:mb env h=.err x h) (c:bC.contains x.cls=Wz) (r:mr [.exc x.cls x.fs] h=.ok d h):pf mb mr env h=.ok (.rt d) h:=by
 unfold pf
 rw[e]
 have w':(h.take h.length).all (jO h.length)=true:=by rw[List.take_length];exact w
 simp_all
end
structure Ord (n) (xs:List Int):Prop where
 len:xs.length=n
 nd:xs.Nodup
 lo:∀x∈xs,0<=x
 hi:∀x∈xs,x<n
abbrev dQ (lo:Int) (n:Nat):List Int:=(Py n).map fun(i:Nat)=>lo+i
def D8 (lo:Int) (n:Nat):bD lo n=(dQ lo n).map D.int:=by simp[bD,dQ,QV]
def mS (lo) (n):(dQ lo n).length=n:=by simp[dQ]
def gD (n):Ord n (dQ 0 n):=by
 refine⟨mS _ _,?_,?_,?_⟩
 ·unfold dQ List.Nodup
  rw[RC]
  exact U4.imp (fun{a b} h e=>h {}) U_
 ·intro x hx;simp[dQ] at hx;lia
 ·intro x hx;simp[dQ] at hx;lia
abbrev sg (f:Nat->Int) (n:Nat):Int:=((Py n).map f).sum
def FD (f:Nat->Int):sg f 0=0:=rfl
def AY (l:List Int) (x:Int):(l++[x]).sum=l.sum+x:=by
 induction l with
 | nil=>simp
 | cons a l ih=>simp only[List.cons_append,Uk,ih];lia
def nE (f:Nat->Int) (n:Nat):sg f (n+1)=sg f n+f n:=by
 unfold sg
 rw[Ss,Uu]
 exact AY _ _
def gO {f g:Nat->Int}:∀{n:Nat},(∀i,i<n->f i=g i)->sg f n=sg g n
 | 0,_=>rfl
 | n+1,h=>by rw[nE,nE,gO fun i hi=>h i {},h n {}]
def rD {f:Nat->Int}{n:Nat} (h:∀i,i<n->f i=0):sg f n=0:=by
 induction n with
 | zero=>rfl
 | succ n ih=>rw[nE,ih fun i hi=>h i {},h n {}];rfl
def CJ (f:Nat->Int) (p:Nat):∀q,sg f (p+q)=sg f p+sg (fun i=>f (p+i)) q
 | 0=>by simp[FD]
 | q+1=>by rw[<- VQ,nE,CJ f p q,nE];lia
abbrev lss (r:Nat) (l:Int):Int:=if (r:Int)<l then 1 else 0
abbrev Rn:Nat->Int->Int->Int
 | 0,_,f=>if f=0 then 1 else 0
 | m+1,l,f=>sg (fun r=>Rn m r (f - lss r l)) (m+1)
def wX (r:Nat) (l:Int):0<=lss r l/\lss r l<=1:=by unfold lss;split<;>lia
def wx:∀(m:Nat) (l f:Int),f<0->Rn m l f=0
 | 0,l,f,h=>if_neg {}
 | m+1,l,f,h=>rD fun r _=>wx m r _ (by have:=wX r l;lia)
def wQ:∀(m:Nat) (l f:Int),(m:Int)<f->Rn m l f=0
 | 0,l,f,h=>if_neg {}
 | m+1,l,f,h=>rD fun r _=>wQ m r _ (by have:=wX r l;lia)
def GD {f:Nat->Int}{B:Nat}:∀{n:Nat},(∀i,i<n->0<=f i/\f i<=B)->0<=sg f n/\sg f n<=(n*B:Nat)
 | 0,_=>by simp[FD]
 | n+1,h=>by
  have ih:=GD (n:=n) fun i hi=>h i {}
  have:=h n {}
  rw[nE,Nat.succ_mul]
  lia
abbrev Ja:Nat->Nat
 | 0=>1
 | n+1=>(n+1)*Ja n
def GK:∀(m:Nat) (l f:Int),0<=Rn m l f/\Rn m l f<=Ja m
 | 0,l,f=>by unfold Rn Ja;split<;>lia
 | m+1,l,f=>GD fun r _=>GK m r _
abbrev cK (m:Nat) (l:Int):List Int:=(Py (m+1)).map fun(f:Nat)=>Rn m l f
def g7 (m:Nat) (l:Int):(cK m l).length=m+1:=by simp[cK]
def qQ {m:Nat}{l:Int}{f:Nat} (h:f<=m):gI (cK m l) f=Rn m l f:=by
 rw[c_ (by rw[g7];lia)];simp[cK]
abbrev c3 (m:Nat):List (List Int):=(Py (m+1)).map fun(l:Nat)=>cK m l
def u9 (m:Nat):(c3 m).length=m+1:=by simp[c3]
abbrev f1 (xs:List Int):D:=.frl (xs.map D.int)
abbrev f2 (xss:List (List Int)):D:=.frl (xss.map f1)
def HA (hj:j<l.length):gI (l.set i v) j=if i=j then v else gI l j:=by
 rw[c_ (by simp_all),c_ hj,List.getElem_set]
def Gj (h:xs.length=ys.length) (e:∀i,i<xs.length->gI xs i=gI ys i):xs=ys:=by
 refine T_ h fun i h1 h2=>?_
 have:=e i h1
 rwa [c_ h1,c_ h2] at this
def IK {j:Nat} (e:aq h n=Wx (ns.map D.int)) (hi:i=(j:Int)) (hj:j<ns.length):BN (.ref n) (.int i) h=.ok (.int (gI ns j)) h:=by
 have:=jE (ns:=ns) (h:=h) hi hj
 delta BN;dsimp only;rw[mU e];lia
def FP (L:List (List Int)):dN (L.map f1)=(Py L.length).map fun(i:Nat)=>D.tup [.int i,f1 (L.getD i [])]:=by
 unfold dN
 simp_all
abbrev RIB:MS:=(qY (af 2) (av (bS aI) (af 6) (af 5)) (af 7))
abbrev ROB:MS:=(aH (aW 5 (cIf (aJ asB (av dLt (af 3) (af 1))) (cC (.int 1)) (cC (.int 0)))) (cD (kf (af 4)) (gT2 6 7) RIB))
def LM:bL=fun ds h=>((bG 8 (aH (aW 2 (av (qW kC) (ah (c4 aI) (aa (cC (.int 0)) ak)) (av (bS aI) (ah cU (aa (af 0) ak)) (cC (.int 1))))) (aH (cD (kf (af 0)) (gT2 3 4) ROB) (a9 (af 2))))) ds h).bind (bg h):=rfl
def Cb {m i:Nat}{l:Int}{c:List Int}{h:Hh}{d0 d1 d3 d4 y6 y7:Option D} (hc:c.length=m+2) (hi:i<=m) (hm:m<=20):∃c' y6' y7',c'.length=m+2/\(∀f,f<m+2->gI c' f=gI c f+Rn m i ((f:Int) - lss i l))/\cx (gT2 6 7) RIB (dN ((cK m i).map D.int)) [d0,d1,Wx (.ref h.length),d3,d4,Wx (.int (lss i l)),y6,y7] (h++[.lst (c.map D.int)])=.ok (.nx [d0,d1,Wx (.ref h.length),d3,d4,Wx (.int (lss i l)),y6',y7']) (h++[.lst (c'.map D.int)]):=by
 have l01:=wX i l
 obtain⟨t,ht⟩:∃t:Nat,lss i l=(t:Int):=⟨(lss i l).toNat,{}⟩
 have t1:t<=1:={}
 rw[ht,Az,g7]
 obtain⟨q,q2⟩:=xy (σ:=List Int × Option D × Option D) (tg:=gT2 6 7) (body:=RIB) (fun(j:Nat)=>D.tup [.int j,.int (gI (cK m i) j)]) (m+1) (fun s=>[d0,d1,Wx (.ref h.length),d3,d4,Wx (.int t),s.2.1,s.2.2]) (fun s=>h++[.lst (s.1.map D.int)]) (fun s j=>(s.1.set (j+t) (gI s.1 (j+t)+gI (cK m i) j),Wx (.int j),Wx (.int (gI (cK m i) j))))
  (fun j s=>s.1.length=m+2/\∀f,f<m+2->gI s.1 f=gI c f+if (f:Int) - t<j then Rn m i ((f:Int) - t) else 0) (c,y6,y7) ⟨hc,fun f hf=>by
   by_cases z:(f:Int) - t<((0:Nat):Int)
   ·rw[if_pos z,wx _ _ _ {}];simp
   grind⟩ (fun j s hj ⟨sl,sv⟩=>by
   refine⟨⟨by simp[sl],fun f hf=>?_⟩,.inl ?_⟩
   ·dsimp only
    rw[HA {}]
    by_cases e:j+t=f
    ·subst e
     rw[if_pos rfl,sv _ hf,qQ {},if_neg {},if_pos {},show(((j+t:Nat):Int)) - t=j by lia]
     lia
    grind
   ·have ij:(j:Int)+(t:Int)=((j+t:Nat):Int):={}
    have x1:=IK (n:=h.length) (ns:=s.1) (i:=((j+t:Nat):Int)) (j:=j+t) (h:=h++[.lst (s.1.map D.int)]) bR rfl {}
    have n2:ixN (s.1.map D.int).length ((j+t:Nat):Int)=Wx (j+t):=by rw[PR];exact F4 rfl {}
    have st:f_ (.ref h.length) (.int ((j+t:Nat):Int)) (.int (gI s.1 (j+t)+gI (cK m i) j)) (h++[.lst (s.1.map D.int)])=.ok () (h++[.lst ((s.1.set (j+t) (gI s.1 (j+t)+gI (cK m i) j)).map D.int)]):=by
     rw[mq bR n2,ir,List.map_set]
    generalize gI (cK m i) j=v at *
    generalize ((j+t:Nat):Int)=w at *
    generalize j+t=w' at *
    simp[RIB,ij,x1,st])
 obtain⟨sl,sv⟩:=q2
 exact⟨_,_,_,sl,fun f hf=>by
  rw[sv f hf]
  by_cases z:(f:Int) - t<((m+1:Nat):Int)
  ·lia
  ·rw[if_neg z,wQ _ _ _ {}],q⟩
def ES {m:Nat}{l:Int}{h:Hh} (hm:m<=20) (w:Wf h):bL [f2 (c3 m),.int l] h=.ok (f1 (cK (m+1) l)) h:=by
 have key:∀(j i:Nat) (c:List Int) (y3 y4 y5 y6 y7:Option D),i+j=m+1->c.length=m+2->(∀f,f<m+2->gI c f=sg (fun r=>Rn m r ((f:Int) - lss r l)) i)->∃c' z3 z4 z5 z6 z7,c'.length=m+2/\(∀f,f<m+2->gI c' f=sg (fun r=>Rn m r ((f:Int) - lss r l)) (m+1)) ∧
   cx (gT2 3 4) ROB ((U1 i j).map fun(i:Nat)=>D.tup [.int i,f1 (cK m i)]) [Wx (f2 (c3 m)),Wx (.int l),Wx (.ref h.length),y3,y4,y5,y6,y7] (h++[.lst (c.map D.int)])=.ok (.nx [Wx (f2 (c3 m)),Wx (.int l),Wx (.ref h.length),z3,z4,z5,z6,z7]) (h++[.lst (c'.map D.int)]):=by
  intro j
  induction j with
  | zero=>
   intro i c y3 y4 y5 y6 y7 e hc hv
   have:i=m+1:={}
   subst this
   exact⟨c,y3,y4,y5,y6,y7,hc,hv,rfl⟩
  | succ j ih=>
   intro i c y3 y4 y5 y6 y7 e hc hv
   obtain⟨c1,z6,z7,l1,v1,q1⟩:=Cb (m:=m) (i:=i) (l:=l) (c:=c) (h:=h) (d0:=Wx (f2 (c3 m))) (d1:=Wx (.int l)) (d3:=Wx (.int i)) (d4:=Wx (f1 (cK m i))) (y6:=y6) (y7:=y7) hc {} hm
   obtain⟨c',w3,w4,w5,w6,w7,lc,vc,qc⟩:=ih (i+1) c1 (Wx (.int i)) (Wx (f1 (cK m i))) (Wx (.int (lss i l))) z6 z7 {} l1 (fun f hf=>by rw[v1 f hf,hv f hf,nE])
   refine⟨c',w3,w4,w5,w6,w7,lc,vc,?_⟩
   rw[List.range'_succ,PC,fJ]
   have b:ROB [Wx (f2 (c3 m)),Wx (.int l),Wx (.ref h.length),Wx (.int i),Wx (f1 (cK m i)),y5,y6,y7] (h++[.lst (c.map D.int)])=.ok (.nx [Wx (f2 (c3 m)),Wx (.int l),Wx (.ref h.length),Wx (.int i),Wx (f1 (cK m i)),Wx (.int (lss i l)),z6,z7]) (h++[.lst (c1.map D.int)]):=by
    have eE:nW (f1 (cK m i)) (h++[.lst (c.map D.int)])=.ok (.snap (dN ((cK m i).map D.int))) (h++[.lst (c.map D.int)]):=rfl
    by_cases z:(i:Int)<l
    ·have le:lss i l=1:=if_pos z
     rw[le] at q1 ⊢
     simp[ROB,z,eE,q1]
    ·have le:lss i l=0:=if_neg z
     rw[le] at q1 ⊢
     simp[ROB,z,eE,q1]
   simp[b,qc]
 obtain⟨c',z3,z4,z5,z6,z7,lc,vc,q⟩:=key (m+1) 0 (PY (m+2) 0) Wy Wy Wy Wy Wy {} {..} (fun f hf=>by rw[FD,c_ (by simp_all)];simp)
 have ce:c'=cK (m+1) l:=Gj (by rw[lc,g7]) fun f hf=>by
  rw[lc] at hf
  rw[vc f hf,qQ {}];rfl
 subst ce
 have en:nW (f2 (c3 m)) (h++[.lst (PY (m+2) (.int 0))])=.ok (.snap ((U1 0 (m+1)).map fun(i:Nat)=>D.tup [.int i,f1 (cK m i)])) (h++[.lst (PY (m+2) (.int 0))]):=by
  show R.ok (Src.snap (dN ((c3 m).map f1))) _=_
  rw[FP,u9,<- RW]
  congr 2
  refine Q4 fun i hi=>?_
  have hi:=QX.mp hi
  simp[c3,hi]
 have ex:=qg (h:=h) (ds:=(cK (m+1) l).map D.int) (t:=[]) w {..}
 have ll:cU [f2 (c3 m)] h=.ok (.int ((m+1:Nat):Int)) h:=by
  show R.ok (D.int (((c3 m).map f1).length:Int)) h=_
  rw[PR,u9]
 have z1:(((m+1:Nat):Int)+1).toNat=m+2:={}
 have z2:m+2<=1000000:={}
 have z3:(((m+1:Nat):Int)+1).natAbs<=1000000:={}
 have z4:1<=(((m+1:Nat):Int)+1):={}
 rw[List.map_replicate] at q
 rw[LM]
 generalize f2 (c3 m)=FT at *
 show _=R.ok (D.frl ((cK (m+1) l).map D.int)) h
 generalize (cK (m+1) l).map D.int=W at *
 simp[-Uw,bo,ll,z1,z2,z3,z4,en,q,ex]
abbrev rsD (k:Nat):List D:=(Py (k+1)).map fun j=>f2 (c3 j)
def JJ (k:Nat):rsD (k+1)=rsD k++[f2 (c3 (k+1))]:=by simp[rsD,Ss]
def rE (k):(rsD k).length=k+1:=by simp[rsD]
def Hc {k j:Nat} (e:i=(j:Int)) (hj:j<=k):ixK (rsD k) i h=.ok (f2 (c3 j)) h:=jh e (by rw[rsD,P5,SY {}];rfl)
def Fd:ixK (rsD k) (-1) h=.ok (f2 (c3 k)) h:=by
 have e:ixN (rsD k).length (-1)=Wx k:=by rw[rE];unfold ixN;grind
 unfold ixK atI
 rw[e]
 have:(rsD k)[k]?=Wx (f2 (c3 k)):=by simp[rsD]
 grind
abbrev RSB:MS:=(eg (dW df (af 1) (aa (c7 aI (dX fq (aa (av (bS aI) (af 2) (cC (.int 1))) ak)) [1] tt1 (ah bL (aa (av dIx (af 1) (cUn tQ (cC (.int 1)))) (aa (af 0) ak)))) ak)))
def Kb:eN=fun ds h=>((bG 3 (aH (aW 1 (ah (c4 kC) (aa (ah (c4 aI) (aa (ah (c4 aI) (aa (cC (.int 1)) ak)) ak)) ak))) (aH (cD (dX qz (aa (cC (.int 1)) (aa (av (bS aI) (af 0) (cC (.int 1))) ak))) (gN 2) RSB) (a9 (af 1))))) ds h).bind (bg h):=rfl
def BB {n:Nat}{h:Hh} (hn:n<=12) (w:Wf h):eN [.int n] h=.ok (.frl (rsD n)) h:=by
 have low:∀k j,a8 j (rsD k)=true:=fun k j=>kQ fun d hd=>by
  obtain⟨i,_,rfl⟩:=Qi.mp hd
  show a8 j ((c3 i).map f1)=Wz
  exact kG fun b=>by show a8 j (b.map D.int)=Wz;simp
 obtain⟨q,e⟩:=Dh (σ:=Nat × Option D) (tg:=gN 2) (body:=RSB) 1 n (fun s=>[Wx (.int n),Wx (.ref h.length),s.2]) (fun s=>h++[.lst (rsD s.1)]) (fun s i=>(i+1,Wx (.int (1+i)))) (fun i s=>s.1=i) (0,Wy) rfl (fun i s hi hs=>⟨rfl,.inl (by
   subst hs
   obtain⟨i,y⟩:=s
   dsimp only at hi ⊢
   have c:cN tt1 (ah bL (aa (av dIx (af 1) (cUn tQ (cC (.int 1)))) (aa (af 0) ak))) (fun x=>[Wx x,Wx (.ref h.length)]) (bD 0 (i+2)) (h++[.lst (rsD i)])=.ok ((c3 (i+1)).map f1) (h++[.lst (rsD i)]):=by
    have w2:Wf (h++[.lst (rsD i)]):=w.app (by show a8 _ _=Wz;simp_all)
    rw[zo (fun j=>f1 (cK (i+1) j)) (fun j hj=>by
     have r:=ES (m:=i) (l:=(j:Int)) (h:=h++[.lst (rsD i)]) {} w2
     simp[Fd,r]),c3,QV]
    rfl
   have z1:(1+(i:Int)+1).natAbs<=1000000:={}
   have z2:(1+(i:Int)+1).toNat=i+2:={}
   have z3:i+2<=1000000:={}
   have z4:(rsD i).length<1000000:=by rw[rE];lia
   rw[JJ]
   show _=R.ok (Fl.nx [Wx (.int n),Wx (.ref h.length),Wx (.int (1+i))]) (h++[.lst (rsD i++[.frl ((c3 (i+1)).map f1)])])
   generalize (c3 (i+1)).map f1=W at *
   generalize rsD i=V at *
   simp[RSB,z1,z2,z3,z4,c])⟩)
 generalize Wc _ _ _=s9 at q e
 obtain⟨i9,y9⟩:=s9
 dsimp only at q e
 subst e
 have dp:(rsD i9).all (deep 7)=true:=by
  rw[PX]
  intro d hd
  obtain⟨j,_,rfl⟩:=Qi.mp hd
  simp[f2,f1,deep,PX]
 have ex:=qg (h:=h) (ds:=rsD i9) (t:=[]) w dp
 have r0:rsD 0=[.frl [.frl [.int 1]]]:=rfl
 rw[r0] at q
 have z1:(i9:Int)+1 - 1=i9:={}
 have z2:i9<=1000000:={}
 have z3:((i9:Int)+1).natAbs<=1000000:={}
 rw[Kb]
 generalize rsD i9=V at *
 simp[bo,z1,z2,z3,q,ex]
structure Beg (n) (xs:List Int):Prop where
 len:xs.length<=n
 nd:xs.Nodup
 lo:∀x∈xs,0<=x
 hi:∀x∈xs,x<n
def Beg.nil (n:Nat):Beg n []:=⟨QJ _,Vv,fun _ h=>(nomatch h),fun _ h=>(nomatch h)⟩
abbrev hV (r:Int->Bool) (l:List Int):Nat:=(l.filter r).length
def fL (r) (x) (l):hV r (x::l)=(if r x=Wz then 1 else 0)+hV r l:=by
 unfold hV;grind
def Cw (r:Int->Bool) (v):∀l:List Int,hV (fun x=>r x&&decide (x<v+1)) l=hV (fun x=>r x&&decide (x<v)) l+hV (fun x=>r x&&decide (x=v)) l
 | []=>rfl
 | x::l=>by
  rw[fL,fL,fL,Cw r v l]
  grind
def wO {r:Int->Bool}:∀{l:List Int},(∀x∈l,r x=WA)->hV r l=0
 | [],_=>rfl
 | x::l,h=>by rw[fL,h x Pw,wO fun y hy=>h y (Po _ hy)];rfl
def vB {r:Int->Bool}{v:Int}:∀{l:List Int},l.Nodup->hV (fun x=>r x&&decide (x=v)) l=if v∈l/\r v=Wz then 1 else 0
 | [],_=>by rfl
 | x::l,nd=>by
  obtain⟨n1,n2⟩:=Qs.mp nd
  rw[fL,vB n2]
  grind
def qG {n:Nat}{xs:List Int} (b:Beg n xs):∀v:Nat,v<=n->hV (fun x=>!(xs.any (· == x))&&decide (x<(v:Int))) (dQ 0 n)+hV (fun x=>Wz&&decide (x<(v:Int))) xs=v
 | 0,_=>by
  rw[wO,wO]
  ·intro x hx;have:=b.lo x hx;grind
  ·intro x hx;have:=(gD n).lo x hx;grind
 | v+1,hv=>by
  have ih:=qG b v {}
  have e:((v+1:Nat):Int)=(v:Int)+1:={}
  rw[e,Cw,Cw,vB (gD n).nd,vB b.nd]
  have m:(v:Int)∈dQ 0 n:=Qi.mpr ⟨v,QX.mpr {},{}⟩
  grind
abbrev cH (xs:List Int):Int:=gI xs (xs.length - 1)
abbrev lwI (xs:List Int):Int:=if xs.length=0 then 0 else cH xs - ((xs.filter fun x=>decide (x<cH xs)).length:Int)
abbrev bE (n:Nat) (xs:List Int):List Int:=(dQ 0 n).filter fun x=>!(xs.any (· == x))
def EY (h:xs.length≠0):cH xs∈xs:=by
 unfold cH;rw[c_ {}];simp
def gJ (b:Beg n xs):(bE n xs).length=n - xs.length:=by
 have:=qG b n (Pt _)
 have e1:hV (fun x=>!(xs.any (· == x))&&decide (x<(n:Int))) (dQ 0 n)=(bE n xs).length:=by
  unfold hV bE
  rw[TU]
  intro x hx;have:=(gD n).hi x hx;grind
 have e2:hV (fun x=>Wz&&decide (x<(n:Int))) xs=xs.length:=by
  unfold hV
  rw[Uq.mpr]
  intro x hx;have:=b.hi x hx;grind
 lia
def oj (b:Beg n xs) (h:xs.length≠0):(((bE n xs).filter fun x=>decide (x<cH xs)).length:Int)=lwI xs:=by
 have m:=EY h
 have h0:=b.lo _ m
 have h1:=b.hi _ m
 have:=qG b (cH xs).toNat {}
 rw[show(((cH xs).toNat:Nat):Int)=cH xs by lia] at this
 have e1:hV (fun x=>!(xs.any (· == x))&&decide (x<cH xs)) (dQ 0 n)=((bE n xs).filter fun x=>decide (x<cH xs)).length:=by
  unfold hV bE
  rw[UD]
  congr 2
  grind
 have e2:hV (fun x=>Wz&&decide (x<cH xs)) xs=(xs.filter fun x=>decide (x<cH xs)).length:=by
  rfl
 unfold lwI
 lia
def Lx (b:Beg n xs):0<=lwI xs/\lwI xs<=((n - xs.length:Nat):Int):=by
 by_cases h:xs.length=0
 ·unfold lwI;lia
 ·rw[<- oj b h,<- gJ b]
  grind
def Beg.snoc (b:Beg n xs) (h:x∈bE n xs):Beg n (xs++[x]):=by
 obtain⟨h1,h2⟩:=RD.mp h
 have nx:x∉xs:=fun z=>by
  grind
 have l:=gJ b
 have lp:=List.length_pos_of_mem h
 refine⟨by grind,List.nodup_append.mpr ⟨b.nd,Qs.mpr ⟨{..},Vv⟩,fun a ha c hc=>?_⟩,fun y hy=>?_,fun y hy=>?_⟩
 ·simp_all
 ·rcases Qr.mp hy with z | z
  ·exact b.lo y z
  ·simp at z;subst z;exact(gD n).lo _ h1
 ·rcases Qr.mp hy with z | z
  ·exact b.hi y z
  ·simp at z;subst z;exact(gD n).hi _ h1
abbrev bcV (n:Nat) (k:Int) (xs:List Int):Int:=Rn (n - xs.length) (lwI xs) (k - ((bj xs).length:Int))
def Gu:0<=bcV n k xs:=(GK _ _ _).1
def By (h1:xs.length≠0):ixK (xs.map D.int) (-1) h=.ok (.int (cH xs)) h:=by
 have e:ixN (xs.map D.int).length (-1)=Wx (xs.length - 1):=by rw[PR];unfold ixN;grind
 unfold ixK atI cH
 rw[e]
 simp[Pz (show xs.length - 1<xs.length by lia),c_ (show xs.length - 1<xs.length by lia)]
def Bc {xs:List Int}{h:Hh} (hl:xs.length<=1000):dh [.tup (xs.map D.int)] h=.ok (.int (lwI xs)) h:=by
 unfold lwI
 by_cases c:xs.length=0
 ·have:xs=[]:=QF c
  subst this
  rfl
 ·rw[if_neg c]
  have c':¬ (xs.length:Int)=0:={}
  have ix:=fun H:Hh=>By (h:=H) c
  have q:cN (aJ asB (av dLt (af 0) (av dIx (af 1) (cUn tQ (cC (.int 1)))))) (af 0) (fun x=>[Wx x,Wx (.tup (xs.map D.int))]) (xs.map D.int) h=.ok ((xs.filter fun x=>decide (x<cH xs)).map D.int) h:=
   comp_map D.int (fun x=>decide (x<cH xs)) D.int xs fun x hx=>⟨by simp[ix],fun _=>{..}⟩
  have c0:¬ xs=[]:=fun z=>c (by grind)
  have z6:xs.length<=1000000:={}
  simp[dh,bo,c,c',c0,ix,q,z6]
def BC {xs:List Int}{h:Hh} (hl:xs.length<=1000):eF [.tup (xs.map D.int)] h=.ok (.tup ((bj xs).map D.int)) h:=by
 by_cases c:xs.length=0
 ·have:xs=[]:=QF c
  subst this
  rfl
 ·have z1:((xs.length:Int) - 1).natAbs<=1000000:={}
  have z2:((xs.length:Int) - 1).toNat=xs.length - 1:={}
  have z3:xs.length - 1<=1000000:={}
  have q:=pM (xs:=xs) (h:=h) (d:=.tup (xs.map D.int)) (fun i=>Gm)
  simp[eF,bo,z1,z2,z3,q]
def J0 {n:Nat}{k:Int}{xs:List Int}{h:Hh} (b:Beg n xs) (hn:n<=12):aQ [.frl (rsD n),.int k,.tup (xs.map D.int)] h=.ok (.int (bcV n k xs)) h:=by
 unfold bcV
 have bl:=b.len
 obtain⟨l0,l1⟩:=Lx b
 obtain⟨m,hm⟩:∃m,n - xs.length=m:=⟨_,rfl⟩
 rw[hm] at l1 ⊢
 have lo:=Bc (xs:=xs) (h:=h) {}
 have fa:=BC (xs:=xs) (h:=h) {}
 have r1:ixK (rsD n) ((n:Int) - xs.length) h=.ok (f2 (c3 m)) h:=Hc {} {}
 generalize lwI xs=a at *
 have r2:dIx (f2 (c3 m)) (.int a) h=.ok (f1 (cK m a)) h:=by
  show ixK ((c3 m).map f1) a h=_
  refine jh (j:=a.toNat) {} ?_
  rw[P5,c3,P5,SY {}]
  grind
 have ll:cU [f1 (cK m a)] h=.ok (.int ((m:Int)+1)) h:=by
  show R.ok (D.int (((cK m a).map D.int).length:Int)) h=_
  rw[PR,g7]
  rfl
 have lr:(rsD n).length=n+1:=rE n
 have zn:((n+1:Nat):Int) - 1 - xs.length=(n:Int) - xs.length:={}
 obtain⟨F,hF⟩:∃F:Int,k - ((bj xs).length:Int)=F:=⟨_,rfl⟩
 rw[hF]
 by_cases c:0<=F/\F<(m:Int)+1
 ·have ix:dIx (f1 (cK m a)) (.int F) h=.ok (.int (Rn m a F)) h:=by
   show ixK ((cK m a).map D.int) F h=_
   rw[jE (j:=F.toNat) {} (by rw[g7];lia),qQ {},show((F.toNat:Nat):Int)=F by lia]
  generalize f1 (cK m a)=W at *
  generalize f2 (c3 m)=V at *
  simp[-Uw,aQ,bo,lr,zn,r1,lo,r2,fa,hF,ll,c.1,c.2,ix]
 ·have e0:Rn m a F=0:=by
   by_cases c0:0<=F
   ·exact wQ _ _ _ {}
   ·exact wx _ _ _ {}
  rw[e0]
  generalize f1 (cK m a)=W at *
  generalize f2 (c3 m)=V at *
  by_cases c0:0<=F
  ·have c1:¬ F<(m:Int)+1:=fun z=>c ⟨c0,z⟩
   simp[-Uw,aQ,bo,lr,zn,r1,lo,r2,fa,hF,ll,c0,c1]
  ·simp[-Uw,aQ,bo,lr,zn,r1,lo,r2,fa,hF,ll,c0]
def j9 {n:Nat}{k:Int}{h:Hh} (hn:n<=12) (w:Wf h):bq [.int n,.int k] h=.ok (.clo "begun_count" [.frl (rsD n),.int k]) h:=by
 have r:=BB (n:=n) (h:=h) hn w
 delta bq FF
 simp[r,vQ]
def Ee:fW tab f a env h=(f env h).bind fun d h1=>match d with
 | .clo x ds=>match tab x with
  | some (np,m)=>if ds.length+1=np then (a env h1).bind fun es h2=>m (ds++es) h2 else .bad
  | none=>.bad
 | _=>.bad:=rfl
abbrev tpl (xs:List Int):D:=.tup (xs.map D.int)
def zU {n:Nat}{xs:List Int}{h:Hh} (hl:xs.length<=1000):cN (aJ asB (av (dIn Wz) (af 0) (af 1))) (av (bS aI) (af 1) (ah cu (aa (af 0) ak))) (fun x=>[Wx x,Wx (.tup (xs.map D.int))]) (bD 0 n) h=.ok ((bE n xs).map fun x=>tpl (xs++[x])) h:=by
 rw[D8,comp_map D.int (fun x=>!(xs.any (· == x))) (fun x=>tpl (xs++[x])) (dQ 0 n) fun x hx=>⟨{..},fun _=>by
  have z:xs.length+1<=1000000:={}
  simp[tpl,z]⟩]
 rfl
def F5 {σ:Type} (enc:Nat->D) (N) (E:σ->En) (G:σ->Hh) (I:Nat->σ->Prop) (hr:∀s i,i<N->rd (G s) i=Wx (Wx (enc i))) (hr2:∀s,rd (G s) N=Wx Wy)
  (st:∀i s,i<N->I i s->∃s',I (i+1) s'/\(tg (enc i) (E s) (G s)).bind body=.ok (.nx (E s')) (G s')) :
  ∀k i s , i+k=N->I i s->∃s',eV rd tg body k i (E s) (G s)=.ok (.nx (E s')) (G s')/\I N s':=by
 intro k
 induction k with
 | zero=>
  intro i s e hi
  have:i=N:={}
  subst this
  refine⟨s,?_,hi⟩
  unfold eV
  rw[hr2]
 | succ k ih=>
  intro i s e hi
  obtain⟨s1,a,b⟩:=st i s {} hi
  obtain⟨s2,c,d⟩:=ih (i+1) s1 {} a
  refine⟨s2,?_,d⟩
  unfold eV
  rw[hr s i {}]
  show(tg (enc i) (E s) (G s)).bind (fun e1 h1=>(body e1 h1).bind _)=_
  rw[<- bA,b]
  exact c
def rK {σ:Type} (enc) (N) (E:σ->En) (G:σ->Hh) (I:Nat->σ->Prop)
  (st:∀i s,i<N->I i s->∃s',I (i+1) s'/\(tg (enc i) (E s) (G s)).bind body=.ok (.nx (E s')) (G s')) :
  ∀k i s , i+k=N->I i s->∃s',cx tg body ((U1 i k).map enc) (E s) (G s)=.ok (.nx (E s')) (G s')/\I N s':=by
 intro k
 induction k with
 | zero=>
  intro i s e hi
  have:i=N:={}
  subst this
  exact⟨s,rfl,hi⟩
 | succ k ih=>
  intro i s e hi
  obtain⟨s1,a,b⟩:=st i s {} hi
  obtain⟨s2,c,d⟩:=ih (i+1) s1 {} a
  refine⟨s2,?_,d⟩
  rw[List.range'_succ,PC,cx,<- bA,b]
  exact c
def vH {v:Int}:∀{L:List Int},L.Pairwise (· < ·)->∀(r:Nat) (hr:r<L.length),L[r]<v↔r<(L.filter fun x=>decide (x<v)).length
 | [],_,r,hr=>by grind
 | a::L,so,r,hr=>by
  obtain⟨h1,h2⟩:=Qe.mp so
  by_cases c:a<v
  ·rw[Rt,if_pos (by simp_all),Qp]
   cases r with
   | zero=>simp[c]
   | succ r=>
    have:=vH (v:=v) h2 r (by simp_all)
    simp_all
  ·have e:(a::L).filter (fun x=>decide (x<v))=[]:=by
    rw[Tz]
    grind
   rw[e]
   have:¬ (a::L)[r]<v:=by
    have hm:=SS hr
    grind
   grind
def Ky {L:List Int} (so:L.Pairwise (· < ·)) (r) (hr):(L.filter fun x=>decide (x<L[r])).length=r:=by
 have h:=fun s hs=>vH (v:=L[r]) so s hs
 have lt:∀s (hs:s<L.length),L[s]<L[r]↔s<r:=fun s hs=>by
  constructor
  ·grind
  ·intro z;exact PZ.mp so s r hs hr z
 generalize (L.filter fun x=>decide (x<L[r])).length=c at h
 by_cases c1:c<r
 ·grind
 grind
def LU (n):(dQ 0 n).Pairwise (· < ·):=by
 unfold dQ
 rw[RC]
 exact U4.imp (fun{a b} h=>{}) List.pairwise_lt_range
def xG (n) (xs):(bE n xs).Pairwise (· < ·):=(LU n).filter _
def zN:bE n (xs++[x])=(bE n xs).filter fun y=>!(x == y):=by
 unfold bE
 rw[UD]
 grind
def rN (h:i<xs.length):gI (xs++ys) i=gI xs i:=by
 rw[c_ (by grind),c_ h,List.getElem_append_left h]
def Bj:gI (xs++[x]) xs.length=x:=by
 rw[c_ {..},List.getElem_append_right (Pt _)];simp
def Ax:cH (xs++[x])=x:=by
 unfold cH;rw[P_];exact Bj
def vY:(bj (xs++[x])).length=(bj xs).length+(if xs.length≠0/\x<cH xs then 1 else 0):=by
 unfold bj xi
 rw[PR,PR,P_]
 show((Py xs.length).filter _).length=_
 cases hl:xs.length with
 | zero=>simp
 | succ m=>
  rw[Ss,List.filter_append,P_,show m+1 - 1=m from rfl]
  congr 1
  ·congr 1
   refine TU fun i hi=>?_
   have hi:=QX.mp hi
   rw[rN {},rN {}]
  ·have e1:gI (xs++[x]) (m+1)=x:=by rw[<- hl];exact Bj
   have e2:gI (xs++[x]) m=cH xs:=by unfold cH;rw[rN {},hl];rfl
   grind
structure Cnt (n) (B:List Int->Int):Prop where
 pos:∀xs,Beg n xs->0<=B xs
 sum:∀xs,Beg n xs->xs.length<n->B xs=((bE n xs).map fun x=>B (xs++[x])).sum
def Fs {α:Type} (L) (f:Int->α):L.map f=(Py L.length).map fun i=>f (gI L i):=by
 refine T_ {..} fun i h1 h2=>?_
 rw[PR] at h1
 simp[c_ h1]
def f7 (n) (k):Cnt n (bcV n k):=by
 refine⟨fun xs _=>Gu,fun xs b hl=>?_⟩
 have ll:=gJ b
 obtain⟨m,hm⟩:∃m,n - xs.length=m+1:=⟨n - xs.length - 1,{}⟩
 rw[hm] at ll
 have so:=xG n xs
 rw[Fs,ll]
 unfold bcV
 rw[hm]
 show sg (fun r=>Rn m r (k - ((bj xs).length:Int) - lss r (lwI xs))) (m+1)=_
 unfold sg
 congr 1
 refine Q4 fun r hr=>?_
 have hr:=QX.mp hr
 have hr':r<(bE n xs).length:={}
 obtain⟨x,hx⟩:∃x,gI (bE n xs) r=x:=⟨_,rfl⟩
 rw[hx]
 have hx':(bE n xs)[r]=x:=by rw[<- hx,c_ hr']
 have xin:x∈bE n xs:=hx' ▸ SS hr'
 have b2:=b.snoc xin
 have e1:lwI (xs++[x])=r:=by
  rw[<- oj b2 {..},Ax,zN,UD]
  have:((bE n xs).filter fun y=>decide (y<x)&&!(x == y))=(bE n xs).filter fun y=>decide (y<x):=TU fun y _=>by
   grind
  rw[this]
  have:=Ky so r hr'
  simp_all
 have e2:((bj (xs++[x])).length:Int)=((bj xs).length:Int)+lss r (lwI xs):=by
  rw[vY]
  by_cases c:xs.length=0
  ·have:lwI xs=0:=if_pos c
   rw[this]
   have:lss r 0=0:=if_neg {}
   simp_all
  ·rw[<- oj b c]
   have:=vH (v:=cH xs) so r hr'
   rw[hx'] at this
   unfold lss
   grind
 grind
def mD (h:xs.length=n):bcV n k xs=if k=((bj xs).length:Int) then 1 else 0:=by
 unfold bcV
 rw[show n - xs.length=0 by lia]
 unfold Rn
 lia
abbrev nxB (n:Nat) (B:List Int->Int) (xs:List Int):List Int:=(bE n xs).filter fun x=>decide (0<B (xs++[x]))
abbrev uV (B:List Int->Int) (xs l:List Int):Int:=(l.map fun x=>B (xs++[x])).sum
def hZ:uV B xs (x::l)=B (xs++[x])+uV B xs l:=by rfl
def x8 {B:List Int->Int}{xs:List Int}:∀{l:List Int},(∀x∈l,0<=B (xs++[x]))->0<=uV B xs l
 | [],_=>Int.le_refl _
 | x::l,h=>by
  rw[hZ]
  have:=h x Pw
  have:=x8 (l:=l) fun y hy=>h y (Po _ hy)
  lia
def A8:∀{l:List Int},(∀x∈l,0<=B (xs++[x]))->uV B xs ((l.filter fun x=>decide (0<B (xs++[x]))).filter p)=uV B xs (l.filter p)
 | [],_=>rfl
 | x::l,h=>by
  have h0:=h x Pw
  have ih:=A8 (p:=p) (l:=l) fun y hy=>h y (Po _ hy)
  by_cases c:0<B (xs++[x])
  ·rw[Rt,if_pos (by simp_all),Rt,Rt]
   split
   ·rw[hZ,hZ,ih]
   lia
  ·rw[Rt,if_neg (by simp_all),Rt,ih]
   split
   ·rw[hZ];lia
   ·rfl
section
variable {n:Nat}{B:List Int->Int} (C:Cnt n B)
include C
def Cnt.left (b:Beg n xs):∀x∈bE n xs,0<=B (xs++[x]):=fun x hx=>C.pos _ (b.snoc hx)
def Cnt.nx (b:Beg n xs) (hl:xs.length<n):uV B xs (nxB n B xs)=B xs:=by
 rw[C.sum xs b hl]
 have:=A8 (B:=B) (xs:=xs) (p:=fun _=>Wz) (C.left b)
 have e:∀l:List Int,l.filter (fun _=>Wz)=l:=fun l=>Uq.mpr {..}
 rw[e,e] at this
 exact this
end
def JI:(nxB n B xs).Pairwise (· < ·):=(xG n xs).filter _
def l9 (h:x∈nxB n B xs):x∈bE n xs:=(RD.mp h).1
abbrev lF (n:Nat) (B:List Int->Int) (C:D):Prop:=∃x ds np m,C=.clo x ds/\js x=Wx (np,m)/\ds.length+1=np/\∀xs h,xs.length≠0->Beg n xs->m (ds++[.tup (xs.map D.int)]) h=.ok (.int (B xs)) h
def Df (c:lF n B C) (b0:xs.length≠0) (b:Beg n xs) (ef:f env h=.ok C h1) (ea:a env h1=.ok [.tup (xs.map D.int)] h2):fW js f a env h=.ok (.int (B xs)) h2:=by
 obtain⟨x,ds,np,m,rfl,et,el,em⟩:=c
 unfold fW
 simp_all
def zM (c:lF n B C) (b:Beg n xs) (hn:n<=1000):bu [.int n,.tup (xs.map D.int),C] h=.ok (.frl ((nxB n B xs).map fun x=>tpl (xs++[x]))) h:=by
 have bl:=b.len
 have q:=zU (n:=n) (xs:=xs) (h:=h) {}
 have q2:cN (aJ asB (av dGt (fW js (af 1) (aa (af 0) ak)) (cC (.int 0)))) (af 0) (fun x=>[Wx x,Wx C]) ((bE n xs).map fun x=>tpl (xs++[x])) h=.ok ((nxB n B xs).map fun x=>tpl (xs++[x])) h:=by
  rw[comp_map (fun x=>tpl (xs++[x])) (fun x=>decide (0<B (xs++[x]))) (fun x=>tpl (xs++[x])) (bE n xs) fun x hx=>⟨by
   have e:=Df (f:=af 1) (a:=aa (af 0) ak) (env:=[Wx (tpl (xs++[x])),Wx C]) (h:=h) (h1:=h) (h2:=h) c {..} (b.snoc hx) {..} (by rfl)
   simp_all,fun _=>{..}⟩]
  rfl
 have l1:((bE n xs).map fun x=>tpl (xs++[x])).length<=1000000:=by rw[PR,gJ b];lia
 have z2:(n:Int).natAbs<=1000000:={}
 have z3:n<=1000000:={}
 generalize ((bE n xs).map fun x=>tpl (xs++[x]))=W at *
 generalize ((nxB n B xs).map fun x=>tpl (xs++[x]))=W2 at *
 generalize xs.map D.int=X at *
 simp[bu,bo,z2,z3,q,l1,q2]
abbrev tpI (b:List Int):D:=.tup (b.map D.int)
abbrev eW (n:Nat) (b:List Int):List (List Int):=((Py n).filter fun(i:Nat)=>!(b.any (· == (i:Int)))).map fun(i:Nat)=>b++[(i:Int)]
abbrev allI (n:Nat):Nat->List (List Int)
 | 0=>[[]]
 | k+1=>(allI n k).flatMap (eW n)
def qO (n) (b):(eW n b).length<=n:=by
 unfold eW
 grind
def ux (n:Nat):∀L:List (List Int),(L.flatMap (eW n)).length<=L.length*n
 | []=>{..}
 | b::L=>by
  rw[SD,P_,Qp,Nat.succ_mul]
  have:=qO n b;have:=ux n L;lia
def sd (n:Nat):∀k,(allI n k).length<=n ^ k
 | 0=>by simp[allI]
 | k+1=>by
  rw[allI,Nat.pow_succ]
  exact P7 (ux n _) (SK n (sd n k))
def Cu (n):∀k,∀b∈allI n k,b.length=k/\∀x∈b,0<=x/\x<n
 | 0=>by intro b hb;simp[allI] at hb;simp_all
 | k+1=>by
  intro b hb
  rw[allI] at hb
  obtain⟨c,hc,hb⟩:=SU.mp hb
  obtain⟨l,r⟩:=Cu n k c hc
  unfold eW at hb
  grind
def yY (hn:n<=7) (hk:k<=7):n ^ k<=900000:=
 P7 (Nat.pow_le_pow_left hn k) (P7 (Nat.pow_le_pow_right (by decide) hk) (by decide))
def DA {n:Nat}{b:List Int}{h:Hh} (hb:b.length<=1000):cN (aJ asB (av (dIn Wz) (af 0) (af 1))) (av (bS aI) (af 1) (ah cu (aa (af 0) ak))) (fun d=>[Wx d,Wx (tpI b)]) (bD 0 n) h=.ok ((eW n b).map tpI) h:=by
 have z:b.length+1<=1000000:={}
 rw[tT (fun(i:Nat)=>!(b.any (· == (i:Int)))) (fun(i:Nat)=>tpI (b++[(i:Int)]))]
 ·simp[eW,QV]
  try rfl
 ·intro i hi
  refine⟨by simp[tpI],fun _=>by simp[tpI,z]⟩
def A4 {σ X:Type} (n) (enc) (xs:List X) (E:σ->En) (G:σ->Hh) (f) (I:Nat->σ->Prop) (hl:∀s,aq (G s) n=Wx (xs.map enc))
  (st:∀i x s,xs[i]?=Wx x->I i s->I (i+1) (f s x)/\(tg (enc x) (E s) (G s)).bind body=.ok (.nx (E (f s x))) (G (f s x))) :
  ∀k i s , i+k=xs.length->I i s->eV (Src.live n).rdr tg body k i (E s) (G s)=.ok (.nx (E ((xs.drop i).foldl f s))) (G ((xs.drop i).foldl f s))/\I xs.length ((xs.drop i).foldl f s):=by
 intro k
 induction k with
 | zero=>
  intro i s e hi
  have:i=xs.length:={}
  subst this
  rw[List.drop_length,List.foldl_nil]
  refine⟨?_,hi⟩
  unfold eV
  simp[Src.rdr,hl]
 | succ k ih=>
  intro i s e hi
  have lt:i<xs.length:={}
  obtain⟨a,b⟩:=st i xs[i] s (Pz lt) hi
  have:=ih (i+1) (f s xs[i]) {} a
  rw[Qm lt,R1]
  refine⟨?_,this.2⟩
  unfold eV
  have g:(Src.live n).rdr (G s) i=Wx (Wx (enc xs[i])):=by simp[Src.rdr,hl,Pz lt]
  rw[g]
  show(tg (enc xs[i]) (E s) (G s)).bind (fun e1 h1=>(body e1 h1).bind _)=_
  rw[<- bA,b]
  exact this.1
abbrev hpA (n t:Nat):Hh:=(Py t).map fun k=>O.lst ((allI n (k+1)).map tpI)
def mE (n t:Nat):(hpA n t).length=t:=by simp[hpA]
def vU (k) (hk:k<t):aq (hpA n t++r) k=Wx ((allI n (k+1)).map tpI):=by
 unfold aq
 rw[PB (by rw[mE];exact hk)]
 simp[hpA,hk]
def JM (n t):hpA n (t+1)=hpA n t++[O.lst ((allI n (t+1)).map tpI)]:=by simp[hpA,Ss]
abbrev BI:MS:=eg (dW e9 (af 3) (aa (c7 aI (dX fq (aa (af 0) ak)) [4] (aJ asB (av (dIn Wz) (af 0) (af 1))) (av (bS aI) (af 1) (ah cu (aa (af 0) ak)))) ak))
def Gp {n t:Nat}{b:List Int}{acc:List (List Int)}{d1 d2:Option D} (hn:n<=7) (hb:b.length<=7) (ha:acc.length+(eW n b).length<=1000000):BI [Wx (.int n),d1,d2,Wx (.ref t),Wx (tpI b)] (hpA n t++[.lst (acc.map tpI)])=.ok (.nx [Wx (.int n),d1,d2,Wx (.ref t),Wx (tpI b)]) (hpA n t++[.lst ((acc++eW n b).map tpI)]):=by
 have q:=DA (n:=n) (b:=b) (h:=hpA n t++[.lst (acc.map tpI)]) {}
 have l:aq (hpA n t++[.lst (acc.map tpI)]) t=Wx (acc.map tpI):=by
  have:=bR (h:=hpA n t) (ds:=acc.map tpI) (t:=[])
  rw[mE] at this;lia
 have ex:e9 (.ref t) [.frl ((eW n b).map tpI)] (hpA n t++[.lst (acc.map tpI)])=.ok .non (hpA n t++[.lst (acc.map tpI++(eW n b).map tpI)]):=by
  have:=zB (h:=hpA n t) (ds:=acc.map tpI) (ys:=(eW n b).map tpI) (t:=[])
  rw[mE,if_pos (by simp_all)] at this;lia
 have z:n<=1000000:={}
 simp[BI,C5 l,z,q,ex]
def Cy (hn:n<=7) (ht:t+2<=7):∃d4',eV (Src.live t).rdr (gN 4) BI (allI n (t+1)).length 0 [Wx (.int n),Wx (.ref t),d2,Wx (.ref (t+1)),d4] (hpA n (t+1)++[.lst []])=.ok (.nx [Wx (.int n),Wx (.ref t),d2,Wx (.ref (t+1)),d4']) (hpA n (t+2)):=by
 have pl:(allI n (t+1)).length*n<=900000:=P7 (SK n (sd n (t+1))) (by rw[<- Nat.pow_succ];exact yY hn ht)
 obtain⟨q,q2⟩:=A4 (σ:=Option D × List (List Int)) (tg:=gN 4) (body:=BI) t tpI (allI n (t+1)) (fun s=>[Wx (.int n),Wx (.ref t),d2,Wx (.ref (t+1)),s.1]) (fun s=>hpA n (t+1)++[.lst (s.2.map tpI)]) (fun s b=>(Wx (tpI b),s.2++eW n b))
  (fun i s=>s.2.length<=i*n) (fun s=>vU t {}) (fun i x s hx hi=>by
   have hx':x∈allI n (t+1):=P0 hx
   have lx:=(Cu n (t+1) x hx').1
   have il:i<(allI n (t+1)).length:=(Qj.mp hx).1
   have el:=qO n x
   refine⟨by grind,?_⟩
   have bd:s.2.length+(eW n x).length<=1000000:=by
    have:=SK n (show i+1<=(allI n (t+1)).length from il)
    grind
   simp[Gp (n:=n) (t:=t+1) (b:=x) (acc:=s.2) (d1:=Wx (.ref t)) (d2:=d2) hn {} bd]) (allI n (t+1)).length 0 (d4,[]) {} {..}
 have fd:∀(L:List (List Int)) (s:Option D × List (List Int)),(L.foldl (fun(s:Option D × List (List Int)) b=>(Wx (tpI b),s.2++eW n b)) s).2=s.2++L.flatMap (eW n):=by
  intro L
  induction L with
  | nil=>simp
  | cons b L ih=>simp_all
 rw[VA,fd,So] at q
 refine⟨((allI n (t+1)).foldl (fun(s:Option D × List (List Int)) b=>(Wx (tpI b),s.2++eW n b)) (d4,[])).1,?_⟩
 rw[JM n (t+1),show allI n (t+1+1)=(allI n (t+1)).flatMap (eW n) from rfl]
 exact q
abbrev BO:MS:=(aH (aW 3 (ah (c4 kC) ak)) (aH (cD (bp (af 1)) (gN 4) BI) (aW 1 (af 3))))
abbrev slot1:Nat->D
 | 0=>.frl [.tup []]
 | t+1=>.ref t
def KU {n t:Nat}{d2 d3 d4:Option D} (hn:n<=7) (ht:t<n):∃d3' d4',BO [Wx (.int n),Wx (slot1 t),d2,d3,d4] (hpA n t)=.ok (.nx [Wx (.int n),Wx (slot1 (t+1)),d2,d3',d4']) (hpA n (t+1)):=by
 cases t with
 | zero=>
  have b:=Gp (n:=n) (t:=0) (b:=[]) (acc:=[]) (d1:=Wx (.frl [.tup []])) (d2:=d2) hn {..} (by have:=qO n [];grind)
  have e0:hpA n 0=[]:=rfl
  have e1:hpA n 1=[.lst ((eW n []).map tpI)]:=by simp[hpA,allI]
  rw[e0] at b
  simp only[So,Ve,tpI] at b
  refine⟨Wx (.ref 0),Wx (.tup []),?_⟩
  rw[e0,e1]
  simp[BO,slot1,fJ,yB,b]
 | succ t=>
  obtain⟨d4',q⟩:=Cy (n:=n) (t:=t) (d2:=d2) (d4:=d4) hn {}
  have l:aq (hpA n (t+1)++[.lst []]) t=Wx ((allI n (t+1)).map tpI):=vU t {}
  refine⟨Wx (.ref (t+1)),d4',?_⟩
  have nl:∀h:Hh,c4 kC [] h=.ok (.ref h.length) (h++[.lst []]):=fun h=>{..}
  have sk:Ii (gN 4) BI [Wx (.int n),Wx (.ref t),d2,Wx (.ref (t+1)),d4] (.live t) (hpA n (t+1)++[.lst []])=.ok (.nx [Wx (.int n),Wx (.ref t),d2,Wx (.ref (t+1)),d4']) (hpA n (t+2)):=by
   show eV (Src.live t).rdr (gN 4) BI ((aq (hpA n (t+1)++[.lst []]) t).getD []).length 0 _ _=_
   simp_all
  simp[BO,slot1,mE,Ce l,sk]
def u0 {n:Nat} (hn:n<=7):∀(k j:Nat) (d2 d3 d4:Option D),j+k=n->∃d2' d3' d4',cx (gN 2) BO (((Py k).map fun i=>j+i).map fun(i:Nat)=>D.int i) [Wx (.int n),Wx (slot1 j),d2,d3,d4] (hpA n j)=.ok (.nx [Wx (.int n),Wx (slot1 n),d2',d3',d4']) (hpA n n)
 | 0,j,d2,d3,d4,e=>⟨d2,d3,d4,by
   have:j=n:={}
   subst this
   rfl⟩
 | k+1,j,d2,d3,d4,e=>by
  obtain⟨e3,e4,b⟩:=KU (n:=n) (t:=j) (d2:=Wx (.int j)) (d3:=d3) (d4:=d4) hn {}
  obtain⟨d2',d3',d4',q⟩:=u0 hn k (j+1) (Wx (.int j)) e3 e4 {}
  refine⟨d2',d3',d4',?_⟩
  have er:((Py (k+1)).map fun i=>j+i)=j::(Py k).map fun i=>(j+1)+i:=by
   rw[List.range_succ_eq_map,PC,QV]
   congr 1
   apply Q4
   grind
  rw[er,PC,fJ]
  simp_all
def DS (e:aq H k=Wx ds) (l:ds.all (deep 7)=Wz):bg [] (.ref k) H=.ok (.frl ds) []:=by
 have fz:eC 0 H 8 (.ref k)=Wx (.frl ds):=by
  unfold eC
  simp only[To,if_false,e]
  rw[eZ fun d hd=>cV 7 d (PX.mp l d hd)]
  rfl
 unfold bg
 simp[fz]
def A6 (L:List (List Int)):(L.map tpI).all (deep 7)=true:=by
 rw[List.all_map,PX]
 intro b _
 simp[tpI]
def DX (L:List (List Int)):a8 0 (L.map tpI)=true:=kG fun b=>by simp[tpI,gU]
def LN {n:Nat} (h1:1<=n) (hn:n<=7) (h:Hh):dE [.int n] h=.ok (.frl ((allI n n).map tpI)) h:=by
 obtain⟨d2,d3,d4,q⟩:=u0 hn n 0 Wy Wy Wy {}
 have q':cx (gN 2) BO (bD 0 n) [Wx (.int n),Wx (.frl [.tup []]),Wy,Wy,Wy] []=.ok (.nx [Wx (.int n),Wx (slot1 n),d2,d3,d4]) (hpA n n):=by
  rw[dA]
  have:((Py n).map fun i=>0+i)=Py n:={..}
  rw[this] at q
  exact q
 obtain⟨k,rfl⟩:∃k,n=k+1:=⟨n - 1,{}⟩
 have l:aq (hpA (k+1) (k+1)) k=Wx ((allI (k+1) (k+1)).map tpI):=by
  have:=vU (n:=k+1) (t:=k+1) (r:=[]) k {}
  simp_all
 have ex:=DS l (A6 _)
 have z:k+1<=1000000:={}
 have me:dE=oN (fun ds h=>((bG 5 (aH (aW 1 (ah (c4 aI) (aa (ah cu ak) ak))) (aH (cD (dX fq (aa (af 0) ak)) (gN 2) BO) (a9 (af 1))))) ds h).bind (bg h)):=rfl
 have lo:a8 0 [D.int ((k+1:Nat):Int)]=true:=by rfl
 have lo2:gU 0 (.frl ((allI (k+1) (k+1)).map tpI))=true:=by simp only[gU];exact DX _
 rw[me]
 generalize hK:((k+1:Nat):Int)=K1 at q' lo ⊢
 have z1:K1.natAbs<=1000000:={}
 have z2:K1.toNat=k+1:={}
 simp[oN,lo,bo,z1,z2,q',slot1,ex,lo2]
abbrev fll (n:Nat) (B:List Int->Int):Nat->List (List Int)
 | 0=>[[]]
 | m+1=>(fll n B m).flatMap fun xs=>(nxB n B xs).map fun x=>xs++[x]
abbrev wsm (B:List Int->Int) (L:List (List Int)):Int:=(L.map B).sum
def EV:wsm B (L1++L2)=wsm B L1+wsm B L2:=by unfold wsm;simp
def jJ:wsm B (x::L)=B x+wsm B L:=by rfl
def DN:wsm B (l.map fun x=>xs++[x])=uV B xs l:=by unfold wsm uV;rw[QV];rfl
def di {n:Nat}{B:List Int->Int}:∀m,∀xs∈fll n B m,xs.length=m/\Beg n xs
 | 0,xs,h=>by simp[fll] at h;subst h;exact⟨rfl,Beg.nil n⟩
 | m+1,xs,h=>by
  unfold fll at h
  obtain⟨ys,hy,hx⟩:=SU.mp h
  obtain⟨x,hz,rfl⟩:=Qi.mp hx
  obtain⟨l,b⟩:=di m ys hy
  exact⟨by simp[l],b.snoc (l9 hz)⟩
def uf {n:Nat}{B:List Int->Int} (C:Cnt n B):∀{L:List (List Int)},(∀xs∈L,Beg n xs/\xs.length<n)->wsm B (L.flatMap fun xs=>(nxB n B xs).map fun x=>xs++[x])=wsm B L
 | [],_=>rfl
 | xs::L,h=>by
  obtain⟨b,l⟩:=h xs Pw
  rw[SD,EV,uf C fun ys hy=>h ys (Po _ hy),jJ,DN,C.nx b l]
def xo {B:List Int->Int}:∀{L:List (List Int)},(∀xs∈L,B xs=1)->wsm B L=L.length
 | [],_=>rfl
 | x::L,h=>by rw[jJ,h x Pw,xo fun y hy=>h y (Po _ hy),Qp];lia
def qI (C:Cnt n B):∀m,m<=n->wsm B (fll n B m)=B []
 | 0,_=>by show wsm B [[]]=_;rw[jJ];show B []+0=_;lia
 | m+1,hm=>by
  show wsm B ((fll n B m).flatMap _)=_
  rw[uf C fun ys hy=>by
   obtain⟨l,b⟩:=di m ys hy
   grind,qI C m {}]
def rC (h0:0<B []):∀m,∀xs∈fll n B m,0<B xs
 | 0,xs,h=>by simp[fll] at h;simp_all
 | m+1,xs,h=>by
  unfold fll at h
  obtain⟨ys,hy,hx⟩:=SU.mp h
  obtain⟨x,hz,rfl⟩:=Qi.mp hx
  have:=(RD.mp hz).2
  simp_all
def E7 (h0:0<B []) (F:∀xs,Beg n xs->xs.length=n->B xs=0\/B xs=1):∀xs∈fll n B n,B xs=1:=fun xs hx=>by
 obtain⟨l,b⟩:=di n xs hx
 have:=rC h0 n xs hx
 grind
def yC (C:Cnt n B) (F:∀xs,Beg n xs->xs.length=n->B xs=0\/B xs=1) (h0:0<B []):((fll n B n).length:Int)=B []:=by
 rw[<- xo (E7 h0 F),qI C n (Pt _)]
def rA (C:Cnt n B) (b:Beg n xs) (hl:xs.length<n) (h:¬ 0<B xs):nxB n B xs=[]:=by
 have s:=C.nx b hl
 have p:=C.pos xs b
 cases e:nxB n B xs with
 | nil=>rfl
 | cons x l=>
  have hx:x∈nxB n B xs:=by simp_all
  have h1:=(RD.mp hx).2
  have h1:0<B (xs++[x]):=by simp_all
  rw[e,hZ] at s
  have:=x8 (B:=B) (xs:=xs) (l:=l) fun y hy=>C.left b y (l9 (by rw[e];simp_all))
  lia
def mY:eW n xs=(bE n xs).map fun x=>xs++[x]:=by
 unfold eW bE dQ
 rw[List.filter_map,QV]
 simp only[Function.comp_def,Int.zero_add]
def mw (C:Cnt n B):∀m,m<=n->(∀xs∈allI n m,xs.length=m/\Beg n xs)/\(0<B []->(allI n m).filter (fun xs=>decide (0<B xs))=fll n B m)
 | 0,_=>⟨fun xs h=>by simp[allI] at h;subst h;exact⟨rfl,Beg.nil n⟩,fun h=>by
  show List.filter _ [[]]=_
  rw[Rt,if_pos (by simp_all)];rfl⟩
 | m+1,hm=>by
  obtain⟨i1,i2⟩:=mw C m {}
  have key:∀L:List (List Int),(∀xs∈L,xs.length=m/\Beg n xs)->(L.flatMap (eW n)).filter (fun xs=>decide (0<B xs))=(L.filter fun xs=>decide (0<B xs)).flatMap fun xs=>(nxB n B xs).map fun x=>xs++[x]:=by
   intro L
   induction L with
   | nil=>simp
   | cons xs L ih=>
    intro hL
    obtain⟨l,b⟩:=hL xs Pw
    have ih:=ih fun ys hy=>hL ys (Po _ hy)
    rw[SD,List.filter_append,ih,mY]
    have e:((bE n xs).map fun x=>xs++[x]).filter (fun xs=>decide (0<B xs))=(nxB n B xs).map fun x=>xs++[x]:=by
     rw[List.filter_map];rfl
    rw[e,Rt]
    by_cases c:0<B xs
    ·simp_all
    ·rw[if_neg (by simp_all),rA C b {} c];rfl
  refine⟨fun xs h=>?_,fun h=>?_⟩
  ·rw[allI] at h
   obtain⟨ys,hy,hx⟩:=SU.mp h
   rw[mY] at hx
   obtain⟨x,hz,rfl⟩:=Qi.mp hx
   obtain⟨l,b⟩:=i1 ys hy
   exact⟨by simp[l],b.snoc hz⟩
  ·rw[allI,key _ i1,i2 h];rfl
def Bu (w:Wf h) (el:aq (h++t) (h.length+j)=Wx ds) (e:ds.all (deep 7)=Wz):bg h (.ref (h.length+j)) (h++t)=.ok (.frl ds) h:=by
 unfold bg
 rw[Tq rfl,if_pos (show h.all (jO h.length)=Wz from w)]
 have:eC h.length (h++t) 8 (.ref (h.length+j))=Wx (.frl ds):=by
  unfold eC
  have:¬ (h.length+j<h.length):={}
  simp only[this,if_false,el]
  rw[PX] at e
  rw[eZ fun d hd=>cV 7 d (e d hd)];rfl
 rw[this]
def Ca (w:Wf h) (el:aq (h++t) (h.length+j)=Wx ds) (e:ds.all (deep 8)=Wz):gm h (.ref (h.length+j)) (h++t)=.ok (.ref h.length) (h++[.lst ds]):=by
 unfold gm
 rw[Tq rfl,if_pos (show h.all (jO h.length)=Wz from w)]
 have:h.length<=h.length+j:={}
 simp only[this,if_true,el]
 rw[PX] at e
 rw[eZ fun d hd=>cV 8 d (e d hd)]
def nN {L:List (List Int)}:(L.map tpI).all (deep (k+2))=true:=by
 rw[PX];intro d hd
 obtain⟨x,_,rfl⟩:=Qi.mp hd
 simp[tpI]
def CV {B:List Int->Int}:∀{L:List (List Int)},(∀xs∈L,0<B xs)->(L.length:Int)<=wsm B L
 | [],_=>by simp[wsm]
 | x::L,h=>by
  rw[jJ,Qp]
  have:=h x Pw
  have:=CV (L:=L) fun y hy=>h y (Po _ hy)
  lia
def Im (C:Cnt n B) (h0:0<B []) (hm:m<=n):((fll n B m).length:Int)<=B []:=by
 rw[<- qI C m hm];exact CV (rC h0 m)
def Jo (b:Beg n xs):(nxB n B xs).length<=n:=by
 have:=List.length_filter_le (fun x=>decide (0<B (xs++[x]))) (bE n xs)
 rw[gJ b] at this
 unfold nxB;lia
@[inline]abbrev exB (n:Nat) (B:List Int->Int) (xs:List Int):List (List Int):=(nxB n B xs).map fun x=>xs++[x]
def BV {M:List (List Int)}{ff:D->En}{H:Hh} (hf:∀e h,af 1 (ff e) h=.ok e h):∀(k j:Nat) (acc:List (List Int)),j+k=M.length->acc.length+k<=1000000->sI H.length (Src.snap (M.map tpI)).rdr (af 1) ff k j (H++[.lst (acc.map tpI)])=.ok () (H++[.lst ((acc++M.drop j).map tpI)])
 | 0,j,acc,e,_=>by
  unfold sI
  have:(Src.snap (M.map tpI)).rdr (H++[.lst (acc.map tpI)]) j=Wx none:=by
   simp only[Src.rdr]
   simp_all
  simp_all
 | k+1,j,acc,e,l=>by
  unfold sI
  have lt:j<M.length:={}
  have g:(Src.snap (M.map tpI)).rdr (H++[.lst (acc.map tpI)]) j=Wx (Wx (tpI M[j])):=by
   simp only[Src.rdr]
   simp_all
  rw[g]
  have a:Dl H.length (tpI M[j]) (H++[.lst (acc.map tpI)])=.ok () (H++[.lst ((acc++[M[j]]).map tpI)]):=by
   unfold Dl
   rw[bR]
   grind
  dsimp only
  rw[hf,cP,a,cP,BV hf k (j+1) _ {} (by grind),Qm lt,Qy]
  rfl
abbrev MI2:MI:=(bp (ah bu (aa (af 2) (aa (af 0) (aa (af 3) ak)))))
def CC {n:Nat}{sr:Src}{B:List Int->Int}{C y:D}{L:List (List Int)}{H:Hh}{d2 d3:Option D} (c:lF n B C) (hn:n<=12) (er:∀X i,sr.rdr (H++[.lst X]) i=Wx ((L.map tpI)[i]?)) (hb:∀b∈L,Beg n b):∀(k i:Nat) (acc:List (List Int)),i+k=L.length->acc.length+k*12<=1000000->rP H.length sr.rdr MI2 (af 1) (gB [0,1] [Wx (.int n),Wx C,d2,d3]) k i (H++[.lst (acc.map tpI)])=.ok () (H++[.lst ((acc++(L.drop i).flatMap (exB n B)).map tpI)])
 | 0,i,acc,e,_=>by
  unfold rP
  simp_all
 | k+1,i,acc,e,l=>by
  have lt:i<L.length:={}
  unfold rP
  have g:sr.rdr (H++[.lst (acc.map tpI)]) i=Wx (Wx (tpI L[i])):=by simp_all
  rw[g]
  have bi:=hb _ (SS lt)
  have cp:∀a b,gB [0,1] [Wx (.int n),Wx C,d2,d3] a b=[a,b,Wx (.int n),Wx C]:=fun a b=>by rfl
  have nl:=Jo (B:=B) bi
  have mi:MI2 (gB [0,1] [Wx (.int n),Wx C,d2,d3] (Wx (tpI L[i])) Wy) (H++[.lst (acc.map tpI)])=.ok (.snap ((exB n B L[i]).map tpI)) (H++[.lst (acc.map tpI)]):=by
   rw[cp]
   have lo:=zM (h:=H++[.lst (acc.map tpI)]) c bi {}
   have e:((nxB n B L[i]).map fun x=>tpl (L[i]++[x]))=(exB n B L[i]).map tpI:=by rw[QV];rfl
   rw[e] at lo
   generalize (exB n B L[i]).map tpI=W at *
   simp only[tpI]
   generalize L[i].map D.int=X at *
   simp[MI2,lo]
  have fu:(Src.snap ((exB n B L[i]).map tpI)).fuel (H++[.lst (acc.map tpI)])=(exB n B L[i]).length:=by
   show((exB n B L[i]).map tpI).length=_
   simp
  have el:(exB n B L[i]).length<=12:=by grind
  have l2:acc.length+12+k*12<=1000000:={}
  dsimp only
  rw[mi,cP,fu]
  rw[BV (M:=exB n B L[i]) (ff:=fun e=>gB [0,1] [Wx (.int n),Wx C,d2,d3] (Wx (tpI L[i])) (Wx e)) (fun e h=>by rfl) (exB n B L[i]).length 0 acc {} {},cP,VA]
  have:=CC (y:=y) (d2:=d2) (d3:=d3) c hn er hb k (i+1) (acc++exB n B L[i]) {} (by grind)
  rw[this,Qm lt,SD,Qy]
abbrev Bp (H:Hh) (d:D) (L:List (List Int)):Prop:=∃sr,pA d H=.ok sr H/\sr.fuel H=L.length/\∀X i,sr.rdr (H++[.lst X]) i=Wx ((L.map tpI)[i]?)
def xC (er:aq H r=Wx (L.map tpI)):Bp H (.ref r) L:=⟨.live r,Ce er,by simp[Src.fuel,er],fun X i=>by simp only[Src.rdr];rw[F7 er];rfl⟩
def El:Bp H (.frl (L.map tpI)) L:=⟨.snap (L.map tpI),rfl,by simp[Src.fuel],fun X i=>rfl⟩
def K8 (c:lF n B C) (hn:n<=12) (er:Bp H d L) (hb:∀b∈L,Beg n b) (hl:L.length<=10000):dU (bp (af 2)) [0,1] MI2 (af 1) [Wx (.int n),Wx C,Wx d,d3] H=.ok (.ref H.length) (H++[.lst ((L.flatMap (exB n B)).map tpI)]):=by
 obtain⟨sr,s1,f,rd⟩:=er
 unfold dU
 have s:bp (af 2) [Wx (.int n),Wx C,Wx d,d3] H=.ok sr H:=by
  simp_all
 have:=CC (y:=.non) (d2:=Wx d) (d3:=d3) c hn rd hb L.length 0 [] {} (by grind)
 simp_all
def xA (c:lF n B C) (h1:1<=n) (hn:n<=12) (hL:∀m,m<=n->(fll n B m).length<=10000) (s0:Bp (h++T0) d0 [[]]):∃T j y,cx (gN 3) (aW 2 (dU (bp (af 2)) [0,1] MI2 (af 1))) (((Py n).map fun(i:Nat)=>D.int i)) [Wx (.int n),Wx C,Wx d0,Wy] (h++T0)=.ok (.nx [Wx (.int n),Wx C,Wx (.ref (h.length+j)),y]) (h++T)/\aq (h++T) (h.length+j)=Wx ((fll n B n).map tpI):=by
 obtain⟨s,lp,si⟩:=rK (σ:=Hh × D × Option D) (tg:=gN 3) (body:=(aW 2 (dU (bp (af 2)) [0,1] MI2 (af 1)))) (fun(i:Nat)=>D.int i) n (fun s=>[Wx (.int n),Wx C,Wx s.2.1,s.2.2]) (fun s=>h++s.1) (fun i s=>Bp (h++s.1) s.2.1 (fll n B i)/\(i≠0->∃j,s.2.1=.ref (h.length+j)/\aq (h++s.1) (h.length+j)=Wx ((fll n B i).map tpI))) (fun i s hi hs=>by
  obtain⟨T,d,y⟩:=s
  obtain⟨hs,_⟩:=hs
  dsimp only at hs ⊢
  have fl:=hL i {}
  have q:=K8 (C:=C) (d3:=Wx (.int i)) c hn hs (fun b hb=>(di i b hb).2) {}
  have ln:aq (h++(T++[.lst ((fll n B (i+1)).map tpI)])) (h.length+T.length)=Wx ((fll n B (i+1)).map tpI):=by
   rw[<- Qy,<- P_]
   exact bR
  refine⟨(T++[.lst ((fll n B (i+1)).map tpI)],.ref (h.length+T.length),Wx (.int i)),⟨xC ln,fun _=>⟨_,rfl,ln⟩⟩,?_⟩
  have e:fll n B (i+1)=(fll n B i).flatMap (exB n B):=rfl
  simp_all) n 0 (T0,d0,Wy) {} ⟨s0,fun z=>absurd rfl z⟩
 obtain⟨T,d,y⟩:=s
 obtain⟨_,si⟩:=si
 obtain⟨j,e,l⟩:=si {}
 dsimp only at e l lp
 subst e
 rw[<- RW] at lp
 grind
def FV {n:Nat}{B:List Int->Int}{C:D}{h:Hh} (c:lF n B C) (h1:1<=n) (hn:n<=12) (hL:∀m,m<=n->(fll n B m).length<=10000) (w:Wf h):bV [.int n,C] h=.ok (.ref h.length) (h++[.lst ((fll n B n).map tpI)]):=by
 obtain⟨T,j,y,lp,si⟩:=xA (h:=h) (T0:=[.lst [tpI []]]) (d0:=.ref h.length) c h1 hn hL (xC (L:=[[]]) bR)
 rw[<- dA] at lp
 have z2:(n:Int).natAbs<=1000000:={}
 have z3:n<=1000000:={}
 have ex:=Ca w si (nN (k:=6))
 have eq:bV=fun ds h=>((bG 4 (aH (aW 2 (ah (c4 kC) (aa (ah cu ak) ak))) (aH (cD (dX fq (aa (af 0) ak)) (gN 3) (aW 2 (dU (bp (af 2)) [0,1] MI2 (af 1)))) (a9 (af 2))))) ds h).bind (gm h):=rfl
 have t0:tpI []=.tup []:=rfl
 rw[t0] at lp
 rw[eq]
 generalize (fll n B n).map tpI=W at *
 generalize (aW 2 (dU (bp (af 2)) [0,1] MI2 (af 1)))=BD at *
 simp[bo,kC,z2,z3,lp,ex]
def CH {n:Nat}{B:List Int->Int}{C:D}{h:Hh} (c:lF n B C) (h1:1<=n) (hn:n<=12) (hL:∀m,m<=n->(fll n B m).length<=10000) (w:Wf h):bZ [.int n,C] h=.ok (.frl ((fll n B n).map tpI)) h:=by
 obtain⟨T,j,y,lp,si⟩:=xA (h:=h) (T0:=[]) (d0:=.frl [tpI []]) c h1 hn hL (El (L:=[[]]))
 rw[<- dA,QO] at lp
 have z2:(n:Int).natAbs<=1000000:={}
 have z3:n<=1000000:={}
 have ex:=Bu w si (nN (k:=5))
 have eq:bZ=fun ds h=>((bG 4 (aH (aW 2 (ah (c4 aI) (aa (ah cu ak) ak))) (aH (cD (dX fq (aa (af 0) ak)) (gN 3) (aW 2 (dU (bp (af 2)) [0,1] MI2 (af 1)))) (a9 (af 2))))) ds h).bind (bg h):=rfl
 have t0:tpI []=.tup []:=rfl
 rw[t0] at lp
 rw[eq]
 generalize (fll n B n).map tpI=W at *
 generalize (aW 2 (dU (bp (af 2)) [0,1] MI2 (af 1)))=BD at *
 simp[bo,aI,z2,z3,lp,ex]
def q_ {n:Nat}{B:List Int->Int} (C:Cnt n B) (h0:¬ 0<B []):∀m,m<n->fll n B (m+1)=[]
 | 0,h=>by
  show([[]]:List (List Int)).flatMap _=_
  rw[SD,rA C (Beg.nil n) h h0];rfl
 | m+1,h=>by
  show(fll n B (m+1)).flatMap _=_
  rw[q_ C h0 m {}];rfl
def jT (C:Cnt n B) (h3:B []<=300) (m) (hm:m<=n):(fll n B m).length<=300:=by
 by_cases c:0<B []
 ·have:=Im C c hm;lia
 ·cases m with
  | zero=>show 1<=300;lia
  | succ m=>rw[q_ C c m hm];simp
def BM {n:Nat}{B:List Int->Int} (C:Cnt n B) (h0:¬ 0<B []):∀m,m<=n->(allI n m).filter (fun xs=>decide (0<B xs))=[]
 | 0,_=>by
  show List.filter _ [[]]=_
  simp_all
 | m+1,hm=>by
  have i2:=BM C h0 m {}
  have i1:=(mw C m {}).1
  rw[allI,Tz]
  intro xs hx z
  have z:0<B xs:=by simp_all
  obtain⟨ys,hy,hz⟩:=SU.mp hx
  rw[mY] at hz
  obtain⟨x,hl,rfl⟩:=Qi.mp hz
  obtain⟨l,b⟩:=i1 ys hy
  have ny:¬ 0<B ys:=fun q=>by
   have:=(Tz.mp i2) ys hy
   simp_all
  have e:=rA C b {} ny
  have:x∈nxB n B ys:=RD.mpr ⟨hl,{}⟩
  simp_all
def Hj (C:Cnt n B) (h1:1<=n):(allI n n).filter (fun xs=>decide (0<B xs))=fll n B n:=by
 by_cases c:0<B []
 ·exact(mw C n (Pt _)).2 c
 ·rw[BM C c n (Pt _)]
  obtain⟨m,rfl⟩:∃m,n=m+1:=⟨n - 1,{}⟩
  rw[q_ C c m {}]
def yR (hn:n<=12):lF n (bcV n k) (.clo "begun_count" [.frl (rsD n),.int k]):=⟨_,_,3,aQ,rfl,jY,rfl,fun xs h _ b=>J0 b hn⟩
def Cd {n:Nat}{k:Int}{h:Hh} (h1:1<=n) (hn:n<=12) (k0:0<=k) (k1:k<=12):ba [.int n,.int k] h=.ok .non h:=by
 have z:(1:Int)<=(n:Int)/\(n:Int)<=12:={}
 have z2:(0:Int)<=k/\k<=12:=⟨k0,k1⟩
 simp[ba,bW,bo,up,z,z2]
def ko (hn:n<=12) (e:af i env h=.ok (.clo "begun_count" [.frl (rsD n),.int k]) h):fW js (af i) (aa (ah cu ak) ak) env h=.ok (.int (bcV n k [])) h:=by
 have q:=J0 (k:=k) (h:=h) (Beg.nil n) hn
 rw[Ve] at q
 rw[Ee,e]
 simp[q]
def KI {n:Nat}{k:Int}{h:Hh} (w:Wf h) (h1:1<=n) (hn:n<=12) (k0:0<=k) (k1:k<=12) (c:bcV n k []<=300):aY [.int n,.int k] h=.ok (.ref h.length) (h++[.lst ((fll n (bcV n k) n).map tpI)]):=by
 have a:=Cd (h:=h) h1 hn k0 k1
 have jc:=j9 (n:=n) (k:=k) (h:=h) hn w
 have mc:=ko (n:=n) (k:=k) (i:=2) (env:=[Wx (.int n),Wx (.int k),Wx (.clo "begun_count" [.frl (rsD n),.int k])]) (h:=h) hn {..}
 have ol:=FV (h:=h) (yR (k:=k) hn) h1 hn (fun m hm=>P7 (jT (f7 n k) c m hm) (by decide)) w
 have c':¬ 300<bcV n k []:={}
 have tn:aS [.int (bcV n k [])] h=.ok .non h:=by
  simp[aS,bo,up,c']
 generalize bcV n k []=V at *
 generalize (fll n (bcV n k) n).map tpI=W at *
 generalize rsD n=J at *
 simp[aY,bo,up,a,jc,mc,tn,ol]
def KH (w:Wf h) (h1:1<=n) (hn:n<=12) (k0:0<=k) (k1:k<=12) (c:300<bcV n k []):aY [.int n,.int k] h=.err ⟨"TooGreat", [("many", bcV n k []),("most", 300)]⟩ h:=by
 have a:=Cd (h:=h) h1 hn k0 k1
 have jc:=j9 (n:=n) (k:=k) (h:=h) hn w
 have mc:=ko (n:=n) (k:=k) (i:=2) (env:=[Wx (.int n),Wx (.int k),Wx (.clo "begun_count" [.frl (rsD n),.int k])]) (h:=h) hn {..}
 generalize bcV n k []=V at *
 have ri:mz "TooGreat" ["many", "most"] (aa (up (af 0)) (aa (up (cC (.int 300))) ak)) [Wx (.int V)] h=.err ⟨"TooGreat", [("many", V),("most", 300)]⟩ h:=by rfl
 have tn:aS [.int V] h=.err ⟨"TooGreat", [("many", V),("most", 300)]⟩ h:=by
  simp[aS,bo,up,c,ri]
 generalize rsD n=J at *
 simp[aY,bo,up,a,jc,mc,tn]
@[inline]abbrev TGr (V:Int):D:=.tup [.str "great", .int V,.int 300]
def NJ {V:Int}:aR [.exc "TooGreat" [("many", V),("most", 300)]] h=.ok (TGr V) h:=by rfl
def exQ (w:Wf h) (nr:∀n,d≠.ref n) (e:deep 8 d=Wz):exitQ h d (h++t)=.ok d h:=by
 have:=fU (t:=t) w e
 cases d<;>first | exact this | simp_all
def Gh:br=fun ds h=>((bG 3 (pf (a9 (ah aY (aa (up (af 0)) (aa (up (af 1)) ak)))) aR)) ds h).bind (exitQ h):=rfl
def tV {n:Nat}{k:Int}{h:Hh} (w:Wf h) (h1:1<=n) (hn:n<=12) (k0:0<=k) (k1:k<=12) (c:300<bcV n k []):br [.int n,.int k] h=.ok (TGr (bcV n k [])) h:=by
 have er:=KH (h:=h) w h1 hn k0 k1 c
 have tb:(a9 (ah aY (aa (up (af 0)) (aa (up (af 1)) ak)))) [Wx (.int n),Wx (.int k),Wy] h=.err ⟨"TooGreat", [("many", bcV n k []),("most", 300)]⟩ h:=by
  simp_all
 have q:=Iv (mr:=aR) w tb (show bC.contains "TooGreat" = Wz by decide) NJ
 have tup:exitQ h (TGr (bcV n k [])) h=.ok (TGr (bcV n k [])) h:=by have:=exQ (t:=[]) (d:=TGr (bcV n k [])) w (fun _ e=>nomatch e) rfl;simp_all
 rw[Gh]
 simp[bo,q,tup]
def yq (w:Wf h) (h1:1<=n) (hn:n<=12) (k0:0<=k) (k1:k<=12) (c:bcV n k []<=300):br [.int n,.int k] h=.ok (.ref h.length) (h++[.lst ((fll n (bcV n k) n).map tpI)]):=by
 have er:=KI w h1 hn k0 k1 c
 have ex:exitQ h (.ref h.length) (h++[.lst ((fll n (bcV n k) n).map tpI)])=.ok (.ref h.length) (h++[.lst ((fll n (bcV n k) n).map tpI)]):=Af (t:=[]) w (nN (k:=6))
 generalize (fll n (bcV n k) n).map tpI=DU at *
 have tb:(a9 (ah aY (aa (up (af 0)) (aa (up (af 1)) ak)))) [Wx (.int n),Wx (.int k),Wy] h=.ok (.rt (.ref h.length)) (h++[.lst DU]):=by
  simp_all
 have q:=Dv (mr:=aR) tb
 rw[Gh]
 simp[bo,q,ex]
def JL {n:Nat}{k:Int}{h:Hh} (w:Wf h) (h1:1<=n) (hn:n<=12) (k0:0<=k) (k1:k<=12) (c:bcV n k []<=300):cA [.int n,.int k] h=.ok (.frl ((fll n (bcV n k) n).map tpI)) h:=by
 have a:=Cd (h:=h) h1 hn k0 k1
 have jc:=j9 (n:=n) (k:=k) (h:=h) hn w
 have mc:=ko (n:=n) (k:=k) (i:=2) (env:=[Wx (.int n),Wx (.int k),Wx (.clo "begun_count" [.frl (rsD n),.int k])]) (h:=h) hn {..}
 have ol:=CH (h:=h) (yR (k:=k) hn) h1 hn (fun m hm=>P7 (jT (f7 n k) c m hm) (by decide)) w
 have c':¬ 300<bcV n k []:={}
 have tn:aS [.int (bcV n k [])] h=.ok .non h:=by
  simp[aS,bo,up,c']
 generalize bcV n k []=V at *
 generalize (fll n (bcV n k) n).map tpI=W at *
 generalize rsD n=J at *
 simp[cA,bo,up,a,jc,mc,tn,ol]
def Jy {n:Nat}{k:Int}{h:Hh} (w:Wf h) (h1:1<=n) (hn:n<=12) (k0:0<=k) (k1:k<=12) (c:bcV n k []<=300):cY [.int n,.int k] h=.ok (.frl ((fll n (bcV n k) n).map tpI)) h:=by
 have er:=JL (h:=h) w h1 hn k0 k1 c
 generalize (fll n (bcV n k) n).map tpI=DU at *
 have tb:(a9 (ah cA (aa (up (af 0)) (aa (up (af 1)) ak)))) [Wx (.int n),Wx (.int k),Wy] h=.ok (.rt (.frl DU)) h:=by
  simp_all
 have q:=Dv (mr:=aR) tb
 simp[cY,bo,q]
def mZ {k:Nat}{h:Hh}:∀{L:List (List Int)},(∀b∈L,∀x∈b,sml x=Wz)->cZ (toPy (k+2) h) (L.map tpI)=Wx (L.map fun b=>Sv (b.map RR))
 | [],_=>rfl
 | b::L,hs=>by
  have e1:toPy (k+2) h (tpI b)=Wx (.tuple (b.map RR)):=by
   show(cZ (toPy (k+1) h) (b.map D.int)).map Sv=_
   rw[iS (hs b Pw)];rfl
  rw[PC,cZ,e1,mZ fun x hx=>hs x (Po _ hx)]
  rfl
def yz:∀{L:List (List Int)},(∀b∈L,b.length<=12)->TZ (L.map fun b=>Sv (b.map RR))<=24*L.length
 | [],_=>by simp[TZ]
 | b::L,hs=>by
  have:=hs b Pw
  have:=yz (L:=L) fun x hx=>hs x (Po _ hx)
  rw[PC,TZ,Uv,km,Qp];lia
def Dy {L:List (List Int)} (hs:∀b∈L,∀x∈b,sml x=Wz) (hb:∀b∈L,b.length<=12) (hl:L.length<=300):∃s,(∀(h:Hh) (n:Nat),aq h n=Wx (L.map tpI)->dv [.ref n] h=.ok (.str s) h)/\∀h:Hh,dv [.frl (L.map tpI)] h=.ok (.str s) h:=by
 have bk:Uv (.list (L.map fun b=>Sv (b.map RR)))<=8000:=by rw[Uv];have:=yz hb;lia
 refine⟨VZ (.list (L.map fun b=>Sv (b.map RR))),fun h n e=>?_,fun h'=>?_⟩
 ·have e1:toPy 12 h (.ref n)=Wx (.list (L.map fun b=>Sv (b.map RR))):=by
   show(match aq h n with | some ds=>(cZ (toPy (9+2) h) ds).map VG | none=>Wy)=_
   rw[e]
   show(cZ (toPy (9+2) h) (L.map tpI)).map VG=_
   rw[mZ hs];rfl
  show jW (.ref n) h=_
  delta jW;simp_all
 ·have e2:toPy 12 h' (.frl (L.map tpI))=Wx (.list (L.map fun b=>Sv (b.map RR))):=by
   show(cZ (toPy (9+2) h') (L.map tpI)).map VG=_
   rw[mZ hs];rfl
  show jW (.frl (L.map tpI)) h'=_
  delta jW;simp_all
def HN {V:Int} (sV:sml V=Wz):∃s,∀h:Hh,dv [TGr V] h=.ok (.str s) h:=by
 refine⟨VZ (.tuple [.str "great", .int V,.int 300]),fun h=>?_⟩
 have e1:toPy 11 h (.str "great")=Wx (.str "great"):=by rfl
 have e2:toPy 11 h (.int V)=Wx (.int V):=by show(if sml V=Wz then Wx (RR V) else Wy)=_;simp_all
 have e3:toPy 11 h (.int 300)=Wx (.int 300):=by kernel_rfl
 have e4:toPy 12 h (TGr V)=Wx (.tuple [.str "great", .int V,.int 300]):=by
  show(cZ (toPy 11 h) [.str "great", .int V,.int 300]).map Sv=_
  simp only[cZ,e1,e2,e3];rfl
 show jW (TGr V) h=_
 delta jW;rw[e4]
 rfl
end FC
namespace FC
open PySem L2 L2.FE L2.Srt
def vS (r):kT r []=0:=by cases r<;>rfl
def jS (x:Int) (r:Nat):∀xs:List Int,kT (xs.length+1+r) (xs++[x])=kT (xs.length+1+r) xs+(x+1)*100 ^ r
 | []=>by
  rw[show([]:List Int).length+1+r=r+1 by grind,vS]
  show(x+1)*100 ^ r+kT r []=_
  rw[vS,Int.add_zero,Int.zero_add]
 | y::ys=>by
  have e:=jS x r ys
  rw[show(y::ys).length+1+r=(ys.length+1+r)+1 by grind]
  show(y+1)*100 ^ (ys.length+1+r)+kT (ys.length+1+r) (ys++[x])=(y+1)*100 ^ (ys.length+1+r)+kT (ys.length+1+r) ys+_
  lia
def vR (r):∀xs:List Int,∃q,kT (xs.length+r) xs=100 ^ r*q
 | []=>⟨0,by rw[vS,Int.mul_zero]⟩
 | y::ys=>by
  obtain⟨q,e⟩:=vR r ys
  rw[show(y::ys).length+r=(ys.length+r)+1 by grind]
  refine⟨(y+1)*100 ^ ys.length+q,?_⟩
  show(y+1)*100 ^ (ys.length+r)+kT (ys.length+r) ys=_
  grind
def Hl (hx:xs.length=m) (hy:ys.length=m) (lt:kT (m+r) xs<kT (m+r) ys):kT (m+r) xs+100 ^ r<=kT (m+r) ys:=by
 obtain⟨a,ea⟩:=vR r xs
 obtain⟨b,eb⟩:=vR r ys
 rw[hx] at ea
 rw[hy] at eb
 have P:(0:Int)<100 ^ r:=U5 (by decide)
 rw[ea,eb] at lt ⊢
 have ab:a<b:=Int.lt_of_mul_lt_mul_left lt {}
 have:=Int.mul_le_mul_of_nonneg_left (show a+1<=b by lia) (V0 P)
 grind
def vP (hn:n<=12):∀m,m<=n->(fll n B m).Pairwise (fun a b=>kT 20 a<kT 20 b)
 | 0,_=>QT _ _
 | m+1,hm=>by
  show((fll n B m).flatMap fun xs=>(nxB n B xs).map fun x=>xs++[x]).Pairwise _
  obtain⟨r,er⟩:∃r,20=m+1+r:=⟨19 - m,{}⟩
  have P:(0:Int)<100 ^ r:=U5 (by decide)
  rw[List.pairwise_flatMap]
  constructor
  ·intro xs hx
   have lx:=(di m xs hx).1
   rw[RC]
   refine(JI (n:=n) (B:=B) (xs:=xs)).imp fun{x y} lt=>?_
   have a:=jS x r xs
   have b:=jS y r xs
   simp_all
  ·refine(vP hn m {}).imp_of_mem fun{xs ys} hx hy lt u hu v hv=>?_
   obtain⟨x,hx2,rfl⟩:=Qi.mp hu
   obtain⟨y,hy2,rfl⟩:=Qi.mp hv
   have lx:=(di m xs hx).1
   have ly:=(di m ys hy).1
   have bx:=(di m xs hx).2.snoc (l9 hx2)
   have by':=(di m ys hy).2.snoc (l9 hy2)
   have x1:x<n:=bx.hi x {..}
   have y0:0<=y:=by'.lo y {..}
   have a:=jS x r xs
   have b:=jS y r ys
   rw[lx,<- er] at a
   rw[ly,<- er] at b
   have f:=Hl (r:=r+1) lx ly (by grind)
   rw[show m+(r+1)=20 by lia,Int.pow_succ] at f
   rw[a,b]
   have u1:=QU (show x+1<=99 by lia) (V0 P)
   have u2:=Int.mul_nonneg (show 0<=y+1 by lia) (V0 P)
   lia
def F6 (h1:1<=n) (hn:n<=12) (hl:(fll n B n).length<=306):okV (fll n B n)=true:=by
 unfold okV
 simp only[PV,decide_eq_true_eq,PX]
 refine⟨⟨hl,fun xs hx=>?_⟩,RC.mpr ((vP hn n (Pt _)).imp fun lt e=>by lia)⟩
 obtain⟨l,b⟩:=di n xs hx
 refine⟨⟨?_,{}⟩,fun x hx=>⟨b.lo x hx,by have:=b.hi x hx;lia⟩⟩
 grind
def Aa (hn:n<=12):iF (fll n B n)=fll n B n:=(iZ (i3 _).symm (vP hn n (Pt _)) (gf _)).symm
end FC
namespace FC
open PySem L2 L2.FE
@[inline]abbrev CT:=List (List Int × Int)
abbrev eO:CT->List Int->Option Int
 | [],_=>Wy
 | p::r,k=>if p.1=k then Wx p.2 else eO r k
abbrev rg (C:CT) (k:List Int) (v:Int):CT:=if (C.any fun kv=>decide (kv.1=k))=Wz then C.map (fun kv=>if kv.1=k then (kv.1,v) else kv) else C++[(k,v)]
abbrev eK (k:List Int):List Key:=k.map V3
abbrev encC (C:CT):List (List Key × D):=C.map fun p=>(eK p.1,.int p.2)
def qS:∀{a b:List Int},eK a=eK b->a=b
 | [],[],_=>rfl
 | [],_::_,h=>by simp[eK] at h
 | _::_,[],h=>by simp[eK] at h
 | a::r,b::t,h=>by
  unfold eK at h
  rw[PC,PC] at h
  obtain⟨h1,h2⟩:=List.cons.inj h
  cases h1
  rw[qS h2]
def Hi (a b):decide (eK a=eK b)=decide (a=b):=by
 by_cases c:a=b
 ·grind
 ·have:¬ eK a=eK b:=fun z=>c (qS z)
  simp_all
def ja (k:List Int):∀C:CT,rm (encC C) (eK k)=(eO C k).map D.int
 | []=>rfl
 | p::r=>by
  show(if eK p.1=eK k then Wx (D.int p.2) else rm (encC r) (eK k))=(if p.1=k then Wx p.2 else eO r k).map D.int
  by_cases c:p.1=k
  ·simp_all
  ·rw[if_neg c,if_neg (fun z=>c (qS z)),ja k r]
def BK (C) (k) (v):Dw (encC C) (eK k) (.int v)=encC (rg C k v):=by
 have a:((encC C).any fun kv=>decide (kv.1=eK k))=C.any fun kv=>decide (kv.1=k):=by
  unfold encC
  rw[List.any_map]
  congr 1
  funext p
  exact Hi p.1 k
 unfold Dw rg
 rw[a]
 by_cases c:(C.any fun kv=>decide (kv.1=k))=Wz
 ·rw[if_pos c,if_pos c]
  unfold encC
  rw[QV,QV]
  refine Q4 fun p _=>?_
  show(if eK p.1=eK k then (eK p.1,D.int v) else (eK p.1,.int p.2))=((eK (if p.1=k then (p.1,v) else p).1),D.int (if p.1=k then (p.1,v) else p).2)
  by_cases z:p.1=k
  ·simp_all
  ·rw[if_neg z,if_neg (fun q=>z (qS q))]
 ·rw[if_neg c,if_neg c]
  unfold encC
  simp
def pO:∀o:List Int,n4 (o.map D.int)=Wx (eK o)
 | []=>rfl
 | a::r=>by
  have:=pO r
  rw[PC]
  unfold n4
  rw[this];rfl
def mI (o):lR (.tup (o.map D.int))=Wx (eK o):=pO o
def Dz (o):tupK (eK o)=.tup (o.map D.int):=by
 unfold tupK eK
 rw[QV];rfl
def tj {k q:List Int}{v:Int}:∀C:CT,eO (C.map fun kv=>if kv.1=k then (kv.1,v) else kv) q=if q=k then (if (C.any fun kv=>decide (kv.1=k))=Wz then Wx v else Wy) else eO C q
 | []=>by simp[eO]
 | p::C=>by
  have ih:=tj (k:=k) (q:=q) (v:=v) C
  rw[PC,Rc]
  by_cases c:p.1=k
  ·rw[if_pos c]
   show(if p.1=q then Wx v else eO (C.map _) q)=_
   by_cases z:q=k
   ·simp_all
   ·rw[if_neg (fun e=>z (by simp_all)),ih,if_neg z,if_neg z]
    show _=if p.1=q then Wx p.2 else eO C q
    grind
  ·rw[if_neg c]
   show(if p.1=q then Wx p.2 else eO (C.map _) q)=_
   by_cases z:q=k
   ·grind
   ·rw[ih,if_neg z,if_neg z];rfl
def sW:∀C:CT,eO (C++[(k,v)]) q=match eO C q with | some w=>Wx w | none=>if k=q then Wx v else Wy
 | []=>rfl
 | p::C=>by
  show(if p.1=q then Wx p.2 else eO (C++[(k,v)]) q)=match (if p.1=q then Wx p.2 else eO C q) with | some w=>Wx w | none=>if k=q then Wx v else Wy
  by_cases c:p.1=q
  ·simp_all
  ·rw[if_neg c,if_neg c,sW C]
def kx {k:List Int}:∀C:CT,(C.any fun kv=>decide (kv.1=k))=WA->eO C k=Wy
 | [],_=>rfl
 | p::C,h=>by
  rw[Rc,Bool.or_eq_false_iff] at h
  show(if p.1=k then _ else _)=_
  rw[if_neg (of_decide_eq_false h.1),kx C h.2]
def Du (C) (k q) (v):eO (rg C k v) q=if q=k then Wx v else eO C q:=by
 unfold rg
 cases c:(C.any fun kv=>decide (kv.1=k)) with
 | true=>rw[if_pos rfl,tj,c,if_pos rfl]
 | false=>
  rw[if_neg Qd,sW]
  by_cases z:q=k
  ·rw[z,kx C c,if_pos rfl]
  grind
abbrev gC (C:CT) (q:List Int):Int:=(eO C q).getD 0
abbrev zm (C:CT) (k:List Int) (m:Int):CT:=rg C k (gC C k+m)
def Fg (C) (k q) (m):gC (zm C k m) q=gC C q+if q=k then m else 0:=by
 unfold gC zm
 rw[Du]
 by_cases z:q=k
 ·rw[if_pos z,if_pos z,z];rfl
 simp_all
def AR (h:p∈rg C k v):p.1=k\/∃q∈C,q.1=p.1:=by
 unfold rg at h
 grind
def Jg (h:(C.map (·.1)).Nodup):((rg C k v).map (·.1)).Nodup:=by
 unfold rg
 grind
def wA {k:List Int}:∀(C:CT),(C.map (·.1)).Nodup->(C.map fun p=>if p.1=k then p.2 else 0).sum=gC C k
 | [],_=>rfl
 | p::C,h=>by
  rw[PC,Qs] at h
  have ih:=wA (k:=k) C h.2
  rw[PC,Uk,ih]
  unfold gC
  show _=(if p.1=k then Wx p.2 else eO C k).getD 0
  by_cases c:p.1=k
  ·have:eO C k=none:=kx C (by
    grind)
   simp_all
  simp_all
def xD {X:Type} [DecidableEq X]:∀(as bs:List X),as.Nodup->(∀a∈as,a∈bs)->as.length<=bs.length
 | [],bs,_,_=>QJ _
 | a::as,bs,nd,s=>by
  obtain⟨h1,h2⟩:=Qs.mp nd
  have hm:=s a Pw
  have ih:=xD as (bs.erase a) h2 fun x hx=>by
   grind
  grind
def qH:∀{C:CT},(C.map (·.1)).Nodup->∀p∈C,eO C p.1=Wx p.2
 | [],_,p,h=>by cases h
 | q::C,nd,p,h=>by
  rw[PC,Qs] at nd
  show(if q.1=p.1 then Wx q.2 else eO C p.1)=Wx p.2
  rcases PL.mp h with rfl | h
  ·simp
  ·rw[if_neg (fun e=>nd.1 (Qi.mpr ⟨p,h,e.symm⟩))]
   exact qH nd.2 p h
abbrev leI (p l:Int):Int:=if p<=l then 1 else 0
abbrev stP (q:List Int × Int) (L:CT) (p:Nat):CT:=zm L [(p:Int),gI q.1 1+leI p (gI q.1 0)] q.2
abbrev stQ (s:Nat) (L:CT) (q:List Int × Int):CT:=(Py (s+1)).foldl (stP q) L
abbrev EC:Nat->CT
 | 0=>[([0,0],1)]
 | j+1=>(EC j).foldl (stQ (j+1)) []
structure EOk (s) (C:CT):Prop where
 nd:(C.map (·.1)).Nodup
 ks:∀p∈C,∃r k:Nat,p.1=[(r:Int),(k:Int)]/\r<=s/\k<=s
def G2 (p l):0<=leI p l/\leI p l<=1:=by unfold leI;lia
def EOk.put {s:Nat}{L:CT}{q:List Int × Int}{p:Nat} (o:EOk (s+1) L) (hq:∃r k:Nat,q.1=[(r:Int),(k:Int)]/\r<=s/\k<=s) (hp:p<=s+1):EOk (s+1) (stP q L p):=by
 obtain⟨r,k,e,hr,hk⟩:=hq
 have l:=G2 p r
 refine⟨Jg o.nd,fun z hz=>?_⟩
 rcases AR hz with y | ⟨q',hq',y⟩
 ·rw[y,e]
  exact⟨p,(k+leI p r).toNat,by simp[gI];lia,hp,{}⟩
 ·rw[<- y];exact o.ks q' hq'
def EOk.fold {s:Nat}{q:List Int × Int} (hq:∃r k:Nat,q.1=[(r:Int),(k:Int)]/\r<=s/\k<=s):∀(l:List Nat) (L:CT),(∀p∈l,p<=s+1)->EOk (s+1) L->EOk (s+1) (l.foldl (stP q) L)
 | [],L,_,o=>o
 | p::l,L,h,o=>EOk.fold hq l _ (fun x hx=>h x (Po _ hx)) (o.put hq (h p Pw))
def CG (hq:∃r k:Nat,q.1=[(r:Int),(k:Int)]/\r<=s/\k<=s) (o:EOk (s+1) L):EOk (s+1) (stQ (s+1) L q):=
 EOk.fold hq _ L (fun p hp=>by grind) o
def yj {s:Nat}:∀(M L:CT),(∀q∈M,∃r k:Nat,q.1=[(r:Int),(k:Int)]/\r<=s/\k<=s)->EOk (s+1) L->EOk (s+1) (M.foldl (stQ (s+1)) L)
 | [],L,_,o=>o
 | q::M,L,h,o=>yj M _ (fun x hx=>h x (Po _ hx)) (CG (h q Pw) o)
def pW:∀s,EOk s (EC s)
 | 0=>⟨by simp[EC],fun p hp=>by simp[EC] at hp;simp_all⟩
 | s+1=>yj (EC s) [] (pW s).ks ⟨{..},fun p hp=>by cases hp⟩
def EOk.len (b:EOk s C):C.length<=(s+1)*(s+1):=by
 have:=xD (C.map (·.1)) ((Py ((s+1)*(s+1))).map fun i=>[((i / (s+1):Nat):Int),((i % (s+1):Nat):Int)]) b.nd (fun a ha=>by
  obtain⟨p,hp,rfl⟩:=Qi.mp ha
  obtain⟨r,k,e,hr,hk⟩:=b.ks p hp
  rw[e]
  refine Qi.mpr ⟨r*(s+1)+k,QX.mpr ?_,?_⟩
  ·have:r*(s+1)<=s*(s+1):=SK _ hr
   grind
  ·have e1:(r*(s+1)+k) / (s+1)=r:=by
    rw[VX,Nat.mul_add_div {},Nat.div_eq_of_lt {}];lia
   have e2:(r*(s+1)+k) % (s+1)=k:=by
    rw[VX,Nat.mul_add_mod,Nat.mod_eq_of_lt {}]
   grind)
 simp_all
def EOk.GR (b:EOk s C) (hs:s<=12):C.length<=169:=by
 have:=b.len
 have:(s+1)*(s+1)<=13*13:=Nat.mul_le_mul {} {}
 lia
def C9 {q:List Int × Int}{p:Nat}{f:Int}:∀(l:List Nat) (L:CT),l.Nodup->gC (l.foldl (stP q) L) [(p:Int),f]=gC L [(p:Int),f]+if p∈l/\f=gI q.1 1+leI p (gI q.1 0) then q.2 else 0
 | [],L,_=>{..}
 | x::l,L,nd=>by
  obtain⟨n1,n2⟩:=Qs.mp nd
  rw[R1,C9 l _ n2]
  unfold stP
  rw[Fg]
  grind
def Cg {s p:Nat}{f:Int} (hp:p<=s):∀(M L:CT),gC (M.foldl (stQ s) L) [(p:Int),f]=gC L [(p:Int),f]+(M.map fun q=>if f=gI q.1 1+leI p (gI q.1 0) then q.2 else 0).sum
 | [],L=>{..}
 | q::M,L=>by
  rw[R1,Cg hp M,PC,Uk]
  unfold stQ
  rw[C9 _ _ U_]
  grind
def ku {s:Nat} (F:Nat->Int):∀(M:CT),(∀q∈M,∃r k:Nat,q.1=[(r:Int),(k:Int)]/\r<=s/\k<=s)->(M.map fun q=>if gI q.1 1=F (gI q.1 0).toNat then q.2 else 0).sum=sg (fun l=>(M.map fun q=>if q.1=[(l:Int),F l] then q.2 else 0).sum) (s+1)
 | [],_=>by simp[rD]
 | q::M,h=>by
  obtain⟨r,k,e,hr,hk⟩:=h q Pw
  have ih:=ku F M fun x hx=>h x (Po _ hx)
  rw[PC,Uk,ih]
  have g0:gI q.1 0=r:=by rw[e];rfl
  have g1:gI q.1 1=k:=by rw[e];rfl
  rw[g0,g1]
  have key:∀n,sg (fun l=>((q::M).map fun q=>if q.1=[(l:Int),F l] then q.2 else 0).sum) n=(if r<n/\(k:Int)=F r then q.2 else 0)+sg (fun l=>(M.map fun q=>if q.1=[(l:Int),F l] then q.2 else 0).sum) n:=by
   intro n
   induction n with
   | zero=>rfl
   | succ n ihn=>
    rw[nE,nE,ihn,PC,Uk,e]
    grind
  grind
def wK (f):∀n,sg (fun i=>f (n - 1 - i)) n=sg f n
 | 0=>rfl
 | n+1=>by
  have a:=CJ (fun i=>f (n+1 - 1 - i)) 1 n
  rw[Nat.add_comm 1 n] at a
  rw[a,nE,FD,nE]
  have:sg (fun i=>f (n+1 - 1 - (1+i))) n=sg (fun i=>f (n - 1 - i)) n:=gO fun i hi=>by
   grind
  rw[this,wK f n]
  grind
def AS:∀(s p:Nat) (f:Int),p<=s->gC (EC s) [(p:Int),f]=Rn s ((s:Int) - p) f
 | 0,p,f,h=>by
  have:p=0:={}
  subst this
  show(if [(0:Int),0]=[((0:Nat):Int),f] then Wx (1:Int) else Wy).getD 0=if f=0 then 1 else 0
  grind
 | s+1,p,f,h=>by
  have b:=pW s
  show gC ((EC s).foldl (stQ (s+1)) []) [(p:Int),f]=_
  rw[Cg h]
  have e1:((EC s).map fun q=>if f=gI q.1 1+leI p (gI q.1 0) then q.2 else 0)=(EC s).map fun q=>if gI q.1 1=(fun l:Nat=>f - leI p l) (gI q.1 0).toNat then q.2 else 0:=Q4 fun q hq=>by
   obtain⟨r,k,e,_,_⟩:=b.ks q hq
   rw[e]
   have g0:gI [(r:Int),(k:Int)] 0=r:=rfl
   grind
  rw[e1,ku (fun l=>f - leI p l) (EC s) b.ks]
  have e2:sg (fun l=>((EC s).map fun q=>if q.1=[(l:Int),(fun l:Nat=>f - leI p l) l] then q.2 else 0).sum) (s+1)=sg (fun l=>(fun(r:Nat)=>Rn s r (f - lss r (((s+1:Nat):Int) - p))) (s+1 - 1 - l)) (s+1):=gO fun l hl=>by
   show((EC s).map fun q=>if q.1=[(l:Int),f - leI p l] then q.2 else 0).sum=Rn s ((s+1 - 1 - l:Nat):Int) (f - lss (s+1 - 1 - l) (((s+1:Nat):Int) - p))
   rw[wA _ b.nd,AS s l _ {},show((s+1 - 1 - l:Nat):Int)=(s:Int) - l by lia]
   congr 2
   unfold leI lss
   lia
  rw[e2,wK (fun(r:Nat)=>Rn s r (f - lss r (((s+1:Nat):Int) - p))) (s+1)]
  show 0+Rn (s+1) (((s+1:Nat):Int) - p) f=_
  lia
def G3:((EC s).map fun q=>if gI q.1 1=k then q.2 else 0).sum=Rn (s+1) 0 k:=by
 have b:=pW s
 have:=ku (fun _=>k) (EC s) b.ks
 rw[this]
 have e2:sg (fun l=>((EC s).map fun q=>if q.1=[(l:Int),k] then q.2 else 0).sum) (s+1)=sg (fun l=>(fun r:Nat=>Rn s r k) (s+1 - 1 - l)) (s+1):=gO fun l hl=>by
  show _=Rn s ((s+1 - 1 - l:Nat):Int) k
  rw[wA _ b.nd,AS s l _ {},show((s+1 - 1 - l:Nat):Int)=(s:Int) - l by lia]
 rw[e2,wK (fun r:Nat=>Rn s r k) (s+1)]
 show _=sg (fun r=>Rn s r (k - lss r 0)) (s+1)
 refine gO fun r _=>?_
 have:lss r 0=0:=if_neg {}
 simp_all
abbrev hpD (s:Nat) (L:CT):Hh:=((Py (s+1)).map fun j=>O.dit (encC (EC j)))++[.dit (encC L)]
def Gi:cF (hpD s L) s=Wx (encC (EC s)):=by
 unfold cF hpD
 grind
def AJ:cF (hpD s L) (s+1)=Wx (encC L):=by
 unfold cF hpD
 simp
def D5:(hpD s L).set (s+1) (.dit (encC M))=hpD s M:=by
 unfold hpD
 simp
abbrev HEC (s:Nat):Hh:=(Py (s+1)).map fun j=>O.dit (encC (EC j))
def Ih (s):hpD s (EC (s+1))=HEC (s+1):=by
 unfold hpD HEC
 rw[Ss (n:=s+1),Uu];rfl
abbrev CE8:ME:=(ah cu (aa (af 7) (aa (av (bS aI) (af 6) (ah z9 (aa (av dLe (af 7) (af 5)) ak))) ak)))
abbrev PLB:MS:=(aH (aW 8 CE8) (i4 qh (af 4) (af 8) (av (bS aI) (n9 (af 4) (af 8) (cC (.int 0))) (av gP (af 2) (ah cu (aa (af 5) (aa (af 6) ak)))))))
def GY {s l f p:Nat}{m:Int}{L:CT}{d0 d1 d3 y8:Option D} (hv:eO (EC s) [(l:Int),(f:Int)]=Wx m) (hL:L.length<=900000):∃z8,PLB [d0,d1,Wx (.ref s),d3,Wx (.ref (s+1)),Wx (.int l),Wx (.int f),Wx (.int p),y8] (hpD s L)=.ok (.nx [d0,d1,Wx (.ref s),d3,Wx (.ref (s+1)),Wx (.int l),Wx (.int f),Wx (.int p),z8]) (hpD s (stP ([(l:Int),(f:Int)],m) L p)):=by
 obtain⟨t,ht⟩:∃t:Int,(f:Int)+leI p l=t:=⟨_,rfl⟩
 refine⟨Wx (.tup [.int p,.int t]),?_⟩
 have es:stP ([(l:Int),(f:Int)],m) L p=zm L [(p:Int),t] m:=by
  unfold stP
  have g0:gI [(l:Int),(f:Int)] 0=l:=rfl
  have g1:gI [(l:Int),(f:Int)] 1=f:=rfl
  simp_all
 rw[es]
 have k8:CE8 [d0,d1,Wx (.ref s),d3,Wx (.ref (s+1)),Wx (.int l),Wx (.int f),Wx (.int p),y8] (hpD s L)=.ok (.tup [.int p,.int t]) (hpD s L):=by
  unfold leI at ht
  unfold CE8
  simp_all
 have ky:lR (.tup [.int (p:Int),.int t])=Wx (eK [(p:Int),t]):=mI [(p:Int),t]
 have kl:lR (.tup [.int (l:Int),.int (f:Int)])=Wx (eK [(l:Int),(f:Int)]):=mI [(l:Int),(f:Int)]
 have gt:n9 (af 4) (af 8) (cC (.int 0)) [d0,d1,Wx (.ref s),d3,Wx (.ref (s+1)),Wx (.int l),Wx (.int f),Wx (.int p),Wx (.tup [.int p,.int t])] (hpD s L)=.ok (.int (gC L [(p:Int),t])) (hpD s L):=by
  unfold n9
  show(match cF (hpD s L) (s+1) with | some _=>_ | none=>R.bad)=_
  rw[AJ]
  show qT (.ref (s+1)) (.tup [.int (p:Int),.int t]) (.int 0) (hpD s L)=_
  unfold qT
  rw[ky]
  dsimp only
  rw[AJ]
  dsimp only
  rw[ja]
  unfold gC
  simp
 have gl:gP (.ref s) (.tup [.int (l:Int),.int (f:Int)]) (hpD s L)=.ok (.int m) (hpD s L):=by
  unfold gP
  rw[kl]
  dsimp only
  rw[Gi]
  dsimp only
  rw[ja,hv]
  rfl
 have pu:qh (.ref (s+1)) (.tup [.int (p:Int),.int t]) (.int (gC L [(p:Int),t]+m)) (hpD s L)=.ok () (hpD s (zm L [(p:Int),t] m)):=by
  unfold qh
  rw[ky]
  dsimp only
  rw[AJ]
  dsimp only
  rw[if_pos (by unfold encC;grind),BK,D5]
  rfl
 generalize gC L [(p:Int),t]=G at *
 generalize hpD s (zm L [(p:Int),t] m)=H2 at *
 unfold PLB
 simp_all
def xU {s l f:Nat}{m:Int}{d0 d1 d3:Option D} (hs:s<12) (hl:l<=s) (hf:f<=s) (hv:eO (EC s) [(l:Int),(f:Int)]=Wx m):∀(ps:List Nat) (L:CT) (y7 y8:Option D),(∀p∈ps,p<=s+1)->EOk (s+1) L->∃z7 z8,cx (gN 7) PLB (ps.map fun(p:Nat)=>D.int p) [d0,d1,Wx (.ref s),d3,Wx (.ref (s+1)),Wx (.int l),Wx (.int f),y7,y8] (hpD s L)=.ok (.nx [d0,d1,Wx (.ref s),d3,Wx (.ref (s+1)),Wx (.int l),Wx (.int f),z7,z8]) (hpD s (ps.foldl (stP ([(l:Int),(f:Int)],m)) L))
 | [],L,y7,y8,_,_=>⟨y7,y8,rfl⟩
 | p::ps,L,y7,y8,h,o=>by
  have ll:=o.GR {}
  obtain⟨z8,e⟩:=GY (s:=s) (l:=l) (f:=f) (p:=p) (m:=m) (L:=L) (d0:=d0) (d1:=d1) (d3:=d3) (y8:=y8) hv {}
  obtain⟨u7,u8,q⟩:=xU (d0:=d0) (d1:=d1) (d3:=d3) hs hl hf hv ps _ (Wx (.int p)) z8 (fun x hx=>h x (Po _ hx)) (o.put (q:=([(l:Int),(f:Int)],m)) ⟨l,f,rfl,hl,hf⟩ (h p Pw))
  refine⟨u7,u8,?_⟩
  rw[PC,fJ]
  simp_all
abbrev KB:MS:=(cD (dX fq (aa (av (bS aI) (af 3) (cC (.int 1))) ak)) (gN 7) PLB)
def u_ {s:Nat}{d0 d1:Option D} (hs:s<12):∀(M L:CT) (y5 y6 y7 y8:Option D),(∀q∈M,q∈EC s)->EOk (s+1) L->∃z5 z6 z7 z8,cx (gT2 5 6) KB (M.map fun p=>D.tup (p.1.map D.int)) [d0,d1,Wx (.ref s),Wx (.int ((s:Int)+1)),Wx (.ref (s+1)),y5,y6,y7,y8] (hpD s L)=.ok (.nx [d0,d1,Wx (.ref s),Wx (.int ((s:Int)+1)),Wx (.ref (s+1)),z5,z6,z7,z8]) (hpD s (M.foldl (stQ (s+1)) L))
 | [],L,y5,y6,y7,y8,_,_=>⟨y5,y6,y7,y8,rfl⟩
 | p::M,L,y5,y6,y7,y8,hM,b=>by
  have bs:=pW s
  have hp:=hM p Pw
  obtain⟨l,f,e,hl,hf⟩:=bs.ks p hp
  have hv:=qH bs.nd p hp
  rw[e] at hv
  have pe:p=([(l:Int),(f:Int)],p.2):=by grind
  obtain⟨z7,z8,q⟩:=xU (d0:=d0) (d1:=d1) (d3:=Wx (.int ((s:Int)+1))) hs hl hf hv (Py (s+1+1)) L y7 y8 (fun x hx=>by grind) b
  rw[<- pe] at q
  have q:cx (gN 7) PLB ((Py (s+1+1)).map fun(p:Nat)=>D.int p) [d0,d1,Wx (.ref s),Wx (.int ((s:Int)+1)),Wx (.ref (s+1)),Wx (.int l),Wx (.int f),y7,y8] (hpD s L)=.ok (.nx [d0,d1,Wx (.ref s),Wx (.int ((s:Int)+1)),Wx (.ref (s+1)),Wx (.int l),Wx (.int f),z7,z8]) (hpD s (stQ (s+1) L p)):=q
  rw[<- dA] at q
  obtain⟨u5,u6,u7,u8,o⟩:=u_ (d0:=d0) (d1:=d1) hs M (stQ (s+1) L p) (Wx (.int l)) (Wx (.int f)) z7 z8 (fun x hx=>hM x (Po _ hx)) (CG ⟨l,f,e,hl,hf⟩ b)
  refine⟨u5,u6,u7,u8,?_⟩
  rw[PC,fJ,e]
  have g:gT2 5 6 (.tup (([(l:Int),(f:Int)]:List Int).map D.int)) [d0,d1,Wx (.ref s),Wx (.int ((s:Int)+1)),Wx (.ref (s+1)),y5,y6,y7,y8] (hpD s L)=.ok [d0,d1,Wx (.ref s),Wx (.int ((s:Int)+1)),Wx (.ref (s+1)),Wx (.int l),Wx (.int f),y7,y8] (hpD s L):=rfl
  have z1:((s:Int)+1+1).natAbs<=1000000:={}
  have z2:((s:Int)+1+1).toNat=s+1+1:={}
  have z3:s+1+1<=1000000:={}
  have kb:KB [d0,d1,Wx (.ref s),Wx (.int ((s:Int)+1)),Wx (.ref (s+1)),Wx (.int l),Wx (.int f),y7,y8] (hpD s L)=.ok (.nx [d0,d1,Wx (.ref s),Wx (.int ((s:Int)+1)),Wx (.ref (s+1)),Wx (.int l),Wx (.int f),z7,z8]) (hpD s (stQ (s+1) L p)):=by
   generalize hpD s (stQ (s+1) L p)=H2 at *
   generalize hpD s L=H1 at *
   simp[KB,z1,z2,z3,q]
  rw[g,cP,kb,cP]
  exact o
abbrev SZB:MS:=(aH (aW 4 x_) (aH (cD (bp (ah (gT aI) (aa (af 2) ak))) (gT2 5 6) KB) (aW 2 (af 4))))
def vq (e:cF H s=Wx (encC C)):gT aI [.ref s] H=.ok (.frl (C.map fun p=>D.tup (p.1.map D.int))) H:=by
 unfold gT
 dsimp only
 rw[e]
 dsimp only
 have:((encC C).map fun kv=>tupK kv.1)=C.map fun p=>D.tup (p.1.map D.int):=by
  unfold encC
  rw[QV]
  exact Q4 fun p _=>Dz p.1
 simp_all
def IB {s:Nat}{d0 d1 y4 y5 y6 y7 y8:Option D} (hs:s<12):∃z4 z5 z6 z7 z8,SZB [d0,d1,Wx (.ref s),Wx (.int ((s:Int)+1)),y4,y5,y6,y7,y8] (HEC s)=.ok (.nx [d0,d1,Wx (.ref (s+1)),Wx (.int ((s:Int)+1)),z4,z5,z6,z7,z8]) (HEC (s+1)):=by
 obtain⟨z5,z6,z7,z8,q⟩:=u_ (s:=s) (d0:=d0) (d1:=d1) hs (EC s) [] y5 y6 y7 y8 (fun p hp=>hp) ⟨{..},fun p hp=>by cases hp⟩
 have eq:(EC s).foldl (stQ (s+1)) []=EC (s+1):=rfl
 rw[eq,Ih] at q
 refine⟨Wx (.ref (s+1)),z5,z6,z7,z8,?_⟩
 have tn:∀env:En,x_ env (HEC s)=.ok (.ref (s+1)) (hpD s []):=fun env=>by
  have l:(HEC s).length=s+1:=by simp[HEC]
  show R.ok (D.ref (HEC s).length) (HEC s++[.dit []])=_
  rw[l];rfl
 have ks:=vq (Gi (s:=s) (L:=[]))
 have l1:((EC s).map fun p=>D.tup (p.1.map D.int)).length<=1000000:=by
  have:=(pW s).GR {}
  grind
 generalize HEC (s+1)=H2 at *
 generalize hpD s []=H1 at *
 generalize HEC s=H0 at *
 generalize ((EC s).map fun p=>D.tup (p.1.map D.int))=KS at *
 simp[SZB,tn,ks,l1,q]
def yu {n:Nat} (h1:1<=n) (hn:n<=12):cW [.int n,.int k] h=.ok (.int (Rn n 0 k)) h:=by
 obtain⟨s,lp,ei⟩:=rK (σ:=Nat × Option D × Option D × Option D × Option D × Option D × Option D) (tg:=gN 3) (body:=SZB) (fun(i:Nat)=>D.int (1+i)) (n - 1) (fun s=>[Wx (.int n),Wx (.int k),Wx (.ref s.1),s.2.1,s.2.2.1,s.2.2.2.1,s.2.2.2.2.1,s.2.2.2.2.2.1,s.2.2.2.2.2.2]) (fun s=>HEC s.1) (fun i s=>s.1=i) (fun i s hi hs=>by
  obtain⟨j,y3,y4,y5,y6,y7,y8⟩:=s
  dsimp only at hs
  subst hs
  obtain⟨z4,z5,z6,z7,z8,q⟩:=IB (s:=j) (d0:=Wx (.int n)) (d1:=Wx (.int k)) (y4:=y4) (y5:=y5) (y6:=y6) (y7:=y7) (y8:=y8) {}
  exact⟨(j+1,Wx (.int (1+j)),z4,z5,z6,z7,z8),rfl,by simp only[IH,cP,Ww];grind⟩) (n - 1) 0 (0,Wy,Wy,Wy,Wy,Wy,Wy) {} rfl
 obtain⟨j,y3,y4,y5,y6,y7,y8⟩:=s
 dsimp only at lp ei
 subst ei
 have dn:cF (HEC (n - 1)) (n - 1)=Wx (encC (EC (n - 1))):=by
  unfold cF HEC
  simp
 have ks:=vq dn
 have b:=pW (n - 1)
 have l1:((EC (n - 1)).map fun p=>D.tup (p.1.map D.int)).length<=1000000:=by
  have:=b.GR {}
  grind
 have qc:cN (aJ asB (av dEq (av dIx (af 0) (cC (.int 1))) (af 2))) (av gP (af 1) (af 0)) (fun x=>[Wx x,Wx (.ref (n - 1)),Wx (.int k)]) ((EC (n - 1)).map fun p=>D.tup (p.1.map D.int)) (HEC (n - 1))=.ok (((EC (n - 1)).filter fun q=>decide (gI q.1 1=k)).map fun q=>D.int q.2) (HEC (n - 1)):=
  comp_map (fun p:List Int × Int=>D.tup (p.1.map D.int)) (fun q=>decide (gI q.1 1=k)) (fun q=>D.int q.2) (EC (n - 1)) fun p hp=>by
   obtain⟨l,f,e,hl,hf⟩:=b.ks p hp
   have hv:=qH b.nd p hp
   have gl:gP (.ref (n - 1)) (.tup (p.1.map D.int)) (HEC (n - 1))=.ok (.int p.2) (HEC (n - 1)):=by
    unfold gP
    rw[mI]
    dsimp only
    rw[dn]
    dsimp only
    rw[ja,hv]
    rfl
   have i1:ixK (p.1.map D.int) 1 (HEC (n - 1))=.ok (.int (gI p.1 1)) (HEC (n - 1)):=jE (j:=1) rfl (by grind)
   generalize p.1.map D.int=PK at *
   generalize HEC (n - 1)=H at *
   exact⟨by simp[i1];rfl,fun _=>by simp[gl]⟩
 have sm:(((EC (n - 1)).filter fun q=>decide (gI q.1 1=k)).map fun q=>q.2).sum=Rn n 0 k:=by
  have e:=G3 (s:=n - 1) (k:=k)
  rw[show n - 1+1=n by lia] at e
  rw[<- e]
  generalize EC (n - 1)=M
  induction M with
  | nil=>rfl
  | cons q M ih=>
   grind
 have em:(((EC (n - 1)).filter fun q=>decide (gI q.1 1=k)).map fun q=>D.int q.2)=(((EC (n - 1)).filter fun q=>decide (gI q.1 1=k)).map fun q=>q.2).map D.int:={..}
 rw[em] at qc
 have ex:bg [] (.int (Rn n 0 k)) (HEC (n - 1))=.ok (.int (Rn n 0 k)) []:=by
  rfl
 have dsp:∀env:En,qZ (ah cu (aa (cC (.int 0)) (aa (cC (.int 0)) ak))) (cC (.int 1)) env []=.ok (.ref 0) (HEC 0):=fun env=>rfl
 have lp:cx (gN 3) SZB (bD 1 (n - 1)) [Wx (.int n),Wx (.int k),Wx (.ref 0),Wy,Wy,Wy,Wy,Wy,Wy] (HEC 0)=.ok (.nx [Wx (.int n),Wx (.int k),Wx (.ref (n - 1)),y3,y4,y5,y6,y7,y8]) (HEC (n - 1)):=by
  rw[<- lp,<- RW];rfl
 have z0:((n:Int) - 1).toNat=n - 1:={}
 have z1:(n:Int).natAbs<=1000000:={}
 have z2:n - 1<=1000000:={}
 have z3:n<=1000000:={}
 have e2:cW=oN (fun ds h=>((bG 9 (aH (aW 2 (qZ (ah cu (aa (cC (.int 0)) (aa (cC (.int 0)) ak))) (cC (.int 1)))) (aH (cD (dX qz (aa (cC (.int 1)) (aa (af 0) ak))) (gN 3) SZB) (a9 (ah As (aa (c7 aI (bp (ah (gT aI) (aa (af 2) ak))) [2,1] (aJ asB (av dEq (av dIx (af 0) (cC (.int 1))) (af 2))) (av gP (af 1) (af 0))) ak)))))) ds h).bind (bg h)):=rfl
 rw[e2]
 have lo:a8 0 [.int (n:Int),.int k]=true:=rfl
 generalize HEC 0=H0 at *
 generalize HEC (n - 1)=H1 at *
 generalize Rn n 0 k=V at *
 generalize ((EC (n - 1)).map fun p=>D.tup (p.1.map D.int))=KS at *
 generalize (((EC (n - 1)).filter fun q=>decide (gI q.1 1=k)).map fun q=>q.2)=W at *
 simp[oN,lo,bo,dsp,z0,z1,z2,z3,lp,ks,l1,qc,sm,ex,gU]
def CN {n:Nat}{k:Int}:bcV n k []=Rn n 0 k:=by
 show Rn (n - 0) (lwI []) (k - ((bj []).length:Int))=_
 have e:(bj []).length=0:=rfl
 rw[e,Nat.sub_zero]
 simp[lwI]
def KQ {V:Int}:dEq (TGr V) (.tup [.str "great", .int V,.int 300]) h=.ok (.bl Wz) h:=by
 have i:∀x:Int,eqD 11 h (.int x) (.int x)=Wx true:=fun x=>by show Wx (x == x)=_;simp
 have g:eqD 11 h (.str "great") (.str "great")=Wx true:=by rfl
 have:eqD eqN h (TGr V) (TGr V)=Wx true:=by
  show eqL (eqD 11 h) [.str "great", .int V,.int 300] [.str "great", .int V,.int 300]=Wx Wz
  simp only[eqL,i,g];rfl
 simp only[dEq,this]
def Bb {n:Nat}{k:Int}{h:Hh} (w:Wf h) (h1:1<=n) (hn:n<=12) (k0:0<=k) (k1:k<=12) (c:300<bcV n k []):aM [.int n,.int k] h=.ok (.bl Wz) h:=by
 have lm:=yu (k:=k) (h:=h) h1 hn
 have rt:=tV w h1 hn k0 k1 c
 rw[CN] at rt c
 generalize Rn n 0 k=V at *
 have ex:bg h (.bl Wz) h=.ok (.bl Wz) h:=by have:=fU (h:=h) (t:=[]) (d:=.bl Wz) w rfl;simp_all
 have te:=KQ (V:=V) (h:=h)
 simp[aM,bo,lm,rt,c,te,ex]
def yk (k:Nat) (h:Hh):∀L:List (List Int),eqL (eqD (k+2) h) (L.map tpI) (L.map tpI)=Wx Wz
 | []=>rfl
 | x::L=>by
  have e1:eqD (k+2) h (tpI x) (tpI x)=Wx true:=by
   show eqL (eqD (k+1) h) (x.map D.int) (x.map D.int)=Wx Wz
   rw[pQ];simp
  simp only[PC,eqL,e1,yk k h L];rfl
def Nw {L:List (List Int)}{h:Hh}{r:Nat} (e:aq h r=Wx (L.map tpI)):dNe (.ref r) (.frl (L.map tpI)) h=.ok (.bl WA) h:=by
 have:eqD eqN h (.ref r) (.frl (L.map tpI))=Wx true:=by
  have v:vw (.ref r) h=vw (.frl (L.map tpI)) h:=by simp[vw,e]
  have q:eqD eqN h (.frl (L.map tpI)) (.frl (L.map tpI))=Wx true:=by
   show(if (L.map tpI).length=(L.map tpI).length then eqL (eqD (9+2) h) (L.map tpI) (L.map tpI) else Wx WA)=Wx Wz
   rw[if_pos rfl,yk]
  have w:eqD eqN h (.ref r) (.frl (L.map tpI))=eqD eqN h (.frl (L.map tpI)) (.frl (L.map tpI)):=by
   show eqD 12 h _ _=eqD 12 h _ _
   unfold eqD
   rw[v]
   rfl
  rw[w,q]
 simp only[dNe,this];rfl
def DV {L:List (List Int)}{h:Hh}{r:Nat} (e:aq h r=Wx (L.map tpI)) (ok:okV L=Wz):kh aI [.ref r] h=.ok (.frl ((iF L).map tpI)) h:=by
 unfold kh
 have e2:fY (L.map tpI)=Wx L:=mP L
 simp only[gQ,e,e2]
 rw[if_pos ok];rfl
abbrev GB:MS:=(eX (rZ (aJ asB (av dNe (ah dv (aa (ah (lG aI) (aa (af 4) ak)) ak)) (ah dv (aa (ah (iQ aI) (aa (af 0) ak)) ak)))) (aJ asB (av dNe (ah cU (aa (ah bh (aa (af 4) ak)) ak)) (af 1)))) (a9 (cC (.bl WA))) cG)
def Ls:aM=fun ds h=>((bG 6 (aH (aW 2 (ah cW (aa (af 0) (aa (af 1) ak))))
  (aH (aW 3 (ah br (aa (af 0) (aa (af 1) ak))))
  (aH (eX (aJ asB (av dGt (af 2) (cC (.int 300)))) (a9 (av dEq (af 3) (ah cu (aa (cC (.str "great")) (aa (af 2) (aa (cC (.int 300)) ak)))))) cG)
  (aH (eX (rZ (iK (aJ iz (cUn (fA "list") (af 3)))) (rZ (aJ asB (av dNe (ah cU (aa (af 3) ak)) (af 2))) (aJ asB (av dNe (af 3) (ah (kh aI) (aa (af 3) ak)))))) (a9 (cC (.bl WA))) cG)
  (aH (cD (bp (af 3)) (gN 4) GB)
  (aH (aW 5 (ah dv (aa (af 3) ak)))
  (aH (eg (dW df (af 3) (aa (ah cu ak) ak)))
  (a9 (av dEq (ah dv (aa (ah cY (aa (af 0) (aa (af 1) ak))) ak)) (af 5))))))))))) ds h).bind (bg h):=rfl
def wj {L:List Int} (so:L.Pairwise (· < ·)){i:Nat}:∀j,i+j<L.length->gI L i+j<=gI L (i+j)
 | 0,_=>{..}
 | j+1,h=>by
  have ih:=wj so (i:=i) j {}
  have:=PZ.mp so (i+j) (i+j+1) {} {} {}
  rw[<- c_ {},<- c_ {}] at this
  grind
def CO {os:List Int} (o:Ord n os):sortI os=dQ 0 n:=by
 have p:=sortI_perm os
 have nd:(sortI os).Nodup:=p.nodup_iff.mpr o.nd
 have so:(sortI os).Pairwise (· < ·):=by
  have a:=fZ os
  rw[PZ] at a ⊢
  intro i j hi hj h
  have:=a i j hi hj h
  have:=PZ.mp nd i j hi hj h
  lia
 have l:(sortI os).length=n:=by rw[p.length_eq,o.len]
 refine Gj (by rw[l,mS]) fun i hi=>?_
 have a:=wj so (i:=0) i {}
 have b:=wj so (i:=i) (n - 1 - i) {}
 rw[show i+(n - 1 - i)=n - 1 by lia] at b
 have m0:=A9 (ns:=sortI os) (j:=0) {}
 have m1:=A9 (ns:=sortI os) (j:=n - 1) {}
 have:=o.lo _ (p.mem_iff.mp m0)
 have:=o.hi _ (p.mem_iff.mp m1)
 rw[Rx] at a
 have:gI (dQ 0 n) i=i:=by rw[c_ (by rw[mS];lia)];simp[dQ]
 lia
def pR {xs:List Int}{h:Hh} (hl:xs.length<=1000):bh [.tup (xs.map D.int)] h=.ok (.frl ((bj xs).map D.int)) h:=by
 by_cases c:xs.length=0
 ·have:xs=[]:=QF c
  subst this
  rfl
 ·have z1:((xs.length:Int) - 1).natAbs<=1000000:={}
  have z2:((xs.length:Int) - 1).toNat=xs.length - 1:={}
  have z3:xs.length - 1<=1000000:={}
  have q:=pM (xs:=xs) (h:=h) (d:=.tup (xs.map D.int)) (fun i=>Gm)
  simp[bh,bo,z1,z2,z3,q]
def Dj {xs:List Int} (hs:∀x∈xs,sml x=Wz) (hl:xs.length<=1000):∃s,∀h:Hh,dv [.frl (xs.map D.int)] h=.ok (.str s) h:=by
 refine⟨VZ (.list (xs.map RR)),fun h=>?_⟩
 have e:toPy 12 h (.frl (xs.map D.int))=Wx (.list (xs.map RR)):=by
  show(cZ (toPy (10+1) h) (xs.map D.int)).map VG=_
  rw[iS hs];rfl
 have bk:Uv (.list (xs.map RR))<=8000:=by rw[Uv,km];lia
 show jW (.frl (xs.map D.int)) h=_
 delta jW;simp_all
def Ln {n:Nat}{k:Int}{xs:List Int}{d2 d3 d5:Option D}{h:Hh} (h1:1<=n) (hn:n<=12) (o:Ord n xs) (f:((bj xs).length:Int)=k):GB [Wx (.int n),Wx (.int k),d2,d3,Wx (.tup (xs.map D.int)),d5] h=.ok (.nx [Wx (.int n),Wx (.int k),d2,d3,Wx (.tup (xs.map D.int)),d5]) h:=by
 have xl:=o.len
 have fa:=pR (xs:=xs) (h:=h) {}
 have so:lG aI [.tup (xs.map D.int)] h=.ok (.frl ((dQ 0 n).map D.int)) h:=by
  have:lG aI [.tup (xs.map D.int)] h=if xs.length<64 then aI ((sortI xs).map D.int) h else .bad:=by
   simp
  rw[this,if_pos {},CO o];rfl
 have z2:(n:Int).natAbs<=1000000:={}
 have z3:n<=1000000:={}
 obtain⟨s,rp⟩:=Dj (xs:=dQ 0 n) (fun x hx=>by
  rw[dQ,Qi] at hx
  obtain⟨j,hj,rfl⟩:=hx
  have:=QX.mp hj
  exact eD {} {}) (by simp[dQ];lia)
 have rp':=rp h
 have er:(dQ 0 n).map D.int=bD 0 n:=by simp[dQ,bD]
 rw[er] at so rp'
 have l5:((((bj xs).map D.int).length:Nat):Int)=k:=by simp_all
 generalize (bj xs).map D.int=FA at *
 generalize xs.map D.int=X at *
 simp[GB,so,z2,z3,rp',fa,l5]
def Kl {L:List (List Int)} (h1:1<=n) (hn:n<=12) (er:aq H r=Wx (L.map tpI)) (ho:∀xs∈L,Ord n xs/\((bj xs).length:Int)=k):∃z,(cD (bp (af 3)) (gN 4) GB) [Wx (.int n),Wx (.int k),d2,Wx (.ref r),y,Wy] H=.ok (.nx [Wx (.int n),Wx (.int k),d2,Wx (.ref r),z,Wy]) H:=by
 have s:bp (af 3) [Wx (.int n),Wx (.int k),d2,Wx (.ref r),y,Wy] H=.ok (.live r) H:=by
  show(af 3 [Wx (.int n),Wx (.int k),d2,Wx (.ref r),y,Wy] H).bind pA=_
  have:af 3 [Wx (.int n),Wx (.int k),d2,Wx (.ref r),y,Wy] H=.ok (.ref r) H:={..}
  rw[this,cP,Ce er]
 have rd:∀i,(Src.live r).rdr H i=Wx ((L.map tpI)[i]?):=fun i=>by simp only[Src.rdr];grind
 have f:(Src.live r).fuel H=L.length:=by simp[Src.fuel,er]
 obtain⟨z,lp,_⟩:=F5 (σ:=Option D) (rd:=(Src.live r).rdr) (tg:=gN 4) (body:=GB) (fun i=>tpI (L.getD i [])) L.length (fun z=>[Wx (.int n),Wx (.int k),d2,Wx (.ref r),z,Wy]) (fun _=>H) (fun _ _=>True)
  (fun _ i hi=>by simp_all)
  (fun _=>by simp_all)
  (fun i z hi _=>by
   have e:L.getD i []=L[i]:=by simp_all
   obtain⟨o,fk⟩:=ho _ (SS hi)
   refine⟨Wx (tpI L[i]),trivial,?_⟩
   have g:=Ln (d2:=d2) (d3:=Wx (.ref r)) (d5:=Wy) (h:=H) h1 hn o fk
   rw[e]
   assumption) L.length 0 y {} trivial
 refine⟨z,?_⟩
 rw[JK,s,cP]
 show eV (Src.live r).rdr (gN 4) GB ((Src.live r).fuel H) 0 _ H=_
 simp_all
def mW {n:Nat}{k:Int} (h1:1<=n) (hn:n<=12) (c:bcV n k []<=300):((fll n (bcV n k) n).length:Int)=bcV n k []/\∀xs∈fll n (bcV n k) n,Ord n xs/\((bj xs).length:Int)=k:=by
 have F:∀xs,Beg n xs->xs.length=n->bcV n k xs=0\/bcV n k xs=1:=fun xs _ l=>by rw[mD l];lia
 by_cases h0:0<bcV n k []
 ·refine⟨yC (f7 n k) F h0,fun xs hx=>?_⟩
  obtain⟨l,b⟩:=di n xs hx
  have p:=rC h0 n xs hx
  rw[mD l] at p
  split at p
  ·rename_i e;exact⟨⟨l,b.nd,b.lo,b.hi⟩,e.symm⟩
  ·lia
 ·have z:bcV n k []=0:=by have:=Gu (n:=n) (k:=k) (xs:=[]);lia
  obtain⟨m,rfl⟩:∃m,n=m+1:=⟨n - 1,{}⟩
  have e:=q_ (f7 (m+1) k) h0 m {}
  simp_all
def Es (w:Wf h) (h1:1<=n) (hn:n<=12) (k0:0<=k) (k1:k<=12) (c:bcV n k []<=300) (w2:Wf (h++[.lst ((fll n (bcV n k) n).map tpI++[.tup []])])):aM [.int n,.int k] h=.ok (.bl Wz) h:=by
 obtain⟨len,ho⟩:=mW h1 hn c
 have len3:=jT (f7 n k) c n (Pt _)
 have lm:=yu (k:=k) (h:=h) h1 hn
 have rt:=yq w h1 hn k0 k1 c
 have so:=Aa (B:=bcV n k) hn
 have okv:=F6 (B:=bcV n k) h1 hn {}
 have er:aq (h++[.lst ((fll n (bcV n k) n).map tpI)]) h.length=Wx ((fll n (bcV n k) n).map tpI):=bR
 have sv:=DV er okv
 rw[so] at sv
 have ne:=Nw er
 obtain⟨z,lp⟩:=Kl (d2:=Wx (.int (bcV n k []))) (y:=Wy) h1 hn er ho
 obtain⟨s,r1,r2⟩:=Dy (L:=fll n (bcV n k) n) (fun b hb x hx=>by
  have o:=(ho b hb).1
  have a:=o.lo x hx
  have a2:=o.hi x hx
  exact eD {} {}) (fun b hb=>by have:=(ho b hb).1.len;lia) len3
 have rp:=r1 _ _ er
 have tl:=Jy w2 h1 hn k0 k1 c
 have rp2:=r2 (h++[.lst ((fll n (bcV n k) n).map tpI++[.tup []])])
 have ex:bg h (.bl Wz) (h++[.lst ((fll n (bcV n k) n).map tpI++[.tup []])])=.ok (.bl Wz) h:=fU w rfl
 have ll:(((fll n (bcV n k) n).map tpI).length:Int)=bcV n k []:=by simp_all
 have l6:((fll n (bcV n k) n).map tpI).length<=300:={}
 rw[<- CN] at lm
 have c':¬ 300<bcV n k []:={}
 have ii:fA "list" (.ref h.length) (h++[.lst ((fll n (bcV n k) n).map tpI)])=.ok (.bl Wz) (h++[.lst ((fll n (bcV n k) n).map tpI)]):=by
  generalize (fll n (bcV n k) n).map tpI=W at *
  have:(h++[O.lst W])[h.length]?=Wx (.lst W):={..}
  unfold fA tyD
  dsimp only
  rw[this]
  rfl
 have dl:=Js er
 have ap:=mX (d:=.tup []) er
 rw[if_pos {},ir] at ap
 rw[Ls]
 generalize bcV n k []=V at *
 generalize (fll n (bcV n k) n).map tpI=W at *
 have z6:W.length<1000000:={}
 have z7:W.length<=1000000:={}
 generalize (cD (bp (af 3)) (gN 4) GB)=CF at *
 simp[bo,lm,rt,c',ii,dl,ap,sv,ne,lp,rp,tl,rp2,ex,ll,er,z6,z7]
def LW (N):∀xs:List Int,a8 N (xs.map D.int)=Wz
 | []=>rfl
 | x::r=>by rw[PC];show(Wz&&a8 N (r.map D.int))=Wz;simp
def xj (N):∀L:List (List Int),a8 N (L.map tpI++[.tup []])=Wz
 | []=>rfl
 | x::r=>by
  show(a8 N (x.map D.int)&&a8 N (r.map tpI++[.tup []]))=Wz
  rw[LW,xj N r];rfl
def M4 {n:Nat} (w:Wf h) (h1:1<=n) (hn:n<=12) (k0:0<=k) (k1:k<=12):aM [.int n,.int k] h=.ok (.bl Wz) h:=by
 by_cases c:300<bcV n k []
 ·exact Bb w h1 hn k0 k1 c
 ·exact Es w h1 hn k0 k1 {} (w.app (xj _ _))
abbrev SB:MS:=(aH (aW 4 (ah br (aa (af 0) (aa (af 1) ak))))
  (aH (eX (aJ asB (av dNe (ah dv (aa (af 4) ak)) (ah dv (aa (cIf (aJ asB (av dLt (ah cU (aa (af 2) ak)) (cC (.int 301)))) (af 2) (ah cu (aa (cC (.str "great")) (aa (ah cU (aa (af 2) ak)) (aa (cC (.int 300)) ak))))) ak)))) (a9 (cC (.bl WA))) cG)
  (eX (aJ iz (cUn (fA "list") (af 4))) (eg (dW df (af 4) (aa (ah cu ak) ak))) cG)))
def Ld:bc=fun ds h=>((bG 5 (aH (aW 2 (c7 aI (bp (ah dE (aa (af 0) ak))) [1] (aJ asB (av dEq (ah cU (aa (ah bh (aa (af 0) ak)) ak)) (af 1))) (af 0)))
  (aH (cD (dX fq (aa (cC (.int 2)) ak)) (gN 3) SB) (a9 (cC (.bl Wz)))))) ds h).bind (bg h):=rfl
def yU (h1:1<=n) (hn:n<=12):((fll n (bcV n k) n).length:Int)=bcV n k []:=by
 by_cases c:bcV n k []<=300
 ·exact(mW h1 hn c).1
 ·exact yC (f7 n k) (fun xs _ l=>by rw[mD l];lia) {}
def Le {n:Nat}{k:Int}{H:Hh}{y3 y4:Option D} (w:Wf H) (h1:1<=n) (hn:n<=6) (k0:0<=k) (k1:k<=12) (sV:sml (bcV n k [])=Wz) (l8:((fll n (bcV n k) n).map tpI).length<=1000000):∃T z4,Wf (H++T)/\SB [Wx (.int n),Wx (.int k),Wx (.frl ((fll n (bcV n k) n).map tpI)),y3,y4] H=.ok (.nx [Wx (.int n),Wx (.int k),Wx (.frl ((fll n (bcV n k) n).map tpI)),y3,z4]) (H++T):=by
 have len:=yU (k:=k) h1 (by lia:n<=12)
 have ll:(((fll n (bcV n k) n).map tpI).length:Int)=bcV n k []:=by simp_all
 by_cases c:300<bcV n k []
 ·refine⟨[],Wx (TGr (bcV n k [])),by simp_all,?_⟩
  have rt:=tV w h1 {} k0 k1 c
  obtain⟨s,rp⟩:=HN sV
  have rp':=rp H
  have c':¬ bcV n k []<301:={}
  rw[QO]
  generalize bcV n k []=V at *
  generalize (fll n (bcV n k) n).map tpI=W at *
  have il:fA "list" (TGr V) H=.ok (.bl WA) H:=rfl
  simp[SB,rt,rp',ll,l8,c',il]
 ·obtain⟨_,ho⟩:=mW h1 {} (by lia:bcV n k []<=300)
  have len3:=jT (f7 n k) (by lia:bcV n k []<=300) n (Pt _)
  have rt:=yq w h1 {} k0 k1 (by lia:bcV n k []<=300)
  have er:aq (H++[.lst ((fll n (bcV n k) n).map tpI)]) H.length=Wx ((fll n (bcV n k) n).map tpI):=bR
  obtain⟨s,r1,r2⟩:=Dy (L:=fll n (bcV n k) n) (fun b hb x hx=>by
   have o:=(ho b hb).1
   have a:=o.lo x hx
   have a2:=o.hi x hx
   exact eD {} {}) (fun b hb=>by have:=(ho b hb).1.len;lia) len3
  have rp:=r1 _ _ er
  have rp2:=r2 (H++[.lst ((fll n (bcV n k) n).map tpI)])
  have w2:Wf (H++[.lst ((fll n (bcV n k) n).map tpI++[.tup []])]):=w.app (xj _ _)
  refine⟨[.lst ((fll n (bcV n k) n).map tpI++[.tup []])],Wx (.ref H.length),w2,?_⟩
  have ii:fA "list" (.ref H.length) (H++[.lst ((fll n (bcV n k) n).map tpI)])=.ok (.bl Wz) (H++[.lst ((fll n (bcV n k) n).map tpI)]):=by
   generalize (fll n (bcV n k) n).map tpI=W at *
   have:(H++[O.lst W])[H.length]?=Wx (.lst W):={..}
   unfold fA tyD
   dsimp only
   rw[this]
   rfl
  have ap:=mX (d:=.tup []) er
  have l6:((fll n (bcV n k) n).map tpI).length<=300:={}
  rw[if_pos {},ir] at ap
  have c':bcV n k []<301:={}
  generalize bcV n k []=V at *
  generalize (fll n (bcV n k) n).map tpI=W at *
  have z6:W.length<1000000:={}
  simp[SB,rt,rp,rp2,ll,l8,c',ii,ap,er,z6]
def Ei {n:Nat} (w:Wf h) (h1:1<=n) (hn:n<=6) (k0:0<=k) (k1:k<=12):bc [.int n,.int k] h=.ok (.bl Wz) h:=by
 have xa:=LN h1 (by lia:n<=7) h
 have ab:=(mw (f7 n k) n (Pt _)).1
 have la:((allI n n).map tpI).length<=1000000/\(allI n n).length<=46656:=by
  rw[PR]
  have:=sd n n
  have:=Nat.pow_le_pow_left hn n
  have:=Nat.pow_le_pow_right (show 0<6 by decide) hn
  lia
 have fe:(allI n n).filter (fun xs=>decide (((bj xs).length:Int)=k))=fll n (bcV n k) n:=by
  rw[<- Hj (f7 n k) h1]
  refine TU fun xs hx=>?_
  rw[mD (ab xs hx).1]
  grind
 have qa:cN (aJ asB (av dEq (ah cU (aa (ah bh (aa (af 0) ak)) ak)) (af 1))) (af 0) (fun x=>[Wx x,Wx (.int k)]) ((allI n n).map tpI) h=.ok ((fll n (bcV n k) n).map tpI) h:=by
  rw[<- fe]
  exact comp_map tpI (fun xs=>decide (((bj xs).length:Int)=k)) tpI (allI n n) fun xs hx=>⟨by
   have l:=(ab xs hx).1
   have fa:=pR (xs:=xs) (h:=h) {}
   have lf:(((bj xs).map D.int).length:Int)=((bj xs).length:Int):={..}
   simp only[tpI]
   generalize (bj xs).map D.int=F at *
   generalize ((bj xs).length:Int)=FL at *
   generalize xs.map D.int=X at *
   simp[fa,lf]
   rfl,fun _=>{..}⟩
 have lf:(fll n (bcV n k) n).length<=46656:=by
  grind
 have len:=yU (k:=k) h1 (by lia:n<=12)
 have sV:sml (bcV n k [])=true:=eD {} {}
 have l8:((fll n (bcV n k) n).map tpI).length<=1000000:=by grind
 obtain⟨s,lp,si⟩:=rK (σ:=Hh × Option D × Option D) (tg:=gN 3) (body:=SB) (fun(i:Nat)=>D.int i) 2 (fun s=>[Wx (.int n),Wx (.int k),Wx (.frl ((fll n (bcV n k) n).map tpI)),s.2.1,s.2.2]) (fun s=>h++s.1) (fun _ s=>Wf (h++s.1)) (fun i s _ hs=>by
  obtain⟨T,y3,y4⟩:=s
  dsimp only at hs ⊢
  obtain⟨T2,z4,w2,e⟩:=Le (y3:=Wx (.int i)) (y4:=y4) hs h1 hn k0 k1 sV l8
  simp_all) 2 0 ([],Wy,Wy) rfl (by simp_all)
 obtain⟨T,y3,y4⟩:=s
 dsimp only at lp si
 rw[<- RW,<- dA,QO] at lp
 have ex:bg h (.bl Wz) (h++T)=.ok (.bl Wz) h:=fU w rfl
 have la1:=la.1
 rw[Ld]
 generalize (fll n (bcV n k) n).map tpI=W at *
 generalize (allI n n).map tpI=W1 at *
 generalize SB=BD at *
 simp[bo,xa,qa,la1,l8,aI,lp,ex]
abbrev B0:MS:=(eX (iK (aJ iz (ah aM (aa (af 3) (aa (af 4) ak))))) (a9 (cC (.bl WA))) cG)
abbrev B1:MS:=(aH (aW 2 (ah b7 (aa (af 1) ak))) (aH (eX (iK (aJ iz (ah bc (aa (av (bS aI) (cC (.int 1)) (ah aF (aa (af 2) (aa (cC (.int 6)) ak)))) (aa (ah aF (aa (af 2) (aa (av dIx (ah (c4 aI) (aa (cC (.int 6)) (aa (cC (.int 13)) ak))) (ah aF (aa (af 2) (aa (cC (.int 2)) ak)))) ak))) ak))))) (a9 (cC (.bl WA))) cG) (aH (aW 3 (av (bS aI) (cC (.int 7)) (ah aF (aa (af 2) (aa (cC (.int 6)) ak))))) (cD (bp (ah cu (aa (cC (.int 0)) (aa (av kO (af 3) (cC (.int 1))) (aa (ah aF (aa (af 2) (aa (cC (.int 13)) ak))) (aa (av dIx (ah (c4 aI) (aa (cC (.int 1)) (aa (av kO (af 3) (cC (.int 2))) ak))) (ah aF (aa (af 2) (aa (cC (.int 2)) ak)))) ak)))))) (gN 4) B0))))
def BW:nO=fun ds h=>((bG 5 (aH (cD (bp (av (bS aI) (ah (c4 aI) (aa (ah bB (aa (af 0) (aa (cC (.int 0)) ak))) ak)) (rF aI (af 0) (qv (cC (.int 1))) (qv (cC (.int 4)))))) (gN 1) B1) (a9 (cC (.bl Wz))))) ds h).bind (bg h):=rfl
abbrev CD:Prop:=∀(ns:List Int) c y2 y3 y4 h , Wf h->Ok (B1 [Wx (.scr (ns.map D.int)),Wx (.int c),y2,y3,y4] h) fun fl h2=>∃z2 z3 z4,fl=.nx [Wx (.scr (ns.map D.int)),Wx (.int c),z2,z3,z4]/\Wf h2
def Hr (step:CD) (ns:List Int) (hl:ns.length<=63):∃h,nO [.scr (ns.map D.int)] []=.ok (.bl Wz) h:=by
 have key:Ok (cx (gN 1) B1 (((ns.headD 0)::tH ns (Wx 1) (Wx 4)).map D.int) [Wx (.scr (ns.map D.int)),Wy,Wy,Wy,Wy] []) fun fl h2=>(∃e,fl=.nx e)/\Wf h2:=by
  refine qJ D.int (fun e h=>(∃y1 y2 y3 y4,e=[Wx (.scr (ns.map D.int)),y1,y2,y3,y4])/\Wf h) _ _ _ ⟨⟨_,_,_,_,rfl⟩,Wf.nil⟩ (fun x e h _ ⟨⟨y1,y2,y3,y4,e1⟩,w⟩=>?_) (fun e h ⟨_,w⟩=>⟨⟨_,rfl⟩,w⟩)
  subst e1
  simp only[IH,cP,Ww]
  refine(step ns x y2 y3 y4 h w).mono fun fl h2 zq1=>?_
  obtain⟨z2,z3,z4,e2,w2⟩:=zq1
  simp_all
 obtain⟨fl,h2,e,⟨e',rfl⟩,w⟩:=key
 have cl:=EW ns (Wx 1) (Wx 4)
 have c1:1+(tH ns (Wx 1) (Wx 4)).length<=1000000:={}
 have ex:bg [] (.bl Wz) h2=.ok (.bl Wz) []:=by
  rfl
 refine⟨[],?_⟩
 have e2:cx (gN 1) B1 (D.int (ns.headD 0)::(tH ns (Wx 1) (Wx 4)).map D.int) [Wx (.scr (ns.map D.int)),Wy,Wy,Wy,Wy] []=.ok (.nx e') h2:=e
 rw[BW]
 simp[bo,zj,c1,e2,ex,-List.headD_eq_head?_getD]
def ke {h:Hh} (hm:0<m/\m<=10 ^ 20):∃(v:Nat) (p':Pen),(v:Int)<m/\aF [.ref h.length,.int m] (h++[.lst (lX p)])=.ok (.int v) (h++[.lst (lX p')]):=by
 obtain⟨v,ev,bv⟩:=JG p m hm.1
 have d:=Eu (p:=p) (h:=h) (t:=[]) (m:=m) hm
 grind
def ix2 {w:Nat}{a b:Int} (hw:w<2):∃v,(v=a\/v=b)/\∀H:Hh,ixK [.int a,.int b] (w:Int) H=.ok (.int v) H:=by
 match w,hw with
 | 0,_=>simp
 | 1,_=>simp
def Kq {n:Nat}{k:Int}{h:Hh}{d0 d1 d2:Option D} (w:Wf h) (h1:1<=n) (hn:n<=12) (k0:0<=k/\k<=12):B0 [d0,d1,d2,Wx (.int n),Wx (.int k)] h=.ok (.nx [d0,d1,d2,Wx (.int n),Wx (.int k)]) h:=by
 have g:=M4 w h1 hn k0.1 k0.2
 simp[B0,g]
def E4:CD:=by
 intro ns c y2 y3 y4 h w
 obtain⟨b,p1,hb,d6⟩:=ke (h:=h) (p:=Cz c) (m:=6) (by decide)
 obtain⟨n,hn⟩:∃n:Nat,1+(b:Int)=n:=⟨1+b,{}⟩
 obtain⟨u,p2,hu,du⟩:=ke (h:=h) (p:=p1) (m:=2) (by decide)
 obtain⟨q,hq,iq⟩:=ix2 (w:=u) (a:=6) (b:=13) {}
 obtain⟨k,p3,hk,dk⟩:=ke (h:=h) (p:=p2) (m:=q) {}
 have sm:=Ei (k:=(k:Int)) (AB w p3) (by lia:1<=n) {} {} {}
 obtain⟨b2,p4,hb2,d62⟩:=ke (h:=h) (p:=p3) (m:=6) (by decide)
 obtain⟨N,hN⟩:∃n:Nat,7+(b2:Int)=n:=⟨7+b2,{}⟩
 obtain⟨k3,p5,hk3,dk3⟩:=ke (h:=h) (p:=p4) (m:=13) (by decide)
 obtain⟨u2,p6,hu2,du2⟩:=ke (h:=h) (p:=p5) (m:=2) (by decide)
 obtain⟨k4,hk4,ik4⟩:=ix2 (w:=u2) (a:=1) (b:=(N:Int) - 2) {}
 have wf:=AB w p6
 have q1:=fun(k:Int) (k0:0<=k/\k<=12)=>Kq (n:=N) (k:=k) (d0:=Wx (.scr (ns.map D.int))) (d1:=Wx (.int c)) (d2:=Wx (.ref h.length)) wf {} {} k0
 have f4:cx (gN 4) B0 [.int 0,.int ((N:Int) - 1),.int (k3:Int),.int k4] [Wx (.scr (ns.map D.int)),Wx (.int c),Wx (.ref h.length),Wx (.int N),y4] (h++[.lst (lX p6)])=.ok (.nx [Wx (.scr (ns.map D.int)),Wx (.int c),Wx (.ref h.length),Wx (.int N),Wx (.int k4)]) (h++[.lst (lX p6)]):=by
  simp only[fJ,yB,IH,cP,Ww,q1 0 {},q1 ((N:Int) - 1) {},q1 k3 {},q1 k4 {},LR]
 refine⟨_,_,?_,Wx (.ref h.length),Wx (.int N),Wx (.int k4),rfl,wf⟩
 simp[B1,d6,hn,du,iq,dk,sm,d62,hN,dk3,du2,ik4,f4]
def Hz (ns:List Int) (hl:ns.length<=63):∃h,nO [.scr (ns.map D.int)] []=.ok (.bl Wz) h:=Hr E4 ns hl
end FC
open PySem PySem.W PyProof.Rows
local macro_rules | `(tactic| o_head $H)=>`(tactic| (refine holds_open (q:=FC.Q) (loose:=[]) (Xt:=(fun s=>xlAt FC.Q [] s&&recOk (RowW.records (OpenRow.toRowW (OpenLaw.row PySem.Challenge.rw_fallcounts_k21_orders_listed))) s)) (XP:=XL FC.Q []) (Yf:=Hook.obs $H) (Ya:=Hook.val $H) (YP:=Hook.says $H) (N:=5326) (L2.FE.zw (by decide) (by kernel_rfl) (fun _=>by kernel_rfl) FC.Lc FC.Km (fun w os=>by kernel_rfl)) (Hook.of $H) (Hook.keeps $H) (fun s e=>xl_of s (Bool.and_eq_true_iff.mp e).1) XL.keeps (by rfl) (by rfl) (by rfl) (fun s e=>recFacts_of (Bool.and_eq_true_iff.mp e).2) (by rfl) (by first | assumption | decide +kernel) (by decide +kernel) ⟨rfl,rfl,rfl,rfl,rfl,by decide +kernel⟩ ?hw ?hc))
set_option maxRecDepth 100000 in
set_option maxHeartbeats 0 in
theorem PySem.Challenge.cw_fallcounts_k21_orders_listed_holds : PySem.Challenge.rw_fallcounts_k21_orders_listed.Holds := by
 w_on;refine PySem.W.holds_law FC.hw fun hw=>?_;k_head;w_witness2
 k_fill
 refine FC.walk (l:=QW) rfl rfl (fun w h Y=>by first | exact PySem.W.kIn_of Y | exact PySem.W.km_in_of Y) (fun w h Y=>PySem.W.km_tabs_of Y) (fun _=>by kernel_rfl) FC.Hz ?F
 case F=>
  intro w mg fa h KX G hmg
  refine FC.all_mk KX G hmg (by kernel_rfl) ?T
  case T=>
   constructor
   all_goals first | (refine' L2.FE.Jn ?a ?l ?c ?k;(case a=>k_is);(case l=>k_is);(case c=>k_is);(case k=>k_is)) | (refine' L2.GS ?e0 ?e1 ?e2 ?e3 ?e4 ?e5 ?e6 ?e7 ?c;(case e0=>k_is);(case e1=>k_is);(case e2=>k_is);(case e3=>k_is);(case e4=>k_is);(case e5=>k_is);(case e6=>k_is);(case e7=>k_is);(case c=>kernel_rfl)) | (refine' L2.DR ?a ?b ?l ?c ?k ?o FC.sA FC.oW FC.sC FC.qA (by decide);(case a=>k_is);(case b=>k_is);(case l=>k_is);(case c=>k_is);(case k=>k_is);(case o=>kernel_rfl)) | (refine' L2.FE.Kd ?a ?l ?c ?k ?h1 ?h2 ?h3;(case a=>k_is);(case l=>k_is);(case c=>k_is);(case k=>k_is);(case h1=>kernel_rfl);(case h2=>kernel_rfl);(case h3=>kernel_rfl)) | exact⟨_,rfl⟩ | k_is
